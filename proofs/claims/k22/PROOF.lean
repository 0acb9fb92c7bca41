import PyProof.Rows.All
import HandS.ForMost
import HandS.ForExc
import HandS.SortKw
import HandS.SortRule
import HandS.DictTup
import HandS.DictComp
import HandS.ListItems
import HandS.Conv
import HandS.IsInst
import HandS.Codes
import HandS.Walk
import HandS.Style
import KE.KDictSum
import KE.KSortTupAny
import KE.KDictPairs
import HandS.ExcValue
import HandS.TupLe
import HandS.TupAny
import HandS.Wide
import HandS.SetFor
import PyProof.Rows.CountFlat
import KE.KRevSl
import HandS.List
import PyProof.EqKinds
import PyProof.EqAt
import HandS.ExcField
import HandS.ExcInit
import PyProof.NeData
import HandS.ExcIs
import HandS.StrMore
import HandS.TryMany
import HandS.TupMul
import HandS.Zip
import PyProof.ReprRoads
import PyProof.ReprText
import HandS.Ends
import HandS.Words
import KE.KExcStr
import PyProof.ExcRepr
import PyProof.ReprReads
import PyProof.ReprNest
import HandS.Text
import PyProof.ReprLen
import HandS.Gcd
import PySem.Challenge.RW_knownends_k22_whole_trees_ranked
import HandS.Call
import HandS.SortInts
import HandS.WordsExc
import HandS.Iter
import HandS.TupLen
import KE.KeyNested
import KE.SortData
import PyProof.Rows.SortWalk
import PyProof.WalkInts
import HandS.Comp
import KE.KEqDict
import HandS.Dict
import HandS.CallLocal
import KE.GoesMore
import HandS.Star
import KE.GoesEnum
import PyProof.EnumMake
import PyProof.DictUpdate
import PyProof.FactsAll.dict_3
import PyProof.FactsAll.dict_4
set_option Elab.async false
set_option linter.all false
set_option maxRecDepth 100000
set_option maxHeartbeats 0
/-! own rules: sorted of pairs (text, int), of views -/
namespace SrtZ
open PySem PyProof.Rows Srt SrtO PySem.W
abbrev ltZ (x y : Str) : Bool := decide (x.cps.toList < y.cps.toList)
theorem str_of {x y : Str} (h : x.cps.toList = y.cps.toList) : x = y := by
  cases x; cases y
  simp at h
  rw [h]
theorem ltZ_irr (x : Str) : ltZ x x = false := decide_eq_false (List.lt_irrefl _)
theorem ltZ_asym {x y : Str} (h : ltZ x y = true) : ltZ y x = false := decide_eq_false (List.lt_asymm (of_decide_eq_true h))
theorem ltZ_trans {x y z : Str} (h : ltZ x y = true) (k : ltZ y z = true) : ltZ x z = true := decide_eq_true (List.lt_trans (of_decide_eq_true h) (of_decide_eq_true k))
theorem ltZ_tri {x y : Str} (h : ltZ x y = false) (k : ltZ y x = false) : x = y :=
  str_of (List.le_antisymm (List.not_lt.mp (of_decide_eq_false k)) (List.not_lt.mp (of_decide_eq_false h)))
def lexZ (p q : Str × Int) : Bool := if p.1 = q.1 then decide (p.2 < q.2) else ltZ p.1 q.1
theorem lexZ_eq {p q : Str × Int} (e : p.1 = q.1) : lexZ p q = decide (p.2 < q.2) := if_pos e
theorem lexZ_ne {p q : Str × Int} (e : ¬ p.1 = q.1) : lexZ p q = ltZ p.1 q.1 := if_neg e
theorem swo_Z : Swo lexZ := by
  refine ⟨fun x y h => ?_, fun x y z h1 h2 => ?_⟩
  · by_cases e : x.1 = y.1
    · rw [lexZ_eq e, decide_eq_true_eq] at h
      rw [lexZ_eq e.symm]
      exact decide_eq_false (by omega)
    · rw [lexZ_ne e] at h
      rw [lexZ_ne (fun z => e z.symm)]
      exact ltZ_asym h
  · by_cases e : x.1 = y.1
    · rw [lexZ_eq e.symm, decide_eq_false_iff_not] at h1
      by_cases f : y.1 = z.1
      · rw [lexZ_eq f.symm, decide_eq_false_iff_not] at h2
        rw [lexZ_eq (e.trans f).symm]
        exact decide_eq_false (by omega)
      · rw [lexZ_ne (fun q => f q.symm)] at h2
        rw [lexZ_ne (fun q => f (e.symm.trans q.symm)), e]
        exact h2
    · rw [lexZ_ne (fun q => e q.symm)] at h1
      by_cases f : y.1 = z.1
      · rw [lexZ_ne (fun q => e (q.symm.trans f.symm)), ← f]
        exact h1
      · rw [lexZ_ne (fun q => f q.symm)] at h2
        have g1 : ltZ x.1 y.1 = true := by
          rcases bcase (ltZ x.1 y.1) with q | q
          · exact q
          · exact absurd (ltZ_tri q h1) e
        have g2 : ltZ y.1 z.1 = true := by
          rcases bcase (ltZ y.1 z.1) with q | q
          · exact q
          · exact absurd (ltZ_tri q h2) f
        have g := ltZ_trans g1 g2
        have ne : ¬ z.1 = x.1 := fun q => by
          rw [q, ltZ_irr] at g
          cases g
        rw [lexZ_ne ne]
        exact ltZ_asym g
/-- a tuple (text, int) -/
def IsPZ (h : Heap) (v : Value) (p : Str × Int) : Prop := ∃ a o t u n, v = .ref a ∧ h.get? a = some o ∧ o.cls = .type "tuple" ∧ o.data = .seq #[.str p.1 t, .int p.2 u] n
theorem IsPZ.keeps {h h' : Heap} {v : Value} {p : Str × Int} (x : IsPZ h v p) (k : ∀ b o, h.get? b = some o → o.cls = .type "tuple" → h'.get? b = some o) : IsPZ h' v p := by
  obtain ⟨a, o, t, u, n, e, ho, hc, hd⟩ := x
  exact ⟨a, o, t, u, n, e, k _ _ ho hc, hc, hd⟩
section
variable {prog : Program} {w : World} {A : Around} {E : Value → Shared → Prop} {s : Shared}
theorem firstsZ {h : Heap} : ∀ {vs : List Value}, (∀ v ∈ vs, ∃ p, IsPZ h v p) → ∃ fs : List Value, KatTups h vs fs ∧ fs.length = vs.length ∧ ∀ f ∈ fs, ∃ x t, f = Value.str x t
  | [], _ => ⟨[], KatTups.nil, rfl, fun _ hm => by simp at hm⟩
  | v :: vs, hp => by
    obtain ⟨fs, h1, h2, h3⟩ := firstsZ (vs := vs) fun v' hm => hp v' (List.mem_cons_of_mem _ hm)
    obtain ⟨p, a, o, t, u, n, e, ho, hc, hd⟩ := hp v List.mem_cons_self
    subst e
    refine ⟨.str p.1 t :: fs, KatTups.cons ho hc hd rfl h1, by rw [List.length_cons, List.length_cons, h2], fun f hm => ?_⟩
    rcases List.mem_cons.mp hm with rfl | hm
    · exact ⟨_, t, rfl⟩
    · exact h3 f hm
theorem pairZ_cmp {vs : List Value} {k : Value → Str × Int} (hp : ∀ v ∈ vs, IsPZ s.heap v (k v)) : Cmp prog w A s (tuples' true) (fun p => p.1 ∈ vs) (lt2 fun v u => lexZ (k v) (k u)) := by
  intro p q hm hm'
  have h1 := hp _ hm
  have h2 := hp _ hm'
  show wpAny (model prog w) A (keyLt' (tuples' true) p.1 q.1) (fun r s' => s' = s ∧ r = lexZ (k p.1) (k q.1)) (fun _ _ => False) s
  generalize k p.1 = x at h1 ⊢
  generalize k q.1 = y at h2 ⊢
  obtain ⟨a, o, t, u, n, e, ho, hc, hd⟩ := h1
  obtain ⟨a', o', t', u', n', e', ho', hc', hd'⟩ := h2
  rw [e, e']
  refine kat_lt ho hd ho' hd' ?_
  show KatLex prog w A true (decide (2 < 2)) _ [(.str x.1 t, .str y.1 t'), (.int x.2 u, .int y.2 u')] 0 s
  refine kat_cons (wpAny_eqBool_str ?_)
  refine kat_go (fun e1 => ?_) (fun e1 => ?_)
  · have ex : x.1 = y.1 := of_decide_eq_true e1
    refine kat_yes (kat_cons (wpAny_eqBool_int ?_))
    refine kat_go (fun e2 => ?_) (fun e2 => ?_)
    · have ey : x.2 = y.2 := by simpa using e2
      refine kat_yes (kat_nil ⟨rfl, ?_⟩)
      rw [lexZ_eq ex, ey]
      exact (decide_eq_false (Int.lt_irrefl _)).symm
    · exact kat_no (oneLt_any_int ⟨rfl, (lexZ_eq ex).symm⟩)
  · have ex : ¬ x.1 = y.1 := of_decide_eq_false e1
    exact kat_no (oneLt_any_str ⟨rfl, (lexZ_ne ex).symm⟩)
theorem pairsZ_sortable {a : Addr} {vs : List Value} {k : Value → Str × Int} (h0 : 0 < vs.length) (hp : ∀ v ∈ vs, IsPZ s.heap v (k v)) (ha : ∀ o, s.heap.get? a = some o → o.cls ≠ .type "tuple") : SortableO prog w A s a vs fun v u => lexZ (k v) (k u) := by
  intro h' keep
  have hp' : ∀ v ∈ vs, IsPZ h' v (k v) := fun v hm => (hp v hm).keeps fun b o e c => keep b o (fun z => by subst z; exact ha o e c) e
  obtain ⟨fs, h1, h2, h3⟩ := firstsZ fun v hm => ⟨_, hp' v hm⟩
  refine ⟨tuples' true, fun Q E hq => ?_, pairZ_cmp hp'⟩
  refine kat_kind (T := .type "str") h1 (by omega) (fun f hm => ?_) (by rfl) ?_
  · obtain ⟨x, t, rfl⟩ := h3 f hm
    exact Looks.now
  · have e : (Value.type "str" != Value.type "tuple") = true := by first | decide +kernel | rfl | decide
    rw [e]
    exact hq
theorem plain_rev (a : Addr) : Builtin.«list.sort» ⟨[.ref a], []⟩ = Builtin.«list.sort» ⟨[.ref a], [(Str.ofString "reverse", .bool false)]⟩ := by
  rw [list_sort_rev]
  first | rfl | kernel_rfl
/-- sorted(x, ..) over what is collected of x -/
theorem sorted_col {x : Value} {b : Bool} {kw : List (Str × Value)} {ltv : Heap → Value → Value → Bool} {Q : Value → Shared → Prop} {P : Heap → Nat → List Value → Prop}
    (hk : ∀ a, Builtin.«list.sort» ⟨[.ref a], kw⟩ = Builtin.«list.sort» ⟨[.ref a], [(Str.ofString "reverse", .bool b)]⟩) (ha1 : argsOk "sorted" ⟨[x], kw⟩) (ha2 : ∀ a, argsOk "list.sort" ⟨[a], kw⟩)
    (hcol : ∀ R : List Value → Shared → Prop, (∀ h' tk vs, (∀ b o, s.heap.get? b = some o → h'.get? b = some o) → P h' tk vs → R vs { s with heap := h', toks := tk }) → wpAny (model prog w) A.in1 (collect x) R E s)
    (O : ∀ h' tk vs, P h' tk vs → Swo (ltv h')) (hz : ∀ h' tk vs, P h' tk vs → vs.length ≤ sizeLine)
    (hS : ∀ h' tk vs, P h' tk vs → 2 ≤ vs.length → ∀ (h₁ : Heap) (a : Addr), h₁.get? a = some (seqObj "list" vs.toArray 0) → (∀ b o, h'.get? b = some o → b ≠ a ∧ h₁.get? b = some o) → SortableO prog w A.in1.in1 { s with heap := h₁, toks := tk } a vs (ltv h'))
    (h : ∀ h' tk vs out h2, (∀ b o, s.heap.get? b = some o → h'.get? b = some o) → P h' tk vs → Srtd (ltv h') out → Stb (ltv h') out (if b = true then vs.reverse else vs) → (∀ c o, h'.get? c = some o → h2.get? c = some o) →
      (∃ n, h2.get? h'.objs.size = some (seqObj "list" (if b = true then out.toArray.reverse else out.toArray) n)) → Q (.ref h'.objs.size) { s with heap := h2, toks := tk }) :
    wpAny (model prog w) A (call (.builtin "sorted") [x] kw) Q E s := by
  refine call_function_entry_kw kind_sorted plain_sorted entry_sorted ha1 ?_
  unfold Builtin.«sorted»
  refine wpAny_bind (m := checkCount "sorted" 1 1 _) (wpAny_pure ?_)
  refine wpAny_bind (hcol _ fun h' tk vs hkp hP => ?_)
  refine wpAny_bind (wpAny_newList ?_ (hz _ _ _ hP))
  have hoL : (h'.push (seqObj "list" vs.toArray 0)).get? h'.objs.size = some (seqObj "list" vs.toArray 0) := Heap.get?_push_size _ rfl
  have keep : ∀ b o, h'.get? b = some o → b ≠ h'.objs.size ∧ (h'.push (seqObj "list" vs.toArray 0)).get? b = some o := fun b o q => ⟨Nat.ne_of_lt (Heap.lt_size q), Heap.get?_push_of_some _ q⟩
  show wpAny _ _ _ _ _ { s with heap := h'.push (seqObj "list" vs.toArray 0), toks := tk }
  refine wpAny_bind (wpAny_holding (wpAny_call_entry_kw slot_list_sort ⟨_, hoL, rfl⟩ entry_list_sort ?_ (ha2 _)))
  rw [hk]
  refine SrtR.list_sort_ordR (s := { s with heap := h'.push (seqObj "list" vs.toArray 0), toks := tk }) (O _ _ _ hP) hoL (hz _ _ _ hP) (fun h2 => hS _ _ _ hP h2 _ _ hoL keep) fun out hs hb => ⟨_, rfl, ?_⟩
  refine wpAny_pure ⟨_, rfl, h h' tk vs out _ hkp hP hs hb (fun c o q => ?_) ?_⟩
  · exact (sortedHeap_old (keep c o q).1 (Heap.lt_size (keep c o q).2)).trans (keep c o q).2
  · exact sortedHeap_at hoL
end
end SrtZ

namespace L2
open PySem PySem.Spec PyProof.Rows SrtO SrtZ
/-- counts as a dict's pairs -/
abbrev entZ (e : Str × Int) : Key × V := (Sum.inr e.1, V.int e.2)
section
variable {X : Cx}
/-- d.items() -/
def rItemsK : V → List V → Hp → VK → Prop := fun x xs H Q => ∃ (a : Addr) (kvs : List (Key × V)), x = .ref a ∧ xs = [] ∧ H a = some (.dK kvs) ∧ ∀ p, H p = none → Q (.ref p) (upd H p (DX.itemsO p a))
theorem mt_itemsK : MtR X "dict.items" rItemsK := by
  intro pins s σ H x xs v us Q I rx rxs h
  obtain ⟨a, kvs, rfl, rfl, ha, q⟩ := h
  cases rx
  cases rxs
  obtain ⟨z, hd, vs, kv, o, es, ep, ho, hx, hdat, _⟩ := dk_of I.hok ha
  refine DT.callItems (es := es) (ep := ep) hd ⟨o, ho, hx, hdat⟩ ?_
  have hf : H s.heap.objs.size = none := I.hok.fresh (Nat.le_refl _)
  exact ⟨.ref s.heap.objs.size, upd H s.heap.objs.size (DX.itemsO s.heap.objs.size a), I.laid (t' := s.toks) (fun b u e => Heap.get?_push_of_some _ e) (Nat.le_refl _) (DX.itemsO_ok (Heap.get?_push_size _ rfl)), rfl, q _ hf⟩
/-- d.values() -/
def valuesO (p d : Addr) : HO := .ext fun h => h.IsValuesView p d
theorem valuesO_ok {P : Program} {w : World} {H : Hp} {h : Heap} {p d : Addr} (e : h.get? p = some { cls := .type "dict_values", data := .fields #[.ref d] }) : ObjOk P w H h p (valuesO p d) :=
  ⟨⟨_, e, rfl, rfl⟩, ⟨_, e⟩, fun h1 h2 x k => let ⟨o, ho, r⟩ := x; ⟨o, k o ho, r⟩⟩
def rValuesK : V → List V → Hp → VK → Prop := fun x xs H Q => ∃ (a : Addr) (kvs : List (Key × V)), x = .ref a ∧ xs = [] ∧ H a = some (.dK kvs) ∧ ∀ p, H p = none → Q (.ref p) (upd H p (valuesO p a))
theorem mt_valuesK : MtR X "dict.values" rValuesK := by
  intro pins s σ H x xs v us Q I rx rxs h
  obtain ⟨a, kvs, rfl, rfl, ha, q⟩ := h
  cases rx
  cases rxs
  obtain ⟨z, hd, vs, kv, dd⟩ := dk_of I.hok ha
  have hf : H s.heap.objs.size = none := I.hok.fresh (Nat.le_refl _)
  refine call_meetsIn PySem.F.slot_dict_values dd.typeIs PySem.F.entry_dict_values (PySem.F.args_dict_values_1 _) (meets_dict_values (mixKind X.prog X.w) a hd) ⟨⟨vs, dd⟩, ?_⟩
  exact ⟨.ref s.heap.objs.size, upd H s.heap.objs.size (valuesO s.heap.objs.size a), I.laid (t' := s.toks) (fun b u e => Heap.get?_push_of_some _ e) (Nat.le_refl _) (valuesO_ok (Heap.get?_push_size _ rfl)), rfl, q _ hf⟩
end
end L2

namespace L2
open PySem PySem.Spec PyProof.Rows SrtO SrtZ
theorem ent_paired {xs' : List (Key × Value)} : ∀ {ks : List (Str × Int)}, KV (ks.map entZ) xs' → ∀ {j : Nat} {x : Key × Value}, xs'[j]? = some x → ∃ e t, ks[j]? = some e ∧ x = (Sum.inr e.1, Value.int e.2 t) := fun {ks} h {j x} hx => by
  obtain ⟨y, hy, r1, r2⟩ := DX.pget h hx
  rw [List.getElem?_map] at hy
  cases e : ks[j]? with
  | none => rw [e] at hy; cases hy
  | some p =>
    rw [e] at hy
    have hy' : entZ p = y := Option.some.inj hy
    subst hy'
    obtain ⟨t, et⟩ := (show ∃ t, x.2 = Value.int p.2 t from r2)
    refine ⟨p, t, rfl, ?_⟩
    obtain ⟨x1, x2⟩ := x
    have r1' : Sum.inr p.1 = x1 := r1
    have et' : x2 = Value.int p.2 t := et
    rw [← r1', et']
section
variable {X : Cx}
/-- sorted(d.items()), keys texts, values ints, any number of them -/
def rSortedIZ : List V → Hp → VK → Prop := fun vs H Q => ∃ (p d : Addr) (ks : List (Str × Int)), vs = [V.ref p] ∧ H p = some (DX.itemsO p d) ∧ H d = some (.dK (ks.map entZ)) ∧
  ∀ (H' : Hp) (l : Addr) (ys : List (Str × Int)) (ts : List Addr), Same H H' → H l = none → (∀ t ∈ ts, H t = none) → l ∉ ts → ys.Perm ks → Srtd lexZ ys → H' l = some (.lst (ts.map V.ref)) → Paired (fun (t : Addr) (y : Str × Int) => H' t = some (.tup [.str y.1, .int y.2])) ts ys → Q (.ref l) H'
theorem paired_of {α β : Type} {F : α → β → Prop} {l : List (α × β)} (h : ∀ z ∈ l, F z.1 z.2) : Paired F (l.map (·.1)) (l.map (·.2)) := by
  induction l with
  | nil => exact .nil
  | cons a l ih => exact .cons (h a List.mem_cons_self) (ih fun z hz => h z (List.mem_cons_of_mem _ hz))
/-- a tuple's key, read off the heap -/
def keyZ (h : Heap) : Value → Str × Int
  | .ref a => match h.get? a with
    | some o => match o.data with
      | .seq xs _ => match xs.toList with
        | [.str x _, .int y _] => (x, y)
        | _ => (⟨#[]⟩, 0)
      | _ => (⟨#[]⟩, 0)
    | none => (⟨#[]⟩, 0)
  | _ => (⟨#[]⟩, 0)
theorem keyZ_of {h : Heap} {v : Value} {p : Str × Int} (x : IsPZ h v p) : keyZ h v = p := by
  obtain ⟨a, o, t, u, n, rfl, ho, hc, hd⟩ := x
  simp only [keyZ, ho, hd]
theorem swo_key (h : Heap) : Swo fun v u => lexZ (keyZ h v) (keyZ h u) := ⟨fun x y => swo_Z.asym _ _, fun x y z => swo_Z.tr _ _ _⟩
def adr : Value → Addr
  | .ref a => a
  | _ => 0
theorem adr_refs : ∀ as : List Addr, (as.map Value.ref).map adr = as
  | [] => rfl
  | a :: as => congrArg (List.cons a) (adr_refs as)
theorem refs_adr : ∀ out : List Value, (∀ v ∈ out, ∃ a, v = Value.ref a) → (out.map adr).map Value.ref = out
  | [], _ => rfl
  | v :: out, h => by
    obtain ⟨a, rfl⟩ := h v List.mem_cons_self
    show Value.ref a :: (out.map adr).map Value.ref = Value.ref a :: out
    rw [refs_adr out fun u hu => h u (List.mem_cons_of_mem _ hu)]
/-- pairs that were laid and sorted are tracked: a list of them at l, the tuples at ts -/
theorem sortZ_end {pins : List (Addr × Obj)} {σ : St} {H : Hp} {s : Shared} {h' h2 : Heap} {tk l n : Nat} {as : List Addr} {ks : List (Str × Int)} {out : List Value} {Q : VK} (I : Inv X pins σ H s)
    (hk : ∀ b o, s.heap.get? b = some o → h'.get? b = some o) (hk2 : ∀ b o, h'.get? b = some o → h2.get? b = some o) (hl : s.heap.objs.size ≤ l) (hle : as.length ≤ sizeLine) (hlas : ∀ t ∈ as, t ≠ l) (nd : as.Nodup) (ha : ∀ t ∈ as, s.heap.objs.size ≤ t) (hn : H l = none)
    (hks : as.map (fun t => keyZ h' (.ref t)) = ks) (hp : ∀ t ∈ as, ∃ p, IsPZ h' (.ref t) p) (hat : h2.get? l = some (seqObj "list" out.toArray n)) (h1 : Srtd (fun v u => lexZ (keyZ h' v) (keyZ h' u)) out) (hb : out.Perm (as.map Value.ref))
    (q : ∀ (H' : Hp) (ys : List (Str × Int)) (ts : List Addr), Same H H' → H l = none → (∀ t ∈ ts, H t = none) → l ∉ ts → ys.Perm ks → Srtd lexZ ys → H' l = some (.lst (ts.map V.ref)) → Paired (fun (t : Addr) (y : Str × Int) => H' t = some (.tup [.str y.1, .int y.2])) ts ys → Q (.ref l) H') :
    EP X pins σ Q (.ref l) { s with heap := h2, toks := tk } := by
  have isr : ∀ v ∈ out, ∃ a, v = Value.ref a := fun v hv => by
    obtain ⟨a, _, e⟩ := List.mem_map.mp (hb.mem_iff.mp hv)
    exact ⟨a, e.symm⟩
  have eo := refs_adr out isr
  generalize ets : out.map adr = ts at eo
  have pt : ts.Perm as := by
    have := hb.map adr
    rwa [adr_refs, ets] at this
  have kS : ∀ b o, s.heap.get? b = some o → h2.get? b = some o := fun b o e => hk2 b o (hk b o e)
  have I1 : Inv X pins σ H { s with heap := h2, toks := tk } := I.kept (t' := tk) kS
  have hlen : (ts.map V.ref).length ≤ sizeLine := by rw [List.length_map, pt.length_eq]; exact hle
  have rv : Vals (ts.map V.ref) out := by
    rw [← eo]
    exact LiI.vals_refs ts
  have I2 : Inv X pins σ (upd H l (.lst (ts.map V.ref))) { s with heap := h2, toks := tk } := I1.take (h' := h2) (t' := tk) (fun b ob _ e => e) (I.fpOk hl hn) ⟨hlen, out, n, rv, hat⟩
  obtain ⟨H2, I3, g, qt⟩ := DX.takeT (P := fun b vs => vs = [.str (keyZ h' (.ref b)).1, .int (keyZ h' (.ref b)).2]) I as _ I2 nd fun b hb' => by
    obtain ⟨p, hp'⟩ := hp b hb'
    have ek := keyZ_of hp'
    obtain ⟨a, o, t, u, m, e, ho, hc, hd⟩ := hp'
    cases e
    refine ⟨ha b hb', ?_, [.str (keyZ h' (.ref b)).1, .int (keyZ h' (.ref b)).2], rfl, fun H3 => ⟨(by rw [sizeLine_eq]; show 2 ≤ 16777216; omega), [Value.str p.1 t, Value.int p.2 u], by rw [ek]; exact .cons ⟨_, rfl⟩ (.cons ⟨_, rfl⟩ .nil), ⟨o, hk2 _ _ ho, hc, m, hd⟩⟩⟩
    rw [upd_ne (hlas b hb')]
    exact I.hok.fresh (ha b hb')
  have gr : Same H H2 := fun b o e => g b o (by rw [upd_ne (ne_of_none e hn)]; exact e)
  refine ⟨.ref l, H2, I3, rfl, q H2 (ts.map fun t => keyZ h' (.ref t)) ts gr hn (fun t ht => I.hok.fresh (ha t (pt.mem_iff.mp ht))) (fun z => hlas l (pt.mem_iff.mp z) rfl) ?_ ?_ (g _ _ upd_same) ?_⟩
  · rw [← hks]
    exact pt.map _
  · have e : ts.map (fun t => keyZ h' (.ref t)) = out.map (keyZ h') := by
      rw [← eo, List.map_map]
      rfl
    rw [e]
    exact srtd_map h1
  · have : ∀ L : List Addr, (∀ t ∈ L, t ∈ as) → Paired (fun (t : Addr) (y : Str × Int) => H2 t = some (.tup [.str y.1, .int y.2])) L (L.map fun t => keyZ h' (.ref t)) := by
      intro L
      induction L with
      | nil => exact fun _ => .nil
      | cons t L ih =>
        intro hL
        refine .cons ?_ (ih fun u hu => hL u (List.mem_cons_of_mem _ hu))
        obtain ⟨vs, ev, hv⟩ := qt t (hL t List.mem_cons_self)
        rw [← ev]
        exact hv
    exact this ts fun t ht => pt.mem_iff.mp ht
theorem cr_sortedIZ (hc : X.calm = true) : CallR X (.builtin "sorted") rSortedIZ := by
  intro pins s σ H xs us Q I r h
  obtain ⟨p, a, ks, rfl, hp, ha, q⟩ := h
  obtain rfl := Vals.ref1 r
  have view : s.heap.IsItemsView p a := (show ObjOk X.prog X.w H s.heap p (DX.itemsO p a) from I.hok p _ hp).1
  obtain ⟨z, hd, xs', rel, o, es, ep, ho, hx, hdat, _, hes, _⟩ := dk_of I.hok ha
  have l1 : ks.length = xs'.length := by
    have := Paired.length rel
    rwa [List.length_map] at this
  have l2 : es.size = xs'.length := by rw [← Array.length_toList, hes.length]
  have hh : X.A.handled = none := I.ok.hd hc
  have hz : es.size ≤ sizeLine := by rw [List.length_map] at z; omega
  have ent : ∀ (j : Nat) (en : DictEntry), es[j]? = some en → ∃ e t u, ks[j]? = some e ∧ en.key = Value.str e.1 t ∧ en.val = Value.int e.2 u := by
    intro j en he
    have he' : es.toList[j]? = some en := by rw [Array.getElem?_toList]; exact he
    have pz : ∀ {es : List DictEntry} {kvs : List (Key × Value)}, Pairs (mixKind X.prog X.w) es kvs → ∀ {j : Nat} {en : DictEntry}, es[j]? = some en → ∃ x, kvs[j]? = some x ∧ keyIs x.1 en.key = true ∧ en.val = x.2 := by
      intro es kvs h
      induction h with
      | nil => intro j en h; simp at h
      | cons h1 h2 h3 ih =>
        intro j en h
        cases j with
        | zero => cases (Option.some.inj h); exact ⟨_, rfl, h1, h2⟩
        | succ j => exact ih (by simpa using h)
    obtain ⟨x, ex, k1, k2⟩ := pz hes he'
    obtain ⟨e, t, e1, e2⟩ := ent_paired rel ex
    subst e2
    obtain ⟨u, eu⟩ := relV_key k1
    exact ⟨e, u, t, e1, eu, k2⟩
  refine sorted_col (x := .ref p) (b := false) (kw := []) (ltv := fun h' v u => lexZ (keyZ h' v) (keyZ h' u)) (P := fun h' _ vs => ∃ as, vs = as.map Value.ref ∧ as.length = es.size ∧ DT.Made es s.heap.objs.size h' as ∧ s.heap.objs.size < h'.objs.size)
    plain_rev (args_sorted1 _) (fun _ => args_list_sort _) (fun R hR => ?_) (fun h' _ _ _ => swo_key h') (fun h' _ vs hP => ?_) (fun h' tk vs hP h2 h₁ b hb keep => ?_) (fun h' tk vs out h2 hk hP h1 hb hk2 hat => ?_)
  · exact DT.collectI (A := X.A.in1) hh view ⟨o, ho, hx, hdat⟩ hz fun h' tk as hk hlt hl hM => hR h' tk _ hk ⟨as, rfl, hl, hM, hlt⟩
  · obtain ⟨as, rfl, hl, _⟩ := hP
    rw [List.length_map, hl]
    exact hz
  · obtain ⟨as, rfl, hl, hM, _⟩ := hP
    refine pairsZ_sortable (s := { s with heap := h₁, toks := tk }) (k := keyZ h') (by omega) (fun v hv => ?_) (fun ob e => ?_)
    · obtain ⟨t, ht, rfl⟩ := List.mem_map.mp hv
      obtain ⟨j, hj⟩ := List.mem_iff_getElem?.mp ht
      obtain ⟨en, he, hg⟩ := hM.pairs j t hj
      obtain ⟨e, t1, t2, _, k1, k2⟩ := ent j en he
      have x : IsPZ h' (.ref t) e := ⟨t, _, t1, t2, 0, rfl, hg, rfl, by rw [k1, k2]⟩
      rw [keyZ_of x]
      exact x.keeps fun b o e _ => (keep b o e).2
    · have e' : some ob = some (seqObj "list" (as.map Value.ref).toArray 0) := e.symm.trans hb
      cases e'
      intro c
      exact absurd (Value.type.inj c) (by decide)
  · obtain ⟨as, rfl, hl, hM, hlt⟩ := hP
    obtain ⟨n, hat⟩ := hat
    have pz : ∀ (j : Nat) (t : Addr), as[j]? = some t → ∃ e, ks[j]? = some e ∧ IsPZ h' (.ref t) e := fun j t hj => by
      obtain ⟨en, he, hg⟩ := hM.pairs j t hj
      obtain ⟨e, t1, t2, e1, k1, k2⟩ := ent j en he
      exact ⟨e, e1, t, _, t1, t2, 0, rfl, hg, rfl, by rw [k1, k2]⟩
    refine sortZ_end (as := as) (ks := ks) I hk hk2 (Nat.le_of_lt hlt) (by rw [hl]; exact hz) (fun t ht => Nat.ne_of_lt (hM.there ht)) (List.Pairwise.imp (fun h => Nat.ne_of_lt h) hM.rise) (fun t ht => Nat.le_of_lt (hM.above t ht)) (I.hok.fresh (Nat.le_of_lt hlt)) ?_ (fun t ht => ?_) hat h1 hb.perm fun H' ys ts => q H' _ ys ts
    · refine List.ext_getElem? fun j => ?_
      rw [List.getElem?_map]
      cases hj : as[j]? with
      | none =>
        have : ks[j]? = none := List.getElem?_eq_none (by have := List.getElem?_eq_none_iff.mp hj; omega)
        rw [this]
        rfl
      | some t =>
        obtain ⟨e, e1, x⟩ := pz j t hj
        rw [e1]
        show some (keyZ h' (.ref t)) = some e
        rw [keyZ_of x]
    · obtain ⟨j, hj⟩ := List.mem_iff_getElem?.mp ht
      obtain ⟨e, _, x⟩ := pz j t hj
      exact ⟨e, x⟩
end
end L2

namespace SrtZ
open PySem PyProof.Rows Srt SrtO PySem.W
def ltSv (v u : Value) : Bool := ltZ (strOf v) (strOf u)
theorem swo_str : Swo ltSv := by
  refine ⟨fun x y h => ltZ_asym h, fun x y z h1 h2 => ?_⟩
  rcases bcase (ltZ (strOf z) (strOf x)) with q | q
  · rcases bcase (ltZ (strOf x) (strOf y)) with p | p
    · rcases bcase (ltZ (strOf y) (strOf z)) with r | r
      · have := ltZ_asym (ltZ_trans p r)
        rw [q] at this
        cases this
      · have e := ltZ_tri r h2
        have q' : ltZ (strOf z) (strOf x) = true := q
        rw [← e, ltZ_asym p] at q'
        cases q'
    · have e := ltZ_tri p h1
      have q' : ltZ (strOf z) (strOf x) = true := q
      have h2' : ltZ (strOf z) (strOf y) = false := h2
      rw [e, h2'] at q'
      cases q'
  · exact q
theorem strOf_strs : ∀ {vs : List Value} {ss : List Str}, StrsAre vs ss → vs.map strOf = ss
  | _, _, .nil => rfl
  | _, _, .cons y t h => congrArg (y :: ·) (strOf_strs h)
section
variable {prog : Program} {w : World} {A : Around} {E : Value → Shared → Prop} {s : Shared}
theorem str_cmp {vs : List Value} {ss : List Str} (hI : StrsAre vs ss) : Cmp prog w A s oneType' (fun p => p.1 ∈ vs) (lt2 ltSv) := by
  intro p q hm hm'
  obtain ⟨a, t, e⟩ := StrsAre.all hI _ hm
  obtain ⟨b, u, e'⟩ := StrsAre.all hI _ hm'
  show wpAny (model prog w) A (keyLt' oneType' p.1 q.1) (fun r s' => s' = s ∧ r = ltSv p.1 q.1) (fun _ _ => False) s
  rw [e, e', keyLt'_oneType]
  exact oneLt_any_str ⟨rfl, rfl⟩
theorem strs_sortable {a : Addr} {vs : List Value} {ss : List Str} (hI : StrsAre vs ss) (h2 : 2 ≤ vs.length) : SortableO prog w A s a vs ltSv := by
  intro h' _
  refine ⟨oneType', fun Q E hq => ?_, str_cmp hI⟩
  match vs, hI, h2 with
  | v1 :: v2 :: rest, hI, _ =>
    rw [keyKind_strs hI]
    exact wpAny_pure hq
  | [], _, h => exact absurd h (by decide)
  | [v], _, h => exact absurd h (by simp)
end
end SrtZ
namespace L2
open PySem PySem.Spec PyProof.Rows SrtO SrtZ
section
variable {X : Cx}
/-- sorted(xs), xs a list of tuples (text, int), any number of them -/
def rSortedPZ (K : PySem.W.Frag) : List V → Hp → VK → Prop := fun vs H Q => ∃ (a : Addr) (ts : List Addr) (k : Addr → Str × Int), vs = [V.ref a] ∧ SqL K H a (ts.map V.ref) ∧ (∀ t ∈ ts, H t = some (.tup [.str (k t).1, .int (k t).2])) ∧
  ∀ (us : List Addr) (p : Addr), us.Perm ts → Srtd lexZ (us.map k) → H p = none → Q (.ref p) (upd H p (.lst (us.map V.ref)))
theorem cr_sortedPZ : CallR X (.builtin "sorted") (rSortedPZ X.K) := by
  intro pins s σ H vs us Q I r h
  obtain ⟨a, ts, k, rfl, hs, hx, q⟩ := h
  obtain ⟨its, rv, hl, hz⟩ := I.list hs
  obtain rfl := Vals.ref1 r
  obtain rfl := refs_at rv
  rw [List.length_map] at hz
  have hp : ∀ v ∈ ts.map Value.ref, IsPZ s.heap v (k (adr v)) := fun v hv => by
    obtain ⟨t, ht, rfl⟩ := List.mem_map.mp hv
    obtain ⟨_, its2, r2, o, ho, hc, n, hd⟩ := I.hok _ _ (hx t ht)
    obtain ⟨u1, u2, rfl, ri, rj⟩ := vals2 r2
    obtain ⟨t1, rfl⟩ := ri
    obtain ⟨t2, rfl⟩ := rj
    exact ⟨t, o, t1, t2, n, rfl, ho, hc, hd⟩
  refine SrtO.sorted_ord (ltv := fun v u => lexZ (k (adr v)) (k (adr u))) ⟨fun x y => swo_Z.asym _ _, fun x y z => swo_Z.tr _ _ _⟩ hl.isList (by rw [List.length_map]; exact hz) (fun h2 h₁ b hb kk => ?_) fun out h1 h2 => ?_
  · refine pairsZ_sortable (s := { s with heap := h₁ }) (k := fun v => k (adr v)) (by omega) (fun v hv => (hp v hv).keeps fun b o e _ => (kk b o e).2) fun o e => ?_
    have e' : some o = some (seqObj "list" (ts.map Value.ref).toArray 0) := e.symm.trans hb
    cases e'
    intro c
    exact absurd (Value.type.inj c) (by decide)
  · obtain ⟨ep, he'⟩ := PyProof.Rows.sortedAll_at s.heap (ts.map Value.ref) out.toArray
    have isr : ∀ v ∈ out, ∃ a, v = Value.ref a := fun v hv => by
      obtain ⟨a, _, e⟩ := List.mem_map.mp (h2.perm.mem_iff.mp hv)
      exact ⟨a, e.symm⟩
    have eo := refs_adr out isr
    generalize eus : out.map adr = us at eo
    have pt : us.Perm ts := by
      have := h2.perm.map adr
      rwa [adr_refs, eus] at this
    have hlen : (us.map V.ref).length ≤ sizeLine := by rw [List.length_map, pt.length_eq]; exact hz
    have rv : Vals (us.map V.ref) out := by
      rw [← eo]
      exact LiI.vals_refs us
    refine ⟨.ref _, upd H (s.heap.objs.size + 1) (.lst (us.map V.ref)), I.laid (t' := s.toks) (fun _ _ => PyProof.Rows.sortedAll_old) (Nat.le_succ _) ⟨hlen, out, ep, rv, he'⟩, rfl, q us _ pt ?_ (I.hok.fresh (Nat.le_succ _))⟩
    have e : us.map k = out.map fun v => k (adr v) := by
      rw [← eo, List.map_map]
      rfl
    rw [e]
    exact srtd_map h1
/-- the ints of a dict's values -/
theorem vals_ints' {xs' : List (Key × Value)} : ∀ {ks : List (Str × Int)}, KV (ks.map entZ) xs' → ∀ {vs : List Value}, vs.length = xs'.length → (∀ (j : Nat) (v : Value), vs[j]? = some v → ∃ k, xs'[j]? = some (k, v)) → IntsAre vs (ks.map (·.2)) := fun {ks} rel {vs} hl hv => by
  have e : vs = xs'.map (·.2) := PySem.W.kdl_vals_eq vs hl hv
  subst e
  have : ∀ {ks : List (Str × Int)} {xs : List (Key × Value)}, KV (ks.map entZ) xs → IntsAre (xs.map (·.2)) (ks.map (·.2)) := by
    intro ks
    induction ks with
    | nil =>
      intro xs r
      cases r
      exact .nil
    | cons e ks ih =>
      intro xs r
      cases r with
      | cons h t =>
        obtain ⟨u, eu⟩ := (show ∃ t, _ = Value.int e.2 t from h.2)
        rw [List.map_cons, eu]
        exact .cons _ _ (ih t)
  exact this rel
/-- sorted(d.values(), reverse=b), values ints -/
def rSortedVR (b : Bool) : List V → List V → Hp → VK → Prop := fun vs zs H Q => ∃ (p d : Addr) (ks : List (Str × Int)), vs = [V.ref p] ∧ zs = [.bl b] ∧ H p = some (valuesO p d) ∧ H d = some (.dK (ks.map entZ)) ∧
  ∀ (ns : List Int) (l : Addr), ns.Perm (ks.map (·.2)) → OrdB b ns → H l = none → Q (.ref l) (upd H l (.lst (ns.map V.int)))
theorem cr_sortedVR {b : Bool} (hc : X.calm = true) : CallRK X (.builtin "sorted") [Str.ofString "reverse"] (rSortedVR b) := by
  intro pins s σ H vs zs us ws Q I r rz h
  obtain ⟨p, d, ks, rfl, rfl, hp, ha, q⟩ := h
  obtain rfl := Vals.ref1 r
  obtain ⟨w1, rfl, e1⟩ := vals1 rz
  obtain rfl : w1 = Value.bool b := e1
  have view : s.heap.IsValuesView p d := (show ObjOk X.prog X.w H s.heap p (valuesO p d) from I.hok p _ hp).1
  obtain ⟨z, hd, xs', rel, dd⟩ := dk_of I.hok ha
  obtain ⟨ep, hat⟩ := dd.dictAt
  have l1 : ks.length = xs'.length := by
    have := Paired.length rel
    rwa [List.length_map] at this
  have hz : xs'.length ≤ sizeLine := by rw [List.length_map] at z; omega
  refine sorted_col (x := .ref p) (b := b) (kw := [(Str.ofString "reverse", .bool b)]) (ltv := fun _ => SrtO.ltIv) (P := fun h' _ vs => IntsAre vs (ks.map (·.2)))
    (fun _ => rfl) (args_sorted_rev _ _) (fun _ => args_list_sort_rev _ _) (fun R hR => ?_) (fun _ _ _ _ => SrtO.swo_int) (fun h' _ vs hP => ?_) (fun h' tk vs hP h2 h₁ c hb keep => ?_) (fun h' tk vs out h2 hk hP h1 hb hk2 hat => ?_)
  · refine PySem.W.kdu_collect (A := X.A.in1) (PySem.W.kdl_values (knd := mixKind X.prog X.w) (kvs := xs') (ep := ep) (r := p) (d := d)) (I.ok.hd hc) ⟨view, hat⟩ hz fun h' tk acc hk hacc => hR h' tk _ hk (vals_ints' rel (by rw [Array.length_toList]; exact hacc.1) fun j v e => hacc.2 j v (by rw [← Array.getElem?_toList]; exact e))
  · rw [hP.length, List.length_map, l1]
    exact hz
  · exact SrtO.ints_sortable hP h2
  · obtain ⟨n, hat⟩ := hat
    obtain ⟨ns', k1, k2, k3⟩ := SrtR.ints_outR hP h1 hb
    have hlen : (ns'.map V.int).length ≤ sizeLine := by
      rw [List.length_map, k2.length_eq, List.length_map, l1]
      exact hz
    have e0 : ((if b = true then out.toArray.reverse else out.toArray).toList).toArray = (if b = true then out.toArray.reverse else out.toArray) := by rw [Array.toArray_toList]
    have gone : s.heap.get? h'.objs.size = none := by
      cases e : s.heap.get? h'.objs.size with
      | none => rfl
      | some o => exact absurd (Heap.lt_size (hk _ _ e)) (Nat.lt_irrefl _)
    have hn := I.hok.gone gone
    exact ⟨.ref h'.objs.size, upd H h'.objs.size (.lst (ns'.map V.int)), I.laidN (t' := tk) (fun c o e => hk2 c o (hk c o e)) gone hn ⟨hlen, _, n, vals_of_ints k1, by rw [e0]; exact hat⟩, rfl, q _ _ k2 k3 hn⟩
/-- sorted(d), keys texts, any number of them -/
def rSortedDS : List V → Hp → VK → Prop := fun vs H Q => ∃ (d : Addr) (kvs : List (Key × V)) (ss : List Str), vs = [V.ref d] ∧ H d = some (.dK kvs) ∧ kvs.map (·.1) = ss.map Sum.inr ∧
  ∀ (ys : List Str) (l : Addr), ys.Perm ss → Srtd ltZ ys → H l = none → Q (.ref l) (upd H l (.lst (ys.map V.str)))
theorem keys_strs {P : Program} {w : World} {xs' : List (Key × Value)} : ∀ {kvs : List (Key × V)} {ss : List Str}, KV kvs xs' → kvs.map (·.1) = ss.map Sum.inr → ∀ {vs : List Value}, vs.length = xs'.length → (∀ (j : Nat) (v : Value), vs[j]? = some v → ∃ k x, xs'[j]? = some (k, x) ∧ (mixKind P w).is k v = true) → StrsAre vs ss := fun {kvs ss} rel hk {vs} hl hv => by
  have : ∀ {kvs : List (Key × V)} {ss : List Str} {xs : List (Key × Value)} {vs : List Value}, KV kvs xs → kvs.map (·.1) = ss.map Sum.inr → vs.length = xs.length → (∀ (j : Nat) (v : Value), vs[j]? = some v → ∃ k x, xs[j]? = some (k, x) ∧ (mixKind P w).is k v = true) → StrsAre vs ss := by
    intro kvs
    induction kvs with
    | nil =>
      intro ss xs vs r hk hl hv
      cases r
      cases ss with
      | nil =>
        have : vs = [] := List.eq_nil_of_length_eq_zero hl
        subst this
        exact .nil
      | cons _ _ => cases hk
    | cons kv kvs ih =>
      intro ss xs vs r hk hl hv
      cases r with
      | cons h t =>
        cases ss with
        | nil => cases hk
        | cons z ss =>
          cases vs with
          | nil => simp at hl
          | cons v vs =>
            rw [List.map_cons, List.map_cons] at hk
            obtain ⟨h1, h2⟩ := List.cons.inj hk
            obtain ⟨k, x, e1, e2⟩ := hv 0 v rfl
            have e1' := (Prod.mk.inj (Option.some.inj e1)).1
            have kk : k = Sum.inr z := by rw [← e1', ← h.1, h1]
            subst kk
            obtain ⟨u, eu⟩ := relV_key (show keyIs (Sum.inr z) v = true from e2)
            subst eu
            exact .cons _ _ (ih t h2 (by simpa using hl) fun j v' e => hv (j + 1) v' (by simpa using e))
  exact this rel hk hl hv
theorem cr_sortedDS (hc : X.calm = true) : CallR X (.builtin "sorted") rSortedDS := by
  intro pins s σ H xs us Q I r h
  obtain ⟨d, kvs, ss, rfl, ha, hks, q⟩ := h
  obtain rfl := Vals.ref1 r
  obtain ⟨z, hd, xs', rel, dd⟩ := dk_of I.hok ha
  obtain ⟨ep, hat⟩ := dd.dictAt
  have l1 : kvs.length = xs'.length := Paired.length rel
  have hz : xs'.length ≤ sizeLine := by omega
  refine sorted_col (x := .ref d) (b := false) (kw := []) (ltv := fun _ => ltSv) (P := fun _ _ vs => StrsAre vs ss)
    plain_rev (args_sorted1 _) (fun _ => args_list_sort _) (fun R hR => ?_) (fun _ _ _ _ => swo_str) (fun h' _ vs hP => ?_) (fun h' tk vs hP h2 h₁ c hb keep => strs_sortable hP h2) (fun h' tk vs out h2 hk hP h1 hb hk2 hat => ?_)
  · refine PySem.W.kdu_collect (A := X.A.in1) (PySem.W.kdl_dict (knd := mixKind X.prog X.w) (kvs := xs') (ep := ep) (d := d) hd) (I.ok.hd hc) hat hz fun h' tk acc hk hacc => hR h' tk _ hk (keys_strs rel hks (by rw [Array.length_toList]; exact hacc.1) fun j v e => hacc.2 j v (by rw [← Array.getElem?_toList]; exact e))
  · rw [hP.length, ← List.length_map (f := (Sum.inr : Str → Key)), ← hks, List.length_map]
    omega
  · obtain ⟨n, hat⟩ := hat
    have isS : ∀ v ∈ out, ∃ x t, v = Value.str x t := fun v hv => StrsAre.all hP v (hb.perm.mem_iff.mp hv)
    have kp : (out.map strOf).Perm ss := by
      have := hb.perm.map strOf
      rwa [if_neg (by decide), strOf_strs hP] at this
    have hlen : ((out.map strOf).map V.str).length ≤ sizeLine := by
      rw [List.length_map, kp.length_eq, ← List.length_map (f := (Sum.inr : Str → Key)), ← hks, List.length_map]
      omega
    have gone : s.heap.get? h'.objs.size = none := by
      cases e : s.heap.get? h'.objs.size with
      | none => rfl
      | some o => exact absurd (Heap.lt_size (hk _ _ e)) (Nat.lt_irrefl _)
    have hn := I.hok.gone gone
    exact ⟨.ref h'.objs.size, upd H h'.objs.size (.lst ((out.map strOf).map V.str)), I.laidN (t' := tk) (fun c o e => hk2 c o (hk c o e)) gone hn ⟨hlen, out, n, vals_of_strs (strsAre_map out isS), hat⟩, rfl, q _ _ kp (srtd_map h1) hn⟩
/-! plain tuples: such of which no attributes are held -/
def Ptp (H : Hp) (a : Addr) (xs : List V) : Prop := ∃ o : Obj, H a = some (.frz o (.tup xs)) ∧ o.dict = none
theorem Ptp.seq {K : PySem.W.Frag} {H : Hp} {a : Addr} {xs : List V} (h : Ptp H a xs) : SqT K H a xs := let ⟨o, e, _⟩ := h; .inl (.inr ⟨o, e⟩)
theorem Ptp.same {H H' : Hp} {a : Addr} {xs : List V} (h : Ptp H a xs) (s : Same H H') : Ptp H' a xs := let ⟨o, e, d⟩ := h; ⟨o, s _ _ e, d⟩
theorem Ptp.ne {H : Hp} {a p : Addr} {xs : List V} (h : Ptp H a xs) (hp : H p = none) : a ≠ p := let ⟨o, e, _⟩ := h; ne_of_none e hp
theorem Ptp.upd {H : Hp} {a p : Addr} {xs : List V} {u : HO} (h : Ptp H a xs) (n : a ≠ p) : Ptp (L2.upd H p u) a xs := let ⟨o, e, d⟩ := h; ⟨o, by rw [upd_ne n]; exact e, d⟩
/-- (a, b, ..), a plain tuple -/
def tTupF (t : TA) : TE := fun σ H Q => t σ H fun xs H1 => xs.length ≤ sizeLine ∧ ∀ p o, H1 p = none → o.dict = none → Q (.ref p) (upd H1 p (.frz o (.tup xs)))
theorem pe_tupF {x1} {es : List Expr} {t : TA} {pos : Pos} (h : PA X es t) : PE X (.Tuple es x1 pos) (tTupF t) := by
  refine ⟨fun pins s σ H Q I hq => ?_⟩
  refine wpAny_Tuple_spliced (thn (h.run pos pins s σ H _ I hq) fun us s1 ⟨xs, H1, I1, r, z, q⟩ => ⟨by rw [← r.length]; exact z, ?_⟩)
  have hf : H1 s1.heap.objs.size = none := I1.hok.fresh (Nat.le_refl _)
  refine ⟨.ref s1.heap.objs.size, _, I1.laid (t' := s1.toks) (fun b u e => Heap.get?_push_of_some _ e) (Nat.le_refl _) ?_, rfl, q _ { cls := .type "tuple", data := .seq us.toArray } hf rfl⟩
  exact ⟨Heap.get?_push_size _ rfl, z, us, r, ⟨_, Heap.get?_push_size _ rfl, rfl, _, rfl⟩⟩
/-- tuple(xs) of a list, a plain tuple -/
theorem call_tupleF : CallR X (.type "tuple") (fun xs H Q => ∃ p ys, xs = [.ref p] ∧ SqL X.K H p ys ∧ ∀ l o, H l = none → o.dict = none → Q (.ref l) (upd H l (.frz o (.tup ys)))) := by
  intro pins s σ H xs us Q I r h
  obtain ⟨p, ys, rfl, hq, q⟩ := h
  obtain ⟨u, rfl, rx⟩ := vals1 r
  cases rx
  obtain ⟨its, r', pl, hz⟩ := I.list hq
  have hlen := r'.length
  refine call_tuple_list pl.isList (fun h' kp => ?_) (by simp only [List.size_toArray] <;> omega)
  have I1 : Inv X pins σ H { s with heap := h' } := I.kept (t' := s.toks) kp
  have I2 : Inv X pins σ (upd H h'.objs.size (.frz _ (.tup ys))) { s with heap := h'.push { cls := .type "tuple", data := .seq its.toArray } } :=
    I1.laid (t' := s.toks) (fun b o e => Heap.get?_push_of_some _ e) (Nat.le_refl _) (show ObjOk X.prog X.w _ _ _ (.frz _ (.tup ys)) from ⟨Heap.get?_push_size _ rfl, hz, its, r', IsTup.new _ _⟩)
  exact ⟨.ref h'.objs.size, _, I2, rfl, q _ _ (I1.hok.fresh (Nat.le_refl _)) rfl⟩
theorem pairs_of2 {pins : List (Addr × Obj)} {σ : St} {H : Hp} {s : Shared} (I : Inv X pins σ H s) : ∀ {ps : List Addr} {kvs : List (Key × V)}, Paired (fun p kv => SqT X.K H p [kV kv.1, kv.2]) ps kvs →
    ∃ (prs : List (Key × Value)) (vps : List (Value × Value)), KV kvs prs ∧ prs.length = ps.length ∧ vps.length = prs.length ∧
      ∀ (j : Nat) (k v : Value), vps[j]? = some (k, v) → ∃ (b : Addr) (q : Key × Value), ps[j]? = some b ∧ prs[j]? = some q ∧ v = q.2 ∧ IsTup s.heap b #[k, v] ∧ keyIs q.1 k = true
  | _, _, .nil => ⟨[], [], .nil, rfl, rfl, fun j k v e => by simp at e⟩
  | _, _, .cons (a := p) (b := kv) h t => by
    obtain ⟨prs, vps, r, hl, hl2, hp⟩ := pairs_of2 I t
    obtain ⟨its, rv, ht, _⟩ := I.tuple h
    obtain ⟨u, y, ei, ru, ry⟩ := vals2 rv
    subst ei
    refine ⟨(kv.1, y) :: prs, (u, y) :: vps, .cons ⟨rfl, ry⟩ r, by rw [List.length_cons, List.length_cons, hl], by rw [List.length_cons, List.length_cons, hl2], fun j k v e => ?_⟩
    cases j with
    | zero =>
      have e' : (u, y) = (k, v) := Option.some.inj e
      cases e'
      exact ⟨p, _, rfl, rfl, rfl, ht, kV_is (P := X.prog) (w := X.w) ru⟩
    | succ j =>
      obtain ⟨b, q, e1, e2, e3⟩ := hp j k v (by simpa using e)
      exact ⟨b, q, by simpa using e1, by simpa using e2, e3⟩
/-- dict(t), t a plain tuple of pairs -/
theorem call_dictPT (hcalm : X.calm = true) : CallR X (.type "dict") (fun xs H Q => ∃ (a : Addr) (ps : List Addr) (kvs : List (Key × V)), xs = [.ref a] ∧ Ptp H a (ps.map V.ref) ∧ Paired (fun p kv => SqT X.K H p [kV kv.1, kv.2]) ps kvs ∧
    ∀ p, H p = none → Q (.ref p) (upd H p (.dK (mergeK [] kvs)))) := by
  intro pins s σ H xs us Q I r q
  obtain ⟨a, ps, kvs, ex, hq, hp, q⟩ := q
  subst ex
  obtain ⟨u, eu, rx⟩ := vals1 r
  subst eu
  cases rx
  obtain ⟨o, ha, hdn⟩ := hq
  obtain ⟨hao, hz, its, rv, o', hao', hc, n, hdat⟩ := (show ObjOk X.prog X.w H s.heap a (.frz o (.tup (ps.map V.ref))) from I.hok a _ ha)
  rw [hao] at hao'
  cases hao'
  have ei := refs_at rv
  subst ei
  rw [List.length_map] at hz
  obtain ⟨prs, vps, rel, hl, hvl, hvp⟩ := pairs_of2 I hp
  have hTs : ∀ j b, ps[j]? = some b → ps.getD j 0 = b := fun j b e => by simp [List.getD, e]
  refine PySem.call_dict_pairs (knd := mixKind X.prog X.w) (kvs := prs) (PairArg.tuple (prog := X.prog) (w := X.w) a (ps.map Value.ref).toArray (fun j => ps.getD j 0) vps) (I.ok.hd hcalm) ⟨⟨o, n, hao, hc, hdn, hdat⟩, ?_, fun j k v e => ?_⟩ ⟨hvl.symm, fun i key v h => ?_⟩ (by rw [hvl, hl]; exact hz) fun h' tk hd' k => ?_
  · simp [hvl, hl]
  · obtain ⟨b, q, e1, e2, e3, e4, e5⟩ := hvp j k v e
    show _ ∧ PairAt s.heap (ps.getD j 0) k v
    rw [hTs j b e1]
    have ed : (List.map Value.ref ps).toArray[j]? = some (Value.ref b) := by simp [e1]
    refine ⟨?_, .inl e4⟩
    show _ = some (Value.ref (ps.getD j 0))
    rw [hTs j b e1]
    exact ed
  · obtain ⟨b, q', e1, e2, e3, e4, e5⟩ := hvp i key v h
    exact ⟨q'.1, by rw [e2, e3], e5⟩
  · have hm : (s.heap.objs.size == sysModules) = false := beq_eq_false_iff_ne.mpr (Nat.ne_of_gt I.big)
    have hlen : (mergeK [] kvs).length ≤ sizeLine := by
      refine Nat.le_trans (length_mergeK kvs []) ?_
      rw [List.length_nil, Nat.zero_add, rel.length, hl]
      exact hz
    exact ⟨.ref s.heap.objs.size, upd H s.heap.objs.size (.dK (mergeK [] kvs)), I.laid (t' := tk) (fun b u e => k b u (by simp) e) (Nat.le_refl _) (show ObjOk X.prog X.w _ _ _ (.dK (mergeK [] kvs)) from ⟨hlen, hm, merged [] prs, KV.merge rel .nil, hd'⟩), rfl, q _ (I.hok.fresh (Nat.le_refl _))⟩
/-- o.f as a target -/
def gFld (K : PySem.W.Frag) (ta : TE) (f : Str) : TG := fun y σ H Q => ta σ H fun x H2 => ∃ a C dx fs, x = .ref a ∧ H2 a = some (.ins C dx fs) ∧ Cls K C ∧ NoAttr K C f ∧ fs.length < 1000 ∧ Q σ (upd H2 a (.ins C dx (putF f y fs)))
theorem pg_fld {o : Expr} {f : Str} {pos : Pos} {ta : TE} (ha : PE X o ta) : PG X (.Attribute o f pos) (gFld X.K ta f) := by
  refine ⟨fun pins s σ H v u Q I r h => ?_⟩
  rw [assign_Attribute]
  refine wpAny_bind (wpAny_holding (thn (ha.run pins s σ H _ I h) fun ov s2 ⟨x, H2, I2, rx, a, C, dx, fs, ex, ea, c, n, l, q2⟩ => ?_))
  subst ex
  obtain rfl : ov = Value.ref a := rx
  refine wpAny_bind (wpAny_standAt (wpAny_bind (wpAny_holding (setattr_ok I2 ea c n l r fun s3 I3 => ?_))))
  exact wpAny_release ⟨σ, _, I3, q2⟩
end
end L2

namespace L2
open PySem PySem.Spec PyProof.Rows SrtO SrtZ
section
variable {X : Cx}
/-- min(d.values()), values ints -/
def rMinV : List V → Hp → VK → Prop := fun vs H Q => ∃ (p d : Addr) (ks : List (Str × Int)), vs = [V.ref p] ∧ H p = some (valuesO p d) ∧ H d = some (.dK (ks.map entZ)) ∧ 0 < ks.length ∧
  ∀ m, m ∈ ks.map (·.2) → (∀ y ∈ ks.map (·.2), m ≤ y) → Q (.int m) H
theorem cr_minV (hc : X.calm = true) : CallR X (.builtin "min") rMinV := by
  intro pins s σ H vs us Q I r h
  obtain ⟨p, d, ks, rfl, hp, ha, hne, q⟩ := h
  obtain rfl := Vals.ref1 r
  have view : s.heap.IsValuesView p d := (show ObjOk X.prog X.w H s.heap p (valuesO p d) from I.hok p _ hp).1
  obtain ⟨z, hd, xs', rel, dd⟩ := dk_of I.hok ha
  obtain ⟨ep, hat⟩ := dd.dictAt
  have l1 : ks.length = xs'.length := by
    have := Paired.length rel
    rwa [List.length_map] at this
  have K := PySem.W.kdl_values (prog := X.prog) (w := X.w) (knd := mixKind X.prog X.w) (kvs := xs') (ep := ep) (r := p) (d := d)
  have hok : s.heap.IsValuesView p d ∧ s.heap.DictAt (mixKind X.prog X.w) d xs' ep := ⟨view, hat⟩
  have hval : ∀ (i : Nat) (v : Value), (∃ k, xs'[i]? = some (k, v)) → ∃ t : Tok, v = Value.int ((ks.map (·.2)).getD i 0) t := fun i v ⟨k, e⟩ => by
    obtain ⟨e', t, e1, e2⟩ := ent_paired rel e
    refine ⟨t, ?_⟩
    have : (ks.map (·.2)).getD i 0 = e'.2 := by simp [List.getD, e1]
    rw [this]
    exact (Prod.mk.inj e2).2
  refine PySem.call_min_walkS ?_
  obtain ⟨oI, St, hit, W, st⟩ := K.iter X.A.in1 s (I.ok.hd hc) hok
  refine hit _ _ ⟨s.heap.objs.size, _, _, _, xs'.length, _, _, fun i j => decide ((ks.map (·.2)).getD i 0 < (ks.map (·.2)).getD j 0), rfl, W.toS, st, fun b hb => ?_, by omega, PySem.CmpOf.ints_lt _ hval, fun v s' hP hm => ?_⟩
  · show b < (s.heap.push oI).objs.size
    rw [size_push']
    rcases List.mem_cons.mp hb with e | hb
    · rw [e]; exact Nat.lt_succ_self _
    · rw [List.mem_singleton.mp hb]; exact Nat.lt_succ_of_lt (K.there _ hok).2
  · have hk : ∀ b o, s.heap.get? b = some o → s'.heap.get? b = some o := fun b o e =>
      hm.heap b o (fun hI => absurd (Heap.lt_size e) (by rw [List.mem_singleton.mp hI]; exact Nat.lt_irrefl _)) (Heap.get?_push_of_some _ e)
    obtain ⟨t, rfl⟩ := hval _ v hP
    obtain ⟨h1, h2⟩ := argBest_lt (fun i => (ks.map (·.2)).getD i 0) (xs'.length - 1)
    have hI : Inv X pins σ H s' := by
      rw [Moved.eq_with hm]
      exact I.kept (t' := s'.toks) hk
    refine ⟨.int _, H, hI, ⟨t, rfl⟩, q _ ?_ fun a ha => ?_⟩
    · exact PySem.getD_mem (by rw [List.length_map]; omega)
    · obtain ⟨j, hj, rfl⟩ := mem_getD ha
      rw [List.length_map] at hj
      exact h2 j (by omega)
end
end L2

namespace L2
open PySem PySem.Spec PyProof.Rows SrtO SrtZ
/-! own rules: (int, text) < (int, text); sorted of a list of texts of any length -/
def ltNZ (i j : Int) (x y : Str) : Bool := if i = j then ltZ x y else decide (i < j)
section
variable {X : Cx}
def rLtNZ (K : PySem.W.Frag) : R2 := fun x y H Q => ∃ (a b : Addr) (i j : Int) (z w : Str), x = .ref a ∧ y = .ref b ∧ SqT K H a [.int i, .str z] ∧ SqT K H b [.int j, .str w] ∧ Q (.bl (ltNZ i j z w)) H
theorem op_ltNZ (hu : X.A.units < cLine) : OpR X (compareOp .Lt) (rLtNZ X.K) := by
  intro pins s σ H x y v u Q I rx ry h
  obtain ⟨a, b, i, j, z, w, rfl, rfl, ha, hb, q⟩ := h
  cases rx
  cases ry
  obtain ⟨its, r1, p1, _⟩ := I.tuple ha
  obtain ⟨its2, r2, p2, _⟩ := I.tuple hb
  obtain ⟨u1, u2, rfl, ri, rj⟩ := vals2 r1
  obtain ⟨w1, w2, rfl, si, sj⟩ := vals2 r2
  obtain ⟨t1, rfl⟩ := ri
  obtain ⟨t2, rfl⟩ := rj
  obtain ⟨t3, rfl⟩ := si
  obtain ⟨t4, rfl⟩ := sj
  have R := Ob.RcOp.tuples_lt (A := X.A) (s := s) (e := fun k => match k with | 0 => (i == j) | _ => (z == w)) (r := fun k => match k with | 0 => decide (i < j) | _ => ltZ z w) p1 p2 hu (fun k h1 h2 => by
    match k, h1, h2 with
    | 0, _, _ => exact SeqAt.EqAt.int_int _ _ _ _
    | 1, _, _ => exact SeqAt.EqAt.str_str _ _ _ _
    | k + 2, h1, _ => exact absurd h1 (by simp)) (fun k h1 h2 _ => by
    match k, h1, h2 with
    | 0, _, _ => exact Ob.RcOp.lt_int _ _ _ _
    | 1, _, _ => exact fun _ _ _ _ h => PyProof.Rows.lt_str h
    | k + 2, h1, _ => exact absurd h1 (by simp))
  have e : Ob.lexAt (fun k => match k with | 0 => (i == j) | _ => (z == w)) (fun k => match k with | 0 => decide (i < j) | _ => ltZ z w) (decide (2 < 2)) 0 2 = ltNZ i j z w := by
    unfold ltNZ
    rw [Ob.lexAt_succ, Ob.lexAt_succ, Ob.lexAt_zero]
    show (if (i == j) = true then (if (z == w) = true then decide (2 < 2) else ltZ z w) else decide (i < j)) = _
    by_cases h1 : i = j
    · rw [if_pos (beq_iff_eq.mpr h1), if_pos h1]
      by_cases h2 : z = w
      · rw [if_pos (by rw [h2]; exact beq_self_eq_true w), h2, ltZ_irr]
        rfl
      · rw [if_neg (fun q => h2 (eq_of_beq q))]
    · rw [if_neg (fun q => h1 (eq_of_beq q)), if_neg h1]
  have R' : Ob.RcOp .Lt X.A s (.ref a) (.ref b) (ltNZ i j z w) := by
    rw [← e]
    exact R
  exact R' X.prog X.w X.xe (EP X pins σ Q) ⟨.bl _, H, I, rfl, q⟩
/-- sorted(xs), xs a list of texts of any length -/
def rSortedSL (K : PySem.W.Frag) : List V → Hp → VK → Prop := fun vs H Q => ∃ (a : Addr) (xs : List Str), vs = [V.ref a] ∧ SqL K H a (xs.map V.str) ∧ ∀ (ys : List Str) (p : Addr), ys.Perm xs → Srtd ltZ ys → H p = none → Q (.ref p) (upd H p (.lst (ys.map V.str)))
theorem cr_sortedSL : CallR X (.builtin "sorted") (rSortedSL X.K) := by
  intro pins s σ H vs us Q I r h
  obtain ⟨a, xs, rfl, hs, q⟩ := h
  obtain ⟨its, rv, hl, hz⟩ := I.list hs
  obtain rfl := Vals.ref1 r
  have hI : StrsAre its xs := strs_of_vals rv
  rw [List.length_map] at hz
  have il : its.length = xs.length := hI.length
  refine SrtO.sorted_ord (ltv := ltSv) ⟨fun x y => swo_str.asym _ _, fun x y z => swo_str.tr _ _ _⟩ hl.isList (by rw [il]; exact hz) (fun h2 h₁ b hb kk => strs_sortable (s := { s with heap := h₁ }) hI h2) fun out h1 h2 => ?_
  obtain ⟨ep, he'⟩ := PyProof.Rows.sortedAll_at s.heap its out.toArray
  have isO : ∀ v ∈ out, ∃ x t, v = Value.str x t := fun v hv => hI.all v (h2.perm.mem_iff.mp hv)
  have hO := strsAre_map out isO
  have pt : (out.map strOf).Perm xs := by
    have := h2.perm.map strOf
    rwa [show its.map strOf = xs from hI.strs] at this
  have hlen : ((out.map strOf).map V.str).length ≤ sizeLine := by rw [List.length_map, pt.length_eq]; exact hz
  refine ⟨.ref _, upd H (s.heap.objs.size + 1) (.lst ((out.map strOf).map V.str)), I.laid (t' := s.toks) (fun _ _ => PyProof.Rows.sortedAll_old) (Nat.le_succ _) ⟨hlen, out, ep, vals_of_strs hO, he'⟩, rfl, q _ _ pt (srtd_map h1) (I.hok.fresh (Nat.le_succ _))⟩
end
end L2

namespace L2
open PySem PySem.Spec PyProof.Rows
section
variable {X : Cx}
/-- name = {.. for ..} on one line, the name a local -/
theorem ps_setDc {i : Nat} {y : Str} {py : Pos} {kx vx tg iter : Expr} {ifs : List Expr} {scope : Scope} {own : List (Str × Nat)} {pos spos : Pos} {wi : TI} {g : TG} {tt : TT} {tk tv : TE} (hc : X.calm = true) (hN : X.N.Nodup) (hy : X.N[i]? = some y) (hyl : X.env.scope.names.lookup y = some .local)
    (hsw : swapsWith (.DictComp kx vx [⟨tg, iter, ifs, 0⟩] scope pos) (some (.Name y py)) spos.line X.env = pure true) (hi : PI X tg iter wi) (ok : BlkOk X.N X.env.scope scope own)
    (hg : ∀ (s : Shared) (H : Hp) (C : Addr) (cl : List (Str × Addr)) (fp : List Addr), PG (X.blk s H scope (compEnvC scope cl C X.env) fp) tg g) (ht : ∀ (s : Shared) (H : Hp) (C : Addr) (cl : List (Str × Addr)) (fp : List Addr), PTs (X.blk s H scope (compEnvC scope cl C X.env) fp) ifs tt)
    (hk : ∀ (s : Shared) (H : Hp) (C : Addr) (cl : List (Str × Addr)) (fp : List Addr), PE (X.blk s H scope (compEnvC scope cl C X.env) fp) kx tk)
    (he : ∀ (s : Shared) (H : Hp) (C : Addr) (cl : List (Str × Addr)) (fp : List Addr), PE (X.blk s H scope (compEnvC scope cl C X.env) fp) vx tv) (hs : ∀ x, foldedSetIterable iter X.env x = pure x := by intro _; rfl) :
    PS X (.Assign [.Name y py] (.DictComp kx vx [⟨tg, iter, ifs, 0⟩] scope pos) spos) (tAsg (tDc wi g tt tk tv (own.map (·.2))) (gName i)) := by
  refine ⟨fun pins s σ H D I h => ?_⟩
  rw [exec_Assign_Name_used _ _ _ _ hsw]
  refine wpAny_bind (wpAny_standAt (wpAny_bind ?_))
  show wpAny _ X.A (do let _ ← comprehension (.DictComp kx vx [⟨tg, iter, ifs, 0⟩] scope pos) scope X.env (firstIterPos [⟨tg, iter, ifs, 0⟩] pos) newDict false (eval iter X.env) (some (assign (.Name y py) X.env))) _ _ s
  have h : tDc wi g tt tk tv (own.map (·.2)) σ H (fun x H1 => gName i x σ H1 D.nx) := h
  refine wpAny_bind (thn (dc_core (Qf := fun _ s' => SP X pins D .next s') hc hN I hi ok hg ht hk he hs h fun L C s' m H' I' q hn f => ?_) fun _ s' hq => wpAny_pure (wpAny_pure hq))
  show wpAny _ _ (assign (.Name y py) X.env (.ref L)) _ _ _
  refine wpAny_assign_Name (store_ok2 (v := V.ref L) I' hN hy (.inl hyl) rfl (fun s2 I2 ⟨a, sb, ha⟩ => ?_) (.inr hyl))
  obtain ⟨f0, f1, f2, f3, f4, f5⟩ := f
  have haC : C ≠ a := by
    rcases ha with z | z
    · rw [z]; exact f1
    · exact fun e => f4 y a z e.symm
  refine ⟨m, hn.sameBut sb haC, fun h3 sb3 => ?_⟩
  exact ⟨_, H', I2.turned (t' := s2.toks) (fun b o hb e => (sb3.2 b hb).trans e) f0 f1 f3 f4 f5, q⟩
theorem sw_trueD {kx vx : Expr} {gs : List Comprehension} {scope : Scope} {pos py : Pos} {y : Str} {l : Nat} {env : Env} (hk : env.scope.kind = .function) (hy : env.scope.names.lookup y = some .local) (hl : (py.line == pos.line) = true)
    (ha : (scope.names.any fun (n, k) => n == y && (k == .local || k == .cell)) = false) : swapsWith (.DictComp kx vx gs scope pos) (some (.Name y py)) l env = pure true := by
  have ky : env.kindOf y = some .local := hy
  have hb : env.blockKind = .function := by unfold Env.blockKind; rw [hk]; rfl
  unfold swapsWith
  simp only [hb, ky, ha, Expr.pos, hl]
  rfl
/-- list.count of a text among texts -/
def rCntS (K : PySem.W.Frag) : V → List V → Hp → VK → Prop := fun x xs H Q => ∃ (p : Addr) (ns : List Str) (k : Str), x = .ref p ∧ xs = [.str k] ∧ SqL K H p (ns.map V.str) ∧ Q (.int (ns.count k : Nat)) H
theorem countS_in (k : Str) : ∀ ns : List Str, PySem.Spec.countIn (.str k) (ns.map PyData.str) = (ns.count k : Nat)
  | [] => rfl
  | n :: r => by
    rw [List.map_cons, PySem.Spec.countIn, countS_in k r, List.count_cons]
    simp only [PySem.Spec.same]
    rcases Bool.eq_false_or_eq_true (n == k) with hb | hb <;> simp only [hb, Bool.false_eq_true, if_true, if_false] <;> push_cast <;> omega
theorem mt_lcountS : MtR X "list.count" (rCntS X.K) := by
  intro pins s σ H x xs v us Q I rx rxs h
  obtain ⟨p, ns, k, rfl, rfl, hs, q⟩ := h
  cases rx
  obtain ⟨u, rfl, ru⟩ := rxs.one
  obtain ⟨t, rfl⟩ := ru
  obtain ⟨its, rv, pl, hlen⟩ := I.list hs
  refine count_list_strs (vs := its) pl.isList (strs_of_vals rv) ?_
  rw [countS_in]
  exact ⟨.int (ns.count k : Nat), H, I.tok _, ⟨s.toks, rfl⟩, q⟩
/-- a method within a comprehension: the written part by name -/
theorem pe_bmK {K : PySem.W.Frag} {o e : Expr} {es : List Expr} {to : TE} {t : TA} {name : Str} {apos cpos : Pos} {T id : String} {r : V → List V → Hp → VK → Prop} (pa : PlainAttrs T) (slot : Slot T name id) (hty : typeOf (.builtin id) = pure (.type "method_descriptor")) (hm : MtR X id r) (ho : PE X o to) (ha : PA X (e :: es) t) (hK : X.K = K := by rfl)
    (hbase : attributeBase o name X.env (eval o X.env) = eval o X.env := by rfl)
    (hfew : ((backTo cpos (starEach (e :: es) X.env)).all (fun x => !x.1) && (backToKw cpos (keywordEach [] X.env)).all (fun x => x.1.isSome)
      && decide ((e :: es).length + ([] : List Keyword).length + (if ([] : List Keyword).isEmpty then 0 else 1) < 30)) = true := by rfl)
    (hline : (apos.endLine == cpos.line) = true := by rfl) (hs : starEach (e :: es) X.env = (false, eval e X.env) :: starEach es X.env := by rfl) (hplain : (backTo cpos (starEach es X.env)).any (·.1) = false := by rfl) :
    PE X (.Call (.Attribute o name apos) (e :: es) [] cpos) (tBM K T r to t) := by
  subst hK
  exact pe_bm pa slot hty hm ho ha hbase hfew hline hs hplain
end
end L2

/-! plain tuples: slices of them, their sums, turned round -/
namespace L2
open PySem PySem.Spec PyProof.Rows HT
section
variable {prog : Program} {w : World} {A : Around} {E : Value → Shared → Prop} {s : Shared}
theorem rev_places (n : Nat) : Builtin.Slice.slicePlaces ((n : Int) - 1) (-1) (-1) = n := by
  unfold Builtin.Slice.slicePlaces
  have h1 : ¬ ((-1 : Int) > 0) := by decide
  simp only [h1, if_false, show (- -1 : Int) = 1 by decide, Int.ediv_one]
  split <;> omega
theorem rev_adjust (n : Nat) : Builtin.Slice.sliceAdjust none none (-1) (n : Int) = ((n : Int) - 1, -1) := by
  unfold Builtin.Slice.sliceAdjust
  simp
theorem sliceApplied_rev {sl : Addr} {vs : Value} {n : Nat} {Q : Int × Int × Nat → Shared → Prop} (hs : s.heap.IsSliceOf sl .none .none vs) (ps : IsPart vs (some (-1)))
    (h : Q (((n : Int) - 1), -1, n) s) : wpAny (model prog w) A (Builtin.Slice.sliceApplied (.ref sl) (pure (n : Int))) Q E s := by
  obtain ⟨os, hos, hcs, hds⟩ := id hs
  unfold Builtin.Slice.sliceApplied Builtin.Slice.sliceFields
  refine wpAny_bind (wpAny_bind (wpAny_field hos hds (x := .none) rfl (wpAny_bind (wpAny_field hos hds (x := .none) rfl (wpAny_bind (wpAny_field hos hds (x := vs) rfl (wpAny_pure ?_)))))))
  refine wpAny_bind (slicePart_ ps ?_)
  show wpAny _ _ (if ((-1 : Int) == 0) = true then _ else _) _ _ s
  rw [if_neg (by decide)]
  refine wpAny_bind (slicePart_none (wpAny_bind (slicePart_none (wpAny_bind (wpAny_pure ?_)))))
  show wpAny _ _ (match Builtin.Slice.sliceAdjust none none (-1) (n : Int) with | (lo, hi) => pure (lo, (-1 : Int), Builtin.Slice.slicePlaces lo hi (-1))) _ _ s
  rw [rev_adjust]
  show wpAny _ _ (pure (((n : Int) - 1), (-1 : Int), Builtin.Slice.slicePlaces ((n : Int) - 1) (-1) (-1))) _ _ s
  rw [rev_places]
  exact wpAny_pure h
theorem fm_congr {α β : Type} {f g : α → Option β} : ∀ {l : List α}, (∀ x ∈ l, f x = g x) → l.filterMap f = l.filterMap g
  | [], _ => rfl
  | x :: l, h => by
    rw [List.filterMap_cons, List.filterMap_cons, h x List.mem_cons_self, fm_congr (l := l) fun y hy => h y (List.mem_cons_of_mem _ hy)]
theorem same_fresh {H : Hp} {p : Addr} {u : HO} (h : H p = none) : Same H (upd H p u) := fun b o e => by
  rw [upd_ne (ne_of_none e h)]
  exact e
theorem rev_pick (xs : Array Value) : ((List.range xs.size).filterMap fun (m : Nat) => xs[(((xs.size : Nat) : Int) - 1 + (m : Int) * (-1)).toNat]?).toArray = xs.toList.reverse.toArray := by
  have e1 : ((List.range xs.size).filterMap fun (m : Nat) => xs[(((xs.size : Nat) : Int) - 1 + (m : Int) * (-1)).toNat]?) = (List.range xs.size).filterMap fun (m : Nat) => xs[xs.size - 1 - m]? := by
    refine fm_congr fun m hm => ?_
    have := List.mem_range.mp hm
    rw [show (((xs.size : Nat) : Int) - 1 + (m : Int) * (-1)).toNat = xs.size - 1 - m by omega]
  rw [e1]
  have e2 : ((List.range xs.size).filterMap fun (m : Nat) => xs[xs.size - 1 - m]?) = ((List.range xs.size).map fun k => xs.size - 1 - k).filterMap (xs[·]?) := by
    rw [List.filterMap_map]
    rfl
  rw [e2, PySem.W.krv_range, List.filterMap_reverse, PySem.W.krv_all]
/-- t[::-1] makes a new tuple: the slice is never the whole, for its step is -1 -/
theorem getItem_tuple_rev {t sl : Addr} {its : Array Value} {step : Value} {Q : Value → Shared → Prop} (isT : IsTup s.heap t its) (isSl : s.heap.IsSliceOf sl .none .none step) (minus : IsPart step (some (-1)))
    (q : Q (.ref s.heap.objs.size) { s with heap := s.heap.push { cls := .type "tuple", data := .seq its.toList.reverse.toArray } }) (small : its.size ≤ sizeLine) : wpAny (model prog w) A (getItem (.ref t) (.ref sl)) Q E s := by
  have fits : sizeOk (.seq its.toList.reverse.toArray) := by
    show its.toList.reverse.toArray.size ≤ _
    simpa using small
  have tySl : s.TypeIs (.ref sl) "slice" := let ⟨o, g, c, _⟩ := isSl; ⟨o, g, c⟩
  have notWhole : (((((its.size : Nat) : Int) - 1) == 0 && (-1 : Int) == 1) && its.size == its.size) = false := by simp
  unfold getItem
  try with_reducible refine wpAny_holding ?_
  try refine wpAny_bind (wpAny_pure ?_)
  refine wpAny_bind (wpAny_sequenceKey isT.typeIs (by decide) (wpAny_bind (wpAny_callSpecial?_slot (name := Str.ofString "__getitem__") isT.typeIs PyProof.Rows.slot_tuple_getitem (wpAny_call_entry PyProof.Rows.slot_tuple_getitem isT.typeIs entry_tuple_getitem ?_ (args_tuple_getitem _ _)))))
  show wpAny _ _ (Builtin.Tuple.tupleItemsOf (.ref t) >>= _) _ _ s
  refine wpAny_bind (tupleItemsOf_ isT (wpAny_bind (wpAny_typeOf tySl ?_)))
  rw [if_pos (by decide)]
  refine wpAny_bind (sliceApplied_rev isSl minus ?_)
  show wpAny _ _ (if ((((its.size : Nat) : Int) - 1) == 0 && (-1 : Int) == 1 && its.size == its.size) = true then _ else _) _ _ s
  rw [notWhole, if_neg (by decide), rev_pick]
  first
    | exact wpAny_bind (m := Builtin.Tuple.tupleExact _) (wpAny_newObj_type (wpAny_pure ⟨_, rfl, wpAny_pure q⟩) fits)
    | exact wpAny_bind (wpAny_bind (m := Builtin.Tuple.tupleExact _) (wpAny_newObj_type (wpAny_pure (wpAny_pure ⟨_, rfl, wpAny_pure q⟩)) fits))
    | exact wpAny_bind (wpAny_bind (m := Builtin.Tuple.tupleExact _) (wpAny_newObj_type (wpAny_pure ⟨_, rfl, wpAny_pure q⟩) fits))
end
section
variable {X : Cx}
/-- t[::-1], a plain tuple -/
def tRevP (K : PySem.W.Frag) (te : TE) : TE := fun σ H Q => te σ H fun x H1 => ∃ a xs, x = .ref a ∧ SqT K H1 a xs ∧ ∀ p H', Same H1 H' → Ptp H' p xs.reverse → Q (.ref p) H'
theorem pe_revP {e : Expr} {te : TE} {k : Nat} {p1 p2 p3 pos : Pos} (he : PE X e te) : PE X (.Subscript e (.Slice none none (some (.UnaryOp .USub (.Constant (.int 1) k p1) p2)) p3) pos) (tRevP X.K te) := by
  refine ⟨fun pins s σ H Q I h => ?_⟩
  refine Subscript_ (thn (he.run pins s σ H _ I h) fun v s1 ⟨x, H1, I1, r1, q1⟩ => ?_)
  obtain ⟨a, xs, ex, hx, q⟩ := q1
  subst ex
  cases r1
  have hst : PO X (some (.UnaryOp .USub (.Constant (.int 1) k p1) p2)) (tPart (tUn (rU fun i => .int (-i)) (tC (.int 1)))) := po_some (pe_un un_neg pe_int)
  refine wpAny_Slice (thn (po_none.run pins s1 σ H1 (fun o H2 => o = none ∧ H2 = H1) I1 ⟨rfl, rfl⟩) fun vl s2 ⟨l, H2, I2, pl, el, e2⟩ => ?_)
  subst el e2
  refine thn (po_none.run pins s2 σ H2 (fun o H3 => o = none ∧ H3 = H2) I2 ⟨rfl, rfl⟩) fun vu s3 ⟨u, H3, I3, pu, eu, e3⟩ => ?_
  subst eu e3
  refine thn (hst.run pins s3 σ H3 (fun o H4 => o = some (-1) ∧ H4 = H3) I3 ⟨1, rfl, -1, rfl, rfl, rfl⟩) fun vs s4 ⟨o, H4, I4, ps, eo, e4⟩ => ?_
  subst eo e4
  cases pl
  cases pu
  have I5 : Inv X pins σ H4 { s4 with heap := s4.heap.push { cls := .type "slice", data := .fields #[.none, .none, vs] } } := I4.kept (t' := s4.toks) fun b ob q => Heap.get?_push_of_some _ q
  obtain ⟨its, r, ht, hz⟩ := I5.tuple hx
  have hlen := r.length
  show wpAny (model X.prog X.w) X.A (subscriptTail e (.Slice none none (some (.UnaryOp .USub (.Constant (.int 1) k p1) p2)) p3) (.ref a) (.ref s4.heap.objs.size)) (EP X pins σ Q) X.xe { s4 with heap := s4.heap.push { cls := .type "slice", data := .fields #[.none, .none, vs] } }
  refine tail_any (ops := [.ref a, .ref s4.heap.objs.size]) ht.typeIs (PyProof.Rows.slot_tuple_getitem.lookup) ?_ (by with_unfolding_all rfl)
  refine getItem_tuple_rev ht (Heap.IsSliceOf.new _ .none .none vs) ps ?_ (by rw [List.size_toArray]; omega)
  have hf := I5.hok.fresh (Nat.le_refl _)
  refine ⟨.ref _, _, I5.laid (t' := s4.toks) (o := .frz { cls := .type "tuple", data := .seq its.reverse.toArray } (.tup xs.reverse)) (fun b ob q => Heap.get?_push_of_some _ q) (Nat.le_refl _) ?_, rfl, q _ _ (same_fresh hf) ⟨_, upd_same, rfl⟩⟩
  exact ⟨Heap.get?_push_size _ rfl, by rw [List.length_reverse]; exact hz, _, r.reverse, ⟨_, Heap.get?_push_size _ rfl, rfl, _, rfl⟩⟩
/-- t[lo:hi], t a plain tuple: a plain tuple -/
def rSlP (K : PySem.W.Frag) : V → Option Int → Option Int → Hp → VK → Prop := fun x lo hi H Q => ∃ a xs, x = .ref a ∧ Ptp H a xs ∧ ∀ p H', Same H H' → Ptp H' p (cutV xs lo hi) → Q (.ref p) H'
theorem cutV_whole {xs : List V} {lo hi : Option Int} (h : HT.sIx xs.length 0 lo = 0 ∧ HT.sIx xs.length xs.length hi = xs.length) : cutV xs lo hi = xs := by
  unfold cutV
  rw [h.1, h.2, List.drop_zero, Nat.sub_zero, List.take_length]
theorem sl_tupP : SlR X (rSlP X.K) := by
  intro pins s σ H x v vl vu lo hi sl Q I rx hs pl pu h
  obtain ⟨a, xs, rfl, hx, q⟩ := h
  by_cases hw : HT.sIx xs.length 0 lo = 0 ∧ HT.sIx xs.length xs.length hi = xs.length
  · exact sl_tupA pins s σ H _ v vl vu lo hi sl Q I rx hs pl pu ⟨a, xs, rfl, hx.seq, fun _ => q a H (Same.refl H) (by rw [cutV_whole hw]; exact hx), fun n => absurd hw n⟩
  · cases rx
    obtain ⟨its, r, ht, hz⟩ := I.tuple hx.seq
    have hlen : its.toArray.size = xs.length := by rw [List.size_toArray]; exact r.length.symm
    refine ⟨"tuple", _, PyProof.Rows.slot_tuple_getitem.lookup, ht.typeIs, ?_⟩
    refine HT.getItem_tuple_cut ht hs pl pu (by rw [hlen]; exact hw) ?_ (by rw [hlen]; exact hz)
    rw [hlen]
    have hf := I.hok.fresh (Nat.le_refl _)
    refine ⟨.ref s.heap.objs.size, _, I.laid (t' := s.toks) (o := .frz { cls := .type "tuple", data := .seq ((its.drop (HT.sIx xs.length 0 lo)).take (HT.sIx xs.length xs.length hi - HT.sIx xs.length 0 lo)).toArray } (.tup (cutV xs lo hi))) (fun b ob q => Heap.get?_push_of_some _ q) (Nat.le_refl _) ?_, rfl, q _ _ (same_fresh hf) ⟨_, upd_same, rfl⟩⟩
    exact ⟨Heap.get?_push_size _ rfl, Nat.le_trans (cutV_length xs lo hi) hz, _, (r.drop (HT.sIx xs.length 0 lo)).take (HT.sIx xs.length xs.length hi - HT.sIx xs.length 0 lo), ⟨_, Heap.get?_push_size _ rfl, rfl, _, rfl⟩⟩
/-- t + u, plain tuples: a plain tuple -/
def rCatP (K : PySem.W.Frag) : R2 := fun x y H Q => ∃ a b xs ys, x = .ref a ∧ y = .ref b ∧ Ptp H a xs ∧ Ptp H b ys ∧ xs.length + ys.length ≤ sizeLine ∧ ∀ p H', Same H H' → Ptp H' p (xs ++ ys) → Q (.ref p) H'
theorem op_catP : OpR X (binaryOp .Add) (rCatP X.K) := by
  intro pins s σ H x y v u Q I rx ry h
  obtain ⟨a, b, xs, ys, rfl, rfl, ha, hb, hz, q⟩ := h
  by_cases hx : xs = []
  · subst hx
    exact op_catA pins s σ H _ _ v u Q I rx ry ⟨a, b, [], ys, rfl, rfl, ha.seq, hb.seq, hz, fun _ => q b H (Same.refl H) hb, fun n => absurd rfl n, fun n => absurd rfl n⟩
  · cases rx
    cases ry
    obtain ⟨its, r1, p1, _⟩ := I.tuple ha.seq
    obtain ⟨its2, r2, p2, _⟩ := I.tuple hb.seq
    refine HT.cat_tup p1 p2 (fun z => hx (r1.nil_iff.mp z)) (fun z => ⟨.ref a, H, I, rfl, q a H (Same.refl H) (by rw [r2.nil_iff.mp z, List.append_nil]; exact ha)⟩) (fun z => ?_) (by rw [← r1.length, ← r2.length]; exact hz)
    have hf := I.hok.fresh (Nat.le_refl _)
    refine ⟨.ref s.heap.objs.size, _, I.laid (t' := s.toks) (o := .frz { cls := .type "tuple", data := .seq (its ++ its2).toArray } (.tup (xs ++ ys))) (fun b ob q => Heap.get?_push_of_some _ q) (Nat.le_refl _) ?_, rfl, q _ _ (same_fresh hf) ⟨_, upd_same, rfl⟩⟩
    exact ⟨Heap.get?_push_size _ rfl, by rw [List.length_append]; exact hz, _, r1.append r2, ⟨_, Heap.get?_push_size _ rfl, rfl, _, rfl⟩⟩
end
end L2

namespace PySem.SeqAt
open Builtin
open AutoSeq1 (wpAny_loadPart')
/-! a dict is no text and no tuple -/
theorem dict_no_str (l : Addr) (es : Array DictEntry) (n : Nat) (dd : Option Addr) (sl : Array (Option Value)) (i : Str) (u : Tok) :
    Meets (Builtin.«dict.__eq__» ⟨[.ref l, .str i u], []⟩) (fun _ R s => s.heap.get? l = some { cls := .type "dict", dict := dd, data := .dict es n, slots := sl } ∧ R (.ok (.ret .notImplemented)) s) := by
  refine .of_wp fun prog w A R s h => ?_
  obtain ⟨hp, g, d, tk, os⟩ := s
  obtain ⟨hl, h⟩ := h
  have f1 := F.sub_str_dict
  wp_walk using wpAny_loadPart' hl
  exact ⟨_, rfl, h⟩
theorem str_no_dict (l : Addr) (es : Array DictEntry) (n : Nat) (dd : Option Addr) (sl : Array (Option Value)) (i : Str) (u : Tok) :
    Meets (Builtin.«str.__eq__» ⟨[.str i u, .ref l], []⟩) (fun _ R s => s.heap.get? l = some { cls := .type "dict", dict := dd, data := .dict es n, slots := sl } ∧ R (.ok (.ret .notImplemented)) s) := by
  refine .of_wp fun prog w A R s h => ?_
  obtain ⟨hp, g, d, tk, os⟩ := s
  obtain ⟨hl, h⟩ := h
  wp_walk using wpAny_loadPart' hl, wpAny_load hl
  exact ⟨_, rfl, h⟩
theorem dict_no_tuple (l b : Addr) (es : Array DictEntry) (items2 : Array Value) (n n2 : Nat) (dd dd2 : Option Addr) (sl sl2 : Array (Option Value)) :
    Meets (Builtin.«dict.__eq__» ⟨[.ref l, .ref b], []⟩) (fun _ R s => s.heap.get? l = some { cls := .type "dict", dict := dd, data := .dict es n, slots := sl } ∧ s.heap.get? b = some { cls := .type "tuple", dict := dd2, data := .seq items2 n2, slots := sl2 } ∧ R (.ok (.ret .notImplemented)) s) := by
  refine .of_wp fun prog w A R s h => ?_
  obtain ⟨hp, g, d, tk, os⟩ := s
  obtain ⟨hl, hb, h⟩ := h
  have f1 := F.sub_tuple_dict
  wp_walk using wpAny_loadPart' hl, wpAny_loadPart' hb
  exact ⟨_, rfl, h⟩
theorem tuple_no_dict (l b : Addr) (items : Array Value) (es : Array DictEntry) (n n2 : Nat) (dd dd2 : Option Addr) (sl sl2 : Array (Option Value)) :
    Meets (Builtin.«tuple.__eq__» ⟨[.ref l, .ref b], []⟩) (fun _ R s => s.heap.get? l = some { cls := .type "tuple", dict := dd, data := .seq items n, slots := sl } ∧ s.heap.get? b = some { cls := .type "dict", dict := dd2, data := .dict es n2, slots := sl2 } ∧ R (.ok (.ret .notImplemented)) s) := by
  refine .of_wp fun prog w A R s h => ?_
  obtain ⟨hp, g, d, tk, os⟩ := s
  obtain ⟨hl, hb, h⟩ := h
  have f1 := F.sub_dict_tuple
  wp_walk using wpAny_loadPart' hl, wpAny_loadPart' hb
  exact ⟨_, rfl, h⟩
section
variable {A : Around} {s : Shared}
theorem RcAt.dict_str {l : Addr} {es : Array DictEntry} {n : Nat} {dd : Option Addr} {sl : Array (Option Value)} (b : Str) (u : Tok) (ho : s.heap.get? l = some { cls := .type "dict", dict := dd, data := .dict es n, slots := sl }) (hu : A.units < cLine) : RcAt A s (.ref l) (.str b u) false := fun prog w E Q h =>
  rc_eq_decline_or (k := false) ⟨_, ho, rfl⟩ (typeIs_str s b u) (by decide) F.sub_str_dict F.slot_dict_eq F.slot_str_eq_refl
    (fun _ hq => call_meets F.slot_dict_eq ⟨_, ho, rfl⟩ F.entry_dict_eq (F.args_dict_eq_2 _ _) (dict_no_str l es n dd sl b u) ⟨ho, hq⟩)
    (fun _ hq => call_meets F.slot_str_eq_refl (typeIs_str s b u) F.entry_str_eq (F.args_str_eq_2 _ _) (str_no_dict l es n dd sl b u) ⟨ho, hq⟩)
    (fun _ hq => wpAny_of_eq (rfl : isSame (.ref l) (.str b u) = pure false) hq) (.inr hu) h
theorem EqAt.dict_str {l : Addr} {es : Array DictEntry} {n : Nat} {dd : Option Addr} {sl : Array (Option Value)} (b : Str) (u : Tok) (ho : s.heap.get? l = some { cls := .type "dict", dict := dd, data := .dict es n, slots := sl }) (hu : A.units < cLine) : EqAt A s (.ref l) (.str b u) false := fun prog w E Q h => by
  unfold eqBool
  refine wpAny_holding ?_
  refine wpAny_ite_split (fun hab => absurd (eq_of_beq hab) nofun) (fun _ => ?_)
  exact wpAny_bind (RcAt.dict_str b u ho hu prog w E _ (wpAny_truthy_bool h))
theorem RcAt.dict_tuple {l b : Addr} {es : Array DictEntry} {n : Nat} {dd : Option Addr} {sl : Array (Option Value)} {items2 : Array Value} (ho : s.heap.get? l = some { cls := .type "dict", dict := dd, data := .dict es n, slots := sl }) (hb : s.heap.IsTuple b items2) (hu : A.units < cLine) : RcAt A s (.ref l) (.ref b) false := fun prog w E Q h => by
  obtain ⟨⟨cls2, dd2, data2, sl2⟩, ho2, hc2, n2, hd2⟩ := id hb
  simp only at hc2 hd2
  subst hc2 hd2
  have hne : l ≠ b := fun e => by
    subst e
    rw [ho] at ho2
    exact absurd ho2 (by simp)
  exact (rc_eq_decline_or (k := false) ⟨_, ho, rfl⟩ ⟨_, ho2, rfl⟩ (by decide) F.sub_tuple_dict F.slot_dict_eq F.slot_tuple_eq_refl
    (fun _ hq => call_meets F.slot_dict_eq ⟨_, ho, rfl⟩ F.entry_dict_eq (F.args_dict_eq_2 _ _) (dict_no_tuple l b es items2 n n2 dd dd2 sl sl2) ⟨ho, ho2, hq⟩)
    (fun _ hq => call_meets F.slot_tuple_eq_refl ⟨_, ho2, rfl⟩ F.entry_tuple_eq (F.args_tuple_eq_2 _ _) (tuple_no_dict b l items2 es n2 n dd2 dd sl2 sl) ⟨ho2, ho, hq⟩)
    (fun _ hq => wpAny_isSame_ref_other hne ho ho2 (by simp) hq) (.inr hu) h)
end
end PySem.SeqAt
namespace L2
open PySem PySem.Spec PyProof.Rows Builtin
variable {X : Cx} {pins : List (Addr × Obj)} {σ : St} {H : Hp} {s : Shared}
/-! anything against a text -/
def EqS (K : PySem.W.Frag) (H : Hp) (x : V) (z : Str) (c : Bool) : Prop :=
  (x = .non ∧ c = false) ∨ (∃ i, x = .int i ∧ c = false) ∨ (∃ b, x = .bl b ∧ c = false) ∨ (∃ y, x = .str y ∧ c = decide (y = z)) ∨
  ∃ a, x = .ref a ∧ c = false ∧ ((∃ xs, SqL K H a xs) ∨ (∃ xs, SqT K H a xs) ∨ ∃ k, H a = some (.dK k))
theorem dict_at (I : Inv X pins σ H s) {a : Addr} {k : List (Key × V)} (e : H a = some (.dK k)) : ∃ es n dd sl, s.heap.get? a = some { cls := .type "dict", dict := dd, data := .dict es n, slots := sl } := by
  obtain ⟨_, low, vs, _, dd⟩ := (show ObjOk X.prog X.w H s.heap a (.dK k) from I.hok a _ e)
  obtain ⟨o, es, n, ho, shape, r⟩ := dd
  obtain ⟨cls, dct, data, sl⟩ := o
  obtain ⟨c1, c2, c3⟩ := shape
  obtain ⟨c4, _⟩ := r
  simp only at c1 c4
  subst c1 c4
  exact ⟨es, n, dct, sl, ho⟩
theorem str_dec (y z : Str) : (y == z) = decide (y = z) := by
  by_cases h : y = z
  · rw [decide_eq_true h, h]
    exact beq_self_eq_true z
  · rw [decide_eq_false h]
    exact beq_eq_false_iff_ne.mpr h
theorem EqS.rc (I : Inv X pins σ H s) {A : Around} (hu : A.units < cLine) {x : V} {v : Value} {z : Str} {t : Tok} {c : Bool} (h : EqS X.K H x z c) (r : RelV x v) : SeqAt.RcAt A s v (.str z t) c := by
  rcases h with ⟨rfl, rfl⟩ | ⟨i, rfl, rfl⟩ | ⟨b, rfl, rfl⟩ | ⟨y, rfl, rfl⟩ | ⟨a, rfl, rfl, h⟩
  · cases (show v = Value.none from r)
    exact SeqAt.RcAt.none_str z t
  · obtain ⟨t', rfl⟩ := r
    exact SeqAt.RcAt.int_str i t' z t
  · cases (show v = Value.bool b from r)
    exact SeqAt.RcAt.bool_str b z t
  · obtain ⟨t', rfl⟩ := r
    rw [← str_dec]
    exact SeqAt.RcAt.str_str y t' z t
  · cases (show v = Value.ref a from r)
    rcases h with ⟨xs, h⟩ | ⟨xs, h⟩ | ⟨k, h⟩
    · obtain ⟨its, _, p, _⟩ := I.list h
      exact SeqAt.RcAt.list_str z t p.isList hu
    · obtain ⟨its, _, p, _⟩ := I.tuple h
      exact SeqAt.RcAt.tuple_str z t p hu
    · obtain ⟨es, n, dd, sl, ho⟩ := dict_at I h
      exact SeqAt.RcAt.dict_str z t ho hu
theorem EqS.eq (I : Inv X pins σ H s) {A : Around} (hu : A.units < cLine) {x : V} {v : Value} {z : Str} {t : Tok} {c : Bool} (h : EqS X.K H x z c) (r : RelV x v) : SeqAt.EqAt A s v (.str z t) c := by
  rcases h with ⟨rfl, rfl⟩ | ⟨i, rfl, rfl⟩ | ⟨b, rfl, rfl⟩ | ⟨y, rfl, rfl⟩ | ⟨a, rfl, rfl, h⟩
  · cases (show v = Value.none from r)
    exact SeqAt.EqAt.none_str z t
  · obtain ⟨t', rfl⟩ := r
    exact SeqAt.EqAt.int_str i t' z t
  · cases (show v = Value.bool b from r)
    exact SeqAt.EqAt.bool_str b z t
  · obtain ⟨t', rfl⟩ := r
    rw [← str_dec]
    exact SeqAt.EqAt.str_str y t' z t
  · cases (show v = Value.ref a from r)
    rcases h with ⟨xs, h⟩ | ⟨xs, h⟩ | ⟨k, h⟩
    · obtain ⟨its, _, p, _⟩ := I.list h
      exact SeqAt.EqAt.list_str z t p.isList hu
    · obtain ⟨its, _, p, _⟩ := I.tuple h
      exact SeqAt.EqAt.tuple_str z t p hu
    · obtain ⟨es, n, dd, sl, ho⟩ := dict_at I h
      exact SeqAt.EqAt.dict_str z t ho hu
/-- anything == a text -/
theorem op_eqS {K : PySem.W.Frag} (hK : X.K = K) (hu : X.A.units + 64 < cLine) : OpR X (compareOp .Eq) (fun x y H Q => ∃ z c, y = .str z ∧ EqS K H x z c ∧ Q (.bl c) H) := by
  subst hK
  intro pins s σ H x y v u Q I rx ry h
  obtain ⟨z, c, rfl, e, q⟩ := h
  obtain ⟨t, rfl⟩ := ry
  exact EqS.rc I (by omega) e rx _ _ _ _ ⟨.bl c, H, I, rfl, q⟩
/-! anything against a tuple of one text -/
def EqT (K : PySem.W.Frag) (H : Hp) (x : V) (z : Str) (c : Bool) : Prop :=
  (c = false ∧ (x = .non ∨ (∃ i, x = .int i) ∨ (∃ b, x = .bl b) ∨ ∃ y, x = .str y)) ∨
  ∃ a, x = .ref a ∧ ((c = false ∧ ((∃ xs, SqL K H a xs) ∨ ∃ k, H a = some (.dK k))) ∨ (∃ xs, SqT K H a xs ∧ ((xs = [] ∧ c = false) ∨ ∃ x0 r c0, xs = x0 :: r ∧ EqS K H x0 z c0 ∧ c = (c0 && decide (r = []))))) 
theorem vals_nil {its : List Value} (h : Vals [] its) : its = [] := by cases h; rfl
theorem vals_cons {x : V} {xs : List V} {its : List Value} (h : Vals (x :: xs) its) : ∃ v r, its = v :: r ∧ RelV x v ∧ Vals xs r := by
  cases h with
  | cons h t => exact ⟨_, _, rfl, h, t⟩
theorem EqT.rc (I : Inv X pins σ H s) {A : Around} (hu : A.units + 64 < cLine) (hu1 : A.in1.units < cLine) {x : V} {v : Value} {b : Addr} {z : Str} {c : Bool} (h : EqT X.K H x z c) (r : RelV x v) (hb : SqT X.K H b [.str z]) : SeqAt.RcAt A s v (.ref b) c := by
  obtain ⟨its2, rv2, p2, _⟩ := I.tuple hb
  have hu0 : A.units < cLine := by omega
  obtain ⟨w2, r2, rfl, rz, rr⟩ := vals_cons rv2
  obtain rfl := vals_nil rr
  obtain ⟨t, rfl⟩ := rz
  rcases h with ⟨rfl, h⟩ | ⟨a, rfl, h⟩
  · rcases h with rfl | ⟨i, rfl⟩ | ⟨j, rfl⟩ | ⟨y, rfl⟩
    · cases (show v = Value.none from r)
      exact SeqAt.RcAt.none_tuple p2 hu0
    · obtain ⟨t', rfl⟩ := r
      exact SeqAt.RcAt.int_tuple i t' p2 hu0
    · cases (show v = Value.bool j from r)
      exact SeqAt.RcAt.bool_tuple j p2 hu0
    · obtain ⟨t', rfl⟩ := r
      exact SeqAt.RcAt.str_tuple y t' p2 hu0
  · cases (show v = Value.ref a from r)
    rcases h with ⟨rfl, ⟨xs, h⟩ | ⟨k, h⟩⟩ | ⟨xs, hx, h⟩
    · obtain ⟨its, _, p, _⟩ := I.list h
      exact SeqAt.RcAt.list_tuple p.isList p2 hu0
    · obtain ⟨es, n, dd, sl, ho⟩ := dict_at I h
      exact SeqAt.RcAt.dict_tuple ho p2 hu0
    · obtain ⟨its, rv, p, _⟩ := I.tuple hx
      rcases h with ⟨rfl, rfl⟩ | ⟨x0, rs, c0, rfl, e0, rfl⟩
      · obtain rfl := vals_nil rv
        have := SeqAt.RcAt.tuples (e := fun _ => false) p p2 hu0 (fun j j1 j2 => absurd j1 (by simp))
        exact this
      · obtain ⟨v0, r0, rfl, rel0, rrs⟩ := vals_cons rv
        have := SeqAt.RcAt.tuples (A := A) (e := fun _ => c0) p p2 hu0 (fun j j1 j2 => by
          have j0 : j = 0 := by simpa using j2
          subst j0
          exact EqS.eq I hu1 e0 rel0)
        have l1 : rs.length = r0.length := Paired.length rrs
        have e2 : ((List.range (min (v0 :: r0).toArray.size [Value.str z t].toArray.size)).all (fun _ => c0) && (v0 :: r0).toArray.size == [Value.str z t].toArray.size) = (c0 && decide (rs = [])) := by
          cases rs with
          | nil =>
            cases r0 with
            | nil => simp
            | cons _ _ => simp at l1
          | cons y ys =>
            cases r0 with
            | nil => simp at l1
            | cons _ _ => simp
        rw [e2] at this
        exact this
/-- anything == a tuple of one text -/
theorem op_eqT {K : PySem.W.Frag} (hK : X.K = K) (hu : X.A.units + 64 < cLine) : OpR X (compareOp .Eq) (fun x y H Q => ∃ b z c, y = .ref b ∧ SqT K H b [.str z] ∧ EqT K H x z c ∧ Q (.bl c) H) := by
  subst hK
  intro pins s σ H x y v u Q I rx ry h
  obtain ⟨b, z, c, rfl, hb, e, q⟩ := h
  cases (show u = Value.ref b from ry)
  exact EqT.rc I hu (by have : X.A.in1.units ≤ X.A.units + 1 := by simp [Around.in1, Around.units]
                        omega) e rx hb _ _ _ _ ⟨.bl c, H, I, rfl, q⟩
end L2

namespace Kb
open PySem PySem.Spec PyProof.Rows L2
/-! try: .. except A as n: .. except ..: where each error of the body is A's -/
def wFirst (K : PySem.W.Frag) (c : Value) (i : Nat) (ts : Addr → Value → Option Addr → TS) (D : Ends) : WX := fun cls d σ H =>
  PySem.W.exmOne K cls c = some true ∧ ∀ a, H a = none → ts a cls d { nx := fun σ' H' => D.nx (σ'.set i none) H', rt := D.rt, bk := fun σ' H' => D.bk (σ'.set i none) H', ct := fun σ' H' => D.ct (σ'.set i none) H' } (σ.set i (some (.ref a))) H
section
variable {X : Cx} {x n : Str} {c : Value} {i : Nat} {body rest : List Stmt} {first : Stmt} {more : List ExceptHandler} {np pos hpos : Pos} {tb : WX → TS} {ts : Addr → Value → Option Addr → TS}
theorem ps_try_first (stk : X.stack = X.env :: X.outer) (frm : X.env.frame = some X.env.locals) (nd : X.N.Nodup) (at_ : X.N[i]? = some n) (loc : X.env.kindOf n = some .local) (nam : Names X x c)
    (runs : ∀ (W : WX) (pn : List (Addr × Obj)) (way : Value → Shared → Prop), L2.Takes (X.tr pn way) W → PassesOwn (model X.prog X.w) X.A X.env way → PSs (X.tr pn way) body (tb W))
    (caught : ∀ (a : Addr) (oe : Obj) (cls : Value) (d : Option Addr) (pn : List (Addr × Obj)), Zc cls d oe → (∃ vs, oe.data = .fields vs) → PSs (X.suite a ((a, oe) :: pn)) (first :: rest) (ts a cls d)) :
    PS X (.Try body (.ExceptHandler (some (.Name x np)) (some n) (first :: rest) hpos :: more) [] [] pos) (fun D σ H => tb (wFirst X.K c i ts D) D σ H) := by
  refine ⟨fun pins s σ H D I reads => ?_⟩
  have good := I.ok
  have fr : X.A.frames = some (X.env :: X.outer) := by rw [good.frames, stk]
  refine wpAny_Try_except ?_
  have whole := (runs (wFirst X.K c i ts D) (X.pn ++ pins) (fun e t1 => wpAny (model X.prog X.w) X.A (noteFrame e X.env) (fun _ t2 => wpAny (model X.prog X.w) X.A (setFlight e none) (fun _ t3 =>
    wpAny (model X.prog X.w) X.A (handleBy e X.env (.ExceptHandler (some (.Name x np)) (some n) (first :: rest) hpos :: more)) (SP X pins D) X.xe t3) X.xe t2) X.xe t1) (fun u s' air => ?_) PassesOwn.looking).run [] s σ H D (I.toTry _) reads
  · refine wpAny_mono whole (fun fl s1 got => ?_) fun _ _ z => z
    cases fl with
    | next => exact wpAny_execs_nil (let ⟨σ', H', J, q⟩ := got; ⟨σ', H', J.ofTry good, q⟩)
    | brk => exact let ⟨σ', H', J, q⟩ := got; ⟨σ', H', J.ofTry good, q⟩
    | cont => exact let ⟨σ', H', J, q⟩ := got; ⟨σ', H', J.ofTry good, q⟩
    | ret u => exact let ⟨v, σ', H', J, r, q⟩ := got; ⟨v, σ', H', J.ofTry good, r, q⟩
  · obtain ⟨a, B, sI, pins1, σ1, H1, cls, d, eu, J0, ground, up, sky, na, os, ag, yes, suite⟩ := air
    subst eu
    have J : L2.Inv X pins σ1 H1 sI := J0.ofTry good
    have sky : Sky B X.stack a (Zc cls d) X.env.locals s'.heap := sky
    rw [stk] at sky
    show wpAny (model X.prog X.w) X.A (noteFrame (.ref a) X.env) _ _ s'
    refine Sky.land Zc.steady fr frm sky fun g3 fly3 up3 => ?_
    have J3 : L2.Inv X pins σ1 H1 { s' with heap := g3 } := J.landed ground fly3.1 (up.trans up3) os ag
    obtain ⟨o3, v3, e3, z3, d3⟩ := fly3.there
    have offFrames : a ∉ frs (X.env :: X.outer) := fun hm => by
      obtain ⟨_, o', e', nofields⟩ := fly3.2.2.1.mem hm
      rw [e3] at e'
      cases e'
      exact nofields _ d3
    have offL : a ≠ X.env.locals := fun z => offFrames (List.mem_filterMap.mpr ⟨X.env, List.mem_cons_self, by rw [frm, z]⟩)
    have offF : a ∉ X.fs := fun hm => by
      obtain ⟨e, he, q⟩ := List.mem_filterMap.mp hm
      exact offFrames (List.mem_filterMap.mpr ⟨e, List.mem_cons_of_mem _ he, q⟩)
    have in3 := J3.suite e3 d3 na offL offF
    refine wpAny_handleBy_cons (codeAny_handlers_test ?_) (by intro q; cases q)
    have its : PySem.W.Looks (model X.prog X.w) g3 (typeOf (.ref a)) cls := fun _ _ _ _ keep q => wpAny_typeOf_ref (keep _ _ e3) (by rw [z3.1]; exact q)
    have asks := PySem.W.exm_one (M := model X.prog X.w) J3.kIn its yes
    have named : ∀ {R : Value → Shared → Prop} {way : Value → Shared → Prop}, R c { s' with heap := g3 } → wpAny (model X.prog X.w) (X.A.mark (some (.ref a))) (eval (.Name x np) X.env) R way { s' with heap := g3 } := fun {R way} q =>
      match nam with
      | ⟨gl, nodebug, .inl own⟩ => ld_glob (X := X.suite a ((a, o3) :: (X.pn ++ pins))) in3 gl own q nodebug
      | ⟨gl, nodebug, .inr ⟨none_, boot, nonm⟩⟩ => ld_blt (X := X.suite a ((a, o3) :: (X.pn ++ pins))) in3 gl none_ boot q nonm nodebug
    refine named (asks.here (codeAny_handlers_suite_as (HandSPX.lands_againZ fly3 fun g4 fly4 up4 => ?_)))
    have J4 : L2.Inv X pins σ1 H1 { s' with heap := g4 } := J.landed ground fly4.1 ((up.trans up3).trans up4) os ag
    obtain ⟨o4, v4, e4, z4, d4⟩ := fly4.there
    refine store_ok (X := X.suite a ((a, o4) :: (X.pn ++ pins))) (v := .ref a) (J4.suite e4 d4 na offL offF) nd at_ (.inl loc) rfl (fun s5 in5 => ?_) (.inr loc)
    refine wpAny_mono ((caught a o4 cls d (X.pn ++ pins) z4 ⟨_, d4⟩).run [] s5 _ H1 _ in5 (suite a na)) (fun fl s6 got => ?_) fun _ _ z => z.elim
    have over : ∀ {σ6 : L2.St} {H6 : Hp} {R : Shared → Prop}, L2.Inv (X.suite a ((a, o4) :: (X.pn ++ pins))) [] σ6 H6 s6 → (∀ s7, L2.Inv X pins (σ6.set i none) H6 s7 → R s7) →
        wpAny (model X.prog X.w) X.A (do bindName X.env n .none; unbindBehindTheSuite X.env n hpos) (fun _ s7 => R s7) X.xe s6 := fun in6 q => gone_ok (in6.unsuite good) nd at_ loc q
    cases fl with
    | next => exact let ⟨_, _, in6, q6⟩ := got; over in6 fun _ J7 => ⟨_, _, J7, q6⟩
    | brk => exact let ⟨_, _, in6, q6⟩ := got; over in6 fun _ J7 => ⟨_, _, J7, q6⟩
    | cont => exact let ⟨_, _, in6, q6⟩ := got; over in6 fun _ J7 => ⟨_, _, J7, q6⟩
    | ret u => exact let ⟨_, _, _, in6, r6, q6⟩ := got; over in6 fun _ J7 => ⟨_, _, _, J7, r6, q6⟩
end
end Kb

namespace PySem.SeqAt
open Builtin
section
variable {A : Around} {s : Shared}
theorem RcAt.str_dict {l : Addr} {es : Array DictEntry} {n : Nat} {dd : Option Addr} {sl : Array (Option Value)} (b : Str) (u : Tok) (ho : s.heap.get? l = some { cls := .type "dict", dict := dd, data := .dict es n, slots := sl }) (hu : A.units < cLine) : RcAt A s (.str b u) (.ref l) false := fun prog w E Q h =>
  rc_eq_decline_or (k := false) (typeIs_str s b u) ⟨_, ho, rfl⟩ (by decide) F.sub_dict_str F.slot_str_eq F.slot_dict_eq
    (fun _ hq => call_meets F.slot_str_eq (typeIs_str s b u) F.entry_str_eq (F.args_str_eq_2 _ _) (str_no_dict l es n dd sl b u) ⟨ho, hq⟩)
    (fun _ hq => call_meets F.slot_dict_eq ⟨_, ho, rfl⟩ F.entry_dict_eq (F.args_dict_eq_2 _ _) (dict_no_str l es n dd sl b u) ⟨ho, hq⟩)
    (fun _ hq => wpAny_of_eq (rfl : isSame (.str b u) (.ref l) = pure false) hq) (.inr hu) h
theorem EqAt.str_dict {l : Addr} {es : Array DictEntry} {n : Nat} {dd : Option Addr} {sl : Array (Option Value)} (b : Str) (u : Tok) (ho : s.heap.get? l = some { cls := .type "dict", dict := dd, data := .dict es n, slots := sl }) (hu : A.units < cLine) : EqAt A s (.str b u) (.ref l) false := fun prog w E Q h => by
  unfold eqBool
  refine wpAny_holding ?_
  refine wpAny_ite_split (fun hab => absurd (eq_of_beq hab) nofun) (fun _ => ?_)
  exact wpAny_bind (RcAt.str_dict b u ho hu prog w E _ (wpAny_truthy_bool h))
end
end PySem.SeqAt
namespace L2
open PySem PySem.Spec PyProof.Rows Builtin
variable {X : Cx} {pins : List (Addr × Obj)} {σ : St} {H : Hp} {s : Shared}
/-- a list, tuple or dict in a tuple of texts -/
theorem op_inO {K : PySem.W.Frag} (hK : X.K = K) (hu : X.A.units + 64 < cLine) : OpR X (compareOp .In) (fun x y H Q => ∃ (a p : Addr) (zs : List Str), x = .ref a ∧ y = .ref p ∧ ((∃ xs, SqL K H a xs) ∨ (∃ xs, SqT K H a xs) ∨ ∃ k, H a = some (.dK k)) ∧ SqT K H p (zs.map V.str) ∧ Q (.bl false) H) := by
  subst hK
  intro pins s σ H x y v u Q I rx ry h
  obtain ⟨a, p, zs, rfl, rfl, ha, hp, q⟩ := h
  cases (show v = Value.ref a from rx)
  cases (show u = Value.ref p from ry)
  obtain ⟨its, r, pl, hz⟩ := I.tuple hp
  have hu1 : X.A.in1.units < cLine := by
    have : X.A.in1.units ≤ X.A.units + 1 := by simp [Around.in1, Around.units]
    omega
  have all : ∀ {zs : List Str} {its : List Value}, Vals (zs.map V.str) its → ∀ y ∈ its, ∃ z t, y = Value.str z t := by
    intro zs
    induction zs with
    | nil =>
      intro its r y hy
      cases r
      cases hy
    | cons z zs ih =>
      intro its r y hy
      cases r with
      | cons h t =>
        obtain ⟨tk, rfl⟩ := h
        rcases List.mem_cons.mp hy with rfl | hy
        · exact ⟨z, tk, rfl⟩
        · exact ih t y hy
  refine SeqAt.in_tupleAt (fun _ => false) pl (fun y hy => ?_) ⟨.bl false, H, I, ?_, q⟩
  · obtain ⟨z, t, rfl⟩ := all r y (by simpa using hy)
    rcases ha with ⟨xs, h⟩ | ⟨xs, h⟩ | ⟨k, h⟩
    · obtain ⟨its, _, p, _⟩ := I.list h
      exact SeqAt.EqAt.str_list z t p.isList hu1
    · obtain ⟨its, _, p, _⟩ := I.tuple h
      exact SeqAt.EqAt.str_tuple z t p hu1
    · obtain ⟨es, n, dd, sl, ho⟩ := dict_at I h
      exact SeqAt.EqAt.str_dict z t ho hu1
  · show Value.bool _ = Value.bool false
    congr 1
    simp
/-- a tuple != () -/
theorem op_neT0 {K : PySem.W.Frag} (hK : X.K = K) (hu : X.A.units + 64 < cLine) : OpR X (compareOp .NotEq) (fun x y H Q => ∃ (a b : Addr) (xs : List V), x = .ref a ∧ y = .ref b ∧ SqT K H a xs ∧ SqT K H b [] ∧ Q (.bl (!decide (xs = []))) H) := by
  subst hK
  intro pins s σ H x y v u Q I rx ry h
  obtain ⟨a, b, xs, rfl, rfl, ha, hb, q⟩ := h
  cases (show v = Value.ref a from rx)
  cases (show u = Value.ref b from ry)
  obtain ⟨its, r, p, _⟩ := I.tuple ha
  obtain ⟨its2, r2, p2, _⟩ := I.tuple hb
  obtain rfl := vals_nil r2
  have := SeqAt.RcNeAt.tuples (A := X.A) (e := fun _ => false) p p2 (by omega) (fun j j1 j2 => absurd j2 (by simp))
  have e : (!((List.range (min its.toArray.size ([] : List Value).toArray.size)).all (fun _ => false) && its.toArray.size == ([] : List Value).toArray.size)) = !decide (xs = []) := by
    have hl := r.length
    cases xs with
    | nil =>
      cases its with
      | nil => simp
      | cons _ _ => simp at hl
    | cons _ _ =>
      cases its with
      | nil => simp at hl
      | cons _ _ => simp
  rw [e] at this
  exact this _ _ _ _ ⟨.bl _, H, I, rfl, q⟩
end L2

namespace L2
open PySem PySem.Spec PyProof.Rows
/-! errors as values beside other data -/
/-- a value's type, errors too -/
def TyD (K : PySem.W.Frag) (H : Hp) (v : V) (t : Value) : Prop := TyX K H v t ∨ ∃ a C, v = .ref a ∧ t = .ref C ∧ H a = some (ExO (.ref C) a) ∧ ExcC K C
def rIsD (K : PySem.W.Frag) : List V → Hp → VK → Prop := fun xs H Q => ∃ (x c : V) (t u : Value) (b : Bool), xs = [x, c] ∧ ClsV c u ∧ TyD K H x t ∧ PySem.W.kitOne K t u = some b ∧ Q (.bl b) H
section
variable {X : Cx}
theorem call_isD {K : PySem.W.Frag} (hK : X.K = K) : CallR X (.builtin "isinstance") (rIsD K) := by
  subst hK
  intro pins s σ H xs us Q I r h
  obtain ⟨x, c, t, u, b, rfl, k, ty | ⟨a, C, rfl, rfl, ha, hC⟩, e, q⟩ := h
  · exact call_isi pins s σ H _ us Q I r ⟨x, c, t, u, b, rfl, k, ty, e, q⟩
  · obtain ⟨u1, u2, rfl, r1, r2⟩ := vals2 r
    have e2 := k.eq r2
    subst e2
    cases r1
    obtain ⟨⟨oe, vs, ho, hz, hd, _⟩, _, _⟩ := I.hok a _ ha
    have J : PySem.W.InstAt s.heap a oe C none := by
      obtain ⟨oc, od, oda, osl⟩ := oe
      obtain ⟨h1, h2⟩ := hz
      dsimp only at h1 h2 hd
      subst h1 h2 hd
      exact ⟨ho, rfl, rfl, trivial⟩
    exact PySem.W.kia_one (PySem.W.handS_kitx_exc hC.hg hC.hk hC.hs hC.hd hC.ha hC.hn hC.ht hC.hm) I.kIn J e (fun z => nomatch z) fun tk => ⟨.bl b, H, I.kept (t' := tk) fun _ _ z => z, rfl, q⟩
/-- C(), an own class of errors without own __init__, as a value -/
theorem pe_exc0 {C : Addr} {bmB : List Value} {B newId initId : String} {x : Str} {p pos : Pos} (F : ExcBaseFacts B newId initId bmB) (q : PySem.W.excIn X.K C bmB newId = true) (gC : X.mg x = some (.ref C)) (kC : PySem.W.keepIn X.K (.ref C) = true) (hg : Gl X x) (hdb : (x == ("__debug__" : Str)) = false := by decide) :
    PE X (.Call (.Name x p) [] [] pos) (fun σ H Q => ∀ a, H a = none → Q (.ref a) (upd H a (ExO (.ref C) a))) := by
  refine ⟨fun pins s σ H Q I h => ?_⟩
  refine wpAny_Call_Name_kw (ld_glob I hg gC ?_ hdb)
  refine PySem.W.callWith_K0 I.kIn kC ?_
  obtain ⟨bm, N, nm, qn, bs, hdct, sn, sub, ab, col, dd, k0, k1, k2, k3, k5, mN, hC, hN, hni, T⟩ := exc_obj I.kIn q
  refine wpAny_call_exc_subT F T hC hN hni (fun h' a hm => ?_) (Nat.zero_le _)
  have hn : H a = none := I.hok.gone hm.new
  obtain ⟨t, ht, _, _⟩ := hm.there
  exact ⟨.ref a, upd H a (ExO (.ref C) a), I.laidN hm.keeps hm.new hn (exO_ok ht ⟨rfl, rfl⟩ rfl rfl rfl (show 4 < 6 by decide)), rfl, h a hn⟩
/-- what a raising call wishes, where the store isn't told -/
def EL (n : Nat) (W : WX) : XK := fun c d H => ∀ σ : L2.St, σ.length = n → W c d σ H
theorem passEL {W : WX} {n : Nat} (hn : X.N.length = n) (tk : Takes X W) : Passes (L2.CX X.prog X.w) X (EL n W) := fun pins σ H s e s' I c => tk e s' (XE.of_call I (fun _ _ _ h => h σ (I.len.trans hn)) c)
end
end L2

namespace L2
open PySem PySem.Spec PyProof.Rows RZ
/-- zip of two tuples, turn by turn -/
theorem walk_zipTg {K : PySem.W.Frag} {a b : Addr} {xs ys : List V} {n : Nat} (hn : n = min xs.length ys.length) : Walk (ItzT K a b) n (fun H => SqT K H a xs ∧ SqT K H b ys) (YPair (fun i => xs[i]?) (fun i => ys[i]?)) := by
  subst hn
  refine ⟨fun i _ hi q => ?_, fun _ q => ⟨xs, ys, q.1, q.2, by omega⟩, fun i H v H' _ q y => ?_⟩
  · have h1 : i < xs.length := by omega
    have h2 : i < ys.length := by omega
    exact ⟨xs, ys, xs[i], ys[i], q.1, q.2, by simp [h1], by simp [h2]⟩
  · obtain ⟨T, x, z, h1, h2, h3, h4, h5⟩ := y
    exact ⟨T, x, z, h1, h2, h3, h4 xs q.1, h5 ys q.2⟩
theorem cut_from1 (xs : List V) : cutV xs (some 1) none = xs.drop 1 := by
  have sx1 : HT.sIx xs.length 0 (some 1) = min 1 xs.length := HT.sIx_nat _ _ 1
  unfold cutV
  rw [sx1, HT.sIx_none]
  match xs with
  | [] => rfl
  | z :: r =>
    rw [List.length_cons, show min 1 (r.length + 1) = 1 by omega]
    show List.take (r.length + 1 - 1) r = r
    exact List.take_of_length_le (by omega)
end L2

namespace L2
open PySem PySem.Spec PyProof.Rows
/-- a tuple == () -/
theorem op_eqT0 {X : Cx} {K : PySem.W.Frag} (hK : X.K = K) (hu : X.A.units + 64 < cLine) : OpR X (compareOp .Eq) (fun x y H Q => ∃ (a b : Addr) (xs : List V), x = .ref a ∧ y = .ref b ∧ SqT K H a xs ∧ SqT K H b [] ∧ Q (.bl (decide (xs = []))) H) := by
  subst hK
  intro pins s σ H x y v u Q I rx ry h
  obtain ⟨a, b, xs, rfl, rfl, ha, hb, q⟩ := h
  cases (show v = Value.ref a from rx)
  cases (show u = Value.ref b from ry)
  obtain ⟨its, r, p, _⟩ := I.tuple ha
  obtain ⟨its2, r2, p2, _⟩ := I.tuple hb
  obtain rfl := vals_nil r2
  have := SeqAt.RcAt.tuples (A := X.A) (e := fun _ => false) p p2 (by omega) (fun j j1 j2 => absurd j2 (by simp))
  have e : ((List.range (min its.toArray.size ([] : List Value).toArray.size)).all (fun _ => false) && its.toArray.size == ([] : List Value).toArray.size) = decide (xs = []) := by
    have hl := r.length
    cases xs with
    | nil =>
      cases its with
      | nil => simp
      | cons _ _ => simp at hl
    | cons _ _ =>
      cases its with
      | nil => simp at hl
      | cons _ _ => simp
  rw [e] at this
  exact this _ _ _ _ ⟨.bl _, H, I, rfl, q⟩
end L2

namespace L2
open PySem PySem.Spec PyProof.Rows
section
variable {X : Cx}
/-- repr of data: what it shows -/
def rRepr (K : PySem.W.Frag) : List V → Hp → VK → Prop := fun vs H Q => ∃ (v : V) (d : PyData), vs = [v] ∧ Dp K H v d ∧ d.showable = true ∧ d.hasDict = false ∧ d.depth ≤ 60 ∧ (∀ i, v = .int i → i.natAbs.log2 < 1920) ∧ d.shown.length ≤ sizeLine ∧ Q (.str d.shown) H
theorem call_reprD (hg : X.A.guards = some []) (hu : X.A.units + 64 < cLine) : CallR X (.builtin "repr") (rRepr X.K) := by
  intro pins s σ H xs us Q I r h
  obtain ⟨v, d, rfl, hd, hs, hn, hz, hi, hl, q⟩ := h
  obtain ⟨u, rfl, ru⟩ := vals1 r
  obtain ⟨as, rd⟩ := Dp.reads I d v u hd ru
  cases hd with
  | non =>
    cases ru
    rw [PyData.shown_none] at q
    exact PySem.P.repr_of_none ⟨.str _, H, I.tok _, ⟨_, rfl⟩, q⟩
  | bl b =>
    cases ru
    rw [PyData.shown_bool] at q
    exact PySem.P.repr_of_bool ⟨.str _, H, I.tok _, ⟨_, rfl⟩, by cases b <;> exact q⟩
  | int i =>
    obtain ⟨t, rfl⟩ := ru
    rw [PyData.shown_int] at q
    exact PySem.P.repr_of_int (hi i rfl) ⟨.str _, H, I.tok _, ⟨_, rfl⟩, q⟩
  | str x =>
    obtain ⟨t, rfl⟩ := ru
    rw [PyData.shown_str] at q hl
    exact PySem.P.repr_of_str ⟨.str _, H, I.tok _, ⟨_, rfl⟩, q⟩ hl
  | lst h1 h2 =>
    cases ru
    exact repr_of_reads' rd hs (fun z => by rw [hn] at z; cases z) hg (by omega) (fun _ _ e => e) (fun h' u tk hk => ⟨.str _, H, I.kept hk, ⟨_, rfl⟩, q⟩) hl
  | tup h1 h2 =>
    cases ru
    exact repr_of_reads' rd hs (fun z => by rw [hn] at z; cases z) hg (by omega) (fun _ _ e => e) (fun h' u tk hk => ⟨.str _, H, I.kept hk, ⟨_, rfl⟩, q⟩) hl
end
end L2

namespace L2
open PySem PySem.Spec PyProof.Rows
/-! a law's own def, called from the top: nothing is being shown there -/
abbrev AllTrue : VK := fun r _ => r = .bl true
abbrev NoErr : XK := fun _ _ _ => False
/-- the def f keeps its promise where the claim's caller calls it with one thing -/
def TopOk (P : Program) (w : World) (K : PySem.W.Frag) (mg : Str → Option Value) (f : Addr) (fd : FuncData) (x : Str) (sp : Sp) : Prop :=
  ∀ (base : Heap) (s : Shared) (H : Hp) (u : Value) (v : V), Env0 P w K mg base callerA [] s H → RelV v u →
    BindsTo s fd ⟨[u], []⟩ [(x, u)] → sp [v] H AllTrue NoErr → codeAny (model P w) callerA (.call (.ref f) ⟨[u], []⟩) (CR CX0 [] P w H s AllTrue NoErr) s
/-- .. out of its body, read where no guard stands -/
theorem top_of {P : Program} {w : World} {K : PySem.W.Frag} {mg : Str → Option Value} {f : Addr} {fd : FuncData} {nm qual x : Str} {st : Stmt} {N : List Str} {k : Nat} {sp : Sp}
    (F : Fun K nm qual st f fd) (S : FnScope N [x] (defScope st)) (room : Room (k + 1) callerA)
    (body : ∀ (base : Heap) (cdv : Value) (A : Around) (s : Shared) (H : Hp) (v : V), A.guards = some [] → Room k (A.deeper (envOfC qual (defScope st) s.heap.objs.size f cdv)) → sp [v] H AllTrue NoErr →
      ∃ t, PSs (cxOf CX0 P w K mg base N qual (defScope st) f cdv A [] s H NoErr).nox (defBody st) t ∧
        t { nx := fun _ H1 => AllTrue .non H1, rt := AllTrue } (start N [v]) H) :
    TopOk P w K mg f fd x sp := by
  intro base s H u v e0 rv binds hsp
  obtain ⟨oc, od, kV, doc, pm, an, cdv, ct, osl, rfl, lk, known⟩ := F.ex
  have inH : ∀ b o, base.get? b = some o → s.heap.get? b = some o := fun b o q => (e0.bs b o q).1
  have lim := e0.mod.nolimit.keeps inH
  have here := e0.mod.kin.keeps inH
  obtain ⟨t, reads, ends⟩ := body base cdv callerA s H v rfl (room.deeper _) hsp
  refine codeAny_call_function room.depth (here _ _ lk) rfl S.co S.gen rfl (PySem.W.codeRec_of here known) (binds _ _ _ _ ?_)
  refine wpAny_newFunctionEnv_cells S.kind (fun y hy => ?_) fun env same s1 entered => ?_
  · cases List.mem_singleton.mp hy
    refine (S.par x List.mem_cons_self).imp id fun q => ⟨q, ?_⟩
    exact PySem.W.cellsFrom_some _ _ _ (.inl q)
  · cases same
    have I := inv_start (CX := CX0) (E := NoErr) (us := [u]) (vs := [v]) S room.hd e0 rfl (.cons rv .nil) entered
    refine ⟨lim.keeps entered.toInCall.keep, codeAny_func ?_⟩
    refine wpAny_mono (reads.nox.run [] s1 (start N [v]) H _ I ends) (fun fl s2 got => ?_) fun _ _ z => z
    match fl, got with
    | .ret _, ⟨r, _, H2, J, rr, q⟩ => exact ⟨r, H2, J.os, J.bare, J.base, J.hok, rr, q⟩
    | .next, ⟨_, H2, J, q⟩ => exact ⟨.non, H2, J.os, J.bare, J.base, J.hok, rfl, q⟩
    | .brk, ⟨_, _, _, q⟩ => exact q.elim
    | .cont, ⟨_, _, _, q⟩ => exact q.elim
/-- the script, where the module doesn't have it itself -/
def oneS (a : Addr) (vs : List Value) (ns : List Int) : Hp := fun b => if b = a then some (.frz { cls := .type "list", data := .seq vs.toArray } (.lst (ns.map V.int))) else none
theorem oneS_is {a b : Addr} {vs : List Value} {ns : List Int} {u : HO} (h : oneS a vs ns b = some u) : b = a ∧ u = .frz { cls := .type "list", data := .seq vs.toArray } (.lst (ns.map V.int)) := by
  unfold oneS at h
  split at h
  · exact ⟨‹_›, (Option.some.inj h).symm⟩
  · cases h
/-- a start for the law's def: what it tracks is the script or nothing -/
theorem top_run {P : Program} {w : World} {K : PySem.W.Frag} {mg mb : Str → Option Value} {f a : Addr} {fd : FuncData} {x : Str} {sp : Sp} {s : Shared} {vs : List Value} {H : Hp}
    (inK : K.In s.heap) (globals : s.heap.Ns mainGlobals mg) (built : s.heap.Ns builtinsNs mb) (asBoot : ∀ y : Str, y ≠ "__name__" → mb y = bootBuiltins y) (lim : s.heap.NoLimit) (quiet : s.gens = #[])
    (script : s.heap.get? a = some { cls := .type "list", data := .seq vs.toArray }) (only : ∀ b u, H b = some u → b = a ∧ K.lookup a = none ∧ ∃ xs, u = .frz { cls := .type "list", data := .seq vs.toArray } (.lst xs))
    (hok : HOk P w H s.heap) (law : TopOk P w K mg f fd x sp) (binds : ∀ (s : Shared) (u : Value), BindsTo s fd ⟨[u], []⟩ [(x, u)]) (promise : sp [.ref a] H AllTrue NoErr) :
    codeAny (model P w) callerA (.call (.ref f) ⟨[.ref a], []⟩) (fun r s2 => r = .ok (.ret (.bool true)) ∧ OldK s.heap s2.heap ∧ s2.os = s.os ∧ AllBare s2.gens) s := by
  have free : ∀ {b : Addr} {o : Obj}, s.heap.get? b = some o → (b = a → K.lookup a = none → False) → H b = none := fun {b o} e no => by
    cases q : H b with
    | none => rfl
    | some u => exact (no (only b u q).1 (only b u q).2.1).elim
  have names : ∀ {b : Addr} {m : Str → Option Value}, s.heap.Ns b m → (hidT s.heap H).Ns b m := fun {b m} ⟨o, es, n, e, d, more⟩ => by
    refine ⟨o, es, n, hidT_get e (free e fun z _ => ?_), d, more⟩
    rw [z, script] at e
    cases e
    cases d
  have modK : K.In (hidT s.heap H) := fun b o e => hidT_get (inK b o e) (free (inK b o e) fun z no => by rw [z, no] at e; cases e)
  have start : Env0 P w K mg (hidT s.heap H) callerA [] s H :=
    { frames := rfl
      mod := ⟨modK, names globals, ⟨mb, names built, asBoot⟩, let ⟨m, l1, l2⟩ := lim; ⟨m, names l1, l2⟩⟩
      bs := fun _ _ e => of_hidT e
      bsz := by rw [hidT_size]; exact Nat.le_refl _
      funs := trivial
      frf := fun _ hb => nomatch hb
      hok := hok
      bare := .of_eq quiet }
  refine codeAny_mono (law _ s H (.ref a) (.ref a) start rfl (binds s _) promise) fun r s2 got => ?_
  match r, got with
  | .error _, z => exact z.elim
  | .ok .next, z => exact z.elim
  | .ok .brk, z => exact z.elim
  | .ok .cont, z => exact z.elim
  | .ok (.ret u), ⟨v, H2, os, bare, un, hok2, rv, yes⟩ =>
    subst yes
    cases rv
    refine ⟨rfl, OldK.of_keep fun b o e => ?_, os, bare⟩
    cases q : H b with
    | none => exact un.keep b o e q (fun z => nomatch z) (fun z => nomatch z)
    | some u0 =>
      obtain ⟨_, _, xs, rfl⟩ := only b u0 q
      have before := (hok b _ q).1
      have after := (hok2 b _ (un.frzs b _ _ q)).1
      rw [e] at before
      cases before
      exact after
/-- the law's promise, where the claim's caller asks it -/
theorem law_top {P : Program} {w : World} {K : PySem.W.Frag} {mg mb : Str → Option Value} {f a : Addr} {fd : FuncData} {x : Str} {sp : Sp} {s : Shared} {vs : List Value} {ns : List Int}
    (inK : K.In s.heap) (globals : s.heap.Ns mainGlobals mg) (built : s.heap.Ns builtinsNs mb) (asBoot : ∀ y : Str, y ≠ "__name__" → mb y = bootBuiltins y) (lim : s.heap.NoLimit) (quiet : s.gens = #[])
    (script : s.heap.get? a = some { cls := .type "list", data := .seq vs.toArray }) (inums : IntsAre vs ns) (short : ns.length ≤ sizeLine)
    (law : TopOk P w K mg f fd x sp) (binds : ∀ (s : Shared) (u : Value), BindsTo s fd ⟨[u], []⟩ [(x, u)]) (promise : ∀ H : Hp, SqL K H a (ns.map V.int) → sp [.ref a] H AllTrue NoErr) :
    codeAny (model P w) callerA (.call (.ref f) ⟨[.ref a], []⟩) (fun r s2 => r = .ok (.ret (.bool true)) ∧ OldK s.heap s2.heap ∧ s2.os = s.os ∧ AllBare s2.gens) s := by
  have items := vals_ints inums
  have long := inums.length
  by_cases own : ∃ o, K.lookup a = some o
  · obtain ⟨o, own⟩ := own
    have e := inK a o own
    rw [script] at e
    cases e
    refine top_run (H := fun _ => none) inK globals built asBoot lim quiet script (fun _ _ z => nomatch z) (fun _ _ z => nomatch z) law binds (promise _ (.inr ?_))
    exact ⟨_, vs.toArray, _, own, rfl, rfl, rfl, by rw [List.size_toArray, long]; exact short, by simpa using items⟩
  · have none_ : K.lookup a = none := by
      cases q : K.lookup a with
      | none => rfl
      | some o => exact absurd ⟨o, q⟩ own
    refine top_run (H := oneS a vs ns) inK globals built asBoot lim quiet script (fun b u z => ⟨(oneS_is z).1, none_, _, (oneS_is z).2⟩) (fun b u z => ?_) law binds (promise _ (.inl (.inr ⟨_, if_pos rfl⟩)))
    obtain ⟨rfl, rfl⟩ := oneS_is z
    exact ⟨script, by rw [List.length_map]; exact short, vs, _, items, script⟩
/-- the goal of a law's row, from a promise that the top alone asks for -/
theorem walk_top {l : PySem.W.OpenLaw} {n : Nat} {q : Program} {loose : List Str} {XP : (Str → Option Value) → Heap → Prop} {YP : World → Heap → Prop} {d : DefRec} {K : Params → PySem.W.Frag} {sp : World → Sp} {x : Str}
    (most : l.most = some n) (short : n ≤ sizeLine) (noDefaults : d.params.defaults = []) (inK : ∀ (w : World) (h : Heap), YP w h → (K w.params).In h)
    (law : ∀ (w : World) (mg : Str → Option Value) (f : Addr) (h : Heap), (K w.params).In h → h.Ns mainGlobals mg → mg d.name = some (.ref f) →
      ∃ fd : FuncData, (∀ (s : Shared) (u : Value), BindsTo s fd ⟨[u], []⟩ [(x, u)]) ∧ TopOk l.prog w (K w.params) mg f fd x (sp w))
    (promise : ∀ (w : World) (H : Hp) (a : Addr) (ns : List Int), ns.length ≤ n → SqL (K w.params) H a (ns.map V.int) → sp w [.ref a] H AllTrue NoErr) :
    PySem.W.WalkO q loose XP YP l.row.toRowW d [] (fun f vs => PySem.call f vs) := by
  refine Att.attach_call most noDefaults fun w s0 s1 mg mb f o pm cd doc a vs ns G Y there data codes at_ list inums few quiet => ?_
  obtain ⟨fd, binds, run⟩ := law w mg f _ (inK w _ Y) G.T.g at_
  exact law_top (inK w _ Y) G.T.g G.T.b G.T.builtins G.T.nolimit quiet list inums (Nat.le_trans few short) run binds fun H hS => promise w H a ns few hS
end L2

namespace PySem
open Sem (wp)
open Builtin Builtin.Str Builtin.BaseException Builtin.Exceptions
open PySem.W (Looks Frag findIn subIn clsIn looks_findIn looks_subIn looks_clsIn)
/-- what an own class of errors must say, so that repr shows its instances: its name and () -/
structure ExR (K : Frag) (C : Addr) (n : String) : Prop where
  hr : findIn K (.ref C) "__repr__" = some (some (.builtin "BaseException.__repr__"))
  hB : subIn K (.ref C) (.type "BaseException") = some true
  nm : ∃ cd, clsIn K C = some cd ∧ cd.name.toString = n
def exrText (n : String) : Str := Str.ofString ((n.cutAt '.').getLastD "") ++ tupleText []
section
variable {prog : Program} {w : World} {M : Model} {A : Around} {E : Value → Shared → Prop} {s : Shared} {K : Frag} {C e t0 : Addr} {n : String}
theorem typeNameOfWhole_C {Q : String → Shared → Prop} (x : ExcC K C e t0 s.heap) (R : ExR K C n) (q : Q n s) : wpAny M A (typeNameOfWhole (.ref e)) Q E s := by
  obtain ⟨cd, hcd, rfl⟩ := R.nm
  unfold typeNameOfWhole shownTypeOf
  refine wpAny_bind (wpAny_bind (x.LT.here ?_))
  rw [if_neg (by intro z; cases z)]
  refine wpAny_pure ?_
  show wpAny M A (typeNameWhole (.ref C)) _ _ _
  unfold typeNameWhole
  exact wpAny_bind ((looks_clsIn x.1 hcd).here (wpAny_pure q))
theorem bexcReprAt_C (b : Nat) {Q : Fin → Shared → Prop} (x : ExcC K C e t0 s.heap) (R : ExR K C n) (ht : s.heap.TupAt t0 [])
    (hsub : ∀ Q' : Str → Shared → Prop, (∀ h' tk, (∀ b o, s.heap.get? b = some o → h'.get? b = some o) → Q' (tupleText []) { s with heap := h', toks := tk }) → wpAny M A (pyReprUnder (b + (Str.ofString ((n.cutAt '.').getLastD "")).length) (.ref t0)) Q' E s)
    (hq : ∀ h' tk u, (∀ b o, s.heap.get? b = some o → h'.get? b = some o) → Q (.done (.ret (.str (exrText n) u))) { s with heap := h', toks := tk }) (hsz : (exrText n).length ≤ sizeLine) :
    wpAny M A (Builtin.bexcReprAt b ⟨[.ref e], []⟩) Q E s := by
  unfold Builtin.bexcReprAt
  refine wpAny_bind (m := slotArgs "__repr__" 0 _) (wpAny_pure ?_)
  refine wpAny_bind (typeNameOfWhole_C x R ?_)
  refine wpAny_bind (bexcArgs_C x ht ?_)
  dsimp only
  refine wpAny_bind (hsub _ fun h' tk hk => ?_)
  have hsz : (Str.ofString ((n.cutAt '.').getLastD "") ++ tupleText []).length ≤ sizeLine := hsz
  unfold retStr
  repeat wp_step
  exact hq _ _ _ hk
/-- its special, as repr asks it -/
theorem specialOf_C {name : Str} {i : String} {Q : Option Value → Shared → Prop} (x : ExcC K C e t0 s.heap) (hf : findIn K (.ref C) name = some (some (.builtin i))) (q : Q (some (.builtin i)) s) : wpAny M A (specialOf (.ref e) name) Q E s := by
  unfold specialOf
  exact wpAny_bind (x.LT.here ((looks_findIn x.1 hf).here q))
theorem ifBoundBy_C {last : Value → List Value → Sem Value} {name : Str} {i : String} {Q : Option Value → Shared → Prop} (x : ExcC K C e t0 s.heap) (hf : findIn K (.ref C) name = some (some (.builtin i))) (hb : bindSpecial (.builtin i) (.ref e) = pure (.builtin i, [.ref e]))
    (hc : wpAny M A (last (.builtin i) [.ref e]) (fun v => Q (some v)) E s) : wpAny M A (callSpecialIfBoundBy? last (.ref e) name) Q E s := by
  simp only [callSpecialIfBoundBy?, bindSpecialIfBound?]
  refine wpAny_holding (wpAny_bind (wpAny_bind (specialOf_C x hf ?_)))
  simp only [hb]
  refine wpAny_bind (wpAny_askSetting (wpAny_ite ?_))
  have fin : wpAny M A (last (.builtin i) [.ref e] >>= fun v => pure (some v)) Q E s :=
    wpAny_bind (wpAny_mono hc (fun v s' h' => wpAny_pure h') fun _ _ h' => h')
  split
  · exact wpAny_bind (wpAny_pure (wpAny_pure fin))
  · exact wpAny_tryCatch (wpAny_bind (wpAny_pure (wpAny_pure fin)))
theorem ifBound_C {name : Str} {i : String} {Q : Option Value → Shared → Prop} (x : ExcC K C e t0 s.heap) (hf : findIn K (.ref C) name = some (some (.builtin i))) (hb : bindSpecial (.builtin i) (.ref e) = pure (.builtin i, [.ref e]))
    (hc : wpAny M A (call (.builtin i) [.ref e]) (fun v => Q (some v)) E s) : wpAny M A (callSpecialIfBound? (.ref e) name) Q E s := by
  simp only [callSpecialIfBound?, bindSpecialIfBound?]
  refine wpAny_holding (wpAny_bind (wpAny_bind (specialOf_C x hf ?_)))
  simp only [hb]
  refine wpAny_bind (wpAny_askSetting (wpAny_ite ?_))
  have fin : wpAny M A (call (.builtin i) ([.ref e] ++ []) >>= fun v => pure (some v)) Q E s :=
    wpAny_bind (wpAny_mono hc (fun v s' h' => wpAny_pure h') fun _ _ h' => h')
  split
  · exact wpAny_bind (wpAny_pure (wpAny_pure fin))
  · exact wpAny_tryCatch (wpAny_bind (wpAny_pure (wpAny_pure fin)))
end
section
variable {prog : Program} {w : World} {K : Frag} {C e t0 : Addr} {n : String} {h₀ : Heap}
/-- its empty tuple, shown -/
theorem tup0_K {ot : Obj} {k : Nat} (ht : h₀.get? t0 = some ot) (hc : ot.cls = .type "tuple") (hd : ot.data = .seq #[] k) : ReprK prog w [t0] h₀ 1 (.ref t0) (tupleText []) :=
  ReprK.tuple (as := []) (d := 0) ht hc hd (fun h => nomatch h) .nil
theorem exc_bind (e : Addr) : bindSpecial (.builtin "BaseException.__repr__") (.ref e) = pure (.builtin "BaseException.__repr__", [.ref e]) := F.excStr_Exception.repr.bind _
/-- an own error without arguments, shown within others -/
theorem exc_K (x : ExcC K C e t0 h₀) (R : ExR K C n) {ot : Obj} {k : Nat} (ht : h₀.get? t0 = some ot) (hc : ot.cls = .type "tuple") (hd : ot.data = .seq #[] k) : ReprK prog w [t0] h₀ 2 (.ref e) (exrText n) := by
  intro base hb A g E s Q hg hcl hu hk0 hQ
  have xs : ExcC K C e t0 s.heap := by
    obtain ⟨kin, o, vs, ho, h1, h2, h3⟩ := x
    exact ⟨fun b o e => hk0 _ _ (kin b o e), o, vs, hk0 _ _ ho, h1, h2, h3⟩
  have ts : s.heap.TupAt t0 [] := ⟨ot, k, hk0 _ _ ht, hc, hd⟩
  have elen : (exrText n).length = (Str.ofString ((n.cutAt '.').getLastD "")).length + (tupleText []).length := by
    unfold exrText
    rw [strLen_append]
  refine wpAny_pyReprUnder_ref (by omega) ?_
  unfold pyReprObjUnder pyReprObjBy
  refine wpAny_bind (wpAny_cRoomFor (by omega) ?_)
  refine wpAny_bind (specialOf_C xs R.hr ?_)
  refine wpAny_bind (ifBoundBy_C xs R.hr (exc_bind e) ?_)
  show wpAny _ _ (call (.builtin "BaseException.__repr__.under") [.ref e, rawInt base]) _ _ _
  refine wpAny_call (codeAny_call_builtin F.plain_bexc_repr_under F.entry_bexc_repr_under ?_)
  rw [F.check_bexc_repr_under]
  refine wpAny_pure ?_
  show wpAny _ _ (reprTwin "BaseException.__repr__" Builtin.bexcReprAt ⟨[.ref e, rawInt base], []⟩) _ _ _
  rw [reprTwin_eq]
  refine wpAny_bind (@PySem.W.check_slot (model prog w) _ _ s "BaseException.__repr__" "BaseException" "__repr__" (.ref e) [] [] _ (by decide +kernel) (by decide +kernel) (xs.LI R.hB) (F.args_bexc_repr _) ?_)
  refine bexcReprAt_C base xs R ts (fun Q' q => tup0_K ht hc hd (base + _) (by omega) A.in1 g _ s Q' hg hcl (by show A.units + 1 + 1 < cLine; omega) hk0 q) (fun h' tk u hk => ?_) (by omega)
  exact wpAny_bind (wpAny_isInstance (T := "str") (b := true) rfl isSubtype_str_str (wpAny_pure ⟨_, _, rfl, hQ h' tk hk⟩))
/-- repr of an own error without arguments -/
theorem call_repr_C {A : Around} {E : Value → Shared → Prop} {s : Shared} {Q : Value → Shared → Prop} (x : ExcC K C e t0 s.heap) (R : ExR K C n) {ot : Obj} {k : Nat} (ht : s.heap.get? t0 = some ot) (hc : ot.cls = .type "tuple") (hd : ot.data = .seq #[] k)
    (hg : A.guards = some []) (hu : A.units + 4 < cLine) (hsz : (exrText n).length ≤ sizeLine)
    (hQ : ∀ h' u tk, (∀ b o, s.heap.get? b = some o → h'.get? b = some o) → Q (.str (exrText n) u) { s with heap := h', toks := tk }) : wpAny (model prog w) A (call (.builtin "repr") [.ref e]) Q E s := by
  have ts : s.heap.TupAt t0 [] := ⟨ot, k, ht, hc, hd⟩
  have elen : (exrText n).length = (Str.ofString ((n.cutAt '.').getLastD "")).length + (tupleText []).length := by
    unfold exrText
    rw [strLen_append]
  refine Calls.call_function_entry F.kind_repr F.plain_repr F.entry_repr (F.args_repr1 _) ?_
  unfold Builtin.«repr»
  refine wpAny_bind (m := oneArg "repr" _) (wpAny_pure ?_)
  refine wpAny_bind (m := cRoomFor _ _) (wpAny_cRoomFor (by show A.units + 1 < cLine; omega) ?_)
  refine wpAny_bind (specialOf_C x R.hr ?_)
  refine wpAny_bind (ifBound_C x R.hr (exc_bind e) ?_)
  refine wpAny_call (codeAny_call_builtin F.excStr_Exception.repr.plain F.entry_bexc_repr (@PySem.W.check_slot (model prog w) _ _ s "BaseException.__repr__" "BaseException" "__repr__" (.ref e) [] [] _ (by decide +kernel) (by decide +kernel) (x.LI R.hB) (F.args_bexc_repr _) ?_))
  refine bexcReprAt_C 0 x R ts (fun Q' q => tup0_K ht hc hd (0 + _) (by omega) A.in1.in1 [] _ s Q' hg (fun b _ => Clear.nil b) (by show A.units + 1 + 1 + 1 < cLine; omega) (fun _ _ e => e) q) (fun h' tk u hk => ?_) hsz
  refine wpAny_bind (wpAny_isInstance (T := "str") (b := true) rfl isSubtype_str_str ?_)
  exact wpAny_pure ⟨_, rfl, hQ h' u tk hk⟩
end
end PySem

namespace L2
open PySem PySem.Spec PyProof.Rows
/-- an own error without arguments, its empty tuple at t -/
def ExN (C : Addr) (a t : Addr) : HO := .ext fun h => ∃ (oe : Obj) (vs : Array Value), h.get? a = some oe ∧ Zc (.ref C) none oe ∧ oe.data = .fields vs ∧ vs[0]? = some (.ref t)
theorem exN_ok {P : Program} {w : World} {H : Hp} {h : Heap} {a t C : Addr} {oe : Obj} {vs : Array Value} (e : h.get? a = some oe) (z : Zc (.ref C) none oe) (d : oe.data = .fields vs) (h1 : vs[0]? = some (.ref t)) : ObjOk P w H h a (ExN C a t) :=
  ⟨⟨oe, vs, e, z, d, h1⟩, ⟨oe, e⟩, fun _ _ ⟨o, v, q, r⟩ k => ⟨o, v, k o q, r⟩⟩
theorem Un.laid2 {fs ex : List Addr} {H : Hp} {h h' : Heap} {a b : Addr} {o u : HO} (k : ∀ c x, h.get? c = some x → h'.get? c = some x) (ha : h.get? a = none) (hb : h.get? b = none) (na : H a = none) (nb : H b = none) (ne : a ≠ b) : Un fs ex H (upd (upd H b u) a o) h h' where
  keep := fun c x q _ _ _ => k c x q
  slot := fun c x q _ _ _ => ⟨x.slots, k c x q⟩
  free := fun c x q n _ => by rw [upd_ne (fun z => by rw [z, ha] at q; cases q), upd_ne (fun z => by rw [z, hb] at q; cases q)]; exact n
  there := fun c x q _ => ⟨x, k c x q⟩
  tups := fun c xs q => by rw [upd_ne (ne_of_none q na), upd_ne (ne_of_none q nb)]; exact q
  frzs := fun c x xs q => by rw [upd_ne (ne_of_none q na), upd_ne (ne_of_none q nb)]; exact q
  tbls := fun c ps q => ⟨#[], by rw [upd_ne (ne_of_none q na), upd_ne (ne_of_none q nb), q]; simp⟩
section
variable {X : Cx}
/-- C(), an own class of errors without own __init__, as a value with its tuple -/
theorem pe_excN {C : Addr} {bmB : List Value} {B newId initId : String} {x : Str} {p pos : Pos} (F : ExcBaseFacts B newId initId bmB) (q : PySem.W.excIn X.K C bmB newId = true) (gC : X.mg x = some (.ref C)) (kC : PySem.W.keepIn X.K (.ref C) = true) (hg : Gl X x) (hdb : (x == ("__debug__" : Str)) = false := by decide) :
    PE X (.Call (.Name x p) [] [] pos) (fun σ H Q => ∀ a t o, a ≠ t → H a = none → H t = none → o.dict = none → Q (.ref a) (upd (upd H t (.frz o (.tup []))) a (ExN C a t))) := by
  refine ⟨fun pins s σ H Q I h => ?_⟩
  refine wpAny_Call_Name_kw (ld_glob I hg gC ?_ hdb)
  refine PySem.W.callWith_K0 I.kIn kC ?_
  obtain ⟨bm, N, nm, qn, bs, hdct, sn, sub, ab, col, dd, k0, k1, k2, k3, k5, mN, hC, hN, hni, T⟩ := exc_obj I.kIn q
  refine wpAny_call_exc_subT F T hC hN hni (fun h' a hm => ?_) (Nat.zero_le _)
  have hn : H a = none := I.hok.gone hm.new
  obtain ⟨t, ht, htn, htt⟩ := hm.there
  have htn : s.heap.get? t = none := htn
  have nt : H t = none := I.hok.gone htn
  have ne : a ≠ t := fun z => by
    rw [z] at ht
    have := ht.symm.trans htt
    cases this
  have htt : h'.get? t = some ({ cls := .type "tuple", data := .seq #[] } : Obj) := htt
  have o1 : ∀ o : Obj, o = { cls := .type "tuple", data := .seq #[] } → ObjOk X.prog X.w (upd H t (.frz o (.tup []))) h' t (.frz o (.tup [])) := fun o e => by
    subst e
    exact ⟨htt, Nat.zero_le _, [], .nil, ⟨_, htt, rfl, _, rfl⟩⟩
  obtain ⟨o, eo⟩ : ∃ o : Obj, o = { cls := .type "tuple", data := .seq #[] } := ⟨_, rfl⟩
  have H1 : HOk X.prog X.w (upd H t (.frz o (.tup []))) h' := I.hok.laidN hm.keeps nt (o1 o eo)
  have hn1 : (upd H t (.frz o (.tup []))) a = none := (upd_ne ne).trans hn
  exact ⟨.ref a, upd (upd H t (.frz o (.tup []))) a (ExN C a t), I.un (Un.laid2 hm.keeps hm.new htn hn nt ne) (H1.laidN (fun _ _ z => z) hn1 (exN_ok ht ⟨rfl, rfl⟩ rfl rfl)), rfl, h a t o ne hn nt (by rw [eo])⟩
end
end L2

namespace Kb
open PySem PySem.Spec PyProof.Rows L2
/-! anything, with its contents -/
inductive Dat where
  | non
  | bl (b : Bool)
  | int (i : Int)
  | str (z : Str)
  | tup (xs : List Dat)
  | lst (xs : List Dat)
  | dic (xs : List Dat)
  | err
theorem paired_imp' {α β : Type} {F G : α → β → Prop} (h : ∀ a b, F a b → G a b) : ∀ {xs : List α} {ys : List β}, Paired F xs ys → Paired G xs ys
  | _, _, .nil => .nil
  | _, _, .cons a t => .cons (h _ _ a) (paired_imp' h t)
def ascB (z : Str) : Bool := z.cps.toList.all fun c => decide (c < 128)
def LfAt (C : Addr) (B L : Nat) (H : Hp) (v : V) : Dat → Prop
  | .non => v = .non
  | .bl b => v = .bl b
  | .int i => v = .int i ∧ i.natAbs ≤ B
  | .str z => v = .str z ∧ z.length ≤ L ∧ ascB z = true
  | .err => ∃ a t, v = .ref a ∧ H a = some (ExN C a t) ∧ Ptp H t []
  | .tup _ => False
  | .lst _ => False
  | .dic _ => False
/-- the value, thing by thing; its lists are none of F -/
def DatAt (F : Addr → Prop) (C : Addr) (B L : Nat) : Nat → Hp → V → Dat → Prop
  | 0, H, v, d => LfAt C B L H v d
  | n + 1, H, v, d => LfAt C B L H v d ∨ (∃ a xs ds, v = .ref a ∧ d = .tup ds ∧ Ptp H a xs ∧ xs.length ≤ L ∧ Paired (DatAt F C B L n H) xs ds) ∨
    (∃ a xs ds, v = .ref a ∧ d = .lst ds ∧ ¬ F a ∧ H a = some (.lst xs) ∧ xs.length ≤ L ∧ Paired (DatAt F C B L n H) xs ds) ∨
    (∃ a l xs ds, v = .ref a ∧ d = .dic ds ∧ H a = some (.dK [(.inr (Str.ofString "a"), .ref l), (.inl 1, .non)]) ∧ ¬ F l ∧ H l = some (.lst xs) ∧ xs.length ≤ L ∧ Paired (DatAt F C B L n H) xs ds)
/-- what keeps anything whose lists are none of F -/
structure DKeep (F : Addr → Prop) (C : Addr) (H H' : Hp) : Prop where
  t : ∀ a xs, Ptp H a xs → Ptp H' a xs
  l : ∀ a xs, ¬ F a → H a = some (.lst xs) → H' a = some (.lst xs)
  d : ∀ a k, H a = some (.dK k) → H' a = some (.dK k)
  e : ∀ a t, H a = some (ExN C a t) → H' a = some (ExN C a t)
theorem DKeep.refl {F : Addr → Prop} {C : Addr} (H : Hp) : DKeep F C H H := ⟨fun _ _ h => h, fun _ _ _ h => h, fun _ _ h => h, fun _ _ h => h⟩
theorem DKeep.trans {F : Addr → Prop} {C : Addr} {H H1 H2 : Hp} (x : DKeep F C H H1) (y : DKeep F C H1 H2) : DKeep F C H H2 :=
  ⟨fun a xs h => y.t a xs (x.t a xs h), fun a xs n h => y.l a xs n (x.l a xs n h), fun a k h => y.d a k (x.d a k h), fun a t h => y.e a t (x.e a t h)⟩
theorem dk_same {F : Addr → Prop} {C : Addr} {H H' : Hp} (s : Same H H') : DKeep F C H H' := ⟨fun a xs h => h.same s, fun a xs _ h => s _ _ h, fun a k h => s _ _ h, fun a t h => s _ _ h⟩
/-- a list of F is stored anew -/
theorem dk_put {F : Addr → Prop} {C : Addr} {p : Addr} {H : Hp} {xs ys : List V} (h : H p = some (.lst xs)) (f : F p) : DKeep F C H (upd H p (.lst ys)) :=
  ⟨fun b zs ⟨o, e, d⟩ => ⟨o, by rw [upd_ne (ne_of e h (by intro z; cases z))]; exact e, d⟩, fun b zs n e => by rw [upd_ne (show b ≠ p from fun z => n (by rw [z]; exact f))]; exact e, fun b k e => by rw [upd_ne (ne_of e h (by intro z; cases z))]; exact e, fun b t e => by rw [upd_ne (ne_of e h (by intro z; cases z))]; exact e⟩
theorem LfAt.keep {F : Addr → Prop} {C : Addr} {B L : Nat} {H H' : Hp} (k : DKeep F C H H') {v : V} : ∀ {d : Dat}, LfAt C B L H v d → LfAt C B L H' v d
  | .non, h => h
  | .bl _, h => h
  | .int _, h => h
  | .str _, h => h
  | .err, ⟨a, t, e, h1, h2⟩ => ⟨a, t, e, k.e a t h1, k.t t [] h2⟩
  | .tup _, h => h.elim
  | .lst _, h => h.elim
  | .dic _, h => h.elim
theorem DatAt.keep {F : Addr → Prop} {C : Addr} {B L : Nat} {H H' : Hp} (k : DKeep F C H H') : ∀ {n : Nat} {v : V} {d : Dat}, DatAt F C B L n H v d → DatAt F C B L n H' v d
  | 0, _, _, h => LfAt.keep k h
  | n + 1, v, d, h => by
    rcases h with h | ⟨a, xs, ds, e1, e2, h1, h2, h3⟩ | ⟨a, xs, ds, e1, e2, f, h1, h2, h3⟩ | ⟨a, l, xs, ds, e1, e2, h0, f, h1, h2, h3⟩
    · exact .inl (LfAt.keep k h)
    · exact .inr (.inl ⟨a, xs, ds, e1, e2, k.t a xs h1, h2, paired_imp' (fun _ _ h => DatAt.keep k h) h3⟩)
    · exact .inr (.inr (.inl ⟨a, xs, ds, e1, e2, f, k.l a xs f h1, h2, paired_imp' (fun _ _ h => DatAt.keep k h) h3⟩))
    · exact .inr (.inr (.inr ⟨a, l, xs, ds, e1, e2, k.d a _ h0, f, k.l l xs f h1, h2, paired_imp' (fun _ _ h => DatAt.keep k h) h3⟩))
theorem DatAt.same {F : Addr → Prop} {C : Addr} {B L n : Nat} {H H' : Hp} {v : V} {d : Dat} (h : DatAt F C B L n H v d) (s : Same H H') : DatAt F C B L n H' v d := h.keep (dk_same s)
theorem LfAt.wide {C : Addr} {B L B' L' : Nat} {H : Hp} (hB : B ≤ B') (hL : L ≤ L') {v : V} : ∀ {d : Dat}, LfAt C B L H v d → LfAt C B' L' H v d
  | .non, h => h
  | .bl _, h => h
  | .int _, h => ⟨h.1, Nat.le_trans h.2 hB⟩
  | .str _, h => ⟨h.1, Nat.le_trans h.2.1 hL, h.2.2⟩
  | .err, h => h
  | .tup _, h => h.elim
  | .lst _, h => h.elim
  | .dic _, h => h.elim
theorem DatAt.wide {F F' : Addr → Prop} {C : Addr} {B L B' L' : Nat} {H : Hp} (hF : ∀ a, F' a → F a) (hB : B ≤ B') (hL : L ≤ L') : ∀ {n m : Nat} {v : V} {d : Dat}, n ≤ m → DatAt F C B L n H v d → DatAt F' C B' L' m H v d
  | 0, 0, _, _, _, h => LfAt.wide hB hL h
  | 0, m + 1, _, _, _, h => .inl (LfAt.wide hB hL h)
  | n + 1, 0, _, _, hm, _ => absurd hm (by omega)
  | n + 1, m + 1, v, d, hm, h => by
    rcases h with h | ⟨a, xs, ds, e1, e2, h1, h2, h3⟩ | ⟨a, xs, ds, e1, e2, f, h1, h2, h3⟩ | ⟨a, l, xs, ds, e1, e2, h0, f, h1, h2, h3⟩
    · exact .inl (LfAt.wide hB hL h)
    · exact .inr (.inl ⟨a, xs, ds, e1, e2, h1, Nat.le_trans h2 hL, paired_imp' (fun _ _ h => DatAt.wide hF hB hL (by omega) h) h3⟩)
    · exact .inr (.inr (.inl ⟨a, xs, ds, e1, e2, fun z => f (hF a z), h1, Nat.le_trans h2 hL, paired_imp' (fun _ _ h => DatAt.wide hF hB hL (by omega) h) h3⟩))
    · exact .inr (.inr (.inr ⟨a, l, xs, ds, e1, e2, h0, fun z => f (hF l z), h1, Nat.le_trans h2 hL, paired_imp' (fun _ _ h => DatAt.wide hF hB hL (by omega) h) h3⟩))
theorem DatAt.leaf {F : Addr → Prop} {C : Addr} {B L : Nat} {H : Hp} {v : V} {d : Dat} (h : LfAt C B L H v d) : ∀ {n : Nat}, DatAt F C B L n H v d
  | 0 => h
  | _ + 1 => .inl h
section
variable {F : Addr → Prop} {C : Addr} {B L n : Nat} {H : Hp}
theorem DatAt.lint {i : Int} (h : i.natAbs ≤ B) : DatAt F C B L n H (.int i) (.int i) := .leaf (show LfAt C B L H (.int i) (.int i) from ⟨rfl, h⟩)
theorem DatAt.lstr {z : Str} (h : z.length ≤ L) (h2 : ascB z = true) : DatAt F C B L n H (.str z) (.str z) := .leaf (show LfAt C B L H (.str z) (.str z) from ⟨rfl, h, h2⟩)
theorem DatAt.lbl {b : Bool} : DatAt F C B L n H (.bl b) (.bl b) := .leaf (show LfAt C B L H (.bl b) (.bl b) from rfl)
theorem DatAt.lnon : DatAt F C B L n H .non .non := .leaf (show LfAt C B L H .non .non from rfl)
theorem DatAt.lerr {a t : Addr} (h : H a = some (ExN C a t)) (h2 : Ptp H t []) : DatAt F C B L n H (.ref a) .err := .leaf (show LfAt C B L H (.ref a) .err from ⟨a, t, rfl, h, h2⟩)
theorem DatAt.ltup {a : Addr} {xs : List V} {ds : List Dat} (h1 : Ptp H a xs) (h2 : xs.length ≤ L) (h3 : Paired (DatAt F C B L n H) xs ds) : DatAt F C B L (n + 1) H (.ref a) (.tup ds) := .inr (.inl ⟨a, xs, ds, rfl, rfl, h1, h2, h3⟩)
theorem DatAt.llst {a : Addr} {xs : List V} {ds : List Dat} (f : ¬ F a) (h1 : H a = some (.lst xs)) (h2 : xs.length ≤ L) (h3 : Paired (DatAt F C B L n H) xs ds) : DatAt F C B L (n + 1) H (.ref a) (.lst ds) := .inr (.inr (.inl ⟨a, xs, ds, rfl, rfl, f, h1, h2, h3⟩))
theorem DatAt.ldic {a l : Addr} {xs : List V} {ds : List Dat} (h0 : H a = some (.dK [(.inr (Str.ofString "a"), .ref l), (.inl 1, .non)])) (f : ¬ F l) (h1 : H l = some (.lst xs)) (h2 : xs.length ≤ L) (h3 : Paired (DatAt F C B L n H) xs ds) : DatAt F C B L (n + 1) H (.ref a) (.dic ds) := .inr (.inr (.inr ⟨a, l, xs, ds, rfl, rfl, h0, f, h1, h2, h3⟩))
end
mutual
/-- its repr -/
def sh (nm : String) : Dat → Str
  | .non => Str.ofString "None"
  | .bl b => Str.ofString (if b then "True" else "False")
  | .int i => Str.ofString (toString i)
  | .str z => reprText z
  | .tup xs => tupleText (shs nm xs)
  | .lst xs => listText (shs nm xs)
  | .dic xs => dictText [reprText (Str.ofString "a") ++ ": " ++ listText (shs nm xs), Str.ofString (toString (1 : Int)) ++ ": " ++ Str.ofString "None"]
  | .err => PySem.exrText nm
def shs (nm : String) : List Dat → List Str
  | [] => []
  | x :: xs => sh nm x :: shs nm xs
end
mutual
/-- no shorter than its repr -/
def wD : Dat → Nat
  | .non => 10
  | .bl _ => 10
  | .int _ => 60
  | .str z => 15 * z.length + 20
  | .tup xs => 10 + wDs xs
  | .lst xs => 10 + wDs xs
  | .dic xs => 60 + wDs xs
  | .err => 200
def wDs : List Dat → Nat
  | [] => 0
  | x :: xs => wD x + 2 + wDs xs
end
theorem shs_len (nm : String) : ∀ xs : List Dat, (shs nm xs).length = xs.length
  | [] => rfl
  | x :: xs => by
    show (shs nm xs).length + 1 = xs.length + 1
    rw [shs_len nm xs]
theorem wDs_app : ∀ xs ys : List Dat, wDs (xs ++ ys) = wDs xs + wDs ys
  | [], ys => by
    show wDs ys = 0 + wDs ys
    omega
  | x :: xs, ys => by
    show wD x + 2 + wDs (xs ++ ys) = wD x + 2 + wDs xs + wDs ys
    rw [wDs_app xs ys]
    omega
theorem wDs_mem : ∀ {xs : List Dat} {x : Dat}, x ∈ xs → wD x < wDs xs
  | y :: xs, x, h => by
    show wD x < wD y + 2 + wDs xs
    rcases List.mem_cons.mp h with rfl | h
    · omega
    · have := wDs_mem h
      omega
theorem nat_len {n : Nat} {k : Nat} (hk : 0 < k) (h : n < 10 ^ k) : (Str.ofString (toString ((n : Nat) : Int))).length ≤ k := by
  have e := congrArg List.length (TL.tl_num n)
  have l := TL.numL_len hk h
  have : (Str.ofString (toString ((n : Nat) : Int))).length = (TL.tl (Str.ofString (toString ((n : Nat) : Int)))).length := by
    show Array.size _ = List.length (Array.toList _)
    rw [Array.length_toList]
  omega
theorem int_len {i : Int} (h : i.natAbs ≤ 2 ^ 90) : (Str.ofString (toString i)).length ≤ 60 := by
  cases i with
  | ofNat n =>
    have h : n ≤ 2 ^ 90 := h
    exact nat_len (by decide) (Nat.lt_of_le_of_lt h (by decide))
  | negSucc n =>
    have h : n + 1 ≤ 2 ^ 90 := h
    have l := nat_len (n := n + 1) (k := 59) (by decide) (Nat.lt_of_le_of_lt h (by decide))
    have e : toString (Int.negSucc n) = "-" ++ toString (((n + 1 : Nat) : Int)) := rfl
    have e2 : ∀ x : String, (Str.ofString x).length = x.length := fun x => PySem.ofString_length x
    rw [e2] at l ⊢
    rw [e, String.length_append]
    have : "-".length = 1 := rfl
    omega
theorem list_len (ts : List Str) : (listText ts).length ≤ (ts.map (·.length)).sum + 2 * ts.length + 2 := by
  have h := textFrom_len_le ts 0 "["
  show (textFrom 0 "[" ts ++ "]").length ≤ _
  rw [strLen_append]
  have e1 : ("[" : Str).length = 1 := rfl
  have e2 : ("]" : Str).length = 1 := rfl
  omega
theorem tuple_len (ts : List Str) : (tupleText ts).length ≤ (ts.map (·.length)).sum + 2 * ts.length + 3 := by
  have h := StrLaws.join_length_le (", " : Str) ts
  have e0 : (", " : Str).length = 2 := rfl
  unfold tupleText
  rw [strLen_append, strLen_append]
  have e1 : ("(" : Str).length = 1 := rfl
  have e2 : ((if ts.length == 1 then ",)" else ")" : String) : Str).length ≤ 2 := by split <;> decide
  rw [e0] at h
  omega
theorem reprs_len {z : Str} (h : ascB z = true) : (reprText z).length ≤ 15 * z.length + 13 := by
  have lv : (PyData.str z).leavesShort 13 = true := by
    show (z.cps.toList.all fun c => decide (c < 16 ^ 8)) = true
    rw [List.all_eq_true]
    intro c hc
    have := of_decide_eq_true (List.all_eq_true.mp h c hc)
    exact decide_eq_true (Nat.lt_trans this (by decide))
  have := PyData.shown_le 13 (by decide) (.str z) lv
  rw [PyData.shown_str] at this
  exact this
theorem sum_sh {nm : String} {R : V → Dat → Prop} (h : ∀ v d, R v d → (sh nm d).length ≤ wD d) : ∀ {xs : List V} {ds : List Dat}, Paired R xs ds → ((shs nm ds).map (·.length)).sum + 2 * (shs nm ds).length ≤ wDs ds
  | _, _, .nil => Nat.le_refl _
  | _, d :: ds, .cons a t => by
    have h1 := h _ _ a
    have h2 := sum_sh (nm := nm) h t
    show (sh nm d).length + ((shs nm ds).map (·.length)).sum + 2 * ((shs nm ds).length + 1) ≤ wD d + 2 + wDs ds
    omega
theorem DatAt.shlen {nm : String} {F : Addr → Prop} {C : Addr} {L : Nat} {H : Hp} (hn : (PySem.exrText nm).length ≤ 200) : ∀ {n : Nat} {v : V} {d : Dat}, DatAt F C (2 ^ 90) L n H v d → (sh nm d).length ≤ wD d := by
  have lf : ∀ {v : V} {d : Dat}, LfAt C (2 ^ 90) L H v d → (sh nm d).length ≤ wD d := fun {v d} h => by
    cases d with
    | non => show (Str.ofString "None").length ≤ 10; decide +kernel
    | bl b => cases b; { show (Str.ofString "False").length ≤ 10; decide +kernel }; { show (Str.ofString "True").length ≤ 10; decide +kernel }
    | int i => exact int_len h.2
    | str z => have := reprs_len h.2.2; show (reprText z).length ≤ 15 * z.length + 20; omega
    | err => exact hn
    | _ => exact h.elim
  intro n
  induction n with
  | zero => exact fun h => lf h
  | succ n ih =>
    intro v d h
    rcases h with h | ⟨a, xs, ds, e1, rfl, h1, h2, h3⟩ | ⟨a, xs, ds, e1, rfl, f, h1, h2, h3⟩ | ⟨a, l, xs, ds, e1, rfl, h0, f, h1, h2, h3⟩
    · exact lf h
    · have s := sum_sh (nm := nm) (fun _ _ h => ih h) h3
      have := tuple_len (shs nm ds)
      show (tupleText (shs nm ds)).length ≤ 10 + wDs ds
      omega
    · have s := sum_sh (nm := nm) (fun _ _ h => ih h) h3
      have := list_len (shs nm ds)
      show (listText (shs nm ds)).length ≤ 10 + wDs ds
      omega
    · have s := sum_sh (nm := nm) (fun _ _ h => ih h) h3
      have := list_len (shs nm ds)
      show (dictText [reprText (Str.ofString "a") ++ ": " ++ listText (shs nm ds), Str.ofString (toString (1 : Int)) ++ ": " ++ Str.ofString "None"]).length ≤ 60 + wDs ds
      unfold dictText
      rw [strLen_append, strLen_append]
      show _ + ((reprText (Str.ofString "a") ++ ": " ++ listText (shs nm ds)) ++ (", " : Str) ++ (Str.ofString (toString (1 : Int)) ++ ": " ++ Str.ofString "None")).length + _ ≤ _
      rw [strLen_append, strLen_append, strLen_append, strLen_append]
      have a1 : (reprText (Str.ofString "a")).length = 3 := by decide +kernel
      have a2 : (": " : Str).length = 2 := rfl
      have a3 : (", " : Str).length = 2 := rfl
      have a4 : (Str.ofString (toString (1 : Int)) ++ ": " ++ Str.ofString "None").length = 7 := by decide +kernel
      have a5 : ("{" : Str).length = 1 := rfl
      have a6 : ("}" : Str).length = 1 := rfl
      omega
end Kb

namespace Kb
open PySem PySem.Spec PyProof.Rows L2
/-! the text -/
def topS (i : Nat) : Stmt := PySem.Challenge.pw_knownends_k22_whole_trees_ranked.main.body.getD i (.Pass ⟨0, 0, 0, 0⟩)
/-! facts -/
structure Dn (K : PySem.W.Frag) (mg : Str → Option Value) (nm : Str) (st : Stmt) (ps : List Str) where
  f : Addr
  fd : FuncData
  F : Fun K nm nm st f fd
  g : mg nm = some (.ref f)
  b : Binds K fd ps []
structure Cst (mg : Str → Option Value) (nm : Str) (v : V) where
  u : Value
  g : mg nm = some u
  r : RelV v u
structure Blt (mg : Str → Option Value) : Prop where
  n_len : mg "len" = none
  n_int : mg "int" = none
  n_abs : mg "abs" = none
  n_range : mg "range" = none
  n_isinstance : mg "isinstance" = none
  n_str : mg "str" = none
  n_all : mg "all" = none
  n_tuple : mg "tuple" = none
  n_bool : mg "bool" = none
  n_list : mg "list" = none
  n_sorted : mg "sorted" = none
  n_max : mg "max" = none
  n_min : mg "min" = none
  n_zip : mg "zip" = none
  n_enumerate : mg "enumerate" = none
/-! heaps -/
theorem same_upd {H : Hp} {p : Addr} {o : HO} (h : H p = none) : Same H (upd H p o) := fun b x e => by
  rw [upd_ne (ne_of_none e h)]
  exact e
theorem Same.new {H H1 : Hp} {p : Addr} {o : HO} (x : Same H H1) (h : H1 p = none) : Same H (upd H1 p o) := fun b u e => same_upd h b u (x b u e)
theorem Same.gone {H H1 : Hp} {p : Addr} (x : Same H H1) (h : H1 p = none) : H p = none := by
  cases e : H p with
  | none => rfl
  | some o =>
    have := x _ _ e
    rw [h] at this
    cases this
/-- an object that was new is stored anew -/
theorem Same.put {H H1 : Hp} {p : Addr} {o : HO} (x : Same H H1) (h : H p = none) : Same H (upd H1 p o) := fun b u e => by
  rw [upd_ne (ne_of_none e h)]
  exact x b u e
theorem sql {K : PySem.W.Frag} {H : Hp} {a : Addr} {xs : List V} (h : H a = some (.lst xs)) : SqL K H a xs := .inl (.inl h)
theorem seqT {K : PySem.W.Frag} {H H' : Hp} {a : Addr} {xs : List V} (h : SqT K H a xs) (s : Same H H') : SqT K H' a xs := by
  rcases h with (h | ⟨o, h⟩) | h
  · exact .inl (.inl (s _ _ h))
  · exact .inl (.inr ⟨o, s _ _ h⟩)
  · exact .inr h
theorem tyT {K : PySem.W.Frag} {H : Hp} {a : Addr} {xs : List V} (h : SqT K H a xs) : TyX K H (.ref a) (.type "tuple") := by
  rcases h with (h | ⟨o, h⟩) | ⟨o, its, n, h, c, _⟩
  · exact .base (.tup h)
  · exact .fTuple h
  · exact .kTuple h c
/-- %, the rest as a letter -/
def rModB : R2 := fun x y H Q => ∃ i j, x = .int i ∧ y = .int j ∧ 0 < j ∧ ∀ m : Int, 0 ≤ m → m < j → m = i % j → Q (.int m) H
theorem op_modB {X : Cx} : OpR X (binaryOp .Mod) rModB := fun pins s σ H x y v u Q I rx ry h => by
  obtain ⟨i, j, e1, e2, hj, q⟩ := h
  exact op_mod pins s σ H x y v u Q I rx ry ⟨i, j, e1, e2, hj, q _ (Int.emod_nonneg _ (by omega)) (Int.emod_lt_of_pos _ hj) rfl⟩
theorem cmulR {i j : Int} (h1 : 0 ≤ j) (h2 : j < 10000000000) : CMul i j := .inr ⟨by omega, by omega⟩
theorem cmulL {i j : Int} (h1 : 0 ≤ i) (h2 : i < 10000000000) : CMul i j := .inl ⟨by omega, by omega⟩
theorem paired_at {α β : Type} {F : α → β → Prop} : ∀ {xs : List α} {ys : List β}, Paired F xs ys → ∀ {i : Nat} {x : α}, xs[i]? = some x → ∃ y, ys[i]? = some y ∧ F x y
  | _, _, .nil, _, _, h => nomatch h
  | _, _, .cons h t, 0, _, e => ⟨_, rfl, by cases e; exact h⟩
  | _, _, .cons h t, i + 1, _, e => paired_at t (i := i) e
theorem paired_imp {α β : Type} {F G : α → β → Prop} (h : ∀ a b, F a b → G a b) {xs : List α} {ys : List β} (p : Paired F xs ys) : Paired G xs ys := paired_imp' h p
theorem paired_getl {α β : Type} {F : α → β → Prop} : ∀ {xs : List α} {ys : List β}, Paired F xs ys → ∀ {i : Nat} {x : α} {y : β}, xs[i]? = some x → ys[i]? = some y → F x y
  | _, _, .nil, _, _, _, h, _ => nomatch h
  | _, _, .cons h t, 0, _, _, e, f => by cases e; cases f; exact h
  | _, _, .cons h t, i + 1, _, _, e, f => paired_getl t (i := i) e f
/-- a value's type, errors too -/
def TyE (K : PySem.W.Frag) (H : Hp) (v : V) (t : Value) : Prop := TyX K H v t ∨ ∃ a t0 C, v = .ref a ∧ t = .ref C ∧ H a = some (ExN C a t0) ∧ L2.ExcC K C
def rIsE' (K : PySem.W.Frag) : List V → Hp → VK → Prop := fun xs H Q => ∃ (x c : V) (t u : Value) (b : Bool), xs = [x, c] ∧ ClsV c u ∧ TyE K H x t ∧ PySem.W.kitOne K t u = some b ∧ Q (.bl b) H
theorem call_isD {X : Cx} {K : PySem.W.Frag} (hK : X.K = K) : CallR X (.builtin "isinstance") (rIsE' K) := by
  subst hK
  intro pins s σ H xs us Q I r h
  obtain ⟨x, c, t, u, b, rfl, k, ty | ⟨a, t0, C, rfl, rfl, ha, hC⟩, e, q⟩ := h
  · exact call_isi pins s σ H _ us Q I r ⟨x, c, t, u, b, rfl, k, ty, e, q⟩
  · obtain ⟨u1, u2, rfl, r1, r2⟩ := vals2 r
    have e2 := k.eq r2
    subst e2
    cases r1
    obtain ⟨⟨oe, vs, ho, hz, hd, _⟩, _, _⟩ := I.hok a _ ha
    have J : PySem.W.InstAt s.heap a oe C none := by
      obtain ⟨oc, od, oda, osl⟩ := oe
      obtain ⟨h1, h2⟩ := hz
      dsimp only at h1 h2 hd
      subst h1 h2 hd
      exact ⟨ho, rfl, rfl, trivial⟩
    exact PySem.W.kia_one (PySem.W.handS_kitx_exc hC.hg hC.hk hC.hs hC.hd hC.ha hC.hn hC.ht hC.hm) I.kIn J e (fun z => nomatch z) fun tk => ⟨.bl b, H, I.kept (t' := tk) fun _ _ z => z, rfl, q⟩
def isI : Dat → Bool
  | .int _ => true
  | .bl _ => true
  | _ => false
def isBd : Dat → Bool
  | .bl _ => true
  | _ => false
def isS : Dat → Bool
  | .str _ => true
  | _ => false
def isT : Dat → Bool
  | .tup _ => true
  | _ => false
/-! anything, by its kinds: what a list or a dict holds is not told -/
def LfK (H : Hp) (v : V) : Dat → Prop
  | .non => v = .non
  | .bl b => v = .bl b
  | .int i => v = .int i ∧ i.natAbs ≤ 2 ^ 100
  | .str z => v = .str z ∧ z.length ≤ 5000
  | .lst _ => ∃ a xs, v = .ref a ∧ H a = some (.lst xs)
  | .dic _ => ∃ a k, v = .ref a ∧ H a = some (.dK k)
  | .err => False
  | .tup _ => False
def DtK : Nat → Hp → V → Dat → Prop
  | 0, H, v, d => LfK H v d
  | n + 1, H, v, d => LfK H v d ∨ ∃ a xs ds, v = .ref a ∧ d = .tup ds ∧ Ptp H a xs ∧ xs.length ≤ 5000 ∧ Paired (DtK n H) xs ds
/-- what keeps all that -/
structure KpD (H H' : Hp) : Prop where
  t : ∀ a xs, Ptp H a xs → Ptp H' a xs
  l : ∀ a xs, H a = some (.lst xs) → ∃ ys, H' a = some (.lst ys)
  d : ∀ a k, H a = some (.dK k) → ∃ k', H' a = some (.dK k')
theorem KpD.refl (H : Hp) : KpD H H := ⟨fun _ _ h => h, fun _ _ h => ⟨_, h⟩, fun _ _ h => ⟨_, h⟩⟩
theorem KpD.trans {H H1 H2 : Hp} (x : KpD H H1) (y : KpD H1 H2) : KpD H H2 := ⟨fun a xs h => y.t a xs (x.t a xs h), fun a xs h => let ⟨_, h1⟩ := x.l a xs h; y.l _ _ h1, fun a k h => let ⟨_, h1⟩ := x.d a k h; y.d _ _ h1⟩
theorem kpD_same {H H' : Hp} (s : Same H H') : KpD H H' := ⟨fun a xs h => h.same s, fun a xs h => ⟨_, s _ _ h⟩, fun a k h => ⟨_, s _ _ h⟩⟩
theorem LfK.keep {H H' : Hp} (k : KpD H H') {v : V} : ∀ {d : Dat}, LfK H v d → LfK H' v d
  | .non, h => h
  | .bl _, h => h
  | .int _, h => h
  | .str _, h => h
  | .lst _, ⟨a, xs, e, h⟩ => let ⟨ys, h1⟩ := k.l a xs h; ⟨a, ys, e, h1⟩
  | .dic _, ⟨a, x, e, h⟩ => let ⟨y, h1⟩ := k.d a x h; ⟨a, y, e, h1⟩
  | .err, h => h
  | .tup _, h => h
theorem DtK.keep {H H' : Hp} (k : KpD H H') : ∀ {n : Nat} {v : V} {d : Dat}, DtK n H v d → DtK n H' v d
  | 0, _, _, h => LfK.keep k h
  | n + 1, _, _, h => by
    rcases h with h | ⟨a, xs, ds, e1, e2, h1, h2, h3⟩
    · exact .inl (LfK.keep k h)
    · exact .inr ⟨a, xs, ds, e1, e2, k.t _ _ h1, h2, paired_imp (fun _ _ h => DtK.keep k h) h3⟩
theorem DtK.up : ∀ {n : Nat} {H : Hp} {v : V} {d : Dat}, DtK n H v d → DtK (n + 1) H v d
  | 0, _, _, _, h => .inl h
  | n + 1, _, _, _, h => by
    rcases h with h | ⟨a, xs, ds, e1, e2, h1, h2, h3⟩
    · exact .inl h
    · exact .inr ⟨a, xs, ds, e1, e2, h1, h2, paired_imp (fun _ _ h => DtK.up h) h3⟩
theorem DtK.ups {n m : Nat} {H : Hp} {v : V} {d : Dat} (h : DtK n H v d) (le : n ≤ m) : DtK m H v d := by
  induction le with
  | refl => exact h
  | step _ ih => exact ih.up
/-- anything, as the judges meet it -/
def DtAt (K : PySem.W.Frag) (H : Hp) (v : V) (d : Dat) : Prop := ∃ n : Nat, DtK n H v d
theorem DtAt.keep {K : PySem.W.Frag} {H H' : Hp} {v : V} {d : Dat} (h : DtAt K H v d) (k : KpD H H') : DtAt K H' v d := let ⟨n, h⟩ := h; ⟨n, h.keep k⟩
theorem DtAt.same {K : PySem.W.Frag} {H H' : Hp} {v : V} {d : Dat} (h : DtAt K H v d) (s : Same H H') : DtAt K H' v d := h.keep (kpD_same s)
theorem DtAt.lf {K : PySem.W.Frag} {H : Hp} {v : V} {d : Dat} (h : LfK H v d) : DtAt K H v d := ⟨0, h⟩
theorem DtK.cases {n : Nat} {H : Hp} {v : V} {d : Dat} (h : DtK n H v d) : LfK H v d ∨ ∃ m a xs ds, n = m + 1 ∧ v = .ref a ∧ d = .tup ds ∧ Ptp H a xs ∧ xs.length ≤ 5000 ∧ Paired (DtK m H) xs ds := by
  cases n with
  | zero => exact .inl h
  | succ n =>
    rcases h with h | ⟨a, xs, ds, e1, e2, h1, h2, h3⟩
    · exact .inl h
    · exact .inr ⟨n, a, xs, ds, rfl, e1, e2, h1, h2, h3⟩
/-- the parts of a paired list have one depth -/
theorem dts_depth {K : PySem.W.Frag} {H : Hp} : ∀ {xs : List V} {ds : List Dat}, Paired (DtAt K H) xs ds → ∃ n, Paired (DtK n H) xs ds
  | _, _, .nil => ⟨0, .nil⟩
  | _, _, .cons h t => by
    obtain ⟨n, h⟩ := h
    obtain ⟨m, t⟩ := dts_depth t
    exact ⟨max n m, .cons (h.ups (Nat.le_max_left _ _)) (paired_imp (fun _ _ h => h.ups (Nat.le_max_right _ _)) t)⟩
/-- a plain tuple of such -/
theorem DtAt.mk {K : PySem.W.Frag} {H : Hp} {a : Addr} {xs : List V} {ds : List Dat} (h : Ptp H a xs) (l : xs.length ≤ 5000) (p : Paired (DtAt K H) xs ds) : DtAt K H (.ref a) (.tup ds) := by
  obtain ⟨n, p⟩ := dts_depth p
  exact ⟨n + 1, .inr ⟨a, xs, ds, rfl, rfl, h, l, p⟩⟩
theorem DtAt.ty {K : PySem.W.Frag} {H : Hp} {v : V} {d : Dat} (h : DtAt K H v d) : ∃ t, TyE K H v t ∧ PySem.W.kitOne K t (.type "int") = some (isI d) ∧ PySem.W.kitOne K t (.type "bool") = some (isBd d) ∧ PySem.W.kitOne K t (.type "str") = some (isS d) ∧ PySem.W.kitOne K t (.type "tuple") = some (isT d) := by
  obtain ⟨n, h⟩ := h
  rcases h.cases with h | ⟨m, a, xs, ds, rfl, rfl, rfl, h1, h2, h3⟩
  · cases d with
    | non =>
      cases (show v = .non from h)
      exact ⟨.type "NoneType", .inl (.base .non), kit_ty (show kitB "NoneType" "int" = some false by decide +kernel), kit_ty (show kitB "NoneType" "bool" = some false by decide +kernel), kit_ty (show kitB "NoneType" "str" = some false by decide +kernel), kit_ty (show kitB "NoneType" "tuple" = some false by decide +kernel)⟩
    | bl b =>
      cases (show v = .bl b from h)
      exact ⟨.type "bool", .inl (.base (.bl b)), kit_ty (show kitB "bool" "int" = some true by decide +kernel), kit_ty (show kitB "bool" "bool" = some true by decide +kernel), kit_ty (show kitB "bool" "str" = some false by decide +kernel), kit_ty (show kitB "bool" "tuple" = some false by decide +kernel)⟩
    | int i =>
      cases h.1
      exact ⟨.type "int", .inl (.base (.int i)), kit_ty (show kitB "int" "int" = some true by decide +kernel), kit_ty (show kitB "int" "bool" = some false by decide +kernel), kit_ty (show kitB "int" "str" = some false by decide +kernel), kit_ty (show kitB "int" "tuple" = some false by decide +kernel)⟩
    | str z =>
      cases h.1
      exact ⟨.type "str", .inl (.base (.str z)), kit_ty (show kitB "str" "int" = some false by decide +kernel), kit_ty (show kitB "str" "bool" = some false by decide +kernel), kit_ty (show kitB "str" "str" = some true by decide +kernel), kit_ty (show kitB "str" "tuple" = some false by decide +kernel)⟩
    | lst _ =>
      obtain ⟨a, xs, rfl, h1⟩ := h
      exact ⟨.type "list", .inl (.base (.lst h1)), kit_ty (show kitB "list" "int" = some false by decide +kernel), kit_ty (show kitB "list" "bool" = some false by decide +kernel), kit_ty (show kitB "list" "str" = some false by decide +kernel), kit_ty (show kitB "list" "tuple" = some false by decide +kernel)⟩
    | dic _ =>
      obtain ⟨a, k, rfl, h0⟩ := h
      exact ⟨.type "dict", .inl (.base (.dK h0)), kit_ty (show kitB "dict" "int" = some false by decide +kernel), kit_ty (show kitB "dict" "bool" = some false by decide +kernel), kit_ty (show kitB "dict" "str" = some false by decide +kernel), kit_ty (show kitB "dict" "tuple" = some false by decide +kernel)⟩
    | err => exact h.elim
    | tup _ => exact h.elim
  · exact ⟨.type "tuple", .inl (tyT (K := K) h1.seq), kit_ty (show kitB "tuple" "int" = some false by decide +kernel), kit_ty (show kitB "tuple" "bool" = some false by decide +kernel), kit_ty (show kitB "tuple" "str" = some false by decide +kernel), kit_ty (show kitB "tuple" "tuple" = some true by decide +kernel)⟩
theorem DtAt.tup {K : PySem.W.Frag} {H : Hp} {v : V} {ds : List Dat} (h : DtAt K H v (.tup ds)) : ∃ a xs, v = .ref a ∧ Ptp H a xs ∧ xs.length ≤ 5000 ∧ Paired (DtAt K H) xs ds := by
  obtain ⟨n, h⟩ := h
  rcases h.cases with h | ⟨m, a, xs, ds, rfl, rfl, e, h1, h2, h3⟩
  · exact h.elim
  · cases e
    exact ⟨a, xs, rfl, h1, h2, paired_imp (fun _ _ h => ⟨m, h⟩) h3⟩
theorem DtAt.int {K : PySem.W.Frag} {H : Hp} {v : V} {i : Int} (h : DtAt K H v (.int i)) : v = .int i ∧ i.natAbs ≤ 2 ^ 100 := by
  obtain ⟨n, h⟩ := h
  rcases h.cases with h | ⟨m, a, xs, ds, rfl, rfl, e, _⟩
  · exact h
  · cases e
theorem DtAt.str {K : PySem.W.Frag} {H : Hp} {v : V} {z : Str} (h : DtAt K H v (.str z)) : v = .str z ∧ z.length ≤ 5000 := by
  obtain ⟨n, h⟩ := h
  rcases h.cases with h | ⟨m, a, xs, ds, rfl, rfl, e, _⟩
  · exact h
  · cases e
/-! the judges -/
def intD : Dat → Option Int
  | .int i => some i
  | _ => none
def geI (d : Dat) : Int := (intD d).getD 0
def isRB : Option Int → Bool
  | some i => decide (1 ≤ i) && decide (i ≤ 64)
  | none => false
def isNB : Option Int → Bool
  | some i => decide (0 ≤ i)
  | none => false
def isPB : Option Int → Bool
  | some i => decide (1 ≤ i)
  | none => false
abbrev sP_is_int : Stmt := topS 10
abbrev NP_is_int : List Str := ["thing"]
theorem scP_is_int : FnScope ["thing"] ["thing"] (defScope sP_is_int) := ⟨rfl, rfl, rfl, by decide +kernel, rfl, by decide +kernel, by decide +kernel⟩
abbrev DnIsInt (K : PySem.W.Frag) (mg : Str → Option Value) := Dn K mg "is_int" sP_is_int ["thing"]
abbrev sP_is_number : Stmt := topS 11
abbrev NP_is_number : List Str := ["thing"]
theorem scP_is_number : FnScope ["thing"] ["thing"] (defScope sP_is_number) := ⟨rfl, rfl, rfl, by decide +kernel, rfl, by decide +kernel, by decide +kernel⟩
abbrev DnIsNumber (K : PySem.W.Frag) (mg : Str → Option Value) := Dn K mg "is_number" sP_is_number ["thing"]
abbrev sP_is_room : Stmt := topS 12
abbrev NP_is_room : List Str := ["thing"]
theorem scP_is_room : FnScope ["thing"] ["thing"] (defScope sP_is_room) := ⟨rfl, rfl, rfl, by decide +kernel, rfl, by decide +kernel, by decide +kernel⟩
abbrev DnIsRoom (K : PySem.W.Frag) (mg : Str → Option Value) := Dn K mg "is_room" sP_is_room ["thing"]
section
variable {P : Program} {w : World} {K : PySem.W.Frag} {mg : Str → Option Value} {base : Heap}
/-! is_int .. is_room, of anything -/
def spIsIntD (K : PySem.W.Frag) : Sp := fun vs H Q _ => ∃ (v : V) (d : Dat), vs = [v] ∧ DtAt K H v d ∧ Q (.bl (intD d).isSome) H
theorem ok_is_intD (T : Blt mg) (d : DnIsInt K mg) : FnOk P w K mg base CX0 1 d.f d.fd ["thing"] (spIsIntD K) := by
  refine d.F.ok scP_is_int (fun vs H Q E h => ?_) (fun cdv A outer s H vs Q E hr h => ?_)
  · obtain ⟨v, n, rfl, _⟩ := h
    rfl
  · obtain ⟨v, x, rfl, hx, q⟩ := h
    refine ⟨_, (pss_one (ps_ret (pe_and (pe_callB (call_isD (K := K) rfl) (by rfl) T.n_isinstance (by decide +kernel) (pa_cons (pv 0) (pa_cons (pe_bltn (v := .ty "int") (by rfl) T.n_int (by decide +kernel) rfl) pa_nil))) (pe_one (pe_not (pe_callB (call_isD (K := K) rfl) (by rfl) T.n_isinstance (by decide +kernel) (pa_cons (pv 0) (pa_cons (pe_bltn (v := .ty "bool") (by rfl) T.n_bool (by decide +kernel) rfl) pa_nil)))))))), ?_⟩
    obtain ⟨t, ty, kI, kB, kS, kT⟩ := hx.ty
    refine ⟨v, rfl, v, _, t, _, isI x, rfl, .ty "int", ty, kI, isI x, rfl, ?_⟩
    cases x with
    | int i => exact iteT ⟨_, rfl, _, _, t, _, false, rfl, .ty "bool", ty, kB, false, rfl, q⟩
    | bl b => exact iteT ⟨_, rfl, _, _, t, _, true, rfl, .ty "bool", ty, kB, true, rfl, q⟩
    | _ => exact iteF q
def spIsNumberD (K : PySem.W.Frag) : Sp := fun vs H Q _ => ∃ (v : V) (d : Dat), vs = [v] ∧ DtAt K H v d ∧ Q (.bl (isNB (intD d))) H
theorem ok_is_numberD (T : Blt mg) (dP_is_int : DnIsInt K mg) (d : DnIsNumber K mg) : FnOk P w K mg base CX0 2 d.f d.fd ["thing"] (spIsNumberD K) := by
  have GP_is_int : FnOk P w K mg base CX0 1 dP_is_int.f dP_is_int.fd ["thing"] (spIsIntD K) := ok_is_intD T dP_is_int
  refine d.F.ok scP_is_number (fun vs H Q E h => ?_) (fun cdv A outer s H vs Q E hr h => ?_)
  · obtain ⟨v, n, rfl, _⟩ := h
    rfl
  · obtain ⟨v, x, rfl, hx, q⟩ := h
    refine ⟨_, (pss_one (ps_ret (pe_and (pe_call GP_is_int (hr.mono (by omega)) (by rfl) dP_is_int.g dP_is_int.F.kp dP_is_int.b .nil pass0 (pa_cons (pv 0) pa_nil)) (pe_one (pe_cmpR op_ge (pv 0) pe_int (nomark _)))))), ?_⟩
    refine ⟨v, rfl, v, x, rfl, hx, (intD x).isSome, rfl, ?_⟩
    cases x with
    | int i =>
      obtain ⟨rfl, _⟩ := hx.int
      exact iteT ⟨.int i, rfl, _, _, rfl, rfl, q⟩
    | _ => exact iteF q
def spIsRoomD (K : PySem.W.Frag) : Sp := fun vs H Q _ => ∃ (v : V) (d : Dat), vs = [v] ∧ DtAt K H v d ∧ Q (.bl (isRB (intD d))) H
theorem ok_is_roomD (T : Blt mg) (cM : Cst mg "MOST_ROOM" (.int 64)) (dP_is_int : DnIsInt K mg) (d : DnIsRoom K mg) : FnOk P w K mg base CX0 2 d.f d.fd ["thing"] (spIsRoomD K) := by
  have GP_is_int : FnOk P w K mg base CX0 1 dP_is_int.f dP_is_int.fd ["thing"] (spIsIntD K) := ok_is_intD T dP_is_int
  refine d.F.ok scP_is_room (fun vs H Q E h => ?_) (fun cdv A outer s H vs Q E hr h => ?_)
  · obtain ⟨v, n, rfl, _⟩ := h
    rfl
  · obtain ⟨v, x, rfl, hx, q⟩ := h
    refine ⟨_, (pss_one (ps_ret (pe_and (pe_call GP_is_int (hr.mono (by omega)) (by rfl) dP_is_int.g dP_is_int.F.kp dP_is_int.b .nil pass0 (pa_cons (pv 0) pa_nil)) (pe_one (pe_chain op_le op_le pe_int (pv 0) (pe_glob rfl cM.g cM.r)))))), ?_⟩
    refine ⟨v, rfl, v, x, rfl, hx, (intD x).isSome, rfl, ?_⟩
    cases x with
    | int i =>
      obtain ⟨rfl, _⟩ := hx.int
      have q : Q (.bl (decide (1 ≤ i) && decide (i ≤ 64))) H := q
      refine iteT ⟨.int i, rfl, _, _, rfl, rfl, decide (1 ≤ i), rfl, ite2 (fun e => ⟨_, _, rfl, rfl, ?_⟩) (fun e => ?_)⟩
      · rw [e, Bool.true_and] at q
        exact q
      · rw [show decide (1 ≤ i) = false from by simpa using e, Bool.false_and] at q
        exact q
    | _ => exact iteF q
end
end Kb

/-! a op1 b op2 c op3 d -/
namespace L2
open PySem PySem.Spec PyProof.Rows
section
variable {X : Cx} {a b c d : Expr} {ta tb tc td : TE} {pos : Pos}
def tChain3 (r r' r'' : R2) (ta tb tc td : TE) : TE := fun σ H Q => ta σ H fun x H1 => tb σ H1 fun y H2 => r x y H2 fun z H3 => ∃ k, z = .bl k ∧
  (if k = true then tc σ H3 fun w' H4 => r' y w' H4 fun z' H5 => ∃ k', z' = .bl k' ∧ (if k' = true then td σ H5 fun w2 H6 => r'' w' w2 H6 Q else Q (.bl false) H5) else Q (.bl false) H3)
theorem pe_chain3 {op op' op'' : CmpOp} {r r' r'' : R2} (ho : OpR X (compareOp op) r) (ho' : OpR X (compareOp op') r') (ho'' : OpR X (compareOp op'') r'') (ha : PE X a ta) (hb : PE X b tb) (hc : PE X c tc) (hd : PE X d td)
    (hm : lastMarks [op, op', op''] [b, c, d] = false := by with_unfolding_all rfl) : PE X (.Compare a [op, op', op''] [b, c, d] pos) (tChain3 r r' r'' ta tb tc td) := by
  refine ⟨fun pins s σ H Q I h => ?_⟩
  refine Compare_chain (thn (ha.run pins s σ H _ I h) fun v s1 ⟨x, H1, I1, r1, q1⟩ => chain_link (thn (hb.run pins s1 σ H1 _ I1 q1) fun u s2 ⟨y, H2, I2, r2, q2⟩ =>
    thn (ho pins s2 σ H2 x y v u _ I2 r1 r2 q2) fun d s3 ⟨z, H3, I3, r3, k, e, q3⟩ => ?_)) hm
  subst e
  cases r3
  refine wpAny_truthy_bool ?_
  cases k with
  | false => exact ite_ff ⟨.bl false, H3, I3, rfl, q3⟩
  | true =>
    refine ite_tt (chain_link (thn (hc.run pins s3 σ H3 _ I3 q3) fun w' s4 ⟨z', H4, I4, r4, q4⟩ => thn (ho' pins s4 σ H4 y z' u w' _ I4 r2 r4 q4) fun d s5 ⟨z2, H5, I5, r5, k', e', q5⟩ => ?_))
    subst e'
    cases r5
    refine wpAny_truthy_bool ?_
    cases k' with
    | false => exact ite_ff ⟨.bl false, H5, I5, rfl, q5⟩
    | true => exact ite_tt (chain_last (thn (hd.run pins s5 σ H5 _ I5 q5) fun w2 s6 ⟨z3, H6, I6, r6, q6⟩ => ho'' pins s6 σ H6 z' z3 w' w2 Q I6 r4 r6 q6))
end
end L2

namespace Kb
open PySem PySem.Spec PyProof.Rows L2 RZ
/-! marks and ranks judged, as mathematics -/
structure Mk where
  t : Int
  b : Int
  w : Int
  x : Int
  y : Int
  z : Int
def frD (m : Mk) : Dat := .tup [.int m.t, .int m.b]
def mk2 (m : Mk) : Dat := .tup [frD m, .int m.w, .int m.x, .int m.y, .int m.z]
def lenD : Dat → Nat
  | .tup ks => ks.length
  | _ => 0
def gcB (t b : Int) : Bool := decide (((Nat.gcd t.natAbs b.natAbs : Nat) : Int) = 1)
def frB : Dat → Bool
  | .tup [x, y] => (intD x).isSome && ((intD y).isSome && (decide (1 ≤ geI y) && gcB (geI x) (geI y)))
  | _ => false
def bdB (n a b c d : Int) : Bool := (decide (0 ≤ a) && (decide (a < c) && decide (c ≤ n))) && ((decide (a ≤ b) && (decide (b < d) && decide (d ≤ n))) && decide (c ≤ d))
def mkB (n : Int) : Dat → Bool
  | .tup [f, a, b, c, d] => frB f && ((([a, b, c, d].map fun x => (intD x).isSome).all id) && bdB n (geI a) (geI b) (geI c) (geI d))
  | _ => false
structure FrOk (t b : Int) : Prop where
  b1 : 1 ≤ b
  g : Nat.gcd t.natAbs b.natAbs = 1
structure BdOk (n : Int) (m : Mk) : Prop where
  a0 : 0 ≤ m.w
  ac : m.w < m.y
  cn : m.y ≤ n
  ab : m.w ≤ m.x
  bd : m.x < m.z
  dn : m.z ≤ n
  cd : m.y ≤ m.z
theorem bdB_iff {n : Int} {m : Mk} : bdB n m.w m.x m.y m.z = true ↔ BdOk n m := by
  unfold bdB
  simp only [Bool.and_eq_true, decide_eq_true_eq]
  exact ⟨fun ⟨⟨h1, h2, h3⟩, ⟨h4, h5, h6⟩, h7⟩ => ⟨h1, h2, h3, h4, h5, h6, h7⟩, fun ⟨h1, h2, h3, h4, h5, h6, h7⟩ => ⟨⟨h1, h2, h3⟩, ⟨h4, h5, h6⟩, h7⟩⟩
theorem gcB_iff {t b : Int} : gcB t b = true ↔ Nat.gcd t.natAbs b.natAbs = 1 := by
  unfold gcB
  rw [decide_eq_true_eq]
  omega
theorem frB_is {d : Dat} (h : frB d = true) : ∃ t b, d = .tup [.int t, .int b] ∧ FrOk t b := by
  match d, h with
  | .tup [x, y], h =>
    have h : ((intD x).isSome && ((intD y).isSome && (decide (1 ≤ geI y) && gcB (geI x) (geI y)))) = true := h
    cases x with
    | int t =>
      cases y with
      | int b =>
        have h : (true && (true && (decide (1 ≤ b) && gcB t b))) = true := h
        simp only [Bool.true_and, Bool.and_eq_true, decide_eq_true_eq] at h
        exact ⟨t, b, rfl, h.1, gcB_iff.mp h.2⟩
      | _ => cases h
    | _ => cases h
theorem frB_of {t b : Int} (h : FrOk t b) : frB (.tup [.int t, .int b]) = true := by
  show (true && (true && (decide (1 ≤ b) && gcB t b))) = true
  rw [decide_eq_true h.b1, gcB_iff.mpr h.g]
  rfl
structure MkOk (n : Int) (m : Mk) : Prop where
  fr : FrOk m.t m.b
  bd : BdOk n m
theorem mkB_is {n : Int} {d : Dat} (h : mkB n d = true) : ∃ m, d = mk2 m ∧ MkOk n m := by
  match d, h with
  | .tup [f, a, b, c, e], h =>
    have h : (frB f && ((([a, b, c, e].map fun x => (intD x).isSome).all id) && bdB n (geI a) (geI b) (geI c) (geI e))) = true := h
    rw [Bool.and_eq_true, Bool.and_eq_true] at h
    obtain ⟨h1, h2, h3⟩ := h
    obtain ⟨t, q, rfl, fo⟩ := frB_is h1
    have h2 : ((intD a).isSome && ((intD b).isSome && ((intD c).isSome && ((intD e).isSome && true)))) = true := h2
    cases a with
    | int a =>
      cases b with
      | int b =>
        cases c with
        | int c =>
          cases e with
          | int e => exact ⟨⟨t, q, a, b, c, e⟩, rfl, fo, bdB_iff.mp h3⟩
          | _ => cases h2
        | _ => cases h2
      | _ => cases h2
    | _ => cases h2
theorem mkB_of {n : Int} {m : Mk} (h : MkOk n m) : mkB n (mk2 m) = true := by
  show (frB (.tup [.int m.t, .int m.b]) && (true && bdB n m.w m.x m.y m.z)) = true
  rw [frB_of h.fr, bdB_iff.mpr h.bd]
  rfl
def mkO : Dat → Mk
  | .tup [.tup [.int t, .int b], .int w, .int x, .int y, .int z] => ⟨t, b, w, x, y, z⟩
  | _ => ⟨0, 1, 0, 0, 1, 1⟩
theorem mkO_2 (m : Mk) : mkO (mk2 m) = m := rfl
theorem mkO_is {n : Int} {d : Dat} (h : mkB n d = true) : mk2 (mkO d) = d ∧ MkOk n (mkO d) := by
  obtain ⟨m, rfl, o⟩ := mkB_is h
  exact ⟨rfl, o⟩
def lsB (t b t' b' : Int) : Bool := decide (t * b' < t' * b)
def flB (m o : Mk) : Bool := lsB m.t m.b o.t o.b && (decide (m.y ≤ o.w) && decide (m.z ≤ o.x))
def stB (ms : List Mk) : List Bool := (ms.zip (ms.drop 1)).map fun p => flB p.1 p.2
theorem stB_len (ms : List Mk) : (stB ms).length = min ms.length (ms.drop 1).length := by
  unfold stB
  rw [List.length_map, List.length_zip]
theorem stB_at {ms : List Mk} {i : Nat} {d e : Mk} (h1 : ms[i]? = some d) (h2 : (ms.drop 1)[i]? = some e) : (stB ms)[i]? = some (flB d e) := by
  unfold stB
  rw [List.getElem?_map, (List.getElem?_zip_eq_some (z := (d, e))).mpr ⟨h1, h2⟩]
  rfl
def mksB (n : Dat) : Dat → Bool
  | .tup ds => isNB (intD n) && (ds.all (mkB (geI n)) && (stB (ds.map mkO)).all id)
  | _ => false
def rkB : Dat → Bool
  | .tup [r, n, k] => isRB (intD r) && (mksB n k && decide ((lenD k : Int) ≤ geI r))
  | _ => false
theorem isNB_is {d : Dat} (h : isNB (intD d) = true) : ∃ i, d = .int i ∧ 0 ≤ i := by
  cases d with
  | int i => exact ⟨i, rfl, of_decide_eq_true h⟩
  | _ => cases h
theorem isRB_is {d : Dat} (h : isRB (intD d) = true) : ∃ i, d = .int i ∧ 1 ≤ i ∧ i ≤ 64 := by
  cases d with
  | int i =>
    have h : (decide (1 ≤ i) && decide (i ≤ 64)) = true := h
    rw [Bool.and_eq_true, decide_eq_true_eq, decide_eq_true_eq] at h
    exact ⟨i, rfl, h.1, h.2⟩
  | _ => cases h
structure RkOk (r n : Int) (ms : List Mk) : Prop where
  r1 : 1 ≤ r
  r64 : r ≤ 64
  n0 : 0 ≤ n
  mks : ∀ m ∈ ms, MkOk n m
  st : (stB ms).all id = true
  len : (ms.length : Int) ≤ r
def rk2 (r n : Int) (ms : List Mk) : Dat := .tup [.int r, .int n, .tup (ms.map mk2)]
theorem mks_is {n : Int} {ds : List Dat} (h : ds.all (mkB n) = true) : (ds.map mkO).map mk2 = ds ∧ ∀ m ∈ ds.map mkO, MkOk n m := by
  have h := List.all_eq_true.mp h
  refine ⟨?_, fun m hm => ?_⟩
  · rw [List.map_map]
    conv => rhs; rw [← List.map_id ds]
    exact List.map_congr_left fun d hd => (mkO_is (h d hd)).1
  · obtain ⟨d, hd, rfl⟩ := List.mem_map.mp hm
    exact (mkO_is (h d hd)).2
theorem rkB_is {d : Dat} (h : rkB d = true) : ∃ r n ms, d = rk2 r n ms ∧ RkOk r n ms := by
  match d, h with
  | .tup [x, y, k], h =>
    have h : (isRB (intD x) && (mksB y k && decide ((lenD k : Int) ≤ geI x))) = true := h
    rw [Bool.and_eq_true, Bool.and_eq_true] at h
    obtain ⟨h1, h2, h3⟩ := h
    obtain ⟨r, rfl, r1, r64⟩ := isRB_is h1
    cases k with
    | tup ds =>
      have h2 : (isNB (intD y) && (ds.all (mkB (geI y)) && (stB (ds.map mkO)).all id)) = true := h2
      rw [Bool.and_eq_true, Bool.and_eq_true] at h2
      obtain ⟨h4, h5, h6⟩ := h2
      obtain ⟨n, rfl, n0⟩ := isNB_is h4
      obtain ⟨e, al⟩ := mks_is h5
      have h3 : (ds.length : Int) ≤ r := of_decide_eq_true h3
      refine ⟨r, n, ds.map mkO, ?_, r1, r64, n0, al, h6, by rw [List.length_map]; exact h3⟩
      rw [rk2, e]
    | _ => cases h2
theorem map_mkO (ms : List Mk) : (ms.map mk2).map mkO = ms := by
  rw [List.map_map]
  conv => rhs; rw [← List.map_id ms]
  exact List.map_congr_left fun m _ => rfl
theorem rkB_of {r n : Int} {ms : List Mk} (h : RkOk r n ms) : rkB (rk2 r n ms) = true := by
  show ((decide (1 ≤ r) && decide (r ≤ 64)) && ((decide (0 ≤ n) && ((ms.map mk2).all (mkB n) && (stB ((ms.map mk2).map mkO)).all id)) && decide (((ms.map mk2).length : Int) ≤ r))) = true
  rw [decide_eq_true h.r1, decide_eq_true h.r64, decide_eq_true h.n0, map_mkO, h.st, List.length_map, decide_eq_true h.len, List.all_eq_true.mpr fun d hd => by
    obtain ⟨m, hm, rfl⟩ := List.mem_map.mp hd
    exact mkB_of (h.mks m hm)]
  rfl
/-! small -/
theorem two {α : Type} {xs : List α} (h : xs.length = 2) : ∃ a b, xs = [a, b] := match xs, h with | [a, b], _ => ⟨a, b, rfl⟩
theorem three {α : Type} {xs : List α} (h : xs.length = 3) : ∃ a b c, xs = [a, b, c] := match xs, h with | [a, b, c], _ => ⟨a, b, c, rfl⟩
theorem five {α : Type} {xs : List α} (h : xs.length = 5) : ∃ a b c d e, xs = [a, b, c, d, e] := match xs, h with | [a, b, c, d, e], _ => ⟨a, b, c, d, e, rfl⟩
theorem paired2 {α β : Type} {F : α → β → Prop} {a b : α} {e f : β} (p : Paired F [a, b] [e, f]) : F a e ∧ F b f := by
  cases p with | cons h1 p =>
  cases p with | cons h2 p =>
  exact ⟨h1, h2⟩
theorem paired3 {α β : Type} {F : α → β → Prop} {a b c : α} {e f g : β} (p : Paired F [a, b, c] [e, f, g]) : F a e ∧ F b f ∧ F c g := by
  cases p with | cons h1 p =>
  exact ⟨h1, paired2 p⟩
theorem paired5 {α β : Type} {F : α → β → Prop} {a b c d x : α} {e f g h y : β} (p : Paired F [a, b, c, d, x] [e, f, g, h, y]) : F a e ∧ F b f ∧ F c g ∧ F d h ∧ F x y := by
  cases p with | cons h1 p =>
  cases p with | cons h2 p =>
  exact ⟨h1, h2, paired3 p⟩
theorem frB_long {ds : List Dat} (h : ds.length ≠ 2) : frB (.tup ds) = false := by
  match ds, h with
  | [], _ => rfl
  | [_], _ => rfl
  | [_, _], h => exact absurd rfl h
  | _ :: _ :: _ :: _, _ => rfl
theorem rkB_long {ds : List Dat} (h : ds.length ≠ 3) : rkB (.tup ds) = false := by
  match ds, h with
  | [], _ => rfl
  | [_], _ => rfl
  | [_, _], _ => rfl
  | [_, _, _], h => exact absurd rfl h
  | _ :: _ :: _ :: _ :: _, _ => rfl
theorem mkB_long {n : Int} {ds : List Dat} (h : ds.length ≠ 5) : mkB n (.tup ds) = false := by
  match ds, h with
  | [], _ => rfl
  | [_], _ => rfl
  | [_, _], _ => rfl
  | [_, _, _], _ => rfl
  | [_, _, _, _], _ => rfl
  | [_, _, _, _, _], h => exact absurd rfl h
  | _ :: _ :: _ :: _ :: _ :: _ :: _, _ => rfl
theorem lg90 {n : Nat} (h : n ≤ 2 ^ 100) : n.log2 < 101 := by
  by_cases h0 : n = 0
  · subst h0
    decide
  · rw [Nat.log2_lt h0]
    exact Nat.lt_of_le_of_lt h (by decide)
theorem mulW {i j : Int} (h1 : i.natAbs ≤ 2 ^ 100) (h2 : j.natAbs ≤ 2 ^ 100) : CMulW i j := by
  have a := lg90 h1
  have b := lg90 h2
  show i.natAbs.log2 + j.natAbs.log2 < 1000000
  omega
/-- a right mark, where it stands -/
structure MkAt (H : Hp) (u f : Addr) (m : Mk) : Prop where
  ob : Ptp H u [.ref f, .int m.w, .int m.x, .int m.y, .int m.z]
  fr : Ptp H f [.int m.t, .int m.b]
  sz : m.t.natAbs ≤ 2 ^ 100 ∧ m.b.natAbs ≤ 2 ^ 100
theorem MkAt.same {H H' : Hp} {u f : Addr} {m : Mk} (h : MkAt H u f m) (s : Same H H') : MkAt H' u f m := ⟨h.ob.same s, h.fr.same s, h.sz⟩
theorem mk_at {K : PySem.W.Frag} {H : Hp} {v : V} {m : Mk} (h : DtAt K H v (mk2 m)) : ∃ u f, v = .ref u ∧ MkAt H u f m := by
  obtain ⟨u, xs, rfl, h1, h2, h3⟩ := h.tup
  obtain ⟨x1, x2, x3, x4, x5, rfl⟩ := five (show xs.length = 5 from Paired.length h3)
  obtain ⟨e1, e2, e3, e4, e5⟩ := paired5 h3
  obtain ⟨f, ys, rfl, g1, g2, g3⟩ := DtAt.tup (ds := [.int m.t, .int m.b]) e1
  obtain ⟨y1, y2, rfl⟩ := two (show ys.length = 2 from Paired.length g3)
  obtain ⟨f1, f2⟩ := paired2 g3
  obtain ⟨rfl, _⟩ := e2.int
  obtain ⟨rfl, _⟩ := e3.int
  obtain ⟨rfl, _⟩ := e4.int
  obtain ⟨rfl, _⟩ := e5.int
  obtain ⟨rfl, z1⟩ := f1.int
  obtain ⟨rfl, z2⟩ := f2.int
  exact ⟨u, f, rfl, h1, g1, z1, z2⟩
/-- a < b < c and so on, of ints that are there -/
theorem rd_and {ta tb : TE} {σ : L2.St} {H : Hp} {Q : VK} {x y : Bool} (ha : ∀ Q : VK, Q (.bl x) H → ta σ H Q) (hb : x = true → ∀ Q : VK, Q (.bl y) H → tb σ H Q) (q : Q (.bl (x && y)) H) : tAndV ta tb σ H Q := by
  refine ha _ ⟨x, rfl, ?_⟩
  cases x with
  | true => exact iteT (hb rfl _ q)
  | false => exact iteF q
theorem rd_chain3 {ta tb tc td : TE} {σ : L2.St} {H : Hp} {Q : VK} {i j k l : Int} (ha : ∀ Q : VK, Q (.int i) H → ta σ H Q) (hb : ∀ Q : VK, Q (.int j) H → tb σ H Q) (hc : ∀ Q : VK, Q (.int k) H → tc σ H Q) (hd : ∀ Q : VK, Q (.int l) H → td σ H Q)
    (q : Q (.bl (decide (i ≤ j) && (decide (j < k) && decide (k ≤ l)))) H) : tChain3 (rI0 fun i j => .bl (decide (i ≤ j))) (rI0 fun i j => .bl (decide (i < j))) (rI0 fun i j => .bl (decide (i ≤ j))) ta tb tc td σ H Q := by
  refine ha _ (hb _ ⟨_, _, rfl, rfl, decide (i ≤ j), rfl, ?_⟩)
  cases c1 : decide (i ≤ j) with
  | false =>
    rw [c1, Bool.false_and] at q
    exact iteF q
  | true =>
    rw [c1, Bool.true_and] at q
    refine iteT (hc _ ⟨_, _, rfl, rfl, decide (j < k), rfl, ?_⟩)
    cases c2 : decide (j < k) with
    | false =>
      rw [c2, Bool.false_and] at q
      exact iteF q
    | true =>
      rw [c2, Bool.true_and] at q
      exact iteT (hd _ ⟨_, _, rfl, rfl, q⟩)
theorem rd_bounds {t0 ta tb tc td tn : TE} {σ : L2.St} {H : Hp} {Q : VK} {n a b c d : Int} (h0 : ∀ Q : VK, Q (.int 0) H → t0 σ H Q) (ha : ∀ Q : VK, Q (.int a) H → ta σ H Q) (hb : ∀ Q : VK, Q (.int b) H → tb σ H Q) (hc : ∀ Q : VK, Q (.int c) H → tc σ H Q) (hd : ∀ Q : VK, Q (.int d) H → td σ H Q) (hn : ∀ Q : VK, Q (.int n) H → tn σ H Q)
    (q : Q (.bl (bdB n a b c d)) H) : tAndV (tChain3 (rI0 fun i j => .bl (decide (i ≤ j))) (rI0 fun i j => .bl (decide (i < j))) (rI0 fun i j => .bl (decide (i ≤ j))) t0 ta tc tn) (tAndV (tChain3 (rI0 fun i j => .bl (decide (i ≤ j))) (rI0 fun i j => .bl (decide (i < j))) (rI0 fun i j => .bl (decide (i ≤ j))) ta tb td tn) (tOp (rI0 fun i j => .bl (decide (i ≤ j))) tc td)) σ H Q :=
  rd_and (x := decide (0 ≤ a) && (decide (a < c) && decide (c ≤ n))) (y := (decide (a ≤ b) && (decide (b < d) && decide (d ≤ n))) && decide (c ≤ d)) (fun Q q => rd_chain3 h0 ha hc hn q) (fun _ Q q => rd_and (x := decide (a ≤ b) && (decide (b < d) && decide (d ≤ n))) (y := decide (c ≤ d)) (fun Q q => rd_chain3 ha hb hd hn q) (fun _ Q q => hc _ (hd _ ⟨_, _, rfl, rfl, q⟩)) q) q
theorem rd_boundsV {ia ib ic id iN : Nat} {σ : L2.St} {H : Hp} {Q : VK} {n a b c d : Int} (ha : σ[ia]? = some (some (.int a))) (hb : σ[ib]? = some (some (.int b))) (hc : σ[ic]? = some (some (.int c))) (hd : σ[id]? = some (some (.int d))) (hn : σ[iN]? = some (some (.int n))) (q : Q (.bl (bdB n a b c d)) H) :
    tAndV (tChain3 (rI0 fun i j => .bl (decide (i ≤ j))) (rI0 fun i j => .bl (decide (i < j))) (rI0 fun i j => .bl (decide (i ≤ j))) (tC (.int 0)) (tVar ia) (tVar ic) (tVar iN)) (tAndV (tChain3 (rI0 fun i j => .bl (decide (i ≤ j))) (rI0 fun i j => .bl (decide (i < j))) (rI0 fun i j => .bl (decide (i ≤ j))) (tVar ia) (tVar ib) (tVar id) (tVar iN)) (tOp (rI0 fun i j => .bl (decide (i ≤ j))) (tVar ic) (tVar id))) σ H Q :=
  rd_bounds (fun Q q => q) (fun Q q => ⟨_, ha, q⟩) (fun Q q => ⟨_, hb, q⟩) (fun Q q => ⟨_, hc, q⟩) (fun Q q => ⟨_, hd, q⟩) (fun Q q => ⟨_, hn, q⟩) q
end Kb

namespace Kb
open PySem PySem.Spec PyProof.Rows L2 RZ
abbrev sP_is_fraction : Stmt := topS 20
abbrev NP_is_fraction : List Str := ["thing", "top", "bottom"]
theorem scP_is_fraction : FnScope ["thing", "top", "bottom"] ["thing"] (defScope sP_is_fraction) := ⟨rfl, rfl, rfl, by decide +kernel, rfl, by decide +kernel, by decide +kernel⟩
abbrev DnIsFraction (K : PySem.W.Frag) (mg : Str → Option Value) := Dn K mg "is_fraction" sP_is_fraction ["thing"]
abbrev sP_is_less : Stmt := topS 21
abbrev NP_is_less : List Str := ["one", "other"]
theorem scP_is_less : FnScope ["one", "other"] ["one", "other"] (defScope sP_is_less) := ⟨rfl, rfl, rfl, by decide +kernel, rfl, by decide +kernel, by decide +kernel⟩
abbrev DnIsLess (K : PySem.W.Frag) (mg : Str → Option Value) := Dn K mg "is_less" sP_is_less ["one", "other"]
abbrev sP_is_side : Stmt := topS 26
abbrev NP_is_side : List Str := ["thing"]
theorem scP_is_side : FnScope ["thing"] ["thing"] (defScope sP_is_side) := ⟨rfl, rfl, rfl, by decide +kernel, rfl, by decide +kernel, by decide +kernel⟩
abbrev DnIsSide (K : PySem.W.Frag) (mg : Str → Option Value) := Dn K mg "is_side" sP_is_side ["thing"]
abbrev sP_is_place : Stmt := topS 27
abbrev NP_is_place : List Str := ["thing"]
theorem scP_is_place : FnScope ["thing"] ["thing"] (defScope sP_is_place) := ⟨rfl, rfl, rfl, by decide +kernel, rfl, by decide +kernel, by decide +kernel⟩
abbrev DnIsPlace (K : PySem.W.Frag) (mg : Str → Option Value) := Dn K mg "is_place" sP_is_place ["thing"]
abbrev sP_is_mark : Stmt := topS 32
abbrev NP_is_mark : List Str := ["many", "mark", "_", "a", "b", "c", "d", "bound"]
theorem scP_is_mark : FnScope ["many", "mark", "_", "a", "b", "c", "d", "bound"] ["many", "mark"] (defScope sP_is_mark) := ⟨rfl, rfl, rfl, by decide +kernel, rfl, by decide +kernel, by decide +kernel⟩
abbrev DnIsMark (K : PySem.W.Frag) (mg : Str → Option Value) := Dn K mg "_is_mark" sP_is_mark ["many", "mark"]
abbrev sP_may_follow : Stmt := topS 33
abbrev NP_may_follow : List Str := ["one", "other"]
theorem scP_may_follow : FnScope ["one", "other"] ["one", "other"] (defScope sP_may_follow) := ⟨rfl, rfl, rfl, by decide +kernel, rfl, by decide +kernel, by decide +kernel⟩
abbrev DnMayFollow (K : PySem.W.Frag) (mg : Str → Option Value) := Dn K mg "_may_follow" sP_may_follow ["one", "other"]
abbrev sP_are_marks : Stmt := topS 31
abbrev NP_are_marks : List Str := ["many", "marks", "one", "other", "mark"]
theorem scP_are_marks : FnScope ["many", "marks", "one", "other", "mark"] ["many", "marks"] (defScope sP_are_marks) := ⟨rfl, rfl, rfl, by decide +kernel, rfl, by decide +kernel, by decide +kernel⟩
abbrev DnAreMarks (K : PySem.W.Frag) (mg : Str → Option Value) := Dn K mg "_are_marks" sP_are_marks ["many", "marks"]
abbrev sP_is_ranks : Stmt := topS 30
abbrev NP_is_ranks : List Str := ["thing", "room", "many", "marks"]
theorem scP_is_ranks : FnScope ["thing", "room", "many", "marks"] ["thing"] (defScope sP_is_ranks) := ⟨rfl, rfl, rfl, by decide +kernel, rfl, by decide +kernel, by decide +kernel⟩
abbrev DnIsRanks (K : PySem.W.Frag) (mg : Str → Option Value) := Dn K mg "is_ranks" sP_is_ranks ["thing"]
section
variable {P : Program} {w : World} {K : PySem.W.Frag} {mg : Str → Option Value} {base : Heap}
def spIsFraction (K : PySem.W.Frag) : Sp := fun vs H Q _ => ∃ (v : V) (d : Dat), vs = [v] ∧ DtAt K H v d ∧ Q (.bl (frB d)) H
theorem ok_is_fraction (T : Blt mg) (gG : mg "gcd" = some (.builtin "math.gcd")) (dP_is_int : DnIsInt K mg) (d : DnIsFraction K mg) : FnOk P w K mg base CX0 2 d.f d.fd ["thing"] (spIsFraction K) := by
  have GP_is_int : FnOk P w K mg base CX0 1 dP_is_int.f dP_is_int.fd ["thing"] (spIsIntD K) := ok_is_intD T dP_is_int
  refine d.F.ok scP_is_fraction (fun vs H Q E h => ?_) (fun cdv A outer s H vs Q E hr h => ?_)
  · obtain ⟨v, n, rfl, _⟩ := h
    rfl
  · obtain ⟨v, x, rfl, hx, q⟩ := h
    refine ⟨_, (pss_cons (ps_if (PW.pt (pw_or (pt_not (pt_val (pe_callB (call_isD (K := K) rfl) (by rfl) T.n_isinstance (by decide +kernel) (pa_cons (pv 0) (pa_cons (pe_bltn (v := .ty "tuple") (by rfl) T.n_tuple (by decide +kernel) rfl) pa_nil))))) (pw_or1 (pt_cmpR op_ne (pe_callB call_len_seq (by rfl) T.n_len (by decide +kernel) (pa_cons (pv 0) pa_nil)) pe_int (nomark _)))))
      (pss_one (ps_ret pe_bl))
      pss_nil)
    (pss_cons (ps_asg (pv 0) (pg_tup (by rfl) (pgs_cons (pg_name (i := 1) scP_is_fraction.nd rfl (Or.inl rfl)) (pgs_cons (pg_name (i := 2) scP_is_fraction.nd rfl (Or.inl rfl)) pgs_nil))))
    (pss_one (ps_ret (pe_and (pe_call GP_is_int (hr.mono (by omega)) (by rfl) dP_is_int.g dP_is_int.F.kp dP_is_int.b .nil pass0 (pa_cons (pv 1) pa_nil)) (pe_and (pe_call GP_is_int (hr.mono (by omega)) (by rfl) dP_is_int.g dP_is_int.F.kp dP_is_int.b .nil pass0 (pa_cons (pv 2) pa_nil)) (pe_and (pe_cmpR op_ge (pv 2) pe_int (nomark _)) (pe_one (pe_cmpR op_eq (pe_callBfun cr_gcd (by rfl) gG (pa_cons (pv 1) (pa_cons (pv 2) pa_nil))) pe_int (nomark _)))))))))), ?_⟩
    obtain ⟨t, ty, kI, kB, kS, kT⟩ := hx.ty
    refine ⟨v, rfl, v, _, t, _, isT x, rfl, .ty "tuple", ty, kT, isT x, rfl, ?_⟩
    cases x with
    | tup ds =>
      obtain ⟨a, xs, rfl, h1, h2, h3⟩ := hx.tup
      have hl := Paired.length h3
      refine iteF ⟨.ref a, rfl, a, _, rfl, .inr h1.seq, rfl, ?_⟩
      by_cases h2l : ds.length = 2
      · obtain ⟨d1, d2, rfl⟩ := two h2l
        obtain ⟨x1, x2, rfl⟩ := two (hl.trans h2l)
        obtain ⟨e1, e2⟩ := paired2 h3
        refine ⟨false, rfl, iteF ?_⟩
        refine ⟨.ref a, rfl, a, _, rfl, h1.seq, rfl, _, _, rfl, _, _, rfl, rfl, ?_⟩
        refine ⟨x1, rfl, x1, d1, rfl, e1, (intD d1).isSome, rfl, ?_⟩
        cases d1 with
        | int i =>
          obtain ⟨rfl, _⟩ := e1.int
          refine iteT ⟨x2, rfl, x2, d2, rfl, e2, (intD d2).isSome, rfl, ?_⟩
          cases d2 with
          | int j =>
            obtain ⟨rfl, _⟩ := e2.int
            have q : Q (.bl (decide (1 ≤ j) && gcB i j)) H := q
            refine iteT ⟨.int j, rfl, _, _, rfl, rfl, decide (1 ≤ j), rfl, ?_⟩
            cases c1 : decide (1 ≤ j) with
            | false =>
              rw [c1, Bool.false_and] at q
              exact iteF q
            | true =>
              rw [c1, Bool.true_and] at q
              refine iteT ⟨.int i, rfl, .int j, rfl, i, j, rfl, rfl, ?_⟩
              rw [show decide (V.int ((Nat.gcd i.natAbs j.natAbs : Nat) : Int) = V.int 1) = gcB i j by rw [gcB, dec_int]; rfl]
              exact q
          | _ => exact iteF q
        | _ => exact iteF q
      · rw [frB_long h2l] at q
        refine ⟨true, congrArg V.bl ?_, iteT q⟩
        rw [decide_eq_false (by
          intro z
          injection z with z
          omega)]
        rfl
    | _ => exact iteT (iteT q)
/-! is_less, is_side, is_place -/
def spIsLess (K : PySem.W.Frag) : Sp := fun vs H Q _ => ∃ (a c : Addr) (t b t' b' : Int), vs = [.ref a, .ref c] ∧ Ptp H a [.int t, .int b] ∧ Ptp H c [.int t', .int b'] ∧ (t.natAbs ≤ 2 ^ 100 ∧ b.natAbs ≤ 2 ^ 100) ∧ (t'.natAbs ≤ 2 ^ 100 ∧ b'.natAbs ≤ 2 ^ 100) ∧ Q (.bl (lsB t b t' b')) H
theorem ok_is_less (d : DnIsLess K mg) : FnOk P w K mg base CX0 1 d.f d.fd ["one", "other"] (spIsLess K) := by
  refine d.F.ok scP_is_less (fun vs H Q E h => ?_) (fun cdv A outer s H vs Q E hr h => ?_)
  · obtain ⟨a, c, t, b, t', b', rfl, _⟩ := h
    rfl
  · obtain ⟨a, c, t, b, t', b', rfl, h1, h2, ⟨z1, z2⟩, ⟨z3, z4⟩, q⟩ := h
    refine ⟨_, (pss_one (ps_ret (pe_cmpR op_lt (pe_op op_mulW (pe_ix ix_tup (pv 0) pe_int (fun _ _ => rfl)) (pe_ix ix_tup (pv 1) pe_int (fun _ _ => rfl))) (pe_op op_mulW (pe_ix ix_tup (pv 1) pe_int (fun _ _ => rfl)) (pe_ix ix_tup (pv 0) pe_int (fun _ _ => rfl))) (nomark _)))), ?_⟩
    refine ⟨.ref a, rfl, a, _, _, _, rfl, rfl, h1.seq, atI_nat (j := 0) rfl, .ref c, rfl, c, _, _, _, rfl, rfl, h2.seq, atI_nat (j := 1) rfl, _, _, rfl, rfl, mulW z1 z4, .ref c, rfl, c, _, _, _, rfl, rfl, h2.seq, atI_nat (j := 0) rfl, .ref a, rfl, a, _, _, _, rfl, rfl, h1.seq, atI_nat (j := 1) rfl, _, _, rfl, rfl, mulW z3 z2, _, _, rfl, rfl, q⟩
def sdB : Option Int → Bool
  | some i => decide (0 ≤ i) && decide (i ≤ 1)
  | none => false
def spIsSide (K : PySem.W.Frag) : Sp := fun vs H Q _ => ∃ (v : V) (d : Dat), vs = [v] ∧ DtAt K H v d ∧ Q (.bl (sdB (intD d))) H
theorem ok_is_side (T : Blt mg) (dP_is_int : DnIsInt K mg) (d : DnIsSide K mg) : FnOk P w K mg base CX0 2 d.f d.fd ["thing"] (spIsSide K) := by
  have GP_is_int : FnOk P w K mg base CX0 1 dP_is_int.f dP_is_int.fd ["thing"] (spIsIntD K) := ok_is_intD T dP_is_int
  refine d.F.ok scP_is_side (fun vs H Q E h => ?_) (fun cdv A outer s H vs Q E hr h => ?_)
  · obtain ⟨v, n, rfl, _⟩ := h
    rfl
  · obtain ⟨v, x, rfl, hx, q⟩ := h
    refine ⟨_, (pss_one (ps_ret (pe_and (pe_call GP_is_int (hr.mono (by omega)) (by rfl) dP_is_int.g dP_is_int.F.kp dP_is_int.b .nil pass0 (pa_cons (pv 0) pa_nil)) (pe_one (pe_chain op_le op_le pe_int (pv 0) pe_int))))), ?_⟩
    refine ⟨v, rfl, v, x, rfl, hx, (intD x).isSome, rfl, ?_⟩
    cases x with
    | int i =>
      obtain ⟨rfl, _⟩ := hx.int
      have q : Q (.bl (decide (0 ≤ i) && decide (i ≤ 1))) H := q
      refine iteT ⟨.int i, rfl, _, _, rfl, rfl, decide (0 ≤ i), rfl, ite2 (fun e => ⟨_, _, rfl, rfl, ?_⟩) (fun e => ?_)⟩
      · rw [e, Bool.true_and] at q
        exact q
      · rw [show decide (0 ≤ i) = false from by simpa using e, Bool.false_and] at q
        exact q
    | _ => exact iteF q
/-- of a right place -/
def spIsPlace (K : PySem.W.Frag) : Sp := fun vs H Q _ => ∃ (a f : Addr) (t b s : Int), vs = [.ref a] ∧ Ptp H a [.ref f, .int s] ∧ Ptp H f [.int t, .int b] ∧ (t.natAbs ≤ 2 ^ 100 ∧ b.natAbs ≤ 2 ^ 100) ∧ FrOk t b ∧ 0 ≤ s ∧ s ≤ 1 ∧ Q (.bl true) H
theorem fr_dt {K : PySem.W.Frag} {H : Hp} {f : Addr} {t b : Int} (h : Ptp H f [.int t, .int b]) (z : t.natAbs ≤ 2 ^ 100 ∧ b.natAbs ≤ 2 ^ 100) : DtAt K H (.ref f) (.tup [.int t, .int b]) := DtAt.mk h (by show 2 ≤ 5000; decide) (.cons (.lf ⟨rfl, z.1⟩) (.cons (.lf ⟨rfl, z.2⟩) .nil))
theorem ok_is_place (T : Blt mg) (gG : mg "gcd" = some (.builtin "math.gcd")) (dP_is_int : DnIsInt K mg) (dP_is_fraction : DnIsFraction K mg) (dP_is_side : DnIsSide K mg) (d : DnIsPlace K mg) : FnOk P w K mg base CX0 3 d.f d.fd ["thing"] (spIsPlace K) := by
  have GP_is_fraction : FnOk P w K mg base CX0 2 dP_is_fraction.f dP_is_fraction.fd ["thing"] (spIsFraction K) := ok_is_fraction T gG dP_is_int dP_is_fraction
  have GP_is_side : FnOk P w K mg base CX0 2 dP_is_side.f dP_is_side.fd ["thing"] (spIsSide K) := ok_is_side T dP_is_int dP_is_side
  refine d.F.ok scP_is_place (fun vs H Q E h => ?_) (fun cdv A outer s H vs Q E hr h => ?_)
  · obtain ⟨a, f, t, b, s, rfl, _⟩ := h
    rfl
  · obtain ⟨a, f, t, b, sd, rfl, h1, h2, z, fo, s0, s1, q⟩ := h
    refine ⟨_, (pss_one (ps_ret (pe_and (pe_callB (call_isD (K := K) rfl) (by rfl) T.n_isinstance (by decide +kernel) (pa_cons (pv 0) (pa_cons (pe_bltn (v := .ty "tuple") (by rfl) T.n_tuple (by decide +kernel) rfl) pa_nil))) (pe_and (pe_cmpR op_eq (pe_callB call_len_seq (by rfl) T.n_len (by decide +kernel) (pa_cons (pv 0) pa_nil)) pe_int (nomark _)) (pe_and (pe_call GP_is_fraction (hr.mono (by omega)) (by rfl) dP_is_fraction.g dP_is_fraction.F.kp dP_is_fraction.b .nil pass0 (pa_cons (pe_ix ix_tup (pv 0) pe_int (fun _ _ => rfl)) pa_nil)) (pe_one (pe_call GP_is_side (hr.mono (by omega)) (by rfl) dP_is_side.g dP_is_side.F.kp dP_is_side.b .nil pass0 (pa_cons (pe_ix ix_tup (pv 0) pe_int (fun _ _ => rfl)) pa_nil)))))))), ?_⟩
    have hx : DtAt K H (.ref a) (.tup [.tup [.int t, .int b], .int sd]) := DtAt.mk h1 (by show 2 ≤ 5000; decide) (.cons (fr_dt h2 z) (.cons (.lf ⟨rfl, by omega⟩) .nil))
    obtain ⟨ty0, ty, kI, kB, kS, kT⟩ := hx.ty
    refine ⟨.ref a, rfl, .ref a, _, ty0, _, true, rfl, .ty "tuple", ty, kT, true, rfl, iteT ?_⟩
    refine ⟨.ref a, rfl, a, _, rfl, .inr h1.seq, rfl, true, rfl, iteT ?_⟩
    refine ⟨.ref a, rfl, a, _, _, _, rfl, rfl, h1.seq, atI_nat (j := 0) rfl, .ref f, _, rfl, fr_dt h2 z, true, congrArg V.bl (frB_of fo), iteT ?_⟩
    refine ⟨.ref a, rfl, a, _, _, _, rfl, rfl, h1.seq, atI_nat (j := 1) rfl, .int sd, .int sd, rfl, .lf ⟨rfl, by omega⟩, ?_⟩
    rw [show sdB (intD (.int sd)) = true by
      show (decide (0 ≤ sd) && decide (sd ≤ 1)) = true
      rw [decide_eq_true s0, decide_eq_true s1]
      rfl]
    exact q
end
end Kb

namespace Kb
open PySem PySem.Spec PyProof.Rows L2 RZ
section
variable {P : Program} {w : World} {K : PySem.W.Frag} {mg : Str → Option Value} {base : Heap}
theorem isI_is {d : Dat} (h : (intD d).isSome = true) : ∃ i, d = .int i := by
  cases d with
  | int i => exact ⟨i, rfl⟩
  | _ => cases h
/-! _is_mark -/
def spIsMark (K : PySem.W.Frag) : Sp := fun vs H Q _ => ∃ (n : Int) (v : V) (d : Dat), vs = [.int n, v] ∧ DtAt K H v d ∧ ∀ H', Same H H' → Q (.bl (mkB n d)) H'
theorem ok_is_mark (T : Blt mg) (gG : mg "gcd" = some (.builtin "math.gcd")) (dP_is_int : DnIsInt K mg) (dP_is_fraction : DnIsFraction K mg) (d : DnIsMark K mg) : FnOk P w K mg base CX0 3 d.f d.fd ["many", "mark"] (spIsMark K) := by
  have GP_is_int : FnOk P w K mg base CX0 1 dP_is_int.f dP_is_int.fd ["thing"] (spIsIntD K) := ok_is_intD T dP_is_int
  have GP_is_fraction : FnOk P w K mg base CX0 2 dP_is_fraction.f dP_is_fraction.fd ["thing"] (spIsFraction K) := ok_is_fraction T gG dP_is_int dP_is_fraction
  refine d.F.ok scP_is_mark (fun vs H Q E h => ?_) (fun cdv A outer s H vs Q E hr h => ?_)
  · obtain ⟨v, n, x, rfl, _⟩ := h
    rfl
  · obtain ⟨n, v, x, rfl, hx, q⟩ := h
    refine ⟨_, (pss_cons (ps_if (PW.pt (pw_or (pt_not (pt_val (pe_callB (call_isD (K := K) rfl) (by rfl) T.n_isinstance (by decide +kernel) (pa_cons (pv 1) (pa_cons (pe_bltn (v := .ty "tuple") (by rfl) T.n_tuple (by decide +kernel) rfl) pa_nil))))) (pw_or (pt_cmpR op_ne (pe_callB call_len_seq (by rfl) T.n_len (by decide +kernel) (pa_cons (pv 1) pa_nil)) pe_int (nomark _)) (pw_or1 (pt_not (pt_val (pe_call GP_is_fraction (hr.mono (by omega)) (by rfl) dP_is_fraction.g dP_is_fraction.F.kp dP_is_fraction.b .nil pass0 (pa_cons (pe_ix ix_tup (pv 1) pe_int (fun _ _ => rfl)) pa_nil))))))))
      (pss_one (ps_ret pe_bl))
      pss_nil)
    (pss_cons (ps_if (pt_not (pt_val (pe_callB (cr_all rfl) (by rfl) T.n_all (by decide +kernel) (pa_cons (pe_lc (own := [("bound", 7)]) (g := gName 7) (tt := tYes) rfl scP_is_mark.nd (pi_tup (pe_slice sl_tupP (pv 1) (po_some pe_int) po_none)) (blkOk_by (N := NP_is_mark) (sc := defScope sP_is_mark) (by decide +kernel)) (fun _ _ _ _ _ => pg_name (i := 7) scP_is_mark.nd rfl (Or.inl rfl)) (fun _ _ _ _ _ => pts_nil) (fun _ _ _ _ _ => (pe_call GP_is_int (hr.mono (by omega)) (by rfl) dP_is_int.g dP_is_int.F.kp dP_is_int.b .nil pass0 (pa_cons (pv 7) pa_nil)))) pa_nil))))
      (pss_one (ps_ret pe_bl))
      pss_nil)
    (pss_cons (ps_asg (pv 1) (pg_tup (by rfl) (pgs_cons (pg_name (i := 2) scP_is_mark.nd rfl (Or.inl rfl)) (pgs_cons (pg_name (i := 3) scP_is_mark.nd rfl (Or.inl rfl)) (pgs_cons (pg_name (i := 4) scP_is_mark.nd rfl (Or.inl rfl)) (pgs_cons (pg_name (i := 5) scP_is_mark.nd rfl (Or.inl rfl)) (pgs_cons (pg_name (i := 6) scP_is_mark.nd rfl (Or.inl rfl)) pgs_nil)))))))
    (pss_one (ps_ret (pe_and (pe_chain3 op_le op_lt op_le pe_int (pv 3) (pv 5) (pv 0)) (pe_and (pe_chain3 op_le op_lt op_le (pv 3) (pv 4) (pv 6) (pv 0)) (pe_one (pe_cmpR op_le (pv 5) (pv 6) (nomark _)))))))))), ?_⟩
    obtain ⟨t, ty, kI, kB, kS, kT⟩ := hx.ty
    refine ⟨v, rfl, v, _, t, _, isT x, rfl, .ty "tuple", ty, kT, isT x, rfl, ?_⟩
    cases x with
    | tup ds =>
      obtain ⟨a, xs, rfl, h1, h2, h3⟩ := hx.tup
      have hl := Paired.length h3
      refine iteF ⟨.ref a, rfl, a, _, rfl, .inr h1.seq, rfl, ?_⟩
      by_cases h2l : ds.length = 5
      · obtain ⟨d1, d2, d3, d4, d5, rfl⟩ := five h2l
        obtain ⟨x1, x2, x3, x4, x5, rfl⟩ := five (hl.trans h2l)
        obtain ⟨e1, e2, e3, e4, e5⟩ := paired5 h3
        have q : ∀ H', Same H H' → Q (.bl (frB d1 && ((([d2, d3, d4, d5].map fun x => (intD x).isSome).all id) && bdB n (geI d2) (geI d3) (geI d4) (geI d5)))) H' := q
        refine ⟨false, rfl, iteF ?_⟩
        refine ⟨.ref a, rfl, a, _, _, _, rfl, rfl, h1.seq, atI_nat (j := 0) rfl, x1, d1, rfl, e1, frB d1, rfl, ?_⟩
        cases c1 : frB d1 with
        | false =>
          rw [c1, Bool.false_and] at q
          exact iteT (q H (Same.refl H))
        | true =>
          rw [c1, Bool.true_and] at q
          refine iteF ⟨.ref a, rfl, 1, rfl, a, _, rfl, h1, fun p H2 s2 hp => ?_⟩
          rw [cut_from1] at hp
          have hp : Ptp H2 p [x2, x3, x4, x5] := hp
          refine ⟨p, rfl, ⟨_, hp.seq⟩, fun D nD => ?_⟩
          have h3' : Paired (DtAt K H) [x2, x3, x4, x5] [d2, d3, d4, d5] := .cons e2 (.cons e3 (.cons e4 (.cons e5 .nil)))
          refine lc_tup (xs := [x2, x3, x4, x5]) (fun i H3 => Same H2 H3 ∧ H3 D = some (.lst ((([d2, d3, d4, d5].take i).map fun x => (intD x).isSome).map V.bl))) ⟨same_upd nD, upd_same⟩ (fun i H3 _ h3 => (hp.same h3.1).seq) (fun i u H3 hu g3 => ?_) (fun H3 g3 => ?_)
          · obtain ⟨e, he, hat⟩ := paired_at h3' hu
            obtain ⟨s3, hD⟩ := g3
            refine ⟨rfl, u, rfl, u, e, rfl, (hat.same s2).same s3, _, hD, ?_, Same.put s3 nD, ?_⟩
            · rw [List.length_map, List.length_map, List.length_take, sizeLine_eq]
              have : [d2, d3, d4, d5].length = 4 := rfl
              omega
            · rw [upd_same, List.take_add_one, he, List.map_append, List.map_append]
              rfl
          obtain ⟨s3, hD⟩ := g3
          have s23 := s2.trans s3
          refine ⟨D, ([d2, d3, d4, d5].map fun x => (intD x).isSome), rfl, sql hD, ([d2, d3, d4, d5].map fun x => (intD x).isSome).all id, rfl, ?_⟩
          cases c2 : ([d2, d3, d4, d5].map fun x => (intD x).isSome).all id with
          | false =>
            rw [c2, Bool.false_and] at q
            exact iteT (q H3 s23)
          | true =>
            rw [c2, Bool.true_and] at q
            have c2 : ((intD d2).isSome && ((intD d3).isSome && ((intD d4).isSome && ((intD d5).isSome && true)))) = true := c2
            simp only [Bool.and_eq_true] at c2
            obtain ⟨k2, k3, k4, k5, _⟩ := c2
            obtain ⟨i2, rfl⟩ := isI_is k2
            obtain ⟨i3, rfl⟩ := isI_is k3
            obtain ⟨i4, rfl⟩ := isI_is k4
            obtain ⟨i5, rfl⟩ := isI_is k5
            obtain ⟨rfl, _⟩ := e2.int
            obtain ⟨rfl, _⟩ := e3.int
            obtain ⟨rfl, _⟩ := e4.int
            obtain ⟨rfl, _⟩ := e5.int
            refine iteF ⟨.ref a, rfl, a, _, rfl, (h1.same s23).seq, rfl, _, _, rfl, _, _, rfl, _, _, rfl, _, _, rfl, _, _, rfl, rfl, ?_⟩
            exact rd_boundsV (ia := 3) (ib := 4) (ic := 5) (id := 6) (iN := 0) rfl rfl rfl rfl rfl (q H3 s23)
      · have q := q H (Same.refl H)
        rw [mkB_long h2l] at q
        refine ⟨true, congrArg V.bl ?_, iteT q⟩
        rw [decide_eq_false (by
          intro z
          injection z with z
          omega)]
        rfl
    | _ => exact iteT (iteT (q H (Same.refl H)))
/-! _may_follow -/
def spMayFollow (K : PySem.W.Frag) : Sp := fun vs H Q _ => ∃ (u u' f f' : Addr) (m o : Mk), vs = [.ref u, .ref u'] ∧ MkAt H u f m ∧ MkAt H u' f' o ∧ Q (.bl (flB m o)) H
theorem ok_may_follow (dP_is_less : DnIsLess K mg) (d : DnMayFollow K mg) : FnOk P w K mg base CX0 2 d.f d.fd ["one", "other"] (spMayFollow K) := by
  have GP_is_less : FnOk P w K mg base CX0 1 dP_is_less.f dP_is_less.fd ["one", "other"] (spIsLess K) := ok_is_less dP_is_less
  refine d.F.ok scP_may_follow (fun vs H Q E h => ?_) (fun cdv A outer s H vs Q E hr h => ?_)
  · obtain ⟨u, u', f, f', m, o, rfl, _⟩ := h
    rfl
  · obtain ⟨u, u', f, f', m, o, rfl, h1, h2, q⟩ := h
    refine ⟨_, (pss_one (ps_ret (pe_and (pe_call GP_is_less (hr.mono (by omega)) (by rfl) dP_is_less.g dP_is_less.F.kp dP_is_less.b .nil pass0 (pa_cons (pe_ix ix_tup (pv 0) pe_int (fun _ _ => rfl)) (pa_cons (pe_ix ix_tup (pv 1) pe_int (fun _ _ => rfl)) pa_nil))) (pe_and (pe_cmpR op_le (pe_ix ix_tup (pv 0) pe_int (fun _ _ => rfl)) (pe_ix ix_tup (pv 1) pe_int (fun _ _ => rfl)) (nomark _)) (pe_one (pe_cmpR op_le (pe_ix ix_tup (pv 0) pe_int (fun _ _ => rfl)) (pe_ix ix_tup (pv 1) pe_int (fun _ _ => rfl)) (nomark _))))))), ?_⟩
    refine rd_and (x := lsB m.t m.b o.t o.b) (y := decide (m.y ≤ o.w) && decide (m.z ≤ o.x)) (fun Q q => ?_) (fun _ Q q => rd_and (x := decide (m.y ≤ o.w)) (y := decide (m.z ≤ o.x)) (fun Q q => ?_) (fun _ Q q => ?_) q) q
    · exact ⟨.ref u, rfl, u, _, _, _, rfl, rfl, h1.ob.seq, atI_nat (j := 0) rfl, .ref u', rfl, u', _, _, _, rfl, rfl, h2.ob.seq, atI_nat (j := 0) rfl, f, f', _, _, _, _, rfl, h1.fr, h2.fr, h1.sz, h2.sz, q⟩
    · exact ⟨.ref u, rfl, u, _, _, _, rfl, rfl, h1.ob.seq, atI_nat (j := 3) rfl, .ref u', rfl, u', _, _, _, rfl, rfl, h2.ob.seq, atI_nat (j := 1) rfl, _, _, rfl, rfl, q⟩
    · exact ⟨.ref u, rfl, u, _, _, _, rfl, rfl, h1.ob.seq, atI_nat (j := 4) rfl, .ref u', rfl, u', _, _, _, rfl, rfl, h2.ob.seq, atI_nat (j := 2) rfl, _, _, rfl, rfl, q⟩
/-! _are_marks -/
def spAreMarks (K : PySem.W.Frag) : Sp := fun vs H Q _ => ∃ (v u : V) (n d : Dat), vs = [v, u] ∧ DtAt K H v n ∧ DtAt K H u d ∧ ∀ H', Same H H' → Q (.bl (mksB n d)) H'
theorem ok_are_marks (T : Blt mg) (gG : mg "gcd" = some (.builtin "math.gcd")) (dP_is_int : DnIsInt K mg) (dP_is_number : DnIsNumber K mg) (dP_is_fraction : DnIsFraction K mg) (dP_is_less : DnIsLess K mg) (dP_is_mark : DnIsMark K mg) (dP_may_follow : DnMayFollow K mg) (d : DnAreMarks K mg) : FnOk P w K mg base CX0 4 d.f d.fd ["many", "marks"] (spAreMarks K) := by
  have GP_is_number : FnOk P w K mg base CX0 2 dP_is_number.f dP_is_number.fd ["thing"] (spIsNumberD K) := ok_is_numberD T dP_is_int dP_is_number
  have GP_is_mark : FnOk P w K mg base CX0 3 dP_is_mark.f dP_is_mark.fd ["many", "mark"] (spIsMark K) := ok_is_mark T gG dP_is_int dP_is_fraction dP_is_mark
  have GP_may_follow : FnOk P w K mg base CX0 2 dP_may_follow.f dP_may_follow.fd ["one", "other"] (spMayFollow K) := ok_may_follow dP_is_less dP_may_follow
  refine d.F.ok scP_are_marks (fun vs H Q E h => ?_) (fun cdv A outer s H vs Q E hr h => ?_)
  · obtain ⟨v, u, n, x, rfl, _⟩ := h
    rfl
  · obtain ⟨v, u, n, x, rfl, hn, hx, q⟩ := h
    refine ⟨_, (pss_cons (ps_if (PW.pt (pw_or (pt_not (pt_val (pe_call GP_is_number (hr.mono (by omega)) (by rfl) dP_is_number.g dP_is_number.F.kp dP_is_number.b .nil pass0 (pa_cons (pv 0) pa_nil)))) (pw_or1 (pt_not (pt_val (pe_callB (call_isD (K := K) rfl) (by rfl) T.n_isinstance (by decide +kernel) (pa_cons (pv 1) (pa_cons (pe_bltn (v := .ty "tuple") (by rfl) T.n_tuple (by decide +kernel) rfl) pa_nil))))))))
      (pss_one (ps_ret pe_bl))
      pss_nil)
    (pss_cons (ps_if (pt_not (pt_val (pe_callB (cr_all rfl) (by rfl) T.n_all (by decide +kernel) (pa_cons (pe_lc (own := [("mark", 4)]) (g := gName 4) (tt := tYes) rfl scP_are_marks.nd (pi_tup (pv 1)) (blkOk_by (N := NP_are_marks) (sc := defScope sP_are_marks) (by decide +kernel)) (fun _ _ _ _ _ => pg_name (i := 4) scP_are_marks.nd rfl (Or.inl rfl)) (fun _ _ _ _ _ => pts_nil) (fun _ _ _ _ _ => (pe_call GP_is_mark (hr.mono (by omega)) (by rfl) dP_is_mark.g dP_is_mark.F.kp dP_is_mark.b .nil pass0 (pa_cons (pv 0) (pa_cons (pv 4) pa_nil))))) pa_nil))))
      (pss_one (ps_ret pe_bl))
      pss_nil)
    (pss_one (ps_ret (pe_callB (cr_all rfl) (by rfl) T.n_all (by decide +kernel) (pa_cons (pe_lc (own := [("one", 2), ("other", 3)]) (g := gTup K 2 (gCons (gName 2) (gCons (gName 3) gNil))) (tt := tYes) rfl scP_are_marks.nd (pi_zipA (by rfl) T.n_zip (pa_cons (pv 1) (pa_cons (pe_slice sl_tupP (pv 1) (po_some pe_int) po_none) pa_nil))) (blkOk_by (N := NP_are_marks) (sc := defScope sP_are_marks) (by decide +kernel)) (fun _ _ _ _ _ => pg_tup (by rfl) (pgs_cons (pg_name (i := 2) scP_are_marks.nd rfl (Or.inl rfl)) (pgs_cons (pg_name (i := 3) scP_are_marks.nd rfl (Or.inl rfl)) pgs_nil))) (fun _ _ _ _ _ => pts_nil) (fun _ _ _ _ _ => (pe_call GP_may_follow (hr.mono (by omega)) (by rfl) dP_may_follow.g dP_may_follow.F.kp dP_may_follow.b .nil pass0 (pa_cons (pv 2) (pa_cons (pv 3) pa_nil))))) pa_nil)))))), ?_⟩
    refine ⟨v, rfl, v, n, rfl, hn, isNB (intD n), rfl, ?_⟩
    cases cn : isNB (intD n) with
    | false =>
      have e0 : mksB n x = false := by
        cases x with
        | tup ds => show (isNB (intD n) && _) = false; rw [cn]; rfl
        | _ => rfl
      rw [e0] at q
      exact iteT (iteT (q H (Same.refl H)))
    | true =>
      obtain ⟨i, rfl, i0⟩ := isNB_is cn
      obtain ⟨rfl, _⟩ := hn.int
      obtain ⟨t, ty, kI, kB, kS, kT⟩ := hx.ty
      refine iteF ⟨u, rfl, u, _, t, _, isT x, rfl, .ty "tuple", ty, kT, isT x, rfl, ?_⟩
      cases x with
      | tup ds =>
        obtain ⟨a, xs, rfl, h1, h2, h3⟩ := hx.tup
        have hl := Paired.length h3
        have q : ∀ H', Same H H' → Q (.bl (isNB (intD (.int i)) && (ds.all (mkB i) && (stB (ds.map mkO)).all id))) H' := q
        rw [cn, Bool.true_and] at q
        refine iteF ⟨.ref a, rfl, a, rfl, ⟨_, h1.seq⟩, fun D nD => ?_⟩
        refine lc_tup (xs := xs) (fun j H3 => Same H H3 ∧ H3 D = some (.lst (((ds.take j).map (mkB i)).map V.bl))) ⟨same_upd nD, upd_same⟩ (fun j H3 _ h3 => (h1.same h3.1).seq) (fun j u H3 hu g3 => ?_) (fun H3 g3 => ?_)
        · obtain ⟨e, he, hat⟩ := paired_at h3 hu
          obtain ⟨s3, hD⟩ := g3
          refine ⟨rfl, .int i, rfl, u, rfl, i, u, e, rfl, hat.same s3, fun H4 s4 => ⟨_, s4 _ _ hD, ?_, Same.put (s3.trans s4) nD, ?_⟩⟩
          · rw [List.length_map, List.length_map, List.length_take, sizeLine_eq]
            omega
          · rw [upd_same, List.take_add_one, he, List.map_append, List.map_append]
            rfl
        · obtain ⟨s3, hD⟩ := g3
          rw [hl, List.take_length] at hD
          refine ⟨D, _, rfl, sql hD, ds.all (mkB i), congrArg V.bl (by rw [List.all_map]; rfl), ?_⟩
          cases ct : ds.all (mkB i) with
          | false =>
            rw [ct, Bool.false_and] at q
            exact iteT (q H3 s3)
          | true =>
            rw [ct, Bool.true_and] at q
            refine iteF ⟨.ref a, rfl, .ref a, rfl, 1, rfl, a, _, rfl, h1.same s3, fun p H5 s35 hp => ?_⟩
            rw [cut_from1] at hp
            have s5 := s3.trans s35
            refine ⟨a, p, xs, xs.drop 1, rfl, .inr ⟨(h1.same s5).seq, hp.seq, fun D2 nD2 => ?_⟩⟩
            refine lc_it (walk_zipTg (K := K) (xs := xs) (ys := xs.drop 1) rfl) (fun j H7 => Same H H7 ∧ Ptp H7 p (xs.drop 1) ∧ H7 D2 = some (.lst (((stB (ds.map mkO)).take j).map V.bl))) ⟨Same.new s5 nD2, hp.same (same_upd nD2), upd_same⟩ (fun j H7 _ h7 => ⟨(h1.same h7.1).seq, h7.2.1.seq⟩) (fun j v H7 H8 hj h7 y => ?_) (fun H7 h7 => ?_)
            · obtain ⟨s7, hp7, hD7⟩ := h7
              obtain ⟨TT, x1, x2, rfl, nT, rfl, hx1, hx2⟩ := y
              obtain ⟨d1, hd1, at1⟩ := paired_at h3 hx1
              have hx2' : (xs.drop 1)[j]? = some x2 := hx2
              rw [List.getElem?_drop] at hx2'
              obtain ⟨d2, hd2, at2⟩ := paired_at h3 hx2'
              have hd2' : (ds.drop 1)[j]? = some d2 := by rw [List.getElem?_drop]; exact hd2
              have c1 := (mkO_is (List.all_eq_true.mp ct d1 (List.mem_of_getElem? hd1))).1
              have c2 := (mkO_is (List.all_eq_true.mp ct d2 (List.mem_of_getElem? hd2))).1
              have sT : Same H (upd H7 TT (.tup [x1, x2])) := Same.new s7 nT
              have at1 := at1.same sT
              have at2 := at2.same sT
              rw [← c1] at at1
              rw [← c2] at at2
              obtain ⟨u1, f1, rfl, m1⟩ := mk_at at1
              obtain ⟨u2, f2, rfl, m2⟩ := mk_at at2
              have DT : D2 ≠ TT := ne_of_none hD7 nT
              have hst := stB_at (ms := ds.map mkO) (i := j) (d := mkO d1) (e := mkO d2) (by rw [List.getElem?_map, hd1]; rfl) (by rw [← List.map_drop, List.getElem?_map, hd2']; rfl)
              refine ⟨TT, _, rfl, .inl (.inl upd_same), rfl, _, _, rfl, _, _, rfl, rfl, rfl, .ref u1, rfl, .ref u2, rfl, u1, u2, f1, f2, _, _, rfl, m1, m2, _, by rw [upd_ne DT]; exact hD7, ?_, Same.put sT (Same.gone s5 nD2), (hp7.same (same_upd nT)).upd (hp.ne nD2), ?_⟩
              · have := stB_len (ds.map mkO)
                rw [List.length_map, List.length_take, sizeLine_eq]
                rw [List.length_map] at this
                omega
              · rw [upd_same, List.take_add_one, hst, List.map_append]
                rfl
            · obtain ⟨s7, _, hD7⟩ := h7
              have el : min xs.length (xs.drop 1).length = (stB (ds.map mkO)).length := by
                rw [stB_len, List.length_drop, List.length_drop, List.length_map, hl]
              rw [el, List.take_length] at hD7
              exact ⟨D2, _, rfl, sql hD7, q H7 s7⟩
      | _ => exact iteT (q H (Same.refl H))
/-! is_ranks -/
def spIsRanks (K : PySem.W.Frag) : Sp := fun vs H Q _ => ∃ (v : V) (d : Dat), vs = [v] ∧ DtAt K H v d ∧ ∀ H', Same H H' → Q (.bl (rkB d)) H'
theorem ok_is_ranks (T : Blt mg) (gG : mg "gcd" = some (.builtin "math.gcd")) (cM : Cst mg "MOST_ROOM" (.int 64)) (dP_is_int : DnIsInt K mg) (dP_is_number : DnIsNumber K mg) (dP_is_room : DnIsRoom K mg) (dP_is_fraction : DnIsFraction K mg) (dP_is_less : DnIsLess K mg) (dP_is_mark : DnIsMark K mg) (dP_may_follow : DnMayFollow K mg) (dP_are_marks : DnAreMarks K mg) (d : DnIsRanks K mg) : FnOk P w K mg base CX0 5 d.f d.fd ["thing"] (spIsRanks K) := by
  have GP_is_room : FnOk P w K mg base CX0 2 dP_is_room.f dP_is_room.fd ["thing"] (spIsRoomD K) := ok_is_roomD T cM dP_is_int dP_is_room
  have GP_are_marks : FnOk P w K mg base CX0 4 dP_are_marks.f dP_are_marks.fd ["many", "marks"] (spAreMarks K) := ok_are_marks T gG dP_is_int dP_is_number dP_is_fraction dP_is_less dP_is_mark dP_may_follow dP_are_marks
  refine d.F.ok scP_is_ranks (fun vs H Q E h => ?_) (fun cdv A outer s H vs Q E hr h => ?_)
  · obtain ⟨v, n, rfl, _⟩ := h
    rfl
  · obtain ⟨v, x, rfl, hx, q⟩ := h
    refine ⟨_, (pss_cons (ps_if (PW.pt (pw_or (pt_not (pt_val (pe_callB (call_isD (K := K) rfl) (by rfl) T.n_isinstance (by decide +kernel) (pa_cons (pv 0) (pa_cons (pe_bltn (v := .ty "tuple") (by rfl) T.n_tuple (by decide +kernel) rfl) pa_nil))))) (pw_or1 (pt_cmpR op_ne (pe_callB call_len_seq (by rfl) T.n_len (by decide +kernel) (pa_cons (pv 0) pa_nil)) pe_int (nomark _)))))
      (pss_one (ps_ret pe_bl))
      pss_nil)
    (pss_cons (ps_asg (pv 0) (pg_tup (by rfl) (pgs_cons (pg_name (i := 1) scP_is_ranks.nd rfl (Or.inl rfl)) (pgs_cons (pg_name (i := 2) scP_is_ranks.nd rfl (Or.inl rfl)) (pgs_cons (pg_name (i := 3) scP_is_ranks.nd rfl (Or.inl rfl)) pgs_nil)))))
    (pss_one (ps_ret (pe_and (pe_call GP_is_room (hr.mono (by omega)) (by rfl) dP_is_room.g dP_is_room.F.kp dP_is_room.b .nil pass0 (pa_cons (pv 1) pa_nil)) (pe_and (pe_call GP_are_marks (hr.mono (by omega)) (by rfl) dP_are_marks.g dP_are_marks.F.kp dP_are_marks.b .nil pass0 (pa_cons (pv 2) (pa_cons (pv 3) pa_nil))) (pe_one (pe_cmpR op_le (pe_callB call_len_seq (by rfl) T.n_len (by decide +kernel) (pa_cons (pv 3) pa_nil)) (pv 1) (nomark _))))))))), ?_⟩
    obtain ⟨t, ty, kI, kB, kS, kT⟩ := hx.ty
    refine ⟨v, rfl, v, _, t, _, isT x, rfl, .ty "tuple", ty, kT, isT x, rfl, ?_⟩
    cases x with
    | tup ds =>
      obtain ⟨a, xs, rfl, h1, h2, h3⟩ := hx.tup
      have hl := Paired.length h3
      refine iteF ⟨.ref a, rfl, a, _, rfl, .inr h1.seq, rfl, ?_⟩
      by_cases h2l : ds.length = 3
      · obtain ⟨d1, d2, d3, rfl⟩ := three h2l
        obtain ⟨x1, x2, x3, rfl⟩ := three (hl.trans h2l)
        obtain ⟨e1, e2, e3⟩ := paired3 h3
        have q : ∀ H', Same H H' → Q (.bl (isRB (intD d1) && (mksB d2 d3 && decide ((lenD d3 : Int) ≤ geI d1)))) H' := q
        refine ⟨false, rfl, iteF ?_⟩
        refine ⟨.ref a, rfl, a, _, rfl, h1.seq, rfl, _, _, rfl, _, _, rfl, _, _, rfl, rfl, ?_⟩
        refine ⟨x1, rfl, x1, d1, rfl, e1, isRB (intD d1), rfl, ?_⟩
        cases c1 : isRB (intD d1) with
        | false =>
          rw [c1, Bool.false_and] at q
          exact iteF (q H (Same.refl H))
        | true =>
          rw [c1, Bool.true_and] at q
          refine iteT ⟨x2, rfl, x3, rfl, x2, x3, d2, d3, rfl, e2, e3, fun H1 s1 => ⟨mksB d2 d3, rfl, ?_⟩⟩
          cases c2 : mksB d2 d3 with
          | false =>
            rw [c2, Bool.false_and] at q
            exact iteF (q H1 s1)
          | true =>
            rw [c2, Bool.true_and] at q
            obtain ⟨r, rfl, _⟩ := isRB_is c1
            obtain ⟨rfl, _⟩ := e1.int
            cases d3 with
            | tup ks =>
              obtain ⟨b, ys, rfl, g1, g2, g3⟩ := e3.tup
              refine iteT ⟨.ref b, rfl, b, _, rfl, .inr (g1.same s1).seq, .int r, rfl, _, _, rfl, rfl, ?_⟩
              rw [Paired.length g3]
              exact q H1 s1
            | _ => cases c2
      · have q := q H (Same.refl H)
        rw [rkB_long h2l] at q
        refine ⟨true, congrArg V.bl ?_, iteT q⟩
        rw [decide_eq_false (by
          intro z
          injection z with z
          omega)]
        rfl
    | _ => exact iteT (iteT (q H (Same.refl H)))
end
end Kb

namespace Kb
open PySem PySem.Spec PyProof.Rows L2 RZ
abbrev sgcd : Stmt := topS 50
abbrev Ngcd : List Str := ["_law_one_here", "_law_other", "_law_k"]
theorem scgcd : FnScope ["_law_one_here", "_law_other", "_law_k"] ["_law_one_here", "_law_other"] (defScope sgcd) := ⟨rfl, rfl, rfl, by decide +kernel, rfl, by decide +kernel, by decide +kernel⟩
abbrev Dngcd (K : PySem.W.Frag) (mg : Str → Option Value) := Dn K mg "_law_gcd" sgcd ["_law_one_here", "_law_other"]
abbrev Nis_int : List Str := ["_law_thing"]
abbrev Nis_fraction : List Str := ["_law_thing"]
abbrev Nis_mark : List Str := ["_law_thing", "_law_many", "_law_a", "_law_b", "_law_c", "_law_d", "_law_one_here"]
abbrev Nare_ranks : List Str := ["_law_thing", "_law_one_here", "_law_other", "_law_mark"]
theorem cut_neg1 (xs : List V) : cutV xs none (some (-1)) = xs.take (xs.length - 1) := by
  unfold cutV
  rw [HT.sIx_none, List.drop_zero, Nat.sub_zero]
  congr 1
  show (if (-1 : Int) < 0 then ((-1 : Int) + (xs.length : Int)).toNat else min (-1 : Int).toNat xs.length) = xs.length - 1
  rw [if_pos (by decide)]
  omega
/-- the sum of steps: two of them halve the product -/
structure GI (g i x y : Nat) : Prop where
  g : Nat.gcd x y = g
  sz : y = 0 ∨ (i = 0 ∧ x ≤ 2 ^ 92 ∧ y ≤ 2 ^ 92) ∨ (1 ≤ i ∧ y ≤ x ∧ x * y * 2 ^ (i - 1) ≤ 2 ^ 184)
theorem GI.step {g i x y : Nat} (h : GI g i x y) (y0 : y ≠ 0) : GI g (i + 1) y (x % y) := by
  refine ⟨by rw [← h.g, Nat.gcd_comm x y, Nat.gcd_rec y x, Nat.gcd_comm], .inr (.inr ⟨by omega, Nat.le_of_lt (Nat.mod_lt _ (by omega)), ?_⟩)⟩
  rw [Nat.add_sub_cancel]
  rcases h.sz with h0 | ⟨rfl, h1, h2⟩ | ⟨h1, h2, h3⟩
  · exact absurd h0 y0
  · rw [Nat.pow_zero, Nat.mul_one]
    have : x % y ≤ x := Nat.mod_le _ _
    calc y * (x % y) ≤ 2 ^ 92 * 2 ^ 92 := Nat.mul_le_mul h2 (by omega)
      _ = 2 ^ 184 := by decide
  · obtain ⟨k, rfl⟩ : ∃ k, i = k + 1 := ⟨i - 1, by omega⟩
    rw [Nat.add_sub_cancel] at h3
    have hr : 2 * (x % y) ≤ x := by
      have h5 := Nat.mod_lt x (show y > 0 by omega)
      have h6 := Nat.mod_add_div x y
      have h7 : 1 ≤ x / y := (Nat.one_le_div_iff (by omega)).mpr h2
      have h8 : y * 1 ≤ y * (x / y) := Nat.mul_le_mul_left y h7
      omega
    calc y * (x % y) * 2 ^ (k + 1) = (2 * (x % y)) * y * 2 ^ k := by rw [Nat.pow_succ]; simp only [Nat.mul_comm, Nat.mul_left_comm, Nat.mul_assoc]
      _ ≤ x * y * 2 ^ k := Nat.mul_le_mul_right _ (Nat.mul_le_mul_right _ hr)
      _ ≤ 2 ^ 184 := h3
theorem GI.done {g x y : Nat} (h : GI g 400 x y) : x = g := by
  have e : y = 0 := by
    rcases h.sz with h0 | ⟨h1, _⟩ | ⟨_, h2, h3⟩
    · exact h0
    · exact absurd h1 (by decide)
    · refine Classical.byContradiction fun y0 => ?_
      have h4 : 1 * 1 ≤ x * y := Nat.mul_le_mul (by omega) (by omega)
      have h5 : 1 * 2 ^ (400 - 1) ≤ x * y * 2 ^ (400 - 1) := Nat.mul_le_mul_right _ h4
      exact absurd (Nat.le_trans h5 h3) (by decide)
  have := h.g
  rw [e, Nat.gcd_zero_right] at this
  exact this
section
variable {P : Program} {w : World} {K : PySem.W.Frag} {mg : Str → Option Value} {base : Heap}
/-! _law_gcd -/
def spGcd : Sp := fun vs H Q _ => ∃ a b : Int, vs = [.int a, .int b] ∧ 0 ≤ b ∧ a.natAbs ≤ 2 ^ 92 ∧ b.natAbs ≤ 2 ^ 92 ∧ Q (.int ((Nat.gcd a.natAbs b.natAbs : Nat) : Int)) H
theorem ok_gcd (T : Blt mg) (d : Dngcd K mg) : FnOk P w K mg base CX0 1 d.f d.fd ["_law_one_here", "_law_other"] spGcd := by
  refine d.F.ok scgcd (fun vs H Q E h => ?_) (fun cdv A outer s H vs Q E hr h => ?_)
  · obtain ⟨a, b, rfl, _⟩ := h
    rfl
  · obtain ⟨a, b, rfl, b0, ha, hb, q⟩ := h
    refine ⟨_, (pss_cons (ps_set (i := 0) scgcd.nd rfl (Or.inl rfl) (pe_callB call_abs (by rfl) T.n_abs (by decide +kernel) (pa_cons (pv 0) pa_nil)))
    (pss_cons (ps_for PassesOwn.never rfl (pi_range1 (by rfl) T.n_range (pa_cons pe_int pa_nil)) (pg_name (i := 2) scgcd.nd rfl (Or.inl rfl))
      (pss_cons (ps_if (pt_cmpR op_eq (pv 1) pe_int (nomark _))
        (pss_one ps_break)
        pss_nil)
      (pss_one (ps_par (i := 0) (j := 1) (by rfl) scgcd.nd rfl rfl (by decide) rfl rfl (pa_cons (pv 1) (pa_cons (pe_op op_modB (pe_callTy call_int1 (by rfl) T.n_int (by decide +kernel) (pa_cons (pv 0) pa_nil)) (pv 1)) pa_nil)) (by rfl)))))
    (pss_one (ps_ret (pv 0))))), ?_⟩
    obtain ⟨y, rfl⟩ : ∃ y : Nat, b = (y : Int) := ⟨b.toNat, by omega⟩
    refine ⟨.int a, rfl, a, rfl, ?_⟩
    rw [show (if a < 0 then -a else a) = ((a.natAbs : Nat) : Int) by split <;> omega]
    rw [Int.natAbs_natCast] at hb q
    generalize a.natAbs = x at ha q ⊢
    refine ⟨400, rfl, by decide, by decide, ?_⟩
    refine for_range (lo := 0) (n := 400) (fun i σ H2 => ∃ (x' y' : Nat) (k : Option V), σ = [some (.int (x' : Int)), some (.int (y' : Int)), k] ∧ H2 = H ∧ GI (Nat.gcd x y) i x' y') ⟨x, y, none, rfl, rfl, rfl, .inr (.inl ⟨rfl, ha, hb⟩)⟩ ?_ ?_
    · rintro i σ H2 hi ⟨x', y', k, rfl, rfl, g⟩
      refine ⟨.int (y' : Int), rfl, rfl, decide ((y' : Int) = 0), by rw [dec_int]; rfl, ?_⟩
      by_cases y0 : y' = 0
      · subst y0
        refine iteT ?_
        have e : x' = Nat.gcd x y := by
          have := g.g
          rw [Nat.gcd_zero_right] at this
          exact this
        rw [← e] at q
        exact ⟨_, rfl, q⟩
      · rw [decide_eq_false (by omega)]
        refine iteF ?_
        refine ⟨.int (y' : Int), rfl, .int (x' : Int), rfl, .inl ⟨_, rfl, .int (y' : Int), rfl, _, _, rfl, rfl, by omega, fun m m0 m1 em => ?_⟩⟩
        subst em
        exact ⟨_, _, rfl, y', x' % y', some (.int (0 + (i : Int))), rfl, rfl, g.step y0⟩
    · rintro σ H2 ⟨x', y', k, rfl, rfl, g⟩
      rw [← g.done] at q
      exact ⟨_, rfl, q⟩
/-! _law_is_int .. -/
def spIsIntL (K : PySem.W.Frag) : Sp := fun vs H Q _ => ∃ (v : V) (d : Dat), vs = [v] ∧ DtAt K H v d ∧ Q (.bl (intD d).isSome) H
def spIsMarkL (K : PySem.W.Frag) : Sp := fun vs H Q _ => ∃ (n : Int) (v : V) (d : Dat), vs = [v, .int n] ∧ DtAt K H v d ∧ ∀ H', Same H H' → Q (.bl (mkB n d)) H'
end
end Kb

namespace Kb
open PySem PySem.Spec PyProof.Rows L2 RZ
abbrev shat : Stmt := topS 46
abbrev Nhat : List Str := ["_law_cell", "_law_k", "_law_wide", "_law_number_here"]
theorem schat : FnScope ["_law_cell", "_law_k", "_law_wide", "_law_number_here"] ["_law_cell", "_law_k"] (defScope shat) := ⟨rfl, rfl, rfl, by decide +kernel, rfl, by decide +kernel, by decide +kernel⟩
abbrev Dnhat (K : PySem.W.Frag) (mg : Str → Option Value) := Dn K mg "_law_hat" shat ["_law_cell", "_law_k"]
abbrev sdraw : Stmt := topS 47
abbrev Ndraw : List Str := ["_law_hat_here", "_law_many", "_law_digit"]
theorem scdraw : FnScope ["_law_hat_here", "_law_many", "_law_digit"] ["_law_hat_here", "_law_many"] (defScope sdraw) := ⟨rfl, rfl, rfl, by decide +kernel, rfl, by decide +kernel, by decide +kernel⟩
abbrev Dndraw (K : PySem.W.Frag) (mg : Str → Option Value) := Dn K mg "_law_draw" sdraw ["_law_hat_here", "_law_many"]
abbrev sany : Stmt := topS 49
abbrev Nany : List Str := ["_law_hat_here", "_law_things"]
theorem scany : FnScope ["_law_hat_here", "_law_things"] ["_law_hat_here", "_law_things"] (defScope sany) := ⟨rfl, rfl, rfl, by decide +kernel, rfl, by decide +kernel, by decide +kernel⟩
abbrev Dnany (K : PySem.W.Frag) (mg : Str → Option Value) := Dn K mg "_law_any" sany ["_law_hat_here", "_law_things"]
abbrev svalue : Stmt := topS 51
abbrev Nvalue : List Str := ["_law_key", "_law_scale", "_law_shared"]
theorem scvalue : FnScope ["_law_key", "_law_scale", "_law_shared"] ["_law_key"] (defScope svalue) := ⟨rfl, rfl, rfl, by decide +kernel, rfl, by decide +kernel, by decide +kernel⟩
abbrev Dnvalue (K : PySem.W.Frag) (mg : Str → Option Value) := Dn K mg "_law_value" svalue ["_law_key"]
abbrev Nbetween : List Str := ["_law_one_here", "_law_other", "_law_shared"]
abbrev snumber : Stmt := topS 52
abbrev Nnumber : List Str := ["_law_hat_here", "_law_bottom", "_law_kind", "_law_top"]
theorem scnumber : FnScope ["_law_hat_here", "_law_bottom", "_law_kind", "_law_top"] ["_law_hat_here"] (defScope snumber) := ⟨rfl, rfl, rfl, by decide +kernel, rfl, by decide +kernel, by decide +kernel⟩
abbrev Dnnumber (K : PySem.W.Frag) (mg : Str → Option Value) := Dn K mg "_law_number" snumber ["_law_hat_here"]
/-- all but the hand stays -/
def Exw (a : Addr) (H H' : Hp) : Prop := ∀ b o, b ≠ a → H b = some o → H' b = some o
theorem Exw.refl (a : Addr) (H : Hp) : Exw a H H := fun _ _ _ h => h
theorem Exw.trans {a : Addr} {H H1 H2 : Hp} (x : Exw a H H1) (y : Exw a H1 H2) : Exw a H H2 := fun b o n h => y b o n (x b o n h)
theorem Exw.up {a : Addr} {H H1 : Hp} {u : HO} (x : Exw a H H1) : Exw a H (upd H1 a u) := fun b o n h => by
  rw [upd_ne n]
  exact x b o n h
theorem Exw.same {a : Addr} {H H1 H2 : Hp} (x : Exw a H H1) (y : Same H1 H2) : Exw a H H2 := fun b o n h => y b o (x b o n h)
theorem Same.exw {a : Addr} {H H1 : Hp} (x : Same H H1) : Exw a H H1 := fun b o _ h => x b o h
theorem Exw.new {a p : Addr} {H H1 : Hp} {u : HO} (x : Exw a H H1) (h : H1 p = none) : Exw a H (upd H1 p u) := x.same (same_upd h)
theorem Exw.gone {a p : Addr} {H H1 : Hp} (x : Exw a H H1) (ne : p ≠ a) (h : H1 p = none) : H p = none := by
  cases e : H p with
  | none => rfl
  | some o => rw [x _ _ ne e] at h; cases h
/-- an object that was new is stored anew -/
theorem Exw.put {a p : Addr} {H H1 : Hp} {u : HO} (x : Exw a H H1) (h : H p = none) : Exw a H (upd H1 p u) := fun b o n e => by
  rw [upd_ne (ne_of_none e h)]
  exact x b o n e
theorem rd_ix {K : PySem.W.Frag} {σ : L2.St} {H : Hp} {Q : VK} {a : Addr} {xs : List V} {v : V} {n : Nat} (k : Nat) (h0 : σ[n]? = some (some (.ref a))) (hS : SqL K H a xs) (hv : xs[k]? = some v) (q : Q v H) :
    tOp (rIxL K) (tVar n) (tC (.int (k : Int))) σ H Q := ⟨.ref a, h0, a, xs, k, v, rfl, rfl, hS, atI_nat hv, q⟩
theorem rd_set {H : Hp} {σ : L2.St} {a : Addr} {xs : List V} {v : V} {n : Nat} (k : Nat) {R : L2.St → Hp → Prop} (h0 : σ[n]? = some (some (.ref a))) (h : H a = some (.lst xs)) (hk : k < xs.length) (q : R σ (upd H a (.lst (xs.set k v)))) :
    gSub (tVar n) (tC (.int (k : Int))) rSetL v σ H R := ⟨.ref a, h0, a, xs, k, k, rfl, rfl, h, by unfold ixN; rw [if_pos (by omega), if_pos (by omega)]; simp, q⟩
/-- the hat: its number, its state -/
def Ht (a : Addr) (H : Hp) : Prop := ∃ n s : Int, H a = some (.lst [.int n, .int s]) ∧ 0 ≤ n
theorem Ht.same {a : Addr} {H H' : Hp} (h : Ht a H) (s : Same H H') : Ht a H' := let ⟨n, x, e, p⟩ := h; ⟨n, x, s _ _ e, p⟩
theorem Ht.nea {a p : Addr} {H : Hp} (h : Ht a H) (hp : H p = none) : p ≠ a := by
  obtain ⟨n, x, e, _⟩ := h
  exact (ne_of_none e hp).symm
theorem Ht.put {a p : Addr} {H : Hp} {u : HO} (h : Ht a H) (n : p ≠ a) : Ht a (upd H p u) := by
  obtain ⟨m, x, e, q⟩ := h
  exact ⟨m, x, by rw [upd_ne n.symm]; exact e, q⟩
theorem Exw.at {a b : Addr} {H H' : Hp} {o : HO} (x : Exw a H H') (h : Ht a H) (hb : H b = some o) (hl : ∀ xs, o ≠ .lst xs) : H' b = some o := by
  obtain ⟨n, s, e1, _⟩ := h
  exact x b o (ne_of hb e1 (hl _)) hb
theorem kpD_exw {a : Addr} {H H' : Hp} (x : Exw a H H') (w : Ht a H) (w' : Ht a H') : KpD H H' :=
  ⟨fun b xs ⟨o, e, d⟩ => ⟨o, x.at w e (by intro _ z; cases z), d⟩, fun b xs e => by
    by_cases h : b = a
    · subst h
      obtain ⟨n, s, e1, _⟩ := w'
      exact ⟨_, e1⟩
    · exact ⟨_, x b _ h e⟩, fun b k e => ⟨_, x.at w e (by intro _ z; cases z)⟩⟩
theorem cmW {i j : Int} (h : i.natAbs.log2 + j.natAbs.log2 < 1000000) : CMulW i j := h
/-! fractions in lowest terms -/
def gcI (n S : Int) : Int := ((Nat.gcd n.natAbs S.natAbs : Nat) : Int)
def frT (n S : Int) : Int := n / gcI n S
def frN (n S : Int) : Int := S / gcI n S
theorem gcI_pos {n S : Int} (h : 0 < S) : 0 < gcI n S := by
  have : 0 < Nat.gcd n.natAbs S.natAbs := Nat.gcd_pos_of_pos_right _ (by omega)
  show (0 : Int) < ((Nat.gcd n.natAbs S.natAbs : Nat) : Int)
  omega
theorem frT_mul {n S : Int} : frT n S * gcI n S = n := Int.ediv_mul_cancel (Int.ofNat_dvd_left.mpr (Nat.gcd_dvd_left _ _))
theorem frN_mul {n S : Int} : frN n S * gcI n S = S := Int.ediv_mul_cancel (Int.ofNat_dvd_left.mpr (Nat.gcd_dvd_right _ _))
theorem frN_pos {n S : Int} (h : 0 < S) : 1 ≤ frN n S := by
  have g := gcI_pos (n := n) h
  have e := frN_mul (n := n) (S := S)
  by_cases c : 1 ≤ frN n S
  · exact c
  · have : frN n S * gcI n S ≤ 0 * gcI n S := Int.mul_le_mul_of_nonneg_right (by omega) (by omega)
    omega
theorem natAbs_mul_gcd {a g n : Int} (g0 : 0 < g) (e : a * g = n) : a.natAbs * g.natAbs = n.natAbs := by rw [← e, Int.natAbs_mul]
theorem fr_ok {n S : Int} (h : 0 < S) : FrOk (frT n S) (frN n S) := by
  refine ⟨frN_pos h, ?_⟩
  have g := gcI_pos (n := n) h
  have e1 := natAbs_mul_gcd g (frT_mul (n := n) (S := S))
  have e2 := natAbs_mul_gcd g (frN_mul (n := n) (S := S))
  have eg : (gcI n S).natAbs = Nat.gcd n.natAbs S.natAbs := Int.natAbs_natCast _
  rw [eg] at e1 e2
  have gp : 0 < Nat.gcd n.natAbs S.natAbs := Nat.gcd_pos_of_pos_right _ (by omega)
  have := Nat.gcd_mul_right (frT n S).natAbs (Nat.gcd n.natAbs S.natAbs) (frN n S).natAbs
  rw [e1, e2] at this
  exact Nat.eq_of_mul_eq_mul_right gp (by omega)
theorem fr_le {n S : Int} (h : 0 < S) : (frT n S).natAbs ≤ n.natAbs ∧ (frN n S).natAbs ≤ S.natAbs := by
  have g := gcI_pos (n := n) h
  have e1 := natAbs_mul_gcd g (frT_mul (n := n) (S := S))
  have e2 := natAbs_mul_gcd g (frN_mul (n := n) (S := S))
  have gp : 1 ≤ (gcI n S).natAbs := by omega
  constructor
  · have := Nat.mul_le_mul_left (frT n S).natAbs gp
    omega
  · have := Nat.mul_le_mul_left (frN n S).natAbs gp
    omega
theorem fr_cross {n S m S' : Int} : n * S' = (frT n S * frN m S') * (gcI n S * gcI m S') ∧ m * S = (frT m S' * frN n S) * (gcI n S * gcI m S') := by
  constructor
  · conv => lhs; rw [← frT_mul (n := n) (S := S), ← frN_mul (n := m) (S := S')]
    simp only [Int.mul_comm, Int.mul_left_comm, Int.mul_assoc]
  · conv => lhs; rw [← frT_mul (n := m) (S := S'), ← frN_mul (n := n) (S := S)]
    simp only [Int.mul_comm, Int.mul_left_comm, Int.mul_assoc]
theorem fr_lt {n S m S' : Int} (h : 0 < S) (h' : 0 < S') : frT n S * frN m S' < frT m S' * frN n S ↔ n * S' < m * S := by
  obtain ⟨e1, e2⟩ := fr_cross (n := n) (S := S) (m := m) (S' := S')
  have gp : 0 < gcI n S * gcI m S' := Int.mul_pos (gcI_pos h) (gcI_pos h')
  rw [e1, e2]
  exact (Int.mul_lt_mul_right gp).symm
theorem fr_eq {n S m S' : Int} (e1 : frT n S = frT m S') (e2 : frN n S = frN m S') : n * S' = m * S := by
  obtain ⟨h1, h2⟩ := fr_cross (n := n) (S := S) (m := m) (S' := S')
  rw [h1, h2, e1, e2]
def scl : Int := 2688840
section
variable {P : Program} {w : World} {K : PySem.W.Frag} {mg : Str → Option Value} {base : Heap}
/-! _law_hat -/
def spHat : Sp := fun vs H Q _ => ∃ c k : Int, vs = [.int c, .int k] ∧ ∀ H' p, Same H H' → H p = none → Ht p H' → Q (.ref p) H'
theorem ok_hat (T : Blt mg) (d : Dnhat K mg) : FnOk P w K mg base CX0 1 d.f d.fd ["_law_cell", "_law_k"] spHat := by
  refine d.F.ok schat (fun vs H Q E h => ?_) (fun cdv A outer s H vs Q E hr h => ?_)
  · obtain ⟨c, k, rfl, _⟩ := h
    rfl
  · obtain ⟨c, k, rfl, q⟩ := h
    refine ⟨_, (pss_cons (ps_set (i := 2) schat.nd rfl (Or.inl rfl) (pe_op op_mulW (pe_op op_mulW (pe_op op_mulW (pe_op op_pow pe_int pe_int) (pe_op op_pow pe_int pe_int)) (pe_op op_pow pe_int pe_int)) (pe_op op_pow pe_int pe_int)))
    (pss_cons (ps_set (i := 3) schat.nd rfl (Or.inl rfl) (pe_op op_modB (pe_callTy call_int1 (by rfl) T.n_int (by decide +kernel) (pa_cons (pv 0) pa_nil)) (pv 2)))
    (pss_cons (ps_if (pt_cmpR op_ge (pv 3) (pe_op op_pow pe_int pe_int) (nomark _))
      (pss_one (ps_ret (pe_lst (pa_cons (pv 3) (pa_cons (pe_op op_add (pe_op op_modB (pe_callTy call_int1 (by rfl) T.n_int (by decide +kernel) (pa_cons (pv 3) pa_nil)) pe_int) (pv 1)) pa_nil)))))
      pss_nil)
    (pss_one (ps_ret (pe_lst (pa_cons pe_int (pa_cons (pe_op op_modB (pe_op op_add (pe_op op_add (pe_op op_mul (pe_op op_modB (pe_callTy call_int1 (by rfl) T.n_int (by decide +kernel) (pa_cons (pv 3) pa_nil)) pe_int) pe_int) (pe_op op_mul pe_int (pv 1))) pe_int) pe_int) pa_nil)))))))), ?_⟩
    refine ⟨_, _, rfl, rfl, ⟨by decide, by decide, by decide⟩, _, _, rfl, rfl, ⟨by decide, by decide, by decide⟩, _, _, rfl, rfl, cmW (by decide +kernel), _, _, rfl, rfl, ⟨by decide, by decide, by decide⟩, _, _, rfl, rfl, cmW (by decide +kernel), _, _, rfl, rfl, ⟨by decide, by decide, by decide⟩, _, _, rfl, rfl, cmW (by decide +kernel), ?_⟩
    refine ⟨.int c, rfl, .inl ⟨_, rfl, _, rfl, _, _, rfl, rfl, (by decide +kernel), fun m m0 m1 _ => ?_⟩⟩
    clear m1
    refine ⟨.int m, rfl, _, _, rfl, rfl, ⟨by decide, by decide, by decide⟩, _, _, rfl, rfl, _, rfl, ite2 (fun _ => ?_) fun _ => ?_⟩
    · refine ⟨.int m, rfl, .int m, rfl, .inl ⟨_, rfl, _, _, rfl, rfl, (by decide : (0 : Int) < 2147483563), fun x _ _ _ => ⟨.int k, rfl, _, _, rfl, rfl, (by show 2 ≤ sizeLine; decide), fun p np => ?_⟩⟩⟩
      exact q _ p (same_upd np) np ⟨_, _, upd_same, m0⟩
    · refine ⟨.int m, rfl, .inl ⟨_, rfl, _, _, rfl, rfl, (by decide : (0 : Int) < 2147483647), fun x x0 x1 _ => ⟨_, _, rfl, rfl, cmulL x0 (by omega), .int k, rfl, _, _, rfl, rfl, cmulL (by decide) (by decide), _, _, rfl, rfl, _, _, rfl, rfl, _, _, rfl, rfl, (by decide : (0 : Int) < 2147483647), fun y _ _ _ => ⟨(by show 2 ≤ sizeLine; decide), fun p np => ?_⟩⟩⟩⟩
      exact q _ p (same_upd np) np ⟨_, _, upd_same, Int.le_refl 0⟩
/-! _law_draw -/
def spDraw : Sp := fun vs H Q _ => ∃ (a : Addr) (n : Int), vs = [.ref a, .int n] ∧ Ht a H ∧ 0 < n ∧ n.natAbs.log2 < 9000 ∧ ∀ H' (r : Int), Exw a H H' → Ht a H' → 0 ≤ r → r < n → Q (.int r) H'
theorem ok_draw (T : Blt mg) (d : Dndraw K mg) : FnOk P w K mg base CX0 1 d.f d.fd ["_law_hat_here", "_law_many"] spDraw := by
  refine d.F.ok scdraw (fun vs H Q E h => ?_) (fun cdv A outer s H vs Q E hr h => ?_)
  · obtain ⟨a, n, rfl, _⟩ := h
    rfl
  · obtain ⟨a, n, rfl, hw, hn0, hn1, q⟩ := h
    refine ⟨_, (pss_cons (ps_if (pt_cmpR op_gt (pe_ix ix_list (pv 0) pe_int (fun _ _ => rfl)) pe_int (nomark _))
      (pss_cons (ps_set (i := 2) scdraw.nd rfl (Or.inl rfl) (pe_op op_modB (pe_callTy call_int1 (by rfl) T.n_int (by decide +kernel) (pa_cons (pe_ix ix_list (pv 0) pe_int (fun _ _ => rfl)) pa_nil)) (pv 1)))
      (pss_cons (ps_asg (pe_op op_fdivW (pe_ix ix_list (pv 0) pe_int (fun _ _ => rfl)) (pv 1)) (pg_sub (pv 0) pe_int set_list))
      (pss_one (ps_ret (pv 2)))))
      pss_nil)
    (pss_cons (ps_asg (pe_op op_modB (pe_op op_add (pe_op op_mul (pe_callTy call_int1 (by rfl) T.n_int (by decide +kernel) (pa_cons (pe_ix ix_list (pv 0) pe_int (fun _ _ => rfl)) pa_nil)) pe_int) pe_int) pe_int) (pg_sub (pv 0) pe_int set_list))
    (pss_cons (ps_asg (pe_op op_modB (pe_op op_add (pe_op op_mul (pe_callTy call_int1 (by rfl) T.n_int (by decide +kernel) (pa_cons (pe_ix ix_list (pv 0) pe_int (fun _ _ => rfl)) pa_nil)) (pe_op op_add (pe_op op_modB (pe_op op_fdiv (pe_ix ix_list (pv 0) pe_int (fun _ _ => rfl)) pe_int) pe_int) pe_int)) pe_int) pe_int) (pg_sub (pv 0) pe_int set_list))
    (pss_one (ps_ret (pe_op op_modB (pe_op op_fdiv (pe_ix ix_list (pv 0) pe_int (fun _ _ => rfl)) pe_int) (pv 1))))))), ?_⟩
    obtain ⟨u, s, ea, u0⟩ := hw
    refine rd_ix 0 rfl (sql ea) rfl ⟨_, _, rfl, rfl, _, rfl, ite2 (fun _ => ?_) fun _ => ?_⟩
    · refine rd_ix 0 rfl (sql ea) rfl (.inl ⟨_, rfl, .int n, rfl, _, _, rfl, rfl, hn0, fun r r0 r1 _ => ?_⟩)
      refine rd_ix 0 rfl (sql ea) rfl ⟨.int n, rfl, _, _, rfl, rfl, ⟨hn0, hn1⟩, rd_set 0 rfl ea (by decide : 0 < 2) ⟨.int r, rfl, ?_⟩⟩
      exact q _ r (Exw.refl a H).up ⟨u / n, s, upd_same, Int.ediv_nonneg u0 (by omega)⟩ r0 r1
    · refine rd_ix 1 rfl (sql ea) rfl (.inl ⟨_, rfl, _, _, rfl, rfl, cmulR (by decide) (by decide), _, _, rfl, rfl, _, _, rfl, rfl, (by decide : (0 : Int) < 2147483647), fun x a0 a1 _ => rd_set 1 rfl ea (by decide : 1 < 2) ?_⟩)
      have ea1 : (upd H a (.lst [.int u, .int x])) a = some (.lst [.int u, .int x]) := upd_same
      have x4 : Exw a H (upd H a (.lst [.int u, .int x])) := (Exw.refl a H).up
      show tSeq _ _ _ _ (upd H a (.lst [.int u, .int x]))
      generalize upd H a (.lst [.int u, .int x]) = H4 at ea1 x4 ⊢
      refine rd_ix 1 rfl (sql ea1) rfl (.inl ⟨_, rfl, rd_ix 1 rfl (sql ea1) rfl ⟨_, _, rfl, rfl, ⟨by decide, by decide⟩, _, _, rfl, rfl, (by decide : (0 : Int) < 65521), fun y y0 y1 _ => ⟨_, _, rfl, rfl, _, _, rfl, rfl, cmulR (by omega) (by omega), _, _, rfl, rfl, _, _, rfl, rfl, (by decide : (0 : Int) < 2147483629), fun z z0 z1 _ => rd_set 1 rfl ea1 (by decide : 1 < 2) ?_⟩⟩⟩)
      have ea2 : (upd H4 a (.lst ([V.int u, V.int x].set 1 (.int z)))) a = some (.lst [.int u, .int z]) := upd_same
      have x5 : Exw a H (upd H4 a (.lst ([V.int u, V.int x].set 1 (.int z)))) := x4.up
      generalize upd H4 a (.lst ([V.int u, V.int x].set 1 (.int z))) = H5 at ea2 x5 ⊢
      refine rd_ix 1 rfl (sql ea2) rfl ⟨_, _, rfl, rfl, ⟨by decide, by decide⟩, .int n, rfl, _, _, rfl, rfl, hn0, fun r r0 r1 _ => ?_⟩
      exact q H5 r x5 ⟨u, z, ea2, u0⟩ r0 r1
/-! _law_any -/
def spAny : Sp := fun vs H Q _ => ∃ (a l : Addr) (xs : List V), vs = [.ref a, .ref l] ∧ Ht a H ∧ l ≠ a ∧ H l = some (.lst xs) ∧ 0 < xs.length ∧ xs.length ≤ 100000 ∧ ∀ H' x, Exw a H H' → Ht a H' → x ∈ xs → Q x H'
theorem ok_any (T : Blt mg) (ddraw : Dndraw K mg) (d : Dnany K mg) : FnOk P w K mg base CX0 2 d.f d.fd ["_law_hat_here", "_law_things"] spAny := by
  have Gdraw : FnOk P w K mg base CX0 1 ddraw.f ddraw.fd ["_law_hat_here", "_law_many"] spDraw := ok_draw T ddraw
  refine d.F.ok scany (fun vs H Q E h => ?_) (fun cdv A outer s H vs Q E hr h => ?_)
  · obtain ⟨a, l, xs, rfl, _⟩ := h
    rfl
  · obtain ⟨a, l, xs, rfl, hw, la, hl, h0, h1, q⟩ := h
    refine ⟨_, (pss_one (ps_ret (pe_ix ix_list (pv 1) (pe_call Gdraw (hr.mono (by omega)) (by rfl) ddraw.g ddraw.F.kp ddraw.b .nil pass0 (pa_cons (pv 0) (pa_cons (pe_callB call_len_seq (by rfl) T.n_len (by decide +kernel) (pa_cons (pv 1) pa_nil)) pa_nil))) (fun _ _ => rfl)))), ?_⟩
    refine ⟨.ref l, rfl, .ref a, rfl, .ref l, rfl, l, _, rfl, .inl (sql hl), a, (xs.length : Int), rfl, hw, by omega, ?_, fun H1 k x1 w1 k0 k1 => ?_⟩
    · rw [Int.natAbs_natCast]
      exact Nat.lt_of_lt_of_le (lg90 (Nat.le_trans h1 (by decide))) (by decide)
    obtain ⟨kn, rfl⟩ := Int.eq_ofNat_of_zero_le k0
    have hk : kn < xs.length := by omega
    exact ⟨l, _, _, _, rfl, rfl, sql (x1 _ _ la hl), atI_nat (j := kn) (List.getElem?_eq_getElem hk), q H1 _ x1 w1 (List.getElem_mem hk)⟩
/-! _law_value, _law_between -/
theorem fr_cw {n S : Int} (h : 0 < S) (hS : S < 10000000) : CDivW n (gcI n S) := by
  refine ⟨gcI_pos h, ?_⟩
  have : (gcI n S).natAbs ≤ 2 ^ 100 := by
    show ((Nat.gcd n.natAbs S.natAbs : Nat) : Int).natAbs ≤ 2 ^ 100
    rw [Int.natAbs_natCast]
    have := Nat.le_of_dvd (by omega) (Nat.gcd_dvd_right n.natAbs S.natAbs)
    omega
  exact Nat.lt_of_lt_of_le (lg90 this) (by decide)
def spValue : Sp := fun vs H Q _ => ∃ k : Int, vs = [.int k] ∧ k.natAbs ≤ 2 ^ 90 ∧ ∀ H' p, Same H H' → Ptp H' p [.int (frT k scl), .int (frN k scl)] → Q (.ref p) H'
theorem ok_value (T : Blt mg) (dgcd : Dngcd K mg) (d : Dnvalue K mg) : FnOk P w K mg base CX0 2 d.f d.fd ["_law_key"] spValue := by
  have Ggcd : FnOk P w K mg base CX0 1 dgcd.f dgcd.fd ["_law_one_here", "_law_other"] spGcd := ok_gcd T dgcd
  refine d.F.ok scvalue (fun vs H Q E h => ?_) (fun cdv A outer s H vs Q E hr h => ?_)
  · obtain ⟨k, rfl, _⟩ := h
    rfl
  · obtain ⟨k, rfl, hk, q⟩ := h
    refine ⟨_, (pss_cons (ps_set (i := 1) scvalue.nd rfl (Or.inl rfl) pe_int)
    (pss_cons (ps_set (i := 2) scvalue.nd rfl (Or.inl rfl) (pe_call Ggcd (hr.mono (by omega)) (by rfl) dgcd.g dgcd.F.kp dgcd.b .nil pass0 (pa_cons (pv 0) (pa_cons (pv 1) pa_nil))))
    (pss_one (ps_ret (pe_tupF (pa_cons (pe_op op_fdivW (pv 0) (pv 2)) (pa_cons (pe_op op_fdivW (pv 1) (pv 2)) pa_nil))))))), ?_⟩
    refine ⟨.int k, rfl, .int scl, rfl, k, scl, rfl, by decide, by omega, by decide, ?_⟩
    have cw : CDivW k (gcI k scl) := fr_cw (by decide) (by decide)
    refine ⟨.int k, rfl, .int (gcI k scl), rfl, _, _, rfl, rfl, cw, .int scl, rfl, .int (gcI k scl), rfl, _, _, rfl, rfl, cw, (by show 2 ≤ sizeLine; decide), fun p o np ho => ?_⟩
    exact q _ p (same_upd np) ⟨o, upd_same, ho⟩
def spBetween : Sp := fun vs H Q _ => ∃ k m : Int, vs = [.int k, .int m] ∧ (k + m).natAbs ≤ 2 ^ 90 ∧ ∀ H' p, Same H H' → Ptp H' p [.int (frT (k + m) (2 * scl)), .int (frN (k + m) (2 * scl))] → Q (.ref p) H'
end
end Kb

/-! sorted(d), d a dict by ints, any number of them -/
namespace L2
open PySem PySem.Spec PyProof.Rows SrtZ SrtO
section
variable {X : Cx}
def rSortedDIL : List V → Hp → VK → Prop := fun vs H Q => ∃ (d : Addr) (kvs : List (Key × V)) (ks : List Int), vs = [V.ref d] ∧ H d = some (.dK kvs) ∧ kvs.map (·.1) = ks.map Sum.inl ∧
  ∀ (ys : List Int) (l : Addr), ys.Perm ks → ys.Pairwise (· ≤ ·) → H l = none → Q (.ref l) (upd H l (.lst (ys.map V.int)))
theorem keys_ints {P : Program} {w : World} {xs' : List (Key × Value)} {kvs : List (Key × V)} {ks : List Int} (rel : KV kvs xs') (hks : kvs.map (·.1) = ks.map Sum.inl) {vs : List Value} (hl : vs.length = xs'.length) (hv : ∀ (j : Nat) (v : Value), vs[j]? = some v → ∃ k x, xs'[j]? = some (k, x) ∧ (mixKind P w).is k v = true) : IntsAre vs ks := by
  have hkeys : xs'.map (·.1) = ks.map Sum.inl := rel.keys.symm.trans hks
  have l2 : vs.length = ks.length := by
    have := congrArg List.length hkeys
    rw [List.length_map, List.length_map] at this
    rw [hl, this]
  refine ints_each l2 fun j v e => ?_
  obtain ⟨k, x, e1, e2⟩ := hv j v e
  have e3 : (xs'.map (·.1))[j]? = some k := by rw [List.getElem?_map, e1]; rfl
  rw [hkeys, List.getElem?_map] at e3
  cases e4 : ks[j]? with
  | none => rw [e4] at e3; cases e3
  | some y =>
    rw [e4] at e3
    have e5 : Sum.inl y = k := Option.some.inj e3
    subst e5
    rcases keyIs_shape (show keyIs (Sum.inl y) v = true from e2) with ⟨i, t, ek, ev⟩ | ⟨z, t, ek, ev⟩
    · cases ek
      exact ⟨y, t, rfl, ev⟩
    · cases ek
theorem intsAre_len {vs : List Value} {ks : List Int} (h : IntsAre vs ks) : vs.length = ks.length := by
  have := iv_ints h
  rw [← this, List.length_map]
theorem cr_sortedDIL (hc : X.calm = true) : CallR X (.builtin "sorted") rSortedDIL := by
  intro pins s σ H xs us Q I r h
  obtain ⟨d, kvs, ks, rfl, ha, hks, q⟩ := h
  obtain rfl := Vals.ref1 r
  obtain ⟨z, hd, xs', rel, dd⟩ := dk_of I.hok ha
  obtain ⟨ep, hat⟩ := dd.dictAt
  have l1 : kvs.length = xs'.length := Paired.length rel
  have hz : xs'.length ≤ sizeLine := by omega
  have lk : ks.length = kvs.length := by
    have := congrArg List.length hks
    rw [List.length_map, List.length_map] at this
    omega
  refine sorted_col (x := .ref d) (b := false) (kw := []) (ltv := fun _ => ltIv) (P := fun _ _ vs => IntsAre vs ks)
    plain_rev (args_sorted1 _) (fun _ => args_list_sort _) (fun R hR => ?_) (fun _ _ _ _ => swo_int) (fun h' _ vs hP => ?_) (fun h' tk vs hP h2 h₁ c hb keep => ints_sortable hP h2) (fun h' tk vs out h2 hk hP h1 hb hk2 hat => ?_)
  · refine PySem.W.kdu_collect (A := X.A.in1) (PySem.W.kdl_dict (knd := mixKind X.prog X.w) (kvs := xs') (ep := ep) (d := d) hd) (I.ok.hd hc) hat hz fun h' tk acc hk hacc => hR h' tk _ hk (keys_ints rel hks (by rw [Array.length_toList]; exact hacc.1) fun j v e => hacc.2 j v (by rw [← Array.getElem?_toList]; exact e))
  · rw [intsAre_len hP]
    omega
  · obtain ⟨n, hat⟩ := hat
    rw [if_neg (by decide)] at hb
    obtain ⟨k1, k2, k3⟩ := ints_out hP h1 hb
    have hlen : ((out.map iv).map V.int).length ≤ sizeLine := by
      rw [List.length_map, k2.length_eq]
      omega
    have gone : s.heap.get? h'.objs.size = none := by
      cases e : s.heap.get? h'.objs.size with
      | none => rfl
      | some o => exact absurd (Heap.lt_size (hk _ _ e)) (Nat.lt_irrefl _)
    have hn := I.hok.gone gone
    exact ⟨.ref h'.objs.size, upd H h'.objs.size (.lst ((out.map iv).map V.int)), I.laidN (t' := tk) (fun c o e => hk2 c o (hk c o e)) gone hn ⟨hlen, out, n, vals_of_ints k1, hat⟩, rfl, q _ _ k2 k3 hn⟩
end
end L2

namespace Kb
open PySem PySem.Spec PyProof.Rows L2 RZ
abbrev Nmarks : List Str := ["_law_hat_here", "_law_many", "_law_keys", "_law_k", "_law_found", "_law_low", "_law_high", "_law_wide", "_law_key", "_law_a", "_law_b", "_law_c", "_law_d"]
theorem kpD_list {H : Hp} {d : Addr} {xs ys : List V} (h : H d = some (.lst xs)) : KpD H (upd H d (.lst ys)) :=
  ⟨fun b zs ⟨o, e, z⟩ => ⟨o, by rw [upd_ne (ne_of e h (by intro z; cases z))]; exact e, z⟩, fun b zs e => by
    by_cases hb : b = d
    · subst hb
      exact ⟨ys, upd_same⟩
    · exact ⟨zs, by rw [upd_ne hb]; exact e⟩, fun b x e => ⟨x, by rw [upd_ne (ne_of e h (by intro z; cases z))]; exact e⟩⟩
theorem putK_keys {kvs : List (Key × V)} {ks : List Int} {s : Int} {v : V} (e : kvs.map (·.1) = ks.map Sum.inl) : (s ∈ ks → (putK kvs (Sum.inl s) v).map (·.1) = ks.map Sum.inl) ∧ (s ∉ ks → (putK kvs (Sum.inl s) v).map (·.1) = (ks ++ [s]).map Sum.inl) := by
  have hany : (kvs.any fun kv => decide (kv.1 = (Sum.inl s : Key))) = true ↔ s ∈ ks := by
    rw [List.any_eq_true]
    constructor
    · rintro ⟨x, hx, h⟩
      have : x.1 ∈ kvs.map (·.1) := List.mem_map.mpr ⟨x, hx, rfl⟩
      rw [e, of_decide_eq_true h] at this
      obtain ⟨t, ht, h2⟩ := List.mem_map.mp this
      cases h2
      exact ht
    · intro h
      have : (Sum.inl s : Key) ∈ kvs.map (·.1) := by rw [e]; exact List.mem_map.mpr ⟨s, h, rfl⟩
      obtain ⟨x, hx, h2⟩ := List.mem_map.mp this
      exact ⟨x, hx, decide_eq_true h2⟩
  constructor
  · intro h
    unfold putK
    rw [if_pos (hany.mpr h), List.map_map, ← e]
    refine List.map_congr_left fun x _ => ?_
    show (if x.1 = _ then _ else _ : Key × V).1 = x.1
    split <;> rfl
  · intro h
    unfold putK
    rw [if_neg (fun z => h (hany.mp z)), List.map_append, List.map_append, e]
    rfl

/-- what the law draws: key, bounds -/
structure Fd where
  k : Int
  w : Int
  x : Int
  y : Int
  z : Int
def Fd.m (f : Fd) : Mk := ⟨frT f.k scl, frN f.k scl, f.w, f.x, f.y, f.z⟩
def FdAt (H : Hp) (v : V) (f : Fd) : Prop := ∃ u, v = .ref u ∧ Ptp H u [.int f.k, .int f.w, .int f.x, .int f.y, .int f.z]
theorem FdAt.keep {H H' : Hp} {v : V} {f : Fd} (h : FdAt H v f) (k : KpD H H') : FdAt H' v f := let ⟨u, e, p⟩ := h; ⟨u, e, k.t _ _ p⟩
structure FsOk (n : Int) (fs : List Fd) : Prop where
  bd : ∀ f ∈ fs, BdOk n f.m
  ky : fs.Pairwise (fun f g => f.k < g.k)
  ad : ∀ i f g, fs[i]? = some f → fs[i + 1]? = some g → f.y ≤ g.w ∧ f.z ≤ g.x
  kb : ∀ f ∈ fs, f.k.natAbs ≤ 2 ^ 89
  n0 : 0 ≤ n
  n1 : n ≤ 2 ^ 40
  len : fs.length ≤ 3000
/-- so far -/
structure FsUp (i : Nat) (low high : Int) (fs : List Fd) : Prop where
  each : ∀ f ∈ fs, 0 ≤ f.w ∧ f.w < f.y ∧ f.w ≤ f.x ∧ f.x < f.z ∧ f.y ≤ f.z ∧ f.y ≤ low ∧ f.z ≤ high
  ad : ∀ i f g, fs[i]? = some f → fs[i + 1]? = some g → f.y ≤ g.w ∧ f.z ≤ g.x
  l0 : 0 ≤ low
  lh : low ≤ high
  hb : high ≤ i * 500000000
theorem FsUp.add {i : Nat} {low high : Int} {fs : List Fd} (h : FsUp i low high fs) {f : Fd} (h1 : low ≤ f.w) (h2 : f.w < f.y) (h3 : f.w ≤ f.x) (h4 : f.x < f.z) (h5 : f.y ≤ f.z) (h6 : high ≤ f.x) (h7 : f.z ≤ (i + 1 : Nat) * 500000000) : FsUp (i + 1) f.y f.z (fs ++ [f]) := by
  have l0 := h.l0
  have lh := h.lh
  refine ⟨fun g hg => ?_, fun j g g' e1 e2 => ?_, by omega, h5, h7⟩
  · rcases List.mem_append.mp hg with hg | hg
    · obtain ⟨a1, a2, a3, a4, a5, a6, a7⟩ := h.each g hg
      exact ⟨a1, a2, a3, a4, a5, by omega, by omega⟩
    · rw [List.mem_singleton.mp hg]
      exact ⟨by omega, h2, h3, h4, h5, Int.le_refl _, Int.le_refl _⟩
  · by_cases hj : j + 1 < fs.length
    · rw [List.getElem?_append_left (by omega)] at e1
      rw [List.getElem?_append_left hj] at e2
      exact h.ad j g g' e1 e2
    · have hj2 : j + 1 = fs.length := by
        have := (List.getElem?_eq_some_iff.mp e2).1
        rw [List.length_append, List.length_singleton] at this
        omega
      rw [List.getElem?_append_left (by omega)] at e1
      rw [hj2, List.getElem?_append_right (by omega), Nat.sub_self] at e2
      cases e2
      obtain ⟨a1, a2, a3, a4, a5, a6, a7⟩ := h.each g (List.mem_of_getElem? e1)
      exact ⟨by omega, by omega⟩
theorem FsUp.done {i : Nat} {low high n : Int} {fs : List Fd} (h : FsUp i low high fs) (hi : i ≤ 150) (hn : high ≤ n) (hn2 : n ≤ high + 1000000000) {ys : List Int} (e : fs.map Fd.k = ys) (asc : ys.Pairwise (· < ·)) (kb : ∀ k ∈ ys, k.natAbs ≤ 2 ^ 89) (len : ys.length ≤ 150) : FsOk n fs := by
  have hb := h.hb
  have l0 := h.l0
  have lh := h.lh
  have p40 : (2 : Int) ^ 40 = 1099511627776 := by decide
  refine ⟨fun f hf => ?_, ?_, h.ad, fun f hf => kb _ (by rw [← e]; exact List.mem_map.mpr ⟨f, hf, rfl⟩), by omega, by omega, by rw [← e, List.length_map] at len; exact Nat.le_trans len (by decide)⟩
  · obtain ⟨a1, a2, a3, a4, a5, a6, a7⟩ := h.each f hf
    exact ⟨a1, a2, by show f.y ≤ n; omega, a3, a4, by show f.z ≤ n; omega, a5⟩
  · rw [← e] at asc
    exact List.pairwise_map.mp asc
theorem paired_app {α β : Type} {F : α → β → Prop} : ∀ {xs : List α} {ys : List β} {zs : List α} {ws : List β}, Paired F xs ys → Paired F zs ws → Paired F (xs ++ zs) (ys ++ ws)
  | _, _, _, _, .nil, h => h
  | _, _, _, _, .cons a t, h => .cons a (paired_app t h)
def mxI (i j : Int) : Int := if j > i then j else i
theorem mxI_ge (i j : Int) : i ≤ mxI i j ∧ j ≤ mxI i j ∧ (mxI i j = i ∨ mxI i j = j) := by
  unfold mxI
  split <;> omega
section
variable {P : Program} {w : World} {K : PySem.W.Frag} {mg : Str → Option Value} {base : Heap}
/-! _law_number -/
def spNumber : Sp := fun vs H Q _ => ∃ a : Addr, vs = [.ref a] ∧ Ht a H ∧ ∀ H' (k : Int), Exw a H H' → Ht a H' → k.natAbs ≤ 2 ^ 89 → Q (.int k) H'
theorem ok_number (T : Blt mg) (ddraw : Dndraw K mg) (dany : Dnany K mg) (d : Dnnumber K mg) : FnOk P w K mg base CX0 3 d.f d.fd ["_law_hat_here"] spNumber := by
  have Gdraw : FnOk P w K mg base CX0 1 ddraw.f ddraw.fd ["_law_hat_here", "_law_many"] spDraw := ok_draw T ddraw
  have Gany : FnOk P w K mg base CX0 2 dany.f dany.fd ["_law_hat_here", "_law_things"] spAny := ok_any T ddraw dany
  refine d.F.ok scnumber (fun vs H Q E h => ?_) (fun cdv A outer s H vs Q E hr h => ?_)
  · obtain ⟨a, rfl, _⟩ := h
    rfl
  · obtain ⟨a, rfl, w0, q⟩ := h
    refine ⟨_, (pss_cons (ps_set (i := 1) scnumber.nd rfl (Or.inl rfl) (pe_call Gany (hr.mono (by omega)) (by rfl) dany.g dany.F.kp dany.b .nil pass0 (pa_cons (pv 0) (pa_cons (pe_lst (pa_cons pe_int (pa_cons pe_int (pa_cons pe_int (pa_cons pe_int (pa_cons pe_int (pa_cons pe_int (pa_cons pe_int (pa_cons pe_int (pa_cons pe_int (pa_cons pe_int (pa_cons pe_int (pa_cons pe_int (pa_cons pe_int (pa_cons pe_int pa_nil))))))))))))))) pa_nil))))
    (pss_cons (ps_set (i := 2) scnumber.nd rfl (Or.inl rfl) (pe_call Gdraw (hr.mono (by omega)) (by rfl) ddraw.g ddraw.F.kp ddraw.b .nil pass0 (pa_cons (pv 0) (pa_cons pe_int pa_nil))))
    (C8.pss_cut (ps_if (pt_cmpR op_lt (pv 2) pe_int (nomark _))
      (pss_one (ps_set (i := 3) scnumber.nd rfl (Or.inl rfl) (pe_op op_sub (pe_call Gdraw (hr.mono (by omega)) (by rfl) ddraw.g ddraw.F.kp ddraw.b .nil pass0 (pa_cons (pv 0) (pa_cons pe_int pa_nil))) pe_int)))
      (pss_one (ps_if (pt_cmpR op_lt (pv 2) pe_int (nomark _))
        (pss_one (ps_set (i := 3) scnumber.nd rfl (Or.inl rfl) (pe_op op_sub (pe_call Gdraw (hr.mono (by omega)) (by rfl) ddraw.g ddraw.F.kp ddraw.b .nil pass0 (pa_cons (pv 0) (pa_cons pe_int pa_nil))) pe_int)))
        (pss_one (ps_set (i := 3) scnumber.nd rfl (Or.inl rfl) (pe_op op_sub (pe_call Gdraw (hr.mono (by omega)) (by rfl) ddraw.g ddraw.F.kp ddraw.b .nil pass0 (pa_cons (pv 0) (pa_cons (pe_op op_mul pe_int (pe_op op_pow pe_int pe_int)) pa_nil))) (pe_op op_pow pe_int pe_int)))))))
    (pss_one (ps_ret (pe_op op_mul (pv 3) (pe_op op_fdiv pe_int (pv 1)))))))), ?_⟩
    refine ⟨.ref a, rfl, (by show 14 ≤ sizeLine; decide), fun l nl => ?_⟩
    have s1 := same_upd (o := .lst [.int 1, .int 1, .int 1, .int 1, .int 1, .int 2, .int 3, .int 4, .int 5, .int 7, .int 9, .int 11, .int 97, .int 27720]) nl
    refine ⟨a, l, _, rfl, w0.same s1, w0.nea nl, upd_same, (by show 0 < 14; decide), (by show 14 ≤ 100000; decide), fun H1 v x1 w1 hv => ?_⟩
    obtain ⟨b, rfl, b1, b2⟩ : ∃ b : Int, v = .int b ∧ 1 ≤ b ∧ b ≤ 27720 := by
      simp only [List.mem_cons, List.not_mem_nil, or_false] at hv
      rcases hv with rfl | rfl | rfl | rfl | rfl | rfl | rfl | rfl | rfl | rfl | rfl | rfl | rfl | rfl <;> exact ⟨_, rfl, by decide, by decide⟩
    clear hv
    have x01 : Exw a H H1 := (Same.exw s1).trans x1
    refine ⟨.ref a, rfl, a, 6, rfl, w1, by decide, by decide, fun H2 k x2 w2 _ _ => ?_⟩
    have x02 := x01.trans x2
    refine ⟨fun σ H3 => ∃ t : Int, σ = [some (.ref a), some (.int b), some (.int k), some (.int t)] ∧ Exw a H H3 ∧ Ht a H3 ∧ t.natAbs ≤ 10 ^ 20, ?_, ?_⟩
    · refine ⟨.int k, rfl, _, _, rfl, rfl, _, rfl, ite2 (fun _ => ?_) fun _ => ⟨.int k, rfl, _, _, rfl, rfl, _, rfl, ite2 (fun _ => ?_) fun _ => ?_⟩⟩
      · refine ⟨.ref a, rfl, a, 7, rfl, w2, by decide, by decide, fun H3 r x3 w3 r0 r1 => ⟨_, _, rfl, rfl, _, rfl, x02.trans x3, w3, ?_⟩⟩
        have : (10 : Nat) ^ 20 = 100000000000000000000 := by decide
        omega
      · refine ⟨.ref a, rfl, a, 61, rfl, w2, by decide, by decide, fun H3 r x3 w3 r0 r1 => ⟨_, _, rfl, rfl, _, rfl, x02.trans x3, w3, ?_⟩⟩
        have : (10 : Nat) ^ 20 = 100000000000000000000 := by decide
        omega
      · refine ⟨.ref a, rfl, _, _, rfl, rfl, ⟨by decide, by decide, by decide⟩, _, _, rfl, rfl, cmulL (by decide) (by decide), a, _, rfl, w2, by decide +kernel, by decide +kernel, fun H3 r x3 w3 r0 r1 => ⟨_, _, rfl, rfl, ⟨by decide, by decide, by decide⟩, _, _, rfl, rfl, _, rfl, x02.trans x3, w3, ?_⟩⟩
        have e2 : (2 : Int) * 10 ^ (Int.toNat 20) = 200000000000000000000 := by decide
        have e3 : (10 : Int) ^ (Int.toNat 20) = 100000000000000000000 := by decide
        rw [e2] at r1
        rw [e3]
        have : (10 : Nat) ^ 20 = 100000000000000000000 := by decide
        omega
    · rintro σ H3 ⟨t, rfl, x3, w3, ht⟩
      have hq0 : 0 ≤ 2688840 / b := Int.ediv_nonneg (by decide) (by omega)
      have hq1 : 2688840 / b ≤ 2688840 := Int.ediv_le_self b (by decide)
      refine ⟨.int t, rfl, .int b, rfl, _, _, rfl, rfl, ⟨by omega, by omega⟩, _, _, rfl, rfl, cmulR hq0 (by omega), ?_⟩
      refine q H3 _ x3 w3 ?_
      rw [Int.natAbs_mul]
      calc t.natAbs * (2688840 / b).natAbs ≤ 10 ^ 20 * 2688840 := Nat.mul_le_mul ht (by omega)
        _ ≤ 2 ^ 89 := by decide
/-! _law_marks -/
def spMarks : Sp := fun vs H Q _ => ∃ (a : Addr) (n0 : Nat), vs = [.ref a, .int (n0 : Int)] ∧ Ht a H ∧ n0 ≤ 150 ∧ ∀ H' p l n us fs, Exw a H H' → Ht a H' → l ≠ a → Ptp H' p [.int n, .ref l] → H' l = some (.lst us) → Paired (FdAt H') us fs → FsOk n fs → fs.length ≤ n0 → Q (.ref p) H'
end
end Kb

namespace Kb
open PySem PySem.Spec PyProof.Rows L2 RZ
abbrev sas_told : Stmt := topS 58
abbrev Nas_told : List Str := ["_law_room", "_law_many", "_law_marks", "_law_mark"]
theorem scas_told : FnScope ["_law_room", "_law_many", "_law_marks", "_law_mark"] ["_law_room", "_law_many", "_law_marks"] (defScope sas_told) := ⟨rfl, rfl, rfl, by decide +kernel, rfl, by decide +kernel, by decide +kernel⟩
abbrev Dnas_told (K : PySem.W.Frag) (mg : Str → Option Value) := Dn K mg "_law_as_told" sas_told ["_law_room", "_law_many", "_law_marks"]

def rTupT (K : PySem.W.Frag) : List V → Hp → VK → Prop := fun xs H Q => ∃ a ys, xs = [V.ref a] ∧ SqT K H a ys ∧ Q (.ref a) H
theorem call_tupleTK {X : Cx} : CallR X (.type "tuple") (rTupT X.K) := call_tupleT
/-- right data of any kind -/
def OkV (K : PySem.W.Frag) (H : Hp) (v : V) : Prop := ∃ d, DtAt K H v d
section
variable {P : Program} {w : World} {K : PySem.W.Frag} {mg : Str → Option Value} {base : Heap}
theorem OkV.keep {H H' : Hp} {v : V} (h : OkV K H v) (k : KpD H H') : OkV K H' v := let ⟨d, h⟩ := h; ⟨d, h.keep k⟩
theorem OkV.same {H H' : Hp} {v : V} (h : OkV K H v) (s : Same H H') : OkV K H' v := h.keep (kpD_same s)
theorem okv_list {H : Hp} : ∀ {xs : List V}, (∀ v ∈ xs, OkV K H v) → ∃ ds, Paired (DtAt K H) xs ds
  | [], _ => ⟨[], .nil⟩
  | v :: xs, h => by
    obtain ⟨d, hd⟩ := h v List.mem_cons_self
    obtain ⟨ds, hds⟩ := okv_list fun u hu => h u (List.mem_cons_of_mem _ hu)
    exact ⟨d :: ds, .cons hd hds⟩
theorem okv_tup {H : Hp} {p : Addr} {xs : List V} (h : Ptp H p xs) (l : xs.length ≤ 5000) (o : ∀ v ∈ xs, OkV K H v) : OkV K H (.ref p) := by
  obtain ⟨ds, hds⟩ := okv_list o
  exact ⟨_, DtAt.mk h l hds⟩
theorem okv_int {H : Hp} {i : Int} (h : i.natAbs ≤ 2 ^ 100) : OkV K H (.int i) := ⟨.int i, .lf ⟨rfl, h⟩⟩
theorem okv_bl {H : Hp} {b : Bool} : OkV K H (.bl b) := ⟨.bl b, .lf rfl⟩
theorem okv_non {H : Hp} : OkV K H .non := ⟨.non, .lf rfl⟩
theorem okv_lst {H : Hp} {l : Addr} {xs : List V} (h : H l = some (.lst xs)) : OkV K H (.ref l) := ⟨.lst [], .lf ⟨l, xs, rfl, h⟩⟩
theorem okv_parts {H : Hp} {v : V} {ds : List Dat} (h : DtAt K H v (.tup ds)) : ∃ p xs, v = .ref p ∧ Ptp H p xs ∧ xs.length = ds.length ∧ ∀ u ∈ xs, OkV K H u := by
  obtain ⟨p, xs, rfl, h1, _, h3⟩ := h.tup
  exact ⟨p, xs, rfl, h1, Paired.length h3, fun u hu => by
    obtain ⟨i, hi⟩ := List.getElem?_of_mem hu
    obtain ⟨d, _, hd⟩ := paired_at h3 hi
    exact ⟨d, hd⟩⟩
theorem cut_mem {xs : List V} {lo hi : Option Int} {v : V} (h : v ∈ cutV xs lo hi) : v ∈ xs := List.mem_of_mem_drop (List.mem_of_mem_take h)
/-! _law_as_told -/
theorem fd_sz {n : Int} {fs : List Fd} (h : FsOk n fs) {f : Fd} (hf : f ∈ fs) : (frT f.k scl).natAbs ≤ 2 ^ 89 ∧ (frN f.k scl).natAbs ≤ 2 ^ 89 ∧ f.w.natAbs ≤ 2 ^ 41 ∧ f.x.natAbs ≤ 2 ^ 41 ∧ f.y.natAbs ≤ 2 ^ 41 ∧ f.z.natAbs ≤ 2 ^ 41 := by
  have b := h.bd f hf
  have k := h.kb f hf
  obtain ⟨l1, l2⟩ := fr_le (n := f.k) (S := scl) (by decide)
  have e : scl.natAbs = 2688840 := rfl
  have n1 := h.n1
  have p40 : (2 : Int) ^ 40 = 1099511627776 := by decide
  have p41 : (2 : Nat) ^ 41 = 2199023255552 := by decide
  have a1 : 0 ≤ f.w := b.a0
  have a2 : f.w < f.y := b.ac
  have a3 : f.y ≤ n := b.cn
  have a4 : f.w ≤ f.x := b.ab
  have a5 : f.x < f.z := b.bd
  have a6 : f.z ≤ n := b.dn
  exact ⟨by omega, by omega, by omega, by omega, by omega, by omega⟩
def spAsTold (K : PySem.W.Frag) : Sp := fun vs H Q _ => ∃ (r n : Int) (l : Addr) (us : List V) (fs : List Fd), vs = [.int r, .int n, .ref l] ∧ 1 ≤ r ∧ r ≤ 64 ∧ H l = some (.lst us) ∧ Paired (FdAt H) us fs ∧ FsOk n fs ∧ ∀ H' p, Same H H' → DtAt K H' (.ref p) (rk2 r n (fs.map Fd.m)) → Q (.ref p) H'
theorem ok_as_told (T : Blt mg) (dgcd : Dngcd K mg) (dvalue : Dnvalue K mg) (d : Dnas_told K mg) : FnOk P w K mg base CX0 3 d.f d.fd ["_law_room", "_law_many", "_law_marks"] (spAsTold K) := by
  have Gvalue : FnOk P w K mg base CX0 2 dvalue.f dvalue.fd ["_law_key"] spValue := ok_value T dgcd dvalue
  refine d.F.ok scas_told (fun vs H Q E h => ?_) (fun cdv A outer s H vs Q E hr h => ?_)
  · obtain ⟨r, n, l, us, fs, rfl, _⟩ := h
    rfl
  · obtain ⟨r, n, l, us, fs, rfl, r1, r64, hl, pr, ok, q⟩ := h
    refine ⟨_, (pss_one (ps_ret (pe_tupF (pa_cons (pv 0) (pa_cons (pv 1) (pa_cons (pe_callTy call_tupleF (by rfl) T.n_tuple (by decide +kernel) (pa_cons (pe_lc (own := [("_law_mark", 3)]) (g := gName 3) (tt := tYes) rfl scas_told.nd (pi_list (pv 2)) (blkOk_by (N := Nas_told) (sc := defScope sas_told) (by decide +kernel)) (fun _ _ _ _ _ => pg_name (i := 3) scas_told.nd rfl (Or.inl rfl)) (fun _ _ _ _ _ => pts_nil) (fun _ _ _ _ _ => (pe_op op_catP (pe_tupF (pa_cons (pe_call Gvalue (hr.mono (by omega)) (by rfl) dvalue.g dvalue.F.kp dvalue.b .nil pass0 (pa_cons (pe_ix (r := rIxT K) ix_tup (pv 3) pe_int (fun _ _ => rfl)) pa_nil)) pa_nil)) (pe_callTy (r := rTupT K) call_tupleTK (by rfl) T.n_tuple (by decide +kernel) (pa_cons (pe_slice (r := rSlP K) sl_tupP (pv 3) (po_some pe_int) po_none) pa_nil))))) pa_nil)) pa_nil)))))), ?_⟩
    refine ⟨.int r, rfl, .int n, rfl, .ref l, rfl, l, rfl, ⟨_, sql hl⟩, fun D nD => ?_⟩
    have fl : us.length = fs.length := Paired.length pr
    refine lc_list (xs := us) (fun i H3 => Same H H3 ∧ ∃ ws, H3 D = some (.lst ws) ∧ Paired (DtAt K H3) ws ((fs.take i).map fun f => mk2 f.m)) ⟨same_upd nD, [], upd_same, .nil⟩ (fun i H3 _ h3 => sql (h3.1 _ _ hl)) (fun i u H3 hu g3 => ?_) (fun H3 g3 => ?_)
    · obtain ⟨f, hf, t0, rfl, hp⟩ := paired_at pr hu
      obtain ⟨s3, ws, hD, pw⟩ := g3
      have hfm := List.mem_of_getElem? hf
      obtain ⟨z1, z2, z3, z4, z5, z6⟩ := fd_sz ok hfm
      have hk := ok.kb f hfm
      have hp3 := hp.same s3
      refine ⟨rfl, .ref t0, rfl, t0, _, _, _, rfl, rfl, hp3.seq, atI_nat (j := 0) rfl, f.k, rfl, by omega, fun H4 pv s4 hpv => ⟨(by show 1 ≤ sizeLine; decide), fun t o nt ho => ?_⟩⟩
      have s5 := same_upd (o := .frz o (.tup [.ref pv])) nt
      have ht : Ptp (upd H4 t (.frz o (.tup [.ref pv]))) t [.ref pv] := ⟨o, upd_same, ho⟩
      have s35 := s4.trans s5
      have hpv5 := hpv.same s5
      generalize upd H4 t (.frz o (.tup [.ref pv])) = H5 at ht s35 hpv5 ⊢
      refine ⟨.ref t0, rfl, 1, rfl, t0, _, rfl, hp3.same s35, fun p2 H6 s6 hp2 => ?_⟩
      rw [cut_from1] at hp2
      refine ⟨p2, _, rfl, hp2.seq, t, p2, _, _, rfl, rfl, ht.same s6, hp2, (by show 1 + 4 ≤ sizeLine; decide), fun p3 H7 s7 hp7 => ?_⟩
      have s37 := (s35.trans s6).trans s7
      have hpv7 := (hpv5.same s6).same s7
      have hp7 : Ptp H7 p3 [.ref pv, .int f.w, .int f.x, .int f.y, .int f.z] := hp7
      have dm : DtAt K H7 (.ref p3) (mk2 f.m) := DtAt.mk hp7 (by show 5 ≤ 5000; decide) (.cons (fr_dt hpv7 ⟨by show (frT f.k scl).natAbs ≤ _; omega, by show (frN f.k scl).natAbs ≤ _; omega⟩) (.cons (.lf ⟨rfl, by show f.w.natAbs ≤ _; omega⟩) (.cons (.lf ⟨rfl, by show f.x.natAbs ≤ _; omega⟩) (.cons (.lf ⟨rfl, by show f.y.natAbs ≤ _; omega⟩) (.cons (.lf ⟨rfl, by show f.z.natAbs ≤ _; omega⟩) .nil)))))
      have hD7 := s37 _ _ hD
      have kp : KpD H7 (upd H7 D (.lst (ws ++ [.ref p3]))) := kpD_list hD7
      have wl : ws.length ≤ i := by
        rw [Paired.length pw, List.length_map, List.length_take]
        omega
      have il := (List.getElem?_eq_some_iff.mp hf).1
      have := ok.len
      refine ⟨ws, hD7, by rw [sizeLine_eq]; omega, Same.put (s3.trans s37) nD, ws ++ [.ref p3], upd_same, ?_⟩
      rw [List.take_add_one, hf, List.map_append]
      exact paired_app (paired_imp (fun _ _ h => (h.same s37).keep kp) pw) (.cons (dm.keep kp) .nil)
    · obtain ⟨s3, ws, hD, pw⟩ := g3
      rw [fl, List.take_length] at pw
      refine ⟨D, ws, rfl, sql hD, fun l2 o2 n2 ho2 => ⟨(by show 3 ≤ sizeLine; decide), fun t o nt ho => ?_⟩⟩
      have s4 := same_upd (o := .frz o2 (.tup ws)) n2
      have h4 : Ptp (upd H3 l2 (.frz o2 (.tup ws))) l2 ws := ⟨o2, upd_same, ho2⟩
      generalize upd H3 l2 (.frz o2 (.tup ws)) = H4 at s4 h4 nt ⊢
      have s5 := same_upd (o := .frz o (.tup [.int r, .int n, .ref l2])) nt
      have wl : ws.length ≤ 3000 := by
        rw [Paired.length pw, List.length_map]
        exact ok.len
      have n0 := ok.n0
      have n1 := ok.n1
      have p40 : (2 : Int) ^ 40 = 1099511627776 := by decide
      refine q _ t ((s3.trans s4).trans s5) ?_
      rw [rk2, List.map_map]
      exact DtAt.mk ⟨o, upd_same, ho⟩ (by show 3 ≤ 5000; decide) (.cons (.lf ⟨rfl, by omega⟩) (.cons (.lf ⟨rfl, by omega⟩) (.cons (DtAt.mk (h4.same s5) (by omega) (paired_imp (fun _ _ h => (h.same s4).same s5) pw)) .nil)))
end
end Kb

namespace Kb
open PySem PySem.Spec PyProof.Rows L2 RZ SrtR
abbrev NP_bare_ranks : List Str := ["room"]
abbrev sP_ends_at : Stmt := topS 41
abbrev NP_ends_at : List Str := ["ranks", "place", "_", "many", "marks", "value", "side", "low", "mark"]
theorem scP_ends_at : FnScope ["ranks", "place", "_", "many", "marks", "value", "side", "low", "mark"] ["ranks", "place"] (defScope sP_ends_at) := ⟨rfl, rfl, rfl, by decide +kernel, rfl, by decide +kernel, by decide +kernel⟩
abbrev DnEndsAt (K : PySem.W.Frag) (mg : Str → Option Value) := Dn K mg "ends_at" sP_ends_at ["ranks", "place"]
abbrev NP_openness : List Str := ["ranks", "_", "many", "marks", "lows", "highs", "mark", "low", "high"]
section
variable {X : Cx} {pos : Pos} {x : Str} {p : Pos}
/-- C(), C an own class of errors without own __init__ -/
theorem pmk_bare {C : Addr} {bmB : List Value} {B newId initId : String} (F : ExcBaseFacts B newId initId bmB) (isExc : PySem.W.excIn X.K C bmB newId = true) (at_ : X.mg x = some (.ref C)) (kept : PySem.W.keepIn X.K (.ref C) = true) (may : Raises X (.ref C)) (gl : Gl X x)
    (nodebug : (x == ("__debug__" : Str)) = false := by decide) : PMk X (.Call (.Name x p) [] [] pos) (fun _ H Q => Q (.ref C) none H) := by
  intro pins s σ H Q I h
  refine wpAny_Call_Name_kw (ld_glob I gl at_ ?_ nodebug)
  refine PySem.W.callWith_K0 I.kIn kept ?_
  obtain ⟨_, _, _, _, _, _, _, _, _, _, _, _, _, _, _, _, _, isC, names, noInit, tail⟩ := exc_obj I.kIn isExc
  exact wpAny_call_exc_subT F tail isC names noInit (fun h' e' made => mk_of I made may h (I.hok.gone made.new)) (Nat.zero_le _)
end
/-- an own class of errors -/
structure TxE (K : PySem.W.Frag) (mg : Str → Option Value) (nm : Str) where
  C : Addr
  gC : mg nm = some (.ref C)
  exc : PySem.W.excIn K C [.type "ValueError", .type "Exception", .type "BaseException", .type "object"] "ValueError.__new__" = true
  kp : PySem.W.keepIn K (.ref C) = true
  sub : PySem.W.subIn K (.ref C) (.type "BaseException") = some true
  ty : PySem.W.typeIn K (.ref C) = some (.type "type")
  isC : ExcC K C


theorem map_at {α β : Type} {f : α → β} {l : List α} {i : Nat} {y : β} (h : (l.map f)[i]? = some y) : ∃ x, l[i]? = some x ∧ f x = y := by
  rw [List.getElem?_map] at h
  cases e : l[i]? with
  | none => rw [e] at h; cases h
  | some x => rw [e] at h; exact ⟨x, rfl, Option.some.inj h⟩
/-! what is read out of ranks, as mathematics -/
def endsM : Int → List Mk → Int → Int → Int → Int → Int × Int
  | low, [], n, _, _, _ => (low, n)
  | low, m :: ms, n, t, b, sd => if m.t = t ∧ m.b = b then (if sd = 1 then (m.y, m.z) else (m.w, m.x)) else if lsB t b m.t m.b = true then (low, m.x) else endsM m.y ms n t b sd
def gapsM : Int → List Mk → Int → List Int
  | low, [], n => [n - low]
  | low, m :: ms, n => (m.x - low) :: gapsM m.y ms n
theorem gaps_zip : ∀ (low : Int) (ms : List Mk) (n : Int), gapsM low ms n = ((low :: ms.map Mk.y).zip (ms.map Mk.x ++ [n])).map fun p => p.2 - p.1
  | _, [], _ => rfl
  | low, m :: ms, n => by
    show (m.x - low) :: gapsM m.y ms n = (m.x - low) :: (((m.y :: ms.map Mk.y).zip (ms.map Mk.x ++ [n])).map fun p => p.2 - p.1)
    rw [gaps_zip m.y ms n]
theorem gaps_len : ∀ (low : Int) (ms : List Mk) (n : Int), (gapsM low ms n).length = ms.length + 1
  | _, [], _ => rfl
  | _, m :: ms, n => congrArg (· + 1) (gaps_len m.y ms n)
theorem gaps_at {low n : Int} {ms : List Mk} {i : Nat} {l h : Int} (h1 : (low :: ms.map Mk.y)[i]? = some l) (h2 : (ms.map Mk.x ++ [n])[i]? = some h) : (gapsM low ms n)[i]? = some (h - l) := by
  rw [gaps_zip, List.getElem?_map, (List.getElem?_zip_eq_some (z := (l, h))).mpr ⟨h1, h2⟩]
  rfl
theorem eq_fr {t b t' b' : Int} : PyData.eqv (.tuple [.int t, .int b]) (.tuple [.int t', .int b']) = decide (t = t' ∧ b = b') := by
  show ((t == t') && ((b == b') && true)) = decide (t = t' ∧ b = b')
  rw [Bool.and_true, Bool.eq_iff_iff, Bool.and_eq_true, beq_iff_eq, beq_iff_eq, decide_eq_true_eq]
theorem rk_parts {K : PySem.W.Frag} {H : Hp} {v : V} {r n : Int} {ms : List Mk} (h : DtAt K H v (rk2 r n ms)) : ∃ p b ks, v = .ref p ∧ Ptp H p [.int r, .int n, .ref b] ∧ Ptp H b ks ∧ Paired (DtAt K H) ks (ms.map mk2) := by
  obtain ⟨p, xs, rfl, hp, _, h3⟩ := h.tup
  obtain ⟨x1, x2, x3, rfl⟩ := three (show xs.length = 3 from Paired.length h3)
  obtain ⟨e1, e2, e3⟩ := paired3 h3
  obtain ⟨rfl, _⟩ := e1.int
  obtain ⟨rfl, bn⟩ := e2.int
  obtain ⟨b, ks, rfl, hb, _, hk⟩ := e3.tup
  exact ⟨p, b, ks, rfl, hp, hb, hk⟩
section
variable {P : Program} {w : World} {K : PySem.W.Frag} {mg : Str → Option Value} {base : Heap}
/-! bare_ranks, of a right room -/
def spBareRanks (K : PySem.W.Frag) : Sp := fun vs H Q _ => ∃ r : Int, vs = [.int r] ∧ 1 ≤ r ∧ r ≤ 64 ∧ ∀ H' p, Same H H' → DtAt K H' (.ref p) (.tup [.int r, .int 0, .tup []]) → Q (.ref p) H'
/-! ends_at -/
def spEndsAt (K : PySem.W.Frag) (C : Addr) : Sp := fun vs H Q E => ∃ (v : V) (d : Dat) (pl f : Addr) (t b sd : Int), vs = [v, .ref pl] ∧ DtAt K H v d ∧ Ptp H pl [.ref f, .int sd] ∧ Ptp H f [.int t, .int b] ∧ (t.natAbs ≤ 2 ^ 100 ∧ b.natAbs ≤ 2 ^ 100) ∧ FrOk t b ∧ 0 ≤ sd ∧ sd ≤ 1 ∧
  (rkB d = false → ∀ H', Same H H' → E (.ref C) none H') ∧ (∀ r n ms, d = rk2 r n ms → RkOk r n ms → ∀ H' p, Same H H' → Ptp H' p [.int (endsM 0 ms n t b sd).1, .int (endsM 0 ms n t b sd).2] → Q (.ref p) H')
theorem ok_ends_at (T : Blt mg) (gG : mg "gcd" = some (.builtin "math.gcd")) (EK : TxE K mg "NoRanks") (EP : TxE K mg "NoPlace") (cM : Cst mg "MOST_ROOM" (.int 64)) (dP_is_int : DnIsInt K mg) (dP_is_number : DnIsNumber K mg) (dP_is_room : DnIsRoom K mg) (dP_is_fraction : DnIsFraction K mg) (dP_is_less : DnIsLess K mg) (dP_is_side : DnIsSide K mg) (dP_is_place : DnIsPlace K mg) (dP_is_mark : DnIsMark K mg) (dP_may_follow : DnMayFollow K mg) (dP_are_marks : DnAreMarks K mg) (dP_is_ranks : DnIsRanks K mg) (d : DnEndsAt K mg) :
    FnOk P w K mg base (L2.CX P w) 6 d.f d.fd ["ranks", "place"] (spEndsAt K EK.C) := by
  have GP_is_ranks : FnOk P w K mg base CX0 5 dP_is_ranks.f dP_is_ranks.fd ["thing"] (spIsRanks K) := ok_is_ranks T gG cM dP_is_int dP_is_number dP_is_room dP_is_fraction dP_is_less dP_is_mark dP_may_follow dP_are_marks dP_is_ranks
  have GP_is_place : FnOk P w K mg base CX0 3 dP_is_place.f dP_is_place.fd ["thing"] (spIsPlace K) := ok_is_place T gG dP_is_int dP_is_fraction dP_is_side dP_is_place
  have GP_is_less : FnOk P w K mg base CX0 1 dP_is_less.f dP_is_less.fd ["one", "other"] (spIsLess K) := ok_is_less dP_is_less
  refine d.F.okX scP_ends_at (fun vs H Q E h => ?_) (fun cdv A outer s H vs Q E hr h => ?_)
  · obtain ⟨v, dd, pl, f, t, b, sd, rfl, _⟩ := h
    rfl
  · obtain ⟨v, dd, pl, f, t, b, sd, rfl, hv, hpl, hf, z, fo, s0, s1, q1, q2⟩ := h
    refine ⟨_, (pss_cons (ps_if (pt_not (pt_val (pe_call GP_is_ranks (hr.mono (by omega)) (by rfl) dP_is_ranks.g dP_is_ranks.F.kp dP_is_ranks.b .nil pass0 (pa_cons (pv 0) pa_nil))))
      (pss_one (ps_raise rfl (takes_of rfl rfl rfl rfl) (pmk_bare PySem.F.excBase_ValueError EK.exc EK.gC EK.kp (raises_own EK.sub EK.ty) rfl)))
      pss_nil)
    (pss_cons (ps_if (pt_not (pt_val (pe_call GP_is_place (hr.mono (by omega)) (by rfl) dP_is_place.g dP_is_place.F.kp dP_is_place.b .nil pass0 (pa_cons (pv 1) pa_nil))))
      (pss_one (ps_raise rfl (takes_of rfl rfl rfl rfl) (pmk_bare PySem.F.excBase_ValueError EP.exc EP.gC EP.kp (raises_own EP.sub EP.ty) rfl)))
      pss_nil)
    (pss_cons (ps_asg (pv 0) (pg_tup (by rfl) (pgs_cons (pg_name (i := 2) scP_ends_at.nd rfl (Or.inl rfl)) (pgs_cons (pg_name (i := 3) scP_ends_at.nd rfl (Or.inl rfl)) (pgs_cons (pg_name (i := 4) scP_ends_at.nd rfl (Or.inl rfl)) pgs_nil)))))
    (pss_cons (ps_asg (pv 1) (pg_tup (by rfl) (pgs_cons (pg_name (i := 5) scP_ends_at.nd rfl (Or.inl rfl)) (pgs_cons (pg_name (i := 6) scP_ends_at.nd rfl (Or.inl rfl)) pgs_nil))))
    (pss_cons (ps_set (i := 7) scP_ends_at.nd rfl (Or.inl rfl) pe_int)
    (pss_cons (ps_for (passes_of rfl) rfl (pi_tup (pv 4)) (pg_name (i := 8) scP_ends_at.nd rfl (Or.inl rfl))
      (pss_cons (ps_if (pt_cmpR (op_eqD hr.units) (pe_ix ix_tup (pv 8) pe_int (fun _ _ => rfl)) (pv 5) (nomark _))
        (pss_one (ps_ret (pe_ifExp (pt_cmpR op_eq (pv 6) pe_int (nomark _)) (pe_tupF (pa_cons (pe_ix ix_tup (pv 8) pe_int (fun _ _ => rfl)) (pa_cons (pe_ix ix_tup (pv 8) pe_int (fun _ _ => rfl)) pa_nil))) (pe_tupF (pa_cons (pe_ix ix_tup (pv 8) pe_int (fun _ _ => rfl)) (pa_cons (pe_ix ix_tup (pv 8) pe_int (fun _ _ => rfl)) pa_nil))))))
        pss_nil)
      (pss_cons (ps_if (pt_val (pe_call GP_is_less (hr.mono (by omega)) (by rfl) dP_is_less.g dP_is_less.F.kp dP_is_less.b .nil pass0 (pa_cons (pv 5) (pa_cons (pe_ix ix_tup (pv 8) pe_int (fun _ _ => rfl)) pa_nil))))
        (pss_one (ps_ret (pe_tupF (pa_cons (pv 7) (pa_cons (pe_ix ix_tup (pv 8) pe_int (fun _ _ => rfl)) pa_nil)))))
        pss_nil)
      (pss_one (ps_set (i := 7) scP_ends_at.nd rfl (Or.inl rfl) (pe_ix ix_tup (pv 8) pe_int (fun _ _ => rfl)))))))
    (pss_one (ps_ret (pe_tupF (pa_cons (pv 7) (pa_cons (pv 3) pa_nil))))))))))), ?_⟩
    refine ⟨v, rfl, v, dd, rfl, hv, fun H1 s01 => ⟨rkB dd, rfl, ?_⟩⟩
    cases cd : rkB dd with
    | false => exact iteT (q1 cd H1 s01)
    | true =>
      obtain ⟨r, n, ms, rfl, ok⟩ := rkB_is cd
      have q := q2 r n ms rfl ok
      obtain ⟨p, bb, ks, rfl, hp, hb, hk⟩ := rk_parts (hv.same s01)
      have hpl1 := hpl.same s01
      have hf1 := hf.same s01
      refine iteF ⟨.ref pl, rfl, pl, f, t, b, sd, rfl, hpl1, hf1, z, fo, s0, s1, true, rfl, iteF ?_⟩
      refine ⟨.ref p, rfl, p, _, rfl, hp.seq, rfl, _, _, rfl, _, _, rfl, _, _, rfl, rfl, ?_⟩
      refine ⟨.ref pl, rfl, pl, _, rfl, hpl1.seq, rfl, _, _, rfl, _, _, rfl, rfl, ?_⟩
      refine ⟨.ref bb, rfl, bb, rfl, ⟨_, hb.seq⟩, ?_⟩
      refine for_tup (xs := ks) (fun i σ H2 => ∃ (low : Int) (y8 : Option V), σ = [some (.ref p), some (.ref pl), some (.int r), some (.int n), some (.ref bb), some (.ref f), some (.int sd), some (.int low), y8] ∧ Same H1 H2 ∧ endsM low (ms.drop i) n t b sd = endsM 0 ms n t b sd)
        ⟨0, none, rfl, Same.refl _, rfl⟩ (fun i σ H2 _ ⟨_, _, _, s2, _⟩ => (hb.same s2).seq) ?_ ?_
      · rintro i x σ H2 hi ⟨low, y8, rfl, s2, he⟩
        obtain ⟨dm, hdm, atm⟩ := paired_at hk hi
        obtain ⟨m, hm, rfl⟩ := map_at hdm
        obtain ⟨u, fm, rfl, hu⟩ := mk_at (atm.same s2)
        have hf2 := hf1.same s2
        have hdr : ms.drop i = m :: ms.drop (i + 1) := by
          obtain ⟨hlt, e⟩ := List.getElem?_eq_some_iff.mp hm
          rw [List.drop_eq_getElem_cons hlt, e]
        rw [hdr] at he
        have he : (if m.t = t ∧ m.b = b then (if sd = 1 then (m.y, m.z) else (m.w, m.x)) else if lsB t b m.t m.b = true then (low, m.x) else endsM m.y (ms.drop (i + 1)) n t b sd) = endsM 0 ms n t b sd := he
        refine ⟨.ref u, rfl, u, _, _, _, rfl, rfl, hu.ob.seq, atI_nat (j := 0) rfl, .ref f, rfl, .tuple [.int m.t, .int m.b], .tuple [.int t, .int b], .tup hu.fr.seq (.cons (.int _) (.cons (.int _) .nil)), .tup hf2.seq (.cons (.int _) (.cons (.int _) .nil)), rfl, rfl, decide (m.t = t ∧ m.b = b), congrArg V.bl eq_fr, ?_⟩
        by_cases c1 : m.t = t ∧ m.b = b
        · rw [decide_eq_true c1]
          rw [if_pos c1] at he
          refine iteT ⟨.int sd, rfl, rfl, decide (sd = 1), by rw [dec_int]; rfl, ?_⟩
          by_cases c2 : sd = 1
          · rw [decide_eq_true c2]
            rw [if_pos c2] at he
            refine iteT ⟨.ref u, rfl, u, _, _, _, rfl, rfl, hu.ob.seq, atI_nat (j := 3) rfl, .ref u, rfl, u, _, _, _, rfl, rfl, hu.ob.seq, atI_nat (j := 4) rfl, (by show 2 ≤ sizeLine; decide), fun tt oo nt ho => ?_⟩
            refine q _ tt ((s01.trans s2).trans (same_upd nt)) ?_
            rw [← he]
            exact ⟨oo, upd_same, ho⟩
          · rw [decide_eq_false c2]
            rw [if_neg c2] at he
            refine iteF ⟨.ref u, rfl, u, _, _, _, rfl, rfl, hu.ob.seq, atI_nat (j := 1) rfl, .ref u, rfl, u, _, _, _, rfl, rfl, hu.ob.seq, atI_nat (j := 2) rfl, (by show 2 ≤ sizeLine; decide), fun tt oo nt ho => ?_⟩
            refine q _ tt ((s01.trans s2).trans (same_upd nt)) ?_
            rw [← he]
            exact ⟨oo, upd_same, ho⟩
        · rw [decide_eq_false c1]
          rw [if_neg c1] at he
          refine iteF ⟨.ref f, rfl, .ref u, rfl, u, _, _, _, rfl, rfl, hu.ob.seq, atI_nat (j := 0) rfl, f, fm, t, b, m.t, m.b, rfl, hf2, hu.fr, z, hu.sz, lsB t b m.t m.b, rfl, ?_⟩
          cases c2 : lsB t b m.t m.b with
          | true =>
            rw [c2, if_pos rfl] at he
            refine iteT ⟨.int low, rfl, .ref u, rfl, u, _, _, _, rfl, rfl, hu.ob.seq, atI_nat (j := 2) rfl, (by show 2 ≤ sizeLine; decide), fun tt oo nt ho => ?_⟩
            refine q _ tt ((s01.trans s2).trans (same_upd nt)) ?_
            rw [← he]
            exact ⟨oo, upd_same, ho⟩
          | false =>
            rw [c2, if_neg Bool.noConfusion] at he
            refine iteF ⟨.ref u, rfl, u, _, _, _, rfl, rfl, hu.ob.seq, atI_nat (j := 3) rfl, ?_⟩
            exact ⟨_, _, rfl, s2, he⟩
      · rintro σ H2 ⟨low, y8, rfl, s2, he⟩
        have kl : ks.length = ms.length := by rw [Paired.length hk, List.length_map]
        rw [kl, List.drop_length] at he
        have he : (low, n) = endsM 0 ms n t b sd := he
        refine ⟨.int low, rfl, .int n, rfl, (by show 2 ≤ sizeLine; decide), fun tt oo nt ho => ?_⟩
        refine q _ tt ((s01.trans s2).trans (same_upd nt)) ?_
        rw [← he]
        exact ⟨oo, upd_same, ho⟩
/-! openness -/
def spOpenness (K : PySem.W.Frag) (C : Addr) : Sp := fun vs H Q E => ∃ (v : V) (d : Dat), vs = [v] ∧ DtAt K H v d ∧
  (rkB d = false → ∀ H', Same H H' → E (.ref C) none H') ∧ (∀ r n ms, d = rk2 r n ms → RkOk r n ms → ∀ H' m, Same H H' → m ∈ gapsM 0 ms n → (∀ y ∈ gapsM 0 ms n, y ≤ m) → Q (.int m) H')
end
end Kb

namespace Kb
open PySem PySem.Spec PyProof.Rows L2 RZ
abbrev ssame : Stmt := topS 48
abbrev Nsame : List Str := ["_law_actual", "_law_due", "_law_one_here", "_law_other"]
theorem scsame : FnScope ["_law_actual", "_law_due", "_law_one_here", "_law_other"] ["_law_actual", "_law_due"] (defScope ssame) := ⟨rfl, rfl, rfl, by decide +kernel, rfl, by decide +kernel, by decide +kernel⟩
abbrev Dnsame (K : PySem.W.Frag) (mg : Str → Option Value) := Dn K mg "_law_same" ssame ["_law_actual", "_law_due"]
theorem DtAt.non {K : PySem.W.Frag} {H : Hp} {v : V} (h : DtAt K H v .non) : v = .non := by
  obtain ⟨n, h⟩ := h
  cases n with
  | zero => exact h
  | succ n =>
    rcases h with h | ⟨a, xs, ds, _, e, _⟩
    · exact h
    · cases e
/-- ints and tuples of such -/
def plI : Nat → Dat → Bool
  | _, .int _ => true
  | _, .non => true
  | n + 1, .tup ds => ds.all (plI n)
  | _, _ => false
section
variable {P : Program} {w : World} {K : PySem.W.Frag} {mg : Str → Option Value} {base : Heap}
def spSame (K : PySem.W.Frag) (n : Nat) : Sp := fun vs H Q _ => ∃ (x y : V) (d : Dat), vs = [x, y] ∧ DtAt K H x d ∧ DtAt K H y d ∧ plI n d = true ∧ ∀ H', Same H H' → Q (.bl true) H'
def spSame' (K : PySem.W.Frag) : Nat → Sp
  | 0 => fun _ _ _ _ => False
  | n + 1 => spSame K n
theorem ok_same' (T : Blt mg) (dsame : Dnsame K mg) (n : Nat) (Gsame : FnOk P w K mg base CX0 (n + 1) dsame.f dsame.fd ["_law_actual", "_law_due"] (spSame' K n)) : FnOk P w K mg base CX0 (n + 2) dsame.f dsame.fd ["_law_actual", "_law_due"] (spSame K n) := by
  refine dsame.F.ok scsame (fun vs H Q E h => ?_) (fun cdv A outer s H vs Q E hr h => ?_)
  · obtain ⟨x, y, d, rfl, _⟩ := h
    rfl
  · obtain ⟨x, y, d, rfl, hx, hy, hp, q⟩ := h
    refine ⟨_, (pss_cons (ps_if (pt_val (pe_callB (call_isD (K := K) rfl) (by rfl) T.n_isinstance (by decide +kernel) (pa_cons (pv 1) (pa_cons (pe_bltn (v := .ty "tuple") (by rfl) T.n_tuple (by decide +kernel) rfl) pa_nil))))
      (pss_cons (ps_if (PW.pt (pw_or (pt_not (pt_val (pe_callB (call_isD (K := K) rfl) (by rfl) T.n_isinstance (by decide +kernel) (pa_cons (pv 0) (pa_cons (pe_bltn (v := .ty "tuple") (by rfl) T.n_tuple (by decide +kernel) rfl) pa_nil))))) (pw_or1 (pt_cmpR op_ne (pe_callB call_len_seq (by rfl) T.n_len (by decide +kernel) (pa_cons (pv 0) pa_nil)) (pe_callB call_len_seq (by rfl) T.n_len (by decide +kernel) (pa_cons (pv 1) pa_nil)) (nomark _)))))
        (pss_one (ps_ret pe_bl))
        pss_nil)
      (pss_cons (ps_for PassesOwn.never rfl (pi_zipA (by rfl) T.n_zip (pa_cons (pv 0) (pa_cons (pv 1) pa_nil))) (pg_tup (by rfl) (pgs_cons (pg_name (i := 2) scsame.nd rfl (Or.inl rfl)) (pgs_cons (pg_name (i := 3) scsame.nd rfl (Or.inl rfl)) pgs_nil)))
        (pss_one (ps_if (pt_not (pt_val (pe_call Gsame (hr.mono (by omega)) (by rfl) dsame.g dsame.F.kp dsame.b .nil pass0 (pa_cons (pv 2) (pa_cons (pv 3) pa_nil)))))
          (pss_one (ps_ret pe_bl))
          pss_nil)))
      (pss_one (ps_ret pe_bl))))
      pss_nil)
    (pss_cons (ps_if (pt_cmpR op_isN (pv 1) pe_non (nomark _))
      (pss_one (ps_ret (pe_cmpR op_isN (pv 0) pe_non (nomark _))))
      pss_nil)
    (pss_cons (ps_if (pt_val (pe_callB (call_isD (K := K) rfl) (by rfl) T.n_isinstance (by decide +kernel) (pa_cons (pv 1) (pa_cons (pe_bltn (v := .ty "str") (by rfl) T.n_str (by decide +kernel) rfl) pa_nil))))
      (pss_one (ps_ret (pe_and (pe_callB (call_isD (K := K) rfl) (by rfl) T.n_isinstance (by decide +kernel) (pa_cons (pv 0) (pa_cons (pe_bltn (v := .ty "str") (by rfl) T.n_str (by decide +kernel) rfl) pa_nil))) (pe_one (pe_cmpR op_eq (pv 0) (pv 1) (nomark _))))))
      pss_nil)
    (pss_one (ps_ret (pe_and (pe_callB (call_isD (K := K) rfl) (by rfl) T.n_isinstance (by decide +kernel) (pa_cons (pv 0) (pa_cons (pe_bltn (v := .ty "int") (by rfl) T.n_int (by decide +kernel) rfl) pa_nil))) (pe_and (pe_not (pe_callB (call_isD (K := K) rfl) (by rfl) T.n_isinstance (by decide +kernel) (pa_cons (pv 0) (pa_cons (pe_bltn (v := .ty "bool") (by rfl) T.n_bool (by decide +kernel) rfl) pa_nil)))) (pe_one (pe_cmpR op_eq (pv 0) (pv 1) (nomark _)))))))))), ?_⟩
    obtain ⟨t, ty, kI, kB, kS, kT⟩ := hy.ty
    obtain ⟨t', ty', kI', kB', kS', kT'⟩ := hx.ty
    refine ⟨y, rfl, y, _, t, _, isT d, rfl, .ty "tuple", ty, kT, isT d, rfl, ?_⟩
    cases d with
    | int i =>
      obtain ⟨rfl, _⟩ := hx.int
      obtain ⟨rfl, _⟩ := hy.int
      refine iteF ⟨.int i, rfl, rfl, false, rfl, iteF ?_⟩
      refine ⟨.int i, rfl, .int i, _, t, _, false, rfl, .ty "str", ty, kS, false, rfl, iteF ?_⟩
      refine ⟨.int i, rfl, .int i, _, t', _, true, rfl, .ty "int", ty', kI', true, rfl, iteT ?_⟩
      refine ⟨.int i, rfl, .int i, _, t', _, false, rfl, .ty "bool", ty', kB', false, rfl, true, rfl, iteT ?_⟩
      refine ⟨.int i, rfl, .int i, rfl, rfl, ?_⟩
      rw [decide_eq_true rfl]
      exact q H (Same.refl H)
    | non =>
      obtain rfl := hx.non
      obtain rfl := hy.non
      refine iteF ⟨.non, rfl, rfl, true, rfl, iteT ⟨.non, rfl, rfl, ?_⟩⟩
      exact q H (Same.refl H)
    | tup ds =>
      cases n with
      | zero => cases hp
      | succ n =>
        have hp : ds.all (plI n) = true := hp
        obtain ⟨a, xs, rfl, h1, l1, h3⟩ := hx.tup
        obtain ⟨b, ys, rfl, g1, _, g3⟩ := hy.tup
        have xl := Paired.length h3
        have yl := Paired.length g3
        refine iteT ⟨.ref a, rfl, .ref a, _, t', _, true, rfl, .ty "tuple", ty', kT', true, rfl, iteF ?_⟩
        refine ⟨.ref a, rfl, a, _, rfl, .inr h1.seq, .ref b, rfl, b, _, rfl, .inr g1.seq, rfl, false, congrArg V.bl ?_, iteF ?_⟩
        · rw [xl, yl, decide_eq_true rfl]
          rfl
        refine ⟨.ref a, rfl, .ref b, rfl, a, b, xs, ys, rfl, .inr ⟨h1.seq, g1.seq, ?_⟩⟩
        refine for_it (walk_zipTg (K := K) (xs := xs) (ys := ys) rfl) (fun i σ H2 => ∃ y2 y3 : Option V, σ = [some (.ref a), some (.ref b), y2, y3] ∧ Same H H2) ⟨none, none, rfl, Same.refl H⟩ (fun i σ H2 _ ⟨_, _, _, s2⟩ => ⟨(h1.same s2).seq, (g1.same s2).seq⟩) ?_ ?_
        · rintro i v σ H2 H3 hi ⟨y2, y3, rfl, s2⟩ ⟨TT, u1, u2, rfl, nT, rfl, hx1, hx2⟩
          have hx1 : xs[i]? = some u1 := hx1
          have hx2 : ys[i]? = some u2 := hx2
          obtain ⟨e, he, at1⟩ := paired_at h3 hx1
          have at2 := paired_getl g3 hx2 he
          have sT : Same H (upd H2 TT (.tup [u1, u2])) := Same.new s2 nT
          refine ⟨TT, _, rfl, .inl (.inl upd_same), rfl, _, _, rfl, _, _, rfl, rfl, ?_⟩
          refine ⟨u1, rfl, u2, rfl, u1, u2, e, rfl, at1.same sT, at2.same sT, List.all_eq_true.mp hp e (List.mem_of_getElem? he), fun H4 s4 => ⟨true, rfl, iteF ?_⟩⟩
          exact ⟨_, _, rfl, sT.trans s4⟩
        · rintro σ H2 ⟨y2, y3, rfl, s2⟩
          exact q H2 s2
    | _ => cases n <;> cases hp
theorem ok_same (T : Blt mg) (dsame : Dnsame K mg) : ∀ n : Nat, FnOk P w K mg base CX0 (n + 1) dsame.f dsame.fd ["_law_actual", "_law_due"] (spSame' K n)
  | 0 => dsame.F.ok scsame (fun _ _ _ _ h => h.elim) (fun _ _ _ _ _ _ _ _ _ h => h.elim)
  | n + 1 => ok_same' T dsame n (ok_same T dsame n)
end
/-! where a number stands among the marks -/
def lowAt (low : Int) (fs : List Fd) : Nat → Int
  | 0 => low
  | p + 1 => match fs[p]? with
    | some f => f.y
    | none => low
theorem ends_skip {num S n sd : Int} (hS : 0 < S) : ∀ (p : Nat) (fs : List Fd) (low : Int), p ≤ fs.length → (∀ j f, j < p → fs[j]? = some f → f.k * S < num * scl) →
    endsM low (fs.map Fd.m) n (frT num S) (frN num S) sd = endsM (lowAt low fs p) ((fs.drop p).map Fd.m) n (frT num S) (frN num S) sd
  | 0, _, _, _, _ => rfl
  | p + 1, [], _, h, _ => absurd h (by simp)
  | p + 1, f :: fs, low, h, hb => by
    have h0 := hb 0 f (Nat.zero_lt_succ p) rfl
    have e1 : ¬ (f.m.t = frT num S ∧ f.m.b = frN num S) := fun z => by
      have := fr_eq (n := f.k) (S := scl) (m := num) (S' := S) z.1 z.2
      omega
    have e2 : lsB (frT num S) (frN num S) f.m.t f.m.b = false := by
      refine decide_eq_false fun z => ?_
      have := (fr_lt (n := num) (S := S) (m := f.k) (S' := scl) hS (by decide)).mp z
      omega
    show (if f.m.t = frT num S ∧ f.m.b = frN num S then _ else if lsB (frT num S) (frN num S) f.m.t f.m.b = true then _ else endsM f.y (fs.map Fd.m) n (frT num S) (frN num S) sd) = _
    rw [if_neg e1, e2, if_neg Bool.noConfusion, ends_skip hS p fs f.y (by simpa using h) fun j g hj hg => hb (j + 1) g (by omega) hg]
    congr 1
    cases p with
    | zero => rfl
    | succ p =>
      show (match fs[p]? with | some f => f.y | none => _) = (match (f :: fs)[p + 1]? with | some f => f.y | none => _)
      have hl : p < fs.length := by
        rw [List.length_cons] at h
        omega
      rw [List.getElem?_cons_succ, List.getElem?_eq_getElem hl]
/-- at a mark -/
theorem ends_at_key {n sd : Int} {fs : List Fd} {i : Nat} {f : Fd} (asc : fs.Pairwise fun f g => f.k < g.k) (hi : fs[i]? = some f) : endsM 0 (fs.map Fd.m) n (frT f.k scl) (frN f.k scl) sd = if sd = 1 then (f.y, f.z) else (f.w, f.x) := by
  have il := (List.getElem?_eq_some_iff.mp hi).1
  rw [ends_skip (by decide) i fs 0 (by omega) fun j g hj hg => by
    have : g.k < f.k := by
      obtain ⟨hj', e1⟩ := List.getElem?_eq_some_iff.mp hg
      obtain ⟨hi', e2⟩ := List.getElem?_eq_some_iff.mp hi
      rw [← e1, ← e2]
      exact List.pairwise_iff_getElem.mp asc j i hj' hi' hj
    exact Int.mul_lt_mul_of_pos_right this (by decide)]
  have hd : fs.drop i = f :: fs.drop (i + 1) := by
    obtain ⟨hlt, e⟩ := List.getElem?_eq_some_iff.mp hi
    rw [List.drop_eq_getElem_cons hlt, e]
  rw [hd]
  show (if f.m.t = frT f.k scl ∧ f.m.b = frN f.k scl then (if sd = 1 then (f.m.y, f.m.z) else (f.m.w, f.m.x)) else _) = _
  rw [if_pos ⟨rfl, rfl⟩]
  rfl
/-- right before mark i -/
theorem ends_before {num S n sd : Int} (hS : 0 < S) {fs : List Fd} {i : Nat} {f : Fd} (hi : fs[i]? = some f) (hb : ∀ j g, j < i → fs[j]? = some g → g.k * S < num * scl) (ha : num * scl < f.k * S) : endsM 0 (fs.map Fd.m) n (frT num S) (frN num S) sd = (lowAt 0 fs i, f.x) := by
  have il := (List.getElem?_eq_some_iff.mp hi).1
  rw [ends_skip hS i fs 0 (by omega) hb]
  have hd : fs.drop i = f :: fs.drop (i + 1) := by
    obtain ⟨hlt, e⟩ := List.getElem?_eq_some_iff.mp hi
    rw [List.drop_eq_getElem_cons hlt, e]
  rw [hd]
  have e1 : ¬ (f.m.t = frT num S ∧ f.m.b = frN num S) := fun z => by
    have := fr_eq (n := f.k) (S := scl) (m := num) (S' := S) z.1 z.2
    omega
  have e2 : lsB (frT num S) (frN num S) f.m.t f.m.b = true := decide_eq_true ((fr_lt (n := num) (S := S) (m := f.k) (S' := scl) hS (by decide)).mpr ha)
  show (if f.m.t = frT num S ∧ f.m.b = frN num S then _ else if lsB (frT num S) (frN num S) f.m.t f.m.b = true then (_, f.m.x) else _) = _
  rw [if_neg e1, e2, if_pos rfl]
  rfl
/-- behind all -/
theorem ends_behind {num S n sd : Int} (hS : 0 < S) {fs : List Fd} (hb : ∀ j g, j < fs.length → fs[j]? = some g → g.k * S < num * scl) : endsM 0 (fs.map Fd.m) n (frT num S) (frN num S) sd = (lowAt 0 fs fs.length, n) := by
  rw [ends_skip hS fs.length fs 0 (Nat.le_refl _) hb, List.drop_length]
  rfl
end Kb

namespace Kb
/-! the greedy choice, as the law takes it: what is still chosen, the level reached, the mark held -/
def finT (n g L : Int) : Option Fd → Option (List Fd)
  | some h => if n - L ≤ g then some [] else if n - h.y ≤ g then some [h] else none
  | none => if n - L ≤ g then some [] else none
def stp (n g : Int) : Int → Option Fd → List Fd → Option (List Fd)
  | L, h, [] => finT n g L h
  | L, none, m :: ms => if n - L ≤ g then some [] else if m.x - L ≤ g then stp n g L (some m) ms else none
  | L, some h, m :: ms => if n - L ≤ g then some [] else if m.x - L ≤ g then stp n g L (some m) ms else if n - h.y ≤ g then some [h] else if m.x - h.y ≤ g then (stp n g h.y (some m) ms).map (h :: ·) else none
/-- a choice whose gaps are at most g -/
def good (n g : Int) : Int → List Fd → Prop
  | L, [] => n - L ≤ g
  | L, s :: S => s.x - L ≤ g ∧ good n g s.y S
theorem stp_enough {n g L : Int} {h : Option Fd} {ms : List Fd} (e : n - L ≤ g) : stp n g L h ms = some [] := by
  cases ms with
  | nil => cases h <;> exact if_pos e
  | cons m ms => cases h <;> exact if_pos e
theorem stp_go {n g L : Int} {h : Option Fd} {m : Fd} {ms : List Fd} (e : ¬ n - L ≤ g) (em : m.x - L ≤ g) : stp n g L h (m :: ms) = stp n g L (some m) ms := by
  cases h with
  | none =>
    show (if n - L ≤ g then some [] else if m.x - L ≤ g then stp n g L (some m) ms else none) = _
    rw [if_neg e, if_pos em]
  | some h =>
    show (if n - L ≤ g then some [] else if m.x - L ≤ g then stp n g L (some m) ms else _) = _
    rw [if_neg e, if_pos em]
/-- where the run ends the held mark is taken -/
theorem stp_take {n g L : Int} {h : Fd} {ms : List Fd} (e : ¬ n - L ≤ g) (em : ∀ m r, ms = m :: r → ¬ m.x - L ≤ g) : stp n g L (some h) ms = (stp n g h.y none ms).map (h :: ·) := by
  cases ms with
  | nil =>
    show (if n - L ≤ g then some [] else if n - h.y ≤ g then some [h] else none) = Option.map (h :: ·) (if n - h.y ≤ g then some [] else none)
    rw [if_neg e]
    split <;> rfl
  | cons m ms =>
    show (if n - L ≤ g then some [] else if m.x - L ≤ g then stp n g L (some m) ms else if n - h.y ≤ g then some [h] else if m.x - h.y ≤ g then (stp n g h.y (some m) ms).map (h :: ·) else none) = Option.map (h :: ·) (if n - h.y ≤ g then some [] else if m.x - h.y ≤ g then stp n g h.y (some m) ms else none)
    rw [if_neg e, if_neg (em m ms rfl)]
    split
    · rfl
    · split <;> rfl
theorem stp_none {n g L : Int} {ms : List Fd} (e : ¬ n - L ≤ g) (em : ∀ m r, ms = m :: r → ¬ m.x - L ≤ g) : stp n g L none ms = none := by
  cases ms with
  | nil => exact if_neg e
  | cons m ms =>
    show (if n - L ≤ g then some [] else if m.x - L ≤ g then stp n g L (some m) ms else none) = none
    rw [if_neg e, if_neg (em m ms rfl)]
/-- marks go up -/
abbrev Up (ms : List Fd) : Prop := ms.Pairwise fun f f' => f.x ≤ f'.x ∧ f.y ≤ f'.y
/-- greedy is best -/
theorem greedy {n g : Int} : ∀ (ms : List Fd), Up ms →
    (∀ (L L' : Int) (S : List Fd), S.Sublist ms → good n g L' S → L' ≤ L → ∃ l, stp n g L none ms = some l ∧ l.length ≤ S.length) ∧
    (∀ (L L' : Int) (h : Fd) (S : List Fd), (∀ m ∈ ms, h.y ≤ m.y) → S.Sublist ms → good n g L' S → L' ≤ h.y → ∃ l, stp n g L (some h) ms = some l ∧ l.length ≤ S.length + 1) ∧
    (∀ (L L' : Int) (h s : Fd) (S : List Fd), (s :: S).Sublist ms → good n g L' (s :: S) → L' ≤ L → ∃ l, stp n g L (some h) ms = some l ∧ l.length ≤ S.length + 1) := by
  intro ms
  induction ms with
  | nil =>
    intro _
    refine ⟨fun L L' S hS hg hL => ?_, fun L L' h S _ hS hg hL => ?_, fun L L' h s S hS _ _ => ?_⟩
    · cases hS
      have hg : n - L' ≤ g := hg
      exact ⟨[], stp_enough (by omega), Nat.le_refl _⟩
    · cases hS
      have hg : n - L' ≤ g := hg
      by_cases e : n - L ≤ g
      · exact ⟨[], stp_enough e, Nat.zero_le _⟩
      · refine ⟨[h], ?_, Nat.le_refl _⟩
        show (if n - L ≤ g then some [] else if n - h.y ≤ g then some [h] else none) = _
        rw [if_neg e, if_pos (by omega)]
    · cases hS
  | cons m ms ih =>
    intro up
    obtain ⟨hm, up'⟩ := List.pairwise_cons.mp up
    obtain ⟨iA, iB, iC⟩ := ih up'
    have A : ∀ (L L' : Int) (S : List Fd), S.Sublist (m :: ms) → good n g L' S → L' ≤ L → ∃ l, stp n g L none (m :: ms) = some l ∧ l.length ≤ S.length := fun L L' S hS hg hL => by
      by_cases e : n - L ≤ g
      · exact ⟨[], stp_enough e, Nat.zero_le _⟩
      · cases S with
        | nil =>
          have hg : n - L' ≤ g := hg
          omega
        | cons s S =>
          have hg' : s.x - L' ≤ g ∧ good n g s.y S := hg
          cases hS with
          | cons _ hS =>
            have sm : s ∈ ms := hS.subset List.mem_cons_self
            have := (hm s sm).1
            rw [stp_go e (by omega)]
            exact iC L L' m s S hS hg hL
          | cons_cons _ hS =>
            rw [stp_go e (by omega)]
            exact iB L m.y m S (fun x hx => (hm x hx).2) hS hg'.2 (Int.le_refl _)
    refine ⟨A, fun L L' h S hh hS hg hL => ?_, fun L L' h s S hS hg hL => ?_⟩
    · by_cases e : n - L ≤ g
      · exact ⟨[], stp_enough e, Nat.zero_le _⟩
      · by_cases em : m.x - L ≤ g
        · rw [stp_go e em]
          have hy := hh m List.mem_cons_self
          cases hS with
          | cons _ hS => exact iB L L' m S (fun x hx => (hm x hx).2) hS hg (by omega)
          | cons_cons _ hS =>
            rename_i S'
            have hg' : m.x - L' ≤ g ∧ good n g m.y S' := hg
            obtain ⟨l, e1, e2⟩ := iB L m.y m S' (fun x hx => (hm x hx).2) hS hg'.2 (Int.le_refl _)
            exact ⟨l, e1, by rw [List.length_cons]; omega⟩
        · obtain ⟨l, e1, e2⟩ := A h.y L' S hS hg hL
          refine ⟨h :: l, ?_, by rw [List.length_cons]; omega⟩
          rw [stp_take e (fun m' r z => by cases z; exact em), e1]
          rfl
    · have hg' : s.x - L' ≤ g ∧ good n g s.y S := hg
      by_cases e : n - L ≤ g
      · exact ⟨[], stp_enough e, Nat.zero_le _⟩
      · cases hS with
        | cons _ hS =>
          have sm : s ∈ ms := hS.subset List.mem_cons_self
          have := (hm s sm).1
          rw [stp_go e (by omega)]
          exact iC L L' m s S hS hg hL
        | cons_cons _ hS =>
          rw [stp_go e (by omega)]
          exact iB L m.y m S (fun x hx => (hm x hx).2) hS hg'.2 (Int.le_refl _)
/-- what greedy takes is a choice with gaps of at most g -/
theorem stp_good {n g : Int} : ∀ (ms : List Fd) (L : Int) (h : Option Fd) (l : List Fd), (∀ f, h = some f → f.x - L ≤ g) → stp n g L h ms = some l → good n g L l ∧ l.Sublist (h.toList ++ ms)
  | [], L, none, l, _, e => by
    have e : (if n - L ≤ g then some [] else none) = some l := e
    by_cases c : n - L ≤ g
    · rw [if_pos c] at e
      cases e
      exact ⟨c, List.nil_sublist _⟩
    · rw [if_neg c] at e
      cases e
  | [], L, some h, l, hx, e => by
    have e : (if n - L ≤ g then some [] else if n - h.y ≤ g then some [h] else none) = some l := e
    by_cases c : n - L ≤ g
    · rw [if_pos c] at e
      cases e
      exact ⟨c, List.nil_sublist _⟩
    · rw [if_neg c] at e
      by_cases c2 : n - h.y ≤ g
      · rw [if_pos c2] at e
        cases e
        exact ⟨⟨hx h rfl, c2⟩, List.Sublist.refl _⟩
      · rw [if_neg c2] at e
        cases e
  | m :: ms, L, none, l, _, e => by
    have e : (if n - L ≤ g then some [] else if m.x - L ≤ g then stp n g L (some m) ms else none) = some l := e
    by_cases c : n - L ≤ g
    · rw [if_pos c] at e
      cases e
      exact ⟨c, List.nil_sublist _⟩
    · rw [if_neg c] at e
      by_cases c2 : m.x - L ≤ g
      · rw [if_pos c2] at e
        exact stp_good ms L (some m) l (fun f hf => by cases hf; exact c2) e
      · rw [if_neg c2] at e
        cases e
  | m :: ms, L, some h, l, hx, e => by
    have e : (if n - L ≤ g then some [] else if m.x - L ≤ g then stp n g L (some m) ms else if n - h.y ≤ g then some [h] else if m.x - h.y ≤ g then (stp n g h.y (some m) ms).map (h :: ·) else none) = some l := e
    by_cases c : n - L ≤ g
    · rw [if_pos c] at e
      cases e
      exact ⟨c, List.nil_sublist _⟩
    · rw [if_neg c] at e
      by_cases c2 : m.x - L ≤ g
      · rw [if_pos c2] at e
        obtain ⟨g1, g2⟩ := stp_good ms L (some m) l (fun f hf => by cases hf; exact c2) e
        exact ⟨g1, g2.cons h⟩
      · rw [if_neg c2] at e
        by_cases c3 : n - h.y ≤ g
        · rw [if_pos c3] at e
          cases e
          exact ⟨⟨hx h rfl, c3⟩, List.Sublist.cons_cons h (List.nil_sublist _)⟩
        · rw [if_neg c3] at e
          by_cases c4 : m.x - h.y ≤ g
          · rw [if_pos c4] at e
            cases e2 : stp n g h.y (some m) ms with
            | none => rw [e2] at e; cases e
            | some l' =>
              rw [e2] at e
              cases e
              obtain ⟨g1, g2⟩ := stp_good ms h.y (some m) l' (fun f hf => by cases hf; exact c4) e2
              exact ⟨⟨hx h rfl, g1⟩, g2.cons_cons h⟩
          · rw [if_neg c4] at e
            cases e
/-- a choice within some bound stays within a greater one -/
theorem good.up {n g g' : Int} (h : g ≤ g') : ∀ {S : List Fd} {L : Int}, good n g L S → good n g' L S
  | [], L, e => by
    have e : n - L ≤ g := e
    show n - L ≤ g'
    omega
  | s :: S, L, e => by
    have e' : s.x - L ≤ g ∧ good n g s.y S := e
    exact ⟨by omega, good.up h e'.2⟩
/-- can so many marks do? -/
def canT (n : Int) (room : Nat) (ms : List Fd) (g : Int) : Prop := ∃ l, stp n g 0 none ms = some l ∧ l.length ≤ room
theorem can_iff {n g : Int} {room : Nat} {ms : List Fd} (up : Up ms) : canT n room ms g ↔ ∃ S : List Fd, S.Sublist ms ∧ S.length ≤ room ∧ good n g 0 S := by
  constructor
  · rintro ⟨l, e, hl⟩
    obtain ⟨g1, g2⟩ := stp_good ms 0 none l (fun _ h => nomatch h) e
    exact ⟨l, g2, hl, g1⟩
  · rintro ⟨S, h1, h2, h3⟩
    obtain ⟨l, e, hl⟩ := (greedy ms up).1 0 0 S h1 h3 (Int.le_refl 0)
    exact ⟨l, e, by omega⟩
theorem can_up {n g g' : Int} {room : Nat} {ms : List Fd} (up : Up ms) (h : g ≤ g') (c : canT n room ms g) : canT n room ms g' := by
  obtain ⟨S, h1, h2, h3⟩ := (can_iff up).mp c
  exact (can_iff up).mpr ⟨S, h1, h2, h3.up h⟩
end Kb

namespace Kb
/-! the widest gap of a choice, as the law counts it -/
def opn (n : Int) : Int → Int → List Fd → Int
  | W, L, [] => mxI W (n - L)
  | W, L, m :: ms => opn n (mxI W (m.x - L)) m.y ms
theorem mxI_le {i j B : Int} : mxI i j ≤ B ↔ i ≤ B ∧ j ≤ B := by
  obtain ⟨a, b, c⟩ := mxI_ge i j
  constructor
  · intro h
    exact ⟨by omega, by omega⟩
  · rintro ⟨h1, h2⟩
    omega
theorem opn_le {n g : Int} : ∀ {S : List Fd} {W L : Int}, opn n W L S ≤ g ↔ W ≤ g ∧ good n g L S
  | [], W, L => mxI_le
  | m :: ms, W, L => by
    show opn n (mxI W (m.x - L)) m.y ms ≤ g ↔ W ≤ g ∧ (m.x - L ≤ g ∧ good n g m.y ms)
    rw [opn_le, mxI_le, and_assoc]
theorem opn_ge {n : Int} : ∀ {S : List Fd} {W L : Int}, W ≤ opn n W L S := fun {S W L} => (opn_le.mp (Int.le_refl _)).1
/-- the least gap that so many marks can do -/
structure IsH (n : Int) (room : Nat) (ms : List Fd) (H : Int) : Prop where
  h0 : 0 ≤ H
  can : canT n room ms H
  least : ∀ g, 0 ≤ g → g < H → ¬ canT n room ms g
theorem IsH.one {n : Int} {room : Nat} {ms : List Fd} {H H' : Int} (h : IsH n room ms H) (h' : IsH n room ms H') : H = H' := by
  by_cases c : H < H'
  · exact absurd h.can (h'.least H h.h0 c)
  · by_cases c' : H' < H
    · exact absurd h'.can (h.least H' h'.h0 c')
    · omega
/-- any choice of so many is at least as wide -/
theorem IsH.le {n : Int} {room : Nat} {ms : List Fd} {H : Int} (up : Up ms) (h : IsH n room ms H) {S : List Fd} (h1 : S.Sublist ms) (h2 : S.length ≤ room) : H ≤ opn n 0 0 S := by
  by_cases c : H ≤ opn n 0 0 S
  · exact c
  · exact absurd ((can_iff up).mpr ⟨S, h1, h2, (opn_le.mp (Int.le_refl (opn n 0 0 S))).2⟩) (h.least _ opn_ge (by omega))
/-- the greedy choice is just so wide -/
theorem IsH.eq {n : Int} {room : Nat} {ms : List Fd} {H : Int} (up : Up ms) (h : IsH n room ms H) {l : List Fd} (e : stp n H 0 none ms = some l) : l.length ≤ room ∧ l.Sublist ms ∧ opn n 0 0 l = H := by
  obtain ⟨l', e', hl⟩ := h.can
  rw [e] at e'
  cases e'
  obtain ⟨g1, g2⟩ := stp_good ms 0 none l (fun _ h => nomatch h) e
  have a := h.le up g2 hl
  have b := opn_le.mpr ⟨h.h0, g1⟩
  exact ⟨hl, g2, by omega⟩
/-- a bound by the widest gap of all -/
theorem room_bound {n D q : Int} (q1 : 1 ≤ q) : ∀ (k : Nat),
    (∀ (ms : List Fd) (L : Int), good n D L ms → n - L ≤ D + q - 1 + k * q → ∃ S : List Fd, S.Sublist ms ∧ S.length ≤ k ∧ good n (D + q - 1) L S)
  | 0, ms, L, _, h => ⟨[], List.nil_sublist _, Nat.le_refl _, by show n - L ≤ D + q - 1; omega⟩
  | k + 1, ms, L, hg, h => by
    have ih := room_bound (n := n) (D := D) q1 k
    by_cases e : n - L ≤ D + q - 1
    · exact ⟨[], List.nil_sublist _, Nat.zero_le _, e⟩
    · -- the run
      have run : ∀ (r : List Fd) (m : Fd), m.x - L ≤ D + q - 1 → good n D m.y r → ∃ S : List Fd, S.Sublist (m :: r) ∧ S.length ≤ k + 1 ∧ good n (D + q - 1) L S := by
        intro r
        induction r with
        | nil =>
          intro m hm hr
          have hr : n - m.y ≤ D := hr
          exact ⟨[m], List.Sublist.refl _, by show 1 ≤ k + 1; omega, hm, by show n - m.y ≤ D + q - 1; omega⟩
        | cons m' r ihr =>
          intro m hm hr
          have hr' : m'.x - m.y ≤ D ∧ good n D m'.y r := hr
          by_cases c : m'.x - L ≤ D + q - 1
          · obtain ⟨S, h1, h2, h3⟩ := ihr m' c hr'.2
            exact ⟨S, h1.cons m, h2, h3⟩
          · have hk : ((k + 1 : Nat) : Int) * q = k * q + q := by
              rw [Int.natCast_add, Int.add_mul]
              omega
            rw [hk] at h
            obtain ⟨S, h1, h2, h3⟩ := ih (m' :: r) m.y hr (by omega)
            exact ⟨m :: S, h1.cons_cons m, by rw [List.length_cons]; omega, hm, h3⟩
      cases ms with
      | nil =>
        have hg : n - L ≤ D := hg
        omega
      | cons m r =>
        have hg' : m.x - L ≤ D ∧ good n D m.y r := hg
        exact run r m (by omega) hg'.2
theorem IsH.bound {n : Int} {room : Nat} {ms : List Fd} {H : Int} (up : Up ms) (h : IsH n room ms H) (r1 : 1 ≤ room) (n1 : 1 ≤ n) : H ≤ opn n 0 0 ms + (n + (room : Int) - 1) / (room : Int) - 1 := by
  have hr : (0 : Int) < (room : Int) := by omega
  have q0 := Int.mul_ediv_add_emod (n + (room : Int) - 1) (room : Int)
  have q1 := Int.emod_lt_of_pos (n + (room : Int) - 1) hr
  have q2 := Int.emod_nonneg (n + (room : Int) - 1) (show (room : Int) ≠ 0 by omega)
  generalize (n + (room : Int) - 1) / (room : Int) = q at q0 ⊢
  generalize (n + (room : Int) - 1) % (room : Int) = m at q0 q1 q2
  have hq : 1 ≤ q := by
    by_cases c : 1 ≤ q
    · exact c
    · have : (room : Int) * q ≤ (room : Int) * 0 := Int.mul_le_mul_of_nonneg_left (by omega) (by omega)
      omega
  have hD := (opn_le.mp (Int.le_refl (opn n 0 0 ms))).2
  have h0 : 0 ≤ opn n 0 0 ms := opn_ge
  have hc : (room : Int) * q = q * (room : Int) := Int.mul_comm _ _
  have hc2 : ((room : Nat) : Int) * q = (room : Int) * q := rfl
  obtain ⟨S, h1, h2, h3⟩ := room_bound hq room ms 0 hD (by omega)
  by_cases c : H ≤ opn n 0 0 ms + q - 1
  · exact c
  · exact absurd ((can_iff up).mpr ⟨S, h1, h2, h3⟩) (h.least _ (by omega) (by omega))
/-- marks that are drawn go up -/
theorem FsOk.up {n : Int} {fs : List Fd} (ok : FsOk n fs) : Up fs := by
  have key : ∀ (d i : Nat) (f g : Fd), fs[i]? = some f → fs[i + 1 + d]? = some g → f.x ≤ g.x ∧ f.y ≤ g.y := by
    intro d
    induction d with
    | zero =>
      intro i f g h1 h2
      obtain ⟨a, b⟩ := ok.ad i f g h1 h2
      have bf := ok.bd f (List.mem_of_getElem? h1)
      have bg := ok.bd g (List.mem_of_getElem? h2)
      have c1 : f.x < f.z := bf.bd
      have c2 : g.w < g.y := bg.ac
      omega
    | succ d ih =>
      intro i f g h1 h2
      have hl : i + 1 < fs.length := by
        have := (List.getElem?_eq_some_iff.mp h2).1
        omega
      have hm := List.getElem?_eq_getElem hl
      have a := ih (i + 1) _ g hm (by rw [← h2]; congr 1; omega)
      obtain ⟨b1, b2⟩ := ok.ad i f _ h1 hm
      have bf := ok.bd f (List.mem_of_getElem? h1)
      have bm := ok.bd _ (List.mem_of_getElem? hm)
      have c1 : f.x < f.z := bf.bd
      have c2 : fs[i + 1].w < fs[i + 1].y := bm.ac
      omega
  refine List.pairwise_iff_getElem.mpr fun i j hi hj hij => ?_
  exact key (j - i - 1) i _ _ (List.getElem?_eq_getElem hi) (by rw [show i + 1 + (j - i - 1) = j by omega]; exact List.getElem?_eq_getElem hj)
end Kb

namespace Kb
open PySem PySem.Spec PyProof.Rows L2 RZ
abbrev Nopen : List Str := ["_law_many", "_law_marks", "_law_widest", "_law_last", "_law_mark"]
section
variable {P : Program} {w : World} {K : PySem.W.Frag} {mg : Str → Option Value} {base : Heap}
def spOpen (K : PySem.W.Frag) : Sp := fun vs H Q _ => ∃ (n : Int) (l : Addr) (us : List V) (fs : List Fd), vs = [.int n, .ref l] ∧ SqL K H l us ∧ Paired (FdAt H) us fs ∧ Q (.int (opn n 0 0 fs)) H
theorem opn_snoc {n : Int} : ∀ {fs : List Fd} {W L : Int}, opn n W L fs = mxI (fs.foldl (fun p m => (mxI p.1 (m.x - p.2), m.y)) (W, L)).1 (n - (fs.foldl (fun p m => (mxI p.1 (m.x - p.2), m.y)) (W, L)).2)
  | [], _, _ => rfl
  | m :: ms, W, L => opn_snoc (fs := ms) (W := mxI W (m.x - L)) (L := m.y)
end
end Kb

namespace Kb
open PySem PySem.Spec PyProof.Rows L2 RZ
abbrev ssteps : Stmt := topS 55
abbrev Nsteps : List Str := ["_law_marks", "_law_many", "_law_most", "_law_kept", "_law_last", "_law_held_here", "_law_mark"]
theorem scsteps : FnScope ["_law_marks", "_law_many", "_law_most", "_law_kept", "_law_last", "_law_held_here", "_law_mark"] ["_law_marks", "_law_many", "_law_most"] (defScope ssteps) := ⟨rfl, rfl, rfl, by decide +kernel, rfl, by decide +kernel, by decide +kernel⟩
abbrev Dnsteps (K : PySem.W.Frag) (mg : Str → Option Value) := Dn K mg "_law_steps" ssteps ["_law_marks", "_law_many", "_law_most"]
def HdAt (H : Hp) (v : V) : Option Fd → Prop
  | none => v = .non
  | some f => FdAt H v f
theorem HdAt.keep {H H' : Hp} {v : V} : ∀ {o : Option Fd}, HdAt H v o → KpD H H' → HdAt H' v o
  | none, h, _ => h
  | some _, h, k => FdAt.keep h k
section
variable {P : Program} {w : World} {K : PySem.W.Frag} {mg : Str → Option Value} {base : Heap}
def spSteps (K : PySem.W.Frag) : Sp := fun vs H Q _ => ∃ (l : Addr) (n g : Int) (us : List V) (fs : List Fd), vs = [.ref l, .int n, .int g] ∧ SqL K H l us ∧ H l = some (.lst us) ∧ Paired (FdAt H) us fs ∧ fs.length ≤ 3000 ∧
  (∀ r, stp n g 0 none fs = some r → ∀ H' p ws, Same H H' → H p = none → H' p = some (.lst ws) → Paired (FdAt H') ws r → Q (.ref p) H') ∧ (stp n g 0 none fs = none → ∀ H', Same H H' → Q .non H')
theorem ok_steps (T : Blt mg) (d : Dnsteps K mg) : FnOk P w K mg base CX0 1 d.f d.fd ["_law_marks", "_law_many", "_law_most"] (spSteps K) := by
  refine d.F.ok scsteps (fun vs H Q E h => ?_) (fun cdv A outer s H vs Q E hr h => ?_)
  · obtain ⟨l, n, g, us, fs, rfl, _⟩ := h
    rfl
  · obtain ⟨l, n, g, us, fs, rfl, hS, hl, pr, fl, q1, q2⟩ := h
    refine ⟨_, (pss_cons (ps_set (i := 3) scsteps.nd rfl (Or.inl rfl) (pe_lst pa_nil))
    (pss_cons (ps_set (i := 4) scsteps.nd rfl (Or.inl rfl) pe_int)
    (pss_cons (ps_set (i := 5) scsteps.nd rfl (Or.inl rfl) pe_non)
    (C8.pss_cut (ps_for PassesOwn.never rfl (pi_list (pv 0)) (pg_name (i := 6) scsteps.nd rfl (Or.inl rfl))
      (pss_cons (ps_if (pt_cmpR op_le (pe_op op_sub (pv 1) (pv 4)) (pv 2) (nomark _))
        (pss_one ps_break)
        pss_nil)
      (C8.pss_cut (ps_if (PW.pt (pw_and (pt_cmpR op_notN (pv 5) pe_non (nomark _)) (pw_and1 (pt_cmpR op_gt (pe_op op_sub (pe_ix ix_tup (pv 6) pe_int (fun _ _ => rfl)) (pv 4)) (pv 2) (nomark _)))))
        (pss_cons (ps_expr (pe_bm PySem.F.plainAttrs_list PySem.F.slot_list_append PySem.F.type_list_append mt_append (pv 3) (pa_cons (pv 5) pa_nil)))
        (pss_cons (ps_set (i := 4) scsteps.nd rfl (Or.inl rfl) (pe_ix ix_tup (pv 5) pe_int (fun _ _ => rfl)))
        (pss_cons (ps_set (i := 5) scsteps.nd rfl (Or.inl rfl) pe_non)
        (pss_one (ps_if (pt_cmpR op_le (pe_op op_sub (pv 1) (pv 4)) (pv 2) (nomark _))
          (pss_one ps_break)
          pss_nil)))))
        pss_nil)
      (pss_cons (ps_if (pt_cmpR op_gt (pe_op op_sub (pe_ix ix_tup (pv 6) pe_int (fun _ _ => rfl)) (pv 4)) (pv 2) (nomark _))
        (pss_one (ps_ret pe_non))
        pss_nil)
      (pss_one (ps_set (i := 5) scsteps.nd rfl (Or.inl rfl) (pv 6)))))))
    (C8.pss_cut (ps_if (PW.pt (pw_and (pt_cmpR op_gt (pe_op op_sub (pv 1) (pv 4)) (pv 2) (nomark _)) (pw_and1 (pt_cmpR op_notN (pv 5) pe_non (nomark _)))))
      (pss_cons (ps_expr (pe_bm PySem.F.plainAttrs_list PySem.F.slot_list_append PySem.F.type_list_append mt_append (pv 3) (pa_cons (pv 5) pa_nil)))
      (pss_one (ps_set (i := 4) scsteps.nd rfl (Or.inl rfl) (pe_ix ix_tup (pv 5) pe_int (fun _ _ => rfl)))))
      pss_nil)
    (pss_cons (ps_if (pt_cmpR op_gt (pe_op op_sub (pv 1) (pv 4)) (pv 2) (nomark _))
      (pss_one (ps_ret pe_non))
      pss_nil)
    (pss_one (ps_ret (pv 3))))))))), ?_⟩
    have ul : us.length = fs.length := Paired.length pr
    refine ⟨(by show 0 ≤ sizeLine; decide), fun k nk => ?_⟩
    have s1 := same_upd (o := .lst []) nk
    have hk1 : (upd H k (.lst [])) k = some (.lst []) := upd_same
    generalize upd H k (.lst []) = H1 at s1 hk1 ⊢
    have eo : ∀ o : Option (List Fd), o.map (([] : List Fd) ++ ·) = o := fun o => by cases o <;> rfl
    -- the walk
    refine ⟨fun σ H2 => ∃ (L : Int) (hv y6 : _) (held : Option Fd) (ws : List V) (acc : List Fd), σ = [some (.ref l), some (.int n), some (.int g), some (.ref k), some (.int L), some hv, y6] ∧ Same H H2 ∧ H2 k = some (.lst ws) ∧ Paired (FdAt H2) ws acc ∧ HdAt H2 hv held ∧ acc.length ≤ 3000 ∧ stp n g 0 none fs = (finT n g L held).map (acc ++ ·), ?_, ?_⟩
    · refine ⟨.ref l, rfl, l, rfl, ⟨_, sql (s1 _ _ hl)⟩, ?_⟩
      refine for_list (xs := us) (fun i σ H2 => ∃ (L : Int) (hv : V) (y6 : Option V) (held : Option Fd) (ws : List V) (acc : List Fd), σ = [some (.ref l), some (.int n), some (.int g), some (.ref k), some (.int L), some hv, y6] ∧ Same H H2 ∧ H2 k = some (.lst ws) ∧ Paired (FdAt H2) ws acc ∧ HdAt H2 hv held ∧ acc.length ≤ i ∧ stp n g 0 none fs = (stp n g L held (fs.drop i)).map (acc ++ ·))
        ⟨0, .non, none, none, [], [], rfl, s1, hk1, .nil, rfl, Nat.le_refl _, (eo _).symm⟩ (fun i σ H2 _ ⟨_, _, _, _, _, _, _, s2, _⟩ => sql (s2 _ _ hl)) ?_ ?_
      · rintro i v σ H2 hi ⟨L, hv, y6, held, ws, acc, rfl, s2, hk, pw, hh, al, he⟩
        obtain ⟨f, hf, u, rfl, hu0⟩ := paired_at pr hi
        have il := (List.getElem?_eq_some_iff.mp hf).1
        have hd : fs.drop i = f :: fs.drop (i + 1) := by
          obtain ⟨hlt, e⟩ := List.getElem?_eq_some_iff.mp hf
          rw [List.drop_eq_getElem_cons hlt, e]
        rw [hd] at he
        refine ⟨.int n, rfl, .int L, rfl, _, _, rfl, rfl, .int g, rfl, _, _, rfl, rfl, decide (n - L ≤ g), rfl, ?_⟩
        by_cases c : n - L ≤ g
        · rw [decide_eq_true c]
          refine iteT ⟨L, hv, _, held, ws, acc, rfl, s2, hk, pw, hh, by omega, ?_⟩
          rw [he, stp_enough c]
          cases held <;> (show _ = Option.map (acc ++ ·) (if n - L ≤ g then some [] else _); rw [if_pos c])
        · rw [decide_eq_false c]
          refine iteF ?_
          refine ⟨fun σ H3 => ∃ (L : Int) (hv : V) (held : Option Fd) (ws : List V) (acc : List Fd), σ = [some (.ref l), some (.int n), some (.int g), some (.ref k), some (.int L), some hv, some (.ref u)] ∧ Same H H3 ∧ H3 k = some (.lst ws) ∧ Paired (FdAt H3) ws acc ∧ HdAt H3 hv held ∧ acc.length ≤ i + 1 ∧ stp n g 0 none fs = (stp n g L held (f :: fs.drop (i + 1))).map (acc ++ ·) ∧ ¬ n - L ≤ g ∧ (held = none ∨ f.x - L ≤ g), ?_, ?_⟩
          · have hu := hu0.same s2
            cases held with
            | none =>
              cases (show hv = .non from hh)
              exact ⟨.non, rfl, rfl, false, rfl, iteF ⟨L, .non, none, ws, acc, rfl, s2, hk, pw, rfl, by omega, he, c, .inl rfl⟩⟩
            | some h =>
              obtain ⟨uh, rfl, hph⟩ := (show FdAt H2 hv h from hh)
              refine ⟨.ref uh, rfl, rfl, true, rfl, iteT ?_⟩
              refine ⟨.ref u, rfl, u, _, _, _, rfl, rfl, hu.seq, atI_nat (j := 2) rfl, .int L, rfl, _, _, rfl, rfl, .int g, rfl, _, _, rfl, rfl, decide (g < f.x - L), rfl, ?_⟩
              by_cases cx : f.x - L ≤ g
              · rw [decide_eq_false (by omega)]
                exact iteF ⟨L, _, some h, ws, acc, rfl, s2, hk, pw, ⟨uh, rfl, hph⟩, by omega, he, c, .inr cx⟩
              · rw [decide_eq_true (by omega)]
                have wl := Paired.length pw
                refine iteT ⟨.ref k, rfl, .inl ⟨rfl, _, sql hk⟩, .ref uh, rfl, k, ws, .ref uh, rfl, rfl, hk, by rw [sizeLine_eq]; omega, ?_⟩
                have s3 : Same H (upd H2 k (.lst (ws ++ [.ref uh]))) := Same.put s2 nk
                have hk3 : (upd H2 k (.lst (ws ++ [.ref uh]))) k = some (.lst (ws ++ [.ref uh])) := upd_same
                have kp : KpD H2 (upd H2 k (.lst (ws ++ [.ref uh]))) := kpD_list hk
                have pw3 : Paired (FdAt (upd H2 k (.lst (ws ++ [.ref uh])))) (ws ++ [.ref uh]) (acc ++ [h]) := paired_app (paired_imp (fun _ _ h => h.keep kp) pw) (.cons ⟨uh, rfl, kp.t _ _ hph⟩ .nil)
                have hp3 := kp.t _ _ hph
                generalize upd H2 k (.lst (ws ++ [.ref uh])) = H3 at s3 hk3 pw3 hp3 ⊢
                have he3 : stp n g 0 none fs = (stp n g h.y none (f :: fs.drop (i + 1))).map ((acc ++ [h]) ++ ·) := by
                  rw [he, stp_take c (fun m r z => by cases z; exact cx)]
                  cases stp n g h.y none (f :: fs.drop (i + 1)) with
                  | none => rfl
                  | some o => show some (acc ++ h :: o) = some ((acc ++ [h]) ++ o); rw [List.append_assoc]; rfl
                have al3 : (acc ++ [h]).length ≤ i + 1 := by rw [List.length_append, List.length_singleton]; omega
                refine ⟨.ref uh, rfl, uh, _, _, _, rfl, rfl, hp3.seq, atI_nat (j := 3) rfl, ?_⟩
                refine ⟨.int n, rfl, .int h.y, rfl, _, _, rfl, rfl, .int g, rfl, _, _, rfl, rfl, decide (n - h.y ≤ g), rfl, ?_⟩
                by_cases c2 : n - h.y ≤ g
                · rw [decide_eq_true c2]
                  refine iteT ⟨h.y, .non, _, none, _, _, rfl, s3, hk3, pw3, rfl, by omega, ?_⟩
                  rw [he3, stp_enough c2]
                  show _ = Option.map _ (if n - h.y ≤ g then some [] else none)
                  rw [if_pos c2]
                · rw [decide_eq_false c2]
                  exact iteF ⟨h.y, .non, none, _, _, rfl, s3, hk3, pw3, rfl, al3, he3, c2, .inl rfl⟩
          · rintro σ H3 ⟨L, hv, held, ws, acc, rfl, s3, hk, pw, hh, al, he, c, hx⟩
            have hu := hu0.same s3
            refine ⟨.ref u, rfl, u, _, _, _, rfl, rfl, hu.seq, atI_nat (j := 2) rfl, .int L, rfl, _, _, rfl, rfl, .int g, rfl, _, _, rfl, rfl, decide (g < f.x - L), rfl, ?_⟩
            by_cases cx : f.x - L ≤ g
            · rw [decide_eq_false (by omega)]
              refine iteF ⟨.ref u, rfl, ?_⟩
              refine ⟨L, _, _, some f, ws, acc, rfl, s3, hk, pw, ⟨u, rfl, hu⟩, al, ?_⟩
              rw [he, stp_go c cx]
            · rw [decide_eq_true (by omega)]
              refine iteT (q2 ?_ H3 s3)
              rcases hx with rfl | hx
              · rw [he, stp_none c (fun m r z => by cases z; exact cx)]
                rfl
              · exact absurd hx cx
      · rintro σ H2 ⟨L, hv, y6, held, ws, acc, rfl, s2, hk, pw, hh, al, he⟩
        rw [ul, List.drop_length] at he
        exact ⟨L, hv, y6, held, ws, acc, rfl, s2, hk, pw, hh, by omega, he⟩
    · rintro σ H2 ⟨L, hv, y6, held, ws, acc, rfl, s2, hk, pw, hh, al, he⟩
      refine ⟨fun σ H3 => ∃ (L : Int) (hv : V) (ws : List V) (acc : List Fd), σ = [some (.ref l), some (.int n), some (.int g), some (.ref k), some (.int L), some hv, y6] ∧ Same H H3 ∧ H3 k = some (.lst ws) ∧ Paired (FdAt H3) ws acc ∧ stp n g 0 none fs = if n - L ≤ g then some acc else none, ?_, ?_⟩
      · refine ⟨.int n, rfl, .int L, rfl, _, _, rfl, rfl, .int g, rfl, _, _, rfl, rfl, decide (g < n - L), rfl, ?_⟩
        by_cases c : n - L ≤ g
        · rw [decide_eq_false (by omega)]
          refine iteF ⟨L, hv, ws, acc, rfl, s2, hk, pw, ?_⟩
          rw [he, if_pos c]
          cases held <;> (show Option.map (acc ++ ·) (if n - L ≤ g then some [] else _) = _; rw [if_pos c]; show some (acc ++ []) = some acc; rw [List.append_nil])
        · rw [decide_eq_true (by omega)]
          refine iteT ?_
          cases held with
          | none =>
            cases (show hv = .non from hh)
            refine ⟨.non, rfl, rfl, false, rfl, iteF ⟨L, .non, ws, acc, rfl, s2, hk, pw, ?_⟩⟩
            rw [he, if_neg c]
            show Option.map (acc ++ ·) (if n - L ≤ g then some [] else none) = none
            rw [if_neg c]
            rfl
          | some h =>
            obtain ⟨uh, rfl, hph⟩ := (show FdAt H2 hv h from hh)
            have wl := Paired.length pw
            refine ⟨.ref uh, rfl, rfl, true, rfl, iteT ⟨.ref k, rfl, .inl ⟨rfl, _, sql hk⟩, .ref uh, rfl, k, ws, .ref uh, rfl, rfl, hk, by rw [sizeLine_eq]; omega, ?_⟩⟩
            have s3 : Same H (upd H2 k (.lst (ws ++ [.ref uh]))) := Same.put s2 nk
            have hk3 : (upd H2 k (.lst (ws ++ [.ref uh]))) k = some (.lst (ws ++ [.ref uh])) := upd_same
            have kp : KpD H2 (upd H2 k (.lst (ws ++ [.ref uh]))) := kpD_list hk
            have pw3 : Paired (FdAt (upd H2 k (.lst (ws ++ [.ref uh])))) (ws ++ [.ref uh]) (acc ++ [h]) := paired_app (paired_imp (fun _ _ h => h.keep kp) pw) (.cons ⟨uh, rfl, kp.t _ _ hph⟩ .nil)
            have hp3 := kp.t _ _ hph
            generalize upd H2 k (.lst (ws ++ [.ref uh])) = H3 at s3 hk3 pw3 hp3 ⊢
            refine ⟨.ref uh, rfl, uh, _, _, _, rfl, rfl, hp3.seq, atI_nat (j := 3) rfl, ?_⟩
            refine ⟨h.y, _, _, _, rfl, s3, hk3, pw3, ?_⟩
            rw [he]
            show Option.map (acc ++ ·) (if n - L ≤ g then some [] else if n - h.y ≤ g then some [h] else none) = _
            rw [if_neg c]
            by_cases c2 : n - h.y ≤ g
            · rw [if_pos c2, if_pos c2]
              rfl
            · rw [if_neg c2, if_neg c2]
              rfl
      · rintro σ H3 ⟨L, hv, ws, acc, rfl, s3, hk, pw, he⟩
        refine ⟨.int n, rfl, .int L, rfl, _, _, rfl, rfl, .int g, rfl, _, _, rfl, rfl, decide (g < n - L), rfl, ?_⟩
        by_cases c : n - L ≤ g
        · rw [decide_eq_false (by omega)]
          rw [if_pos c] at he
          exact iteF ⟨.ref k, rfl, q1 acc he H3 k ws s3 nk hk pw⟩
        · rw [decide_eq_true (by omega)]
          rw [if_neg c] at he
          exact iteT (q2 he H3 s3)
end
end Kb

namespace Kb
open PySem PySem.Spec PyProof.Rows L2 RZ
abbrev sthinned : Stmt := topS 56
abbrev Nthinned : List Str := ["_law_room", "_law_many", "_law_marks", "_law_low", "_law_high", "_law_turn", "_law_middle", "_law_kept"]
theorem scthinned : FnScope ["_law_room", "_law_many", "_law_marks", "_law_low", "_law_high", "_law_turn", "_law_middle", "_law_kept"] ["_law_room", "_law_many", "_law_marks"] (defScope sthinned) := ⟨rfl, rfl, rfl, by decide +kernel, rfl, by decide +kernel, by decide +kernel⟩
abbrev Dnthinned (K : PySem.W.Frag) (mg : Str → Option Value) := Dn K mg "_law_thinned" sthinned ["_law_room", "_law_many", "_law_marks"]
section
variable {P : Program} {w : World} {K : PySem.W.Frag} {mg : Str → Option Value} {base : Heap}
/-- of more marks than there is room for -/
def spThinned (K : PySem.W.Frag) : Sp := fun vs H Q _ => ∃ (room : Nat) (n : Int) (l : Addr) (us : List V) (fs : List Fd), vs = [.int (room : Int), .int n, .ref l] ∧ H l = some (.lst us) ∧ Paired (FdAt H) us fs ∧ fs.length ≤ 3000 ∧ room < fs.length ∧ 0 ≤ n ∧ n ≤ 2 ^ 41 ∧ Up fs ∧
  ∀ g r, IsH n room fs g → stp n g 0 none fs = some r → ∀ H' p ws, Same H H' → H p = none → H' p = some (.lst ws) → Paired (FdAt H') ws r → Q (.ref p) H'
theorem isH_of {n low high : Int} {room : Nat} {fs : List Fd} (up : Up fs) (h1 : low < high) (h2 : high - low ≤ 1) (h3 : -1 ≤ low) (hc : canT n room fs high) (hl : low = -1 ∨ ¬ canT n room fs low) : IsH n room fs high := by
  refine ⟨by omega, hc, fun g g0 gh hg => ?_⟩
  rcases hl with hl | hl
  · omega
  · exact hl (can_up up (by omega) hg)
theorem ok_thinnedL (T : Blt mg) (dsteps : Dnsteps K mg) (d : Dnthinned K mg) : FnOk P w K mg base CX0 2 d.f d.fd ["_law_room", "_law_many", "_law_marks"] (spThinned K) := by
  have Gsteps : FnOk P w K mg base CX0 1 dsteps.f dsteps.fd ["_law_marks", "_law_many", "_law_most"] (spSteps K) := ok_steps T dsteps
  refine d.F.ok scthinned (fun vs H Q E h => ?_) (fun cdv A outer s H vs Q E hr h => ?_)
  · obtain ⟨room, n, l, us, fs, rfl, _⟩ := h
    rfl
  · obtain ⟨room, n, l, us, fs, rfl, hl, pr, fl, rl, n0, n1, up, q⟩ := h
    refine ⟨_, (pss_cons (ps_if (pt_cmpR op_le (pe_callB call_len_seq (by rfl) T.n_len (by decide +kernel) (pa_cons (pv 2) pa_nil)) (pv 0) (nomark _))
      (pss_one (ps_ret (pe_callTy call_list_of (by rfl) T.n_list (by decide +kernel) (pa_cons (pv 2) pa_nil))))
      pss_nil)
    (pss_cons (ps_set (i := 3) scthinned.nd rfl (Or.inl rfl) (pe_un un_neg pe_int))
    (pss_cons (ps_set (i := 4) scthinned.nd rfl (Or.inl rfl) (pv 1))
    (pss_cons (ps_for PassesOwn.never rfl (pi_range1 (by rfl) T.n_range (pa_cons pe_int pa_nil)) (pg_name (i := 5) scthinned.nd rfl (Or.inl rfl))
      (pss_one (ps_if (pt_cmpR op_gt (pe_op op_sub (pv 4) (pv 3)) pe_int (nomark _))
        (pss_cons (ps_set (i := 6) scthinned.nd rfl (Or.inl rfl) (pe_op op_fdiv (pe_op op_add (pv 3) (pv 4)) pe_int))
        (pss_cons (ps_set (i := 7) scthinned.nd rfl (Or.inl rfl) (pe_call Gsteps (hr.mono (by omega)) (by rfl) dsteps.g dsteps.F.kp dsteps.b .nil pass0 (pa_cons (pv 2) (pa_cons (pv 1) (pa_cons (pv 6) pa_nil)))))
        (pss_one (ps_if (PW.pt (pw_and (pt_cmpR op_notN (pv 7) pe_non (nomark _)) (pw_and1 (pt_cmpR op_le (pe_callB call_len_seq (by rfl) T.n_len (by decide +kernel) (pa_cons (pv 7) pa_nil)) (pv 0) (nomark _)))))
          (pss_one (ps_set (i := 4) scthinned.nd rfl (Or.inl rfl) (pv 6)))
          (pss_one (ps_set (i := 3) scthinned.nd rfl (Or.inl rfl) (pv 6)))))))
        pss_nil)))
    (pss_one (ps_ret (pe_call Gsteps (hr.mono (by omega)) (by rfl) dsteps.g dsteps.F.kp dsteps.b .nil pass0 (pa_cons (pv 2) (pa_cons (pv 1) (pa_cons (pv 4) pa_nil)))))))))), ?_⟩
    have ul : us.length = fs.length := Paired.length pr
    refine ⟨.ref l, rfl, l, _, rfl, .inl (sql hl), .int (room : Int), rfl, _, _, rfl, rfl, false, congrArg V.bl (decide_eq_false (by omega)), iteF ?_⟩
    refine ⟨_, rfl, .int n, rfl, 60, rfl, by decide, by decide, ?_⟩
    have start0 : n - -1 ≤ ((2 ^ (60 - 0) : Nat) : Int) := by
      have e : ((2 ^ (60 - 0) : Nat) : Int) = 1152921504606846976 := by decide
      rw [e]
      have : (2 : Int) ^ 41 = 2199023255552 := by decide
      omega
    refine for_range (lo := 0) (n := 60) (fun i σ H2 => ∃ (low high : Int) (y5 y6 y7 : Option V), σ = [some (.int (room : Int)), some (.int n), some (.ref l), some (.int low), some (.int high), y5, y6, y7] ∧ Same H H2 ∧ low < high ∧ -1 ≤ low ∧ high ≤ n ∧ high - low ≤ ((2 ^ (60 - i) : Nat) : Int) ∧ canT n room fs high ∧ (low = -1 ∨ ¬ canT n room fs low))
      ⟨-1, n, none, none, none, rfl, Same.refl H, by omega, Int.le_refl _, Int.le_refl _, start0, ⟨[], stp_enough (by omega), Nat.zero_le _⟩, .inl rfl⟩ ?_ ?_
    · rintro i σ H2 hi ⟨low, high, y5, y6, y7, rfl, s2, k1, k2, k3, k4, hc, hn⟩
      obtain ⟨e, he, he2⟩ : ∃ e : Nat, 2 ^ (60 - i) = 2 * e ∧ 2 ^ (60 - (i + 1)) = e := ⟨2 ^ (60 - (i + 1)), by rw [show 60 - i = (60 - (i + 1)) + 1 by omega, Nat.pow_succ]; omega, rfl⟩
      have e1 : 1 ≤ e := by rw [← he2]; exact Nat.one_le_two_pow
      rw [he] at k4
      refine ⟨.int high, rfl, .int low, rfl, _, _, rfl, rfl, _, _, rfl, rfl, decide ((1 : Int) < high - low), rfl, ?_⟩
      by_cases c : (1 : Int) < high - low
      · rw [decide_eq_true c]
        refine iteT ⟨.int low, rfl, .int high, rfl, _, _, rfl, rfl, _, _, rfl, rfl, ⟨by decide, by decide⟩, ?_⟩
        have md1 : low < (low + high) / 2 := by omega
        have md2 : (low + high) / 2 < high := by omega
        have md3 : high - (low + high) / 2 ≤ e := by omega
        have md4 : (low + high) / 2 - low ≤ e := by omega
        dsimp only
        generalize (low + high) / 2 = mid at md1 md2 md3 md4 ⊢
        refine ⟨.ref l, rfl, .int n, rfl, .int mid, rfl, l, n, mid, us, fs, rfl, sql (s2 _ _ hl), s2 _ _ hl, paired_imp (fun _ _ h => h.keep (kpD_same s2)) pr, fl, fun r er H3 p ws s3 np hp pw => ?_, fun er H3 s3 => ?_⟩
        · have wl := Paired.length pw
          refine ⟨.ref p, rfl, rfl, true, rfl, iteT ⟨.ref p, rfl, p, _, rfl, .inl (sql hp), .int (room : Int), rfl, _, _, rfl, rfl, decide ((ws.length : Int) ≤ (room : Int)), rfl, ?_⟩⟩
          by_cases c2 : r.length ≤ room
          · rw [decide_eq_true (by omega)]
            exact iteT ⟨.int mid, rfl, low, mid, _, _, _, rfl, s2.trans s3, md1, k2, by omega, by rw [he2]; omega, ⟨r, er, c2⟩, hn⟩
          · rw [decide_eq_false (by omega)]
            exact iteF ⟨.int mid, rfl, mid, high, _, _, _, rfl, s2.trans s3, md2, by omega, k3, by rw [he2]; omega, hc, .inr fun ⟨r', er', hr'⟩ => by
              rw [er] at er'
              cases er'
              exact c2 hr'⟩
        · exact ⟨.non, rfl, rfl, false, rfl, iteF ⟨.int mid, rfl, mid, high, _, _, _, rfl, s2.trans s3, md2, by omega, k3, by rw [he2]; omega, hc, .inr fun ⟨r', er', hr'⟩ => by
              rw [er] at er'
              cases er'⟩⟩
      · rw [decide_eq_false c]
        exact iteF ⟨low, high, _, _, _, rfl, s2, k1, k2, k3, by rw [he2]; omega, hc, hn⟩
    · rintro σ H2 ⟨low, high, y5, y6, y7, rfl, s2, k1, k2, k3, k4, hc, hn⟩
      have ih : IsH n room fs high := isH_of up k1 (by simpa using k4) k2 hc hn
      refine ⟨.ref l, rfl, .int n, rfl, .int high, rfl, l, n, high, us, fs, rfl, sql (s2 _ _ hl), s2 _ _ hl, paired_imp (fun _ _ h => h.keep (kpD_same s2)) pr, fl, fun r er H3 p ws s3 np hp pw => ?_, fun er H3 s3 => ?_⟩
      · exact q high r ih er H3 p ws (s2.trans s3) (Same.gone s2 np) hp pw
      · obtain ⟨r, er', _⟩ := hc
        rw [er] at er'
        cases er'
end
end Kb

namespace Kb
open PySem PySem.Spec PyProof.Rows L2 RZ
abbrev sP_chosen : Stmt := topS 35
abbrev NP_chosen : List Str := ["room", "many", "marks", "gap", "found", "level", "at", "first"]
theorem scP_chosen : FnScope ["room", "many", "marks", "gap", "found", "level", "at", "first"] ["room", "many", "marks", "gap"] (defScope sP_chosen) := ⟨rfl, rfl, rfl, by decide +kernel, rfl, by decide +kernel, by decide +kernel⟩
abbrev DnChosen (K : PySem.W.Frag) (mg : Str → Option Value) := Dn K mg "_chosen" sP_chosen ["room", "many", "marks", "gap"]
section
variable {P : Program} {w : World} {K : PySem.W.Frag} {mg : Str → Option Value} {base : Heap}
/-- the told marks, as the program chooses among them -/
def spChosen (K : PySem.W.Frag) : Sp := fun vs H Q _ => ∃ (room : Nat) (n g : Int) (b : Addr) (ks : List V) (fs : List Fd), vs = [.int (room : Int), .int n, .ref b, .int g] ∧ H b = some (.lst ks) ∧ Paired (DtAt K H) ks (fs.map fun f => mk2 f.m) ∧ fs.length ≤ 3000 ∧
  (∀ r, stp n g 0 none fs = some r → r.length ≤ room → ∀ H' p ws, Same H H' → H' p = some (.lst ws) → Paired (DtAt K H') ws (r.map fun f => mk2 f.m) → Q (.ref p) H') ∧ (¬ canT n room fs g → ∀ H', Same H H' → Q .non H')
theorem ok_chosen (T : Blt mg) (d : DnChosen K mg) : FnOk P w K mg base CX0 1 d.f d.fd ["room", "many", "marks", "gap"] (spChosen K) := by
  refine d.F.ok scP_chosen (fun vs H Q E h => ?_) (fun cdv A outer s H vs Q E hr h => ?_)
  · obtain ⟨room, n, g, b, ks, fs, rfl, _⟩ := h
    rfl
  · obtain ⟨room, n, g, b, ks, fs, rfl, hb, pr, fl, q1, q2⟩ := h
    refine ⟨_, (pss_cons (ps_set (i := 4) scP_chosen.nd rfl (Or.inl rfl) (pe_lst pa_nil))
    (pss_cons (ps_set (i := 5) scP_chosen.nd rfl (Or.inl rfl) pe_int)
    (pss_cons (ps_set (i := 6) scP_chosen.nd rfl (Or.inl rfl) pe_int)
    (pss_cons (ps_while PassesOwn.never (pt_cmpR op_gt (pe_op op_sub (pv 1) (pv 5)) (pv 3) (nomark _))
      (pss_cons (ps_set (i := 7) scP_chosen.nd rfl (Or.inl rfl) (pv 6))
      (pss_cons (ps_while PassesOwn.never (PW.pt (pw_and (pt_cmpR op_lt (pv 6) (pe_callB call_len_seq (by rfl) T.n_len (by decide +kernel) (pa_cons (pv 2) pa_nil)) (nomark _)) (pw_and1 (pt_cmpR op_le (pe_op op_sub (pe_ix ix_tup (pe_ix ix_list (pv 2) (pv 6) (fun _ _ => rfl)) pe_int (fun _ _ => rfl)) (pv 5)) (pv 3) (nomark _)))))
        (pss_one (ps_aug (i := 6) scP_chosen.nd rfl (Or.inl rfl) pe_int ip_add)))
      (pss_cons (ps_if (PW.pt (pw_or (pt_cmpR op_eq (pv 6) (pv 7) (nomark _)) (pw_or1 (pt_cmpR op_eq (pe_callB call_len_seq (by rfl) T.n_len (by decide +kernel) (pa_cons (pv 4) pa_nil)) (pv 0) (nomark _)))))
        (pss_one (ps_ret pe_non))
        pss_nil)
      (pss_cons (ps_expr (pe_bm PySem.F.plainAttrs_list PySem.F.slot_list_append PySem.F.type_list_append mt_append (pv 4) (pa_cons (pe_ix ix_list (pv 2) (pe_op op_sub (pv 6) pe_int) (fun _ _ => rfl)) pa_nil)))
      (pss_one (ps_set (i := 5) scP_chosen.nd rfl (Or.inl rfl) (pe_ix ix_tup (pe_ix ix_list (pv 2) (pe_op op_sub (pv 6) pe_int) (fun _ _ => rfl)) pe_int (fun _ _ => rfl)))))))))
    (pss_one (ps_ret (pv 4))))))), ?_⟩
    have kl : ks.length = fs.length := by rw [Paired.length pr, List.length_map]
    refine ⟨(by show 0 ≤ sizeLine; decide), fun k nk => ?_⟩
    have s1 := same_upd (o := .lst []) nk
    have hk1 : (upd H k (.lst [])) k = some (.lst []) := upd_same
    generalize upd H k (.lst []) = H1 at s1 hk1 ⊢
    have eo : ∀ o : Option (List Fd), o.map (([] : List Fd) ++ ·) = o := fun o => by cases o <;> rfl
    refine ⟨fun m σ H2 => ∃ (L : Int) (at' : Nat) (y7 : Option V) (ws : List V) (acc : List Fd), σ = [some (.int (room : Int)), some (.int n), some (.ref b), some (.int g), some (.ref k), some (.int L), some (.int (at' : Int)), y7] ∧ Same H H2 ∧ H2 k = some (.lst ws) ∧ Paired (DtAt K H2) ws (acc.map fun f => mk2 f.m) ∧ at' ≤ fs.length ∧ acc.length ≤ room ∧ acc.length ≤ at' ∧ stp n g 0 none fs = (stp n g L none (fs.drop at')).map (acc ++ ·) ∧ m = fs.length - at', ⟨_, 0, 0, none, [], [], rfl, s1, hk1, .nil, Nat.zero_le _, Nat.zero_le _, Nat.le_refl _, (eo _).symm, rfl⟩, ?_⟩
    rintro m σ H2 ⟨L, at', y7, ws, acc, rfl, s2, hk, pw, ha, hr', haa, he, rfl⟩
    refine ⟨.int n, rfl, .int L, rfl, _, _, rfl, rfl, .int g, rfl, _, _, rfl, rfl, decide (g < n - L), rfl, ?_⟩
    by_cases c : n - L ≤ g
    · rw [decide_eq_false (by omega)]
      rw [stp_enough c] at he
      have he : stp n g 0 none fs = some (acc ++ []) := he
      rw [List.append_nil] at he
      exact iteF ⟨.ref k, rfl, q1 acc he hr' H2 k ws s2 hk pw⟩
    · rw [decide_eq_true (by omega)]
      refine iteT ⟨fun σ H' => ∃ m', m' < fs.length - at' ∧ (∃ (L : Int) (at' : Nat) (y7 : Option V) (ws : List V) (acc : List Fd), σ = [some (.int (room : Int)), some (.int n), some (.ref b), some (.int g), some (.ref k), some (.int L), some (.int (at' : Int)), y7] ∧ Same H H' ∧ H' k = some (.lst ws) ∧ Paired (DtAt K H') ws (acc.map fun f => mk2 f.m) ∧ at' ≤ fs.length ∧ acc.length ≤ room ∧ acc.length ≤ at' ∧ stp n g 0 none fs = (stp n g L none (fs.drop at')).map (acc ++ ·) ∧ m' = fs.length - at'), fun _ _ h => h, ?_⟩
      refine ⟨.int (at' : Int), rfl, ?_⟩
      refine ⟨fun m σ H3 => ∃ j : Nat, H2 = H3 ∧ σ = [some (.int (room : Int)), some (.int n), some (.ref b), some (.int g), some (.ref k), some (.int L), some (.int (j : Int)), some (.int (at' : Int))] ∧ at' ≤ j ∧ j ≤ fs.length ∧ (j = at' ∨ ∃ h, fs[j - 1]? = some h ∧ at' < j ∧ stp n g L none (fs.drop at') = stp n g L (some h) (fs.drop j)) ∧ m = fs.length - j, ⟨_, at', rfl, rfl, Nat.le_refl _, ha, .inl rfl, rfl⟩, ?_⟩
      rintro m σ H3 ⟨j, rfl, rfl, j1, j2, hj, rfl⟩
      refine ⟨.int (j : Int), rfl, .ref b, rfl, b, _, rfl, .inl (sql (s2 _ _ hb)), _, _, rfl, rfl, decide ((j : Int) < (ks.length : Int)), rfl, ?_⟩
      by_cases cj : j < fs.length
      · rw [decide_eq_true (by omega)]
        have hkj : ks[j]? = some (ks[j]'(by omega)) := List.getElem?_eq_getElem (by omega)
        obtain ⟨dm, hdm, atm⟩ := paired_at pr hkj
        obtain ⟨f, hf, rfl⟩ := map_at hdm
        obtain ⟨u, fu, hu0, hu⟩ := mk_at (atm.same s2)
        rw [hu0] at hkj
        have hd : fs.drop j = f :: fs.drop (j + 1) := by
          obtain ⟨hlt, e⟩ := List.getElem?_eq_some_iff.mp hf
          rw [List.drop_eq_getElem_cons hlt, e]
        refine iteT ⟨.ref b, rfl, .int (j : Int), rfl, b, _, _, _, rfl, rfl, sql (s2 _ _ hb), atI_nat hkj, u, _, _, _, rfl, rfl, hu.ob.seq, atI_nat (j := 2) rfl, .int L, rfl, _, _, rfl, rfl, .int g, rfl, _, _, rfl, rfl, decide (f.x - L ≤ g), rfl, ?_⟩
        by_cases cx : f.x - L ≤ g
        · rw [decide_eq_true cx]
          refine iteT ⟨fun σ H' => ∃ m', m' < fs.length - j ∧ (∃ j : Nat, H2 = H' ∧ σ = [some (.int (room : Int)), some (.int n), some (.ref b), some (.int g), some (.ref k), some (.int L), some (.int (j : Int)), some (.int (at' : Int))] ∧ at' ≤ j ∧ j ≤ fs.length ∧ (j = at' ∨ ∃ h, fs[j - 1]? = some h ∧ at' < j ∧ stp n g L none (fs.drop at') = stp n g L (some h) (fs.drop j)) ∧ m' = fs.length - j), fun _ _ h => h, ?_⟩
          refine ⟨.int (j : Int), rfl, _, _, rfl, rfl, ?_⟩
          refine ⟨_, by omega, j + 1, rfl, rfl, by omega, cj, .inr ⟨f, hf, by omega, ?_⟩, rfl⟩
          rcases hj with hj | ⟨h, hh, hlt, hst⟩
          · subst hj
            rw [hd, stp_go c cx]
          · rw [hst, hd, stp_go c cx]
        · rw [decide_eq_false cx]
          refine iteF ?_
          have hend : ∀ m r, fs.drop j = m :: r → ¬ m.x - L ≤ g := fun m r z => by rw [hd] at z; cases z; exact cx
          rcases hj with hj | ⟨h, hh, hlt, hst⟩
          · subst hj
            refine ⟨.int (j : Int), rfl, .int (j : Int), rfl, rfl, true, congrArg V.bl (decide_eq_true rfl), iteT (q2 ?_ H2 s2)⟩
            rintro ⟨r, er, _⟩
            rw [he, stp_none c hend] at er
            cases er
          · have hne : ¬ ((j : Int) = (at' : Int)) := by omega
            refine ⟨.int (j : Int), rfl, .int (at' : Int), rfl, rfl, false, congrArg V.bl (by rw [dec_int]; exact decide_eq_false hne), iteF ?_⟩
            have hk2 : ks[j - 1]? = some (ks[j - 1]'(by omega)) := List.getElem?_eq_getElem (by omega)
            obtain ⟨dm, hdm, atm⟩ := paired_at pr hk2
            obtain ⟨h', hh', rfl⟩ := map_at hdm
            rw [hh] at hh'
            cases hh'
            obtain ⟨u, fu, hu0, hu⟩ := mk_at (atm.same s2)
            rw [hu0] at hk2
            have atu : DtAt K H2 (.ref u) (mk2 h.m) := by rw [← hu0]; exact atm.same s2
            have he2 : stp n g 0 none fs = (stp n g h.y none (fs.drop j)).map ((acc ++ [h]) ++ ·) := by
              rw [he, hst, stp_take c hend]
              cases stp n g h.y none (fs.drop j) with
              | none => rfl
              | some o => show some (acc ++ h :: o) = some ((acc ++ [h]) ++ o); rw [List.append_assoc]; rfl
            have wl : ws.length = acc.length := by rw [Paired.length pw, List.length_map]
            refine ⟨.ref k, rfl, k, ws, rfl, .inl (sql hk), .int (room : Int), rfl, rfl, decide ((ws.length : Int) = (room : Int)), by rw [dec_int]; rfl, ?_⟩
            by_cases cr : acc.length = room
            · rw [decide_eq_true (by omega)]
              refine iteT (q2 ?_ H2 s2)
              rintro ⟨r, er, hr2⟩
              rw [he2] at er
              cases e3 : stp n g h.y none (fs.drop j) with
              | none => rw [e3] at er; cases er
              | some o =>
                rw [e3] at er
                cases er
                rw [List.length_append, List.length_append, List.length_singleton] at hr2
                omega
            · rw [decide_eq_false (by omega)]
              have ej : ((j : Nat) : Int) - 1 = ((j - 1 : Nat) : Int) := by omega
              have hix : atI ks ((j : Int) - 1) = some (.ref u) := by rw [ej]; exact atI_nat hk2
              refine iteF ⟨.ref k, rfl, .inl ⟨rfl, _, sql hk⟩, .ref b, rfl, .int (j : Int), rfl, _, _, rfl, rfl, b, _, _, _, rfl, rfl, sql (s2 _ _ hb), hix, k, ws, .ref u, rfl, rfl, hk, by rw [sizeLine_eq]; omega, ?_⟩
              have s3 : Same H (upd H2 k (.lst (ws ++ [.ref u]))) := Same.put s2 nk
              have hk3 : (upd H2 k (.lst (ws ++ [.ref u]))) k = some (.lst (ws ++ [.ref u])) := upd_same
              have kp : KpD H2 (upd H2 k (.lst (ws ++ [.ref u]))) := kpD_list hk
              have pw3 : Paired (DtAt K (upd H2 k (.lst (ws ++ [.ref u])))) (ws ++ [.ref u]) ((acc ++ [h]).map fun f => mk2 f.m) := by
                rw [List.map_append]
                exact paired_app (paired_imp (fun _ _ h => h.keep kp) pw) (.cons (atu.keep kp) .nil)
              have hu3 := kp.t _ _ hu.ob
              generalize upd H2 k (.lst (ws ++ [.ref u])) = H3 at s3 hk3 pw3 hu3 ⊢
              refine ⟨.ref b, rfl, .int (j : Int), rfl, _, _, rfl, rfl, b, _, _, _, rfl, rfl, sql (s3 _ _ hb), hix, u, _, _, _, rfl, rfl, hu3.seq, atI_nat (j := 3) rfl, ?_⟩
              exact ⟨_, by omega, h.y, j, _, _, acc ++ [h], rfl, s3, hk3, pw3, j2, by rw [List.length_append, List.length_singleton]; omega, by rw [List.length_append, List.length_singleton]; omega, he2, rfl⟩
      · rw [decide_eq_false (by omega)]
        refine iteF ?_
        have hend : ∀ m r, fs.drop j = m :: r → ¬ m.x - L ≤ g := fun m r z => by rw [List.drop_eq_nil_of_le (by omega)] at z; cases z
        rcases hj with hj | ⟨h, hh, hlt, hst⟩
        · subst hj
          refine ⟨.int (j : Int), rfl, .int (j : Int), rfl, rfl, true, congrArg V.bl (decide_eq_true rfl), iteT (q2 ?_ H2 s2)⟩
          rintro ⟨r, er, _⟩
          rw [he, stp_none c hend] at er
          cases er
        · have hne : ¬ ((j : Int) = (at' : Int)) := by omega
          refine ⟨.int (j : Int), rfl, .int (at' : Int), rfl, rfl, false, congrArg V.bl (by rw [dec_int]; exact decide_eq_false hne), iteF ?_⟩
          have hk2 : ks[j - 1]? = some (ks[j - 1]'(by omega)) := List.getElem?_eq_getElem (by omega)
          obtain ⟨dm, hdm, atm⟩ := paired_at pr hk2
          obtain ⟨h', hh', rfl⟩ := map_at hdm
          rw [hh] at hh'
          cases hh'
          obtain ⟨u, fu, hu0, hu⟩ := mk_at (atm.same s2)
          rw [hu0] at hk2
          have atu : DtAt K H2 (.ref u) (mk2 h.m) := by rw [← hu0]; exact atm.same s2
          have he2 : stp n g 0 none fs = (stp n g h.y none (fs.drop j)).map ((acc ++ [h]) ++ ·) := by
            rw [he, hst, stp_take c hend]
            cases stp n g h.y none (fs.drop j) with
            | none => rfl
            | some o => show some (acc ++ h :: o) = some ((acc ++ [h]) ++ o); rw [List.append_assoc]; rfl
          have wl : ws.length = acc.length := by rw [Paired.length pw, List.length_map]
          refine ⟨.ref k, rfl, k, ws, rfl, .inl (sql hk), .int (room : Int), rfl, rfl, decide ((ws.length : Int) = (room : Int)), by rw [dec_int]; rfl, ?_⟩
          by_cases cr : acc.length = room
          · rw [decide_eq_true (by omega)]
            refine iteT (q2 ?_ H2 s2)
            rintro ⟨r, er, hr2⟩
            rw [he2] at er
            cases e3 : stp n g h.y none (fs.drop j) with
            | none => rw [e3] at er; cases er
            | some o =>
              rw [e3] at er
              cases er
              rw [List.length_append, List.length_append, List.length_singleton] at hr2
              omega
          · rw [decide_eq_false (by omega)]
            have ej : ((j : Nat) : Int) - 1 = ((j - 1 : Nat) : Int) := by omega
            have hix : atI ks ((j : Int) - 1) = some (.ref u) := by rw [ej]; exact atI_nat hk2
            refine iteF ⟨.ref k, rfl, .inl ⟨rfl, _, sql hk⟩, .ref b, rfl, .int (j : Int), rfl, _, _, rfl, rfl, b, _, _, _, rfl, rfl, sql (s2 _ _ hb), hix, k, ws, .ref u, rfl, rfl, hk, by rw [sizeLine_eq]; omega, ?_⟩
            have s3 : Same H (upd H2 k (.lst (ws ++ [.ref u]))) := Same.put s2 nk
            have hk3 : (upd H2 k (.lst (ws ++ [.ref u]))) k = some (.lst (ws ++ [.ref u])) := upd_same
            have kp : KpD H2 (upd H2 k (.lst (ws ++ [.ref u]))) := kpD_list hk
            have pw3 : Paired (DtAt K (upd H2 k (.lst (ws ++ [.ref u])))) (ws ++ [.ref u]) ((acc ++ [h]).map fun f => mk2 f.m) := by
              rw [List.map_append]
              exact paired_app (paired_imp (fun _ _ h => h.keep kp) pw) (.cons (atu.keep kp) .nil)
            have hu3 := kp.t _ _ hu.ob
            generalize upd H2 k (.lst (ws ++ [.ref u])) = H3 at s3 hk3 pw3 hu3 ⊢
            refine ⟨.ref b, rfl, .int (j : Int), rfl, _, _, rfl, rfl, b, _, _, _, rfl, rfl, sql (s3 _ _ hb), hix, u, _, _, _, rfl, rfl, hu3.seq, atI_nat (j := 3) rfl, ?_⟩
            exact ⟨_, by omega, h.y, j, _, _, acc ++ [h], rfl, s3, hk3, pw3, j2, by rw [List.length_append, List.length_singleton]; omega, by rw [List.length_append, List.length_singleton]; omega, he2, rfl⟩
end
end Kb

namespace Kb
open PySem PySem.Spec PyProof.Rows L2 RZ
abbrev sP_thin : Stmt := topS 34
abbrev NP_thin : List Str := ["room", "many", "marks", "low", "high", "middle"]
theorem scP_thin : FnScope ["room", "many", "marks", "low", "high", "middle"] ["room", "many", "marks"] (defScope sP_thin) := ⟨rfl, rfl, rfl, by decide +kernel, rfl, by decide +kernel, by decide +kernel⟩
abbrev DnThin (K : PySem.W.Frag) (mg : Str → Option Value) := Dn K mg "_thin" sP_thin ["room", "many", "marks"]
section
variable {P : Program} {w : World} {K : PySem.W.Frag} {mg : Str → Option Value} {base : Heap}
def spThin (K : PySem.W.Frag) : Sp := fun vs H Q _ => ∃ (room : Nat) (n : Int) (b : Addr) (ks : List V) (fs : List Fd), vs = [.int (room : Int), .int n, .ref b] ∧ H b = some (.lst ks) ∧ Paired (DtAt K H) ks (fs.map fun f => mk2 f.m) ∧ fs.length ≤ 3000 ∧ room ≤ 64 ∧ 0 ≤ n ∧ n ≤ 2 ^ 41 ∧ Up fs ∧
  (fs.length ≤ room → ∀ H' p, Same H H' → DtAt K H' (.ref p) (rk2 room n (fs.map Fd.m)) → Q (.ref p) H') ∧
  (∀ g r, room < fs.length → IsH n room fs g → stp n g 0 none fs = some r → ∀ H' p, Same H H' → DtAt K H' (.ref p) (rk2 room n (r.map Fd.m)) → Q (.ref p) H')
theorem ok_thin (T : Blt mg) (dP_chosen : DnChosen K mg) (d : DnThin K mg) : FnOk P w K mg base CX0 2 d.f d.fd ["room", "many", "marks"] (spThin K) := by
  have GP_chosen : FnOk P w K mg base CX0 1 dP_chosen.f dP_chosen.fd ["room", "many", "marks", "gap"] (spChosen K) := ok_chosen T dP_chosen
  refine d.F.ok scP_thin (fun vs H Q E h => ?_) (fun cdv A outer s H vs Q E hr h => ?_)
  · obtain ⟨room, n, b, ks, fs, rfl, _⟩ := h
    rfl
  · obtain ⟨room, n, b, ks, fs, rfl, hb, pr, fl, r64, n0, n1, up, q1, q2⟩ := h
    refine ⟨_, (pss_cons (ps_if (pt_cmpR op_le (pe_callB call_len_seq (by rfl) T.n_len (by decide +kernel) (pa_cons (pv 2) pa_nil)) (pv 0) (nomark _))
      (pss_one (ps_ret (pe_tupF (pa_cons (pv 0) (pa_cons (pv 1) (pa_cons (pe_callTy call_tupleF (by rfl) T.n_tuple (by decide +kernel) (pa_cons (pv 2) pa_nil)) pa_nil))))))
      pss_nil)
    (pss_cons (ps_set (i := 3) scP_thin.nd rfl (Or.inl rfl) (pe_un un_neg pe_int))
    (pss_cons (ps_set (i := 4) scP_thin.nd rfl (Or.inl rfl) (pv 1))
    (pss_cons (ps_while PassesOwn.never (pt_cmpR op_gt (pe_op op_sub (pv 4) (pv 3)) pe_int (nomark _))
      (pss_cons (ps_set (i := 5) scP_thin.nd rfl (Or.inl rfl) (pe_op op_fdiv (pe_op op_add (pv 3) (pv 4)) pe_int))
      (pss_one (ps_if (pt_cmpR op_isN (pe_call GP_chosen (hr.mono (by omega)) (by rfl) dP_chosen.g dP_chosen.F.kp dP_chosen.b .nil pass0 (pa_cons (pv 0) (pa_cons (pv 1) (pa_cons (pv 2) (pa_cons (pv 5) pa_nil))))) pe_non (nomark _))
        (pss_one (ps_set (i := 3) scP_thin.nd rfl (Or.inl rfl) (pv 5)))
        (pss_one (ps_set (i := 4) scP_thin.nd rfl (Or.inl rfl) (pv 5)))))))
    (pss_one (ps_ret (pe_tupF (pa_cons (pv 0) (pa_cons (pv 1) (pa_cons (pe_callTy call_tupleF (by rfl) T.n_tuple (by decide +kernel) (pa_cons (pe_call GP_chosen (hr.mono (by omega)) (by rfl) dP_chosen.g dP_chosen.F.kp dP_chosen.b .nil pass0 (pa_cons (pv 0) (pa_cons (pv 1) (pa_cons (pv 2) (pa_cons (pv 4) pa_nil))))) pa_nil)) pa_nil)))))))))), ?_⟩
    have kl : ks.length = fs.length := by rw [Paired.length pr, List.length_map]
    have p41 : (2 : Int) ^ 41 = 2199023255552 := by decide
    have p90 : (2 : Nat) ^ 100 = 1267650600228229401496703205376 := by decide
    have mkd : ∀ (G : Hp) (p q : Addr) (ws : List V) (r : List Fd), Ptp G p [.int (room : Int), .int n, .ref q] → Ptp G q ws → Paired (DtAt K G) ws (r.map fun f => mk2 f.m) → r.length ≤ 3000 → DtAt K G (.ref p) (rk2 room n (r.map Fd.m)) := fun G p q ws r hp hq pw rl => by
      rw [rk2, List.map_map]
      have wl : ws.length = r.length := by rw [Paired.length pw, List.length_map]
      exact DtAt.mk hp (by show 3 ≤ 5000; decide) (.cons (.lf ⟨rfl, by omega⟩) (.cons (.lf ⟨rfl, by omega⟩) (.cons (DtAt.mk hq (by omega) pw) .nil)))
    refine ⟨.ref b, rfl, b, _, rfl, .inl (sql hb), .int (room : Int), rfl, _, _, rfl, rfl, decide ((ks.length : Int) ≤ (room : Int)), rfl, ?_⟩
    by_cases c : fs.length ≤ room
    · rw [decide_eq_true (by omega)]
      refine iteT ⟨.int (room : Int), rfl, .int n, rfl, .ref b, rfl, b, ks, rfl, sql hb, fun t4 o4 n4 ho4 => ⟨(by show 3 ≤ sizeLine; decide), fun t o nt ho => ?_⟩⟩
      have s4 := same_upd (o := .frz o4 (.tup ks)) n4
      have h4 : Ptp (upd H t4 (.frz o4 (.tup ks))) t4 ks := ⟨o4, upd_same, ho4⟩
      generalize upd H t4 (.frz o4 (.tup ks)) = H4 at s4 h4 nt ⊢
      have s1 := same_upd (o := .frz o (.tup [.int (room : Int), .int n, .ref t4])) nt
      exact q1 c _ t (s4.trans s1) (mkd _ t t4 ks fs ⟨o, upd_same, ho⟩ (h4.same s1) (paired_imp (fun _ _ h => (h.same s4).same s1) pr) fl)
    · rw [decide_eq_false (by omega)]
      refine iteF ⟨_, rfl, .int n, rfl, ?_⟩
      refine ⟨fun m σ H2 => ∃ (low high : Int) (y5 : Option V), σ = [some (.int (room : Int)), some (.int n), some (.ref b), some (.int low), some (.int high), y5] ∧ Same H H2 ∧ low < high ∧ -1 ≤ low ∧ high ≤ n ∧ canT n room fs high ∧ (low = -1 ∨ ¬ canT n room fs low) ∧ m = (high - low).toNat,
        ⟨_, -1, n, none, rfl, Same.refl H, by omega, Int.le_refl _, Int.le_refl _, ⟨[], stp_enough (by omega), Nat.zero_le _⟩, .inl rfl, rfl⟩, ?_⟩
      rintro m σ H2 ⟨low, high, y5, rfl, s2, k1, k2, k3, hc, hn, rfl⟩
      refine ⟨.int high, rfl, .int low, rfl, _, _, rfl, rfl, _, _, rfl, rfl, decide ((1 : Int) < high - low), rfl, ?_⟩
      by_cases cc : (1 : Int) < high - low
      · rw [decide_eq_true cc]
        refine iteT ⟨fun σ H' => ∃ m', m' < (high - low).toNat ∧ (∃ (low high : Int) (y5 : Option V), σ = [some (.int (room : Int)), some (.int n), some (.ref b), some (.int low), some (.int high), y5] ∧ Same H H' ∧ low < high ∧ -1 ≤ low ∧ high ≤ n ∧ canT n room fs high ∧ (low = -1 ∨ ¬ canT n room fs low) ∧ m' = (high - low).toNat), fun _ _ h => h, ?_⟩
        refine ⟨.int low, rfl, .int high, rfl, _, _, rfl, rfl, _, _, rfl, rfl, ⟨by decide, by decide⟩, ?_⟩
        have md1 : low < (low + high) / 2 := by omega
        have md2 : (low + high) / 2 < high := by omega
        dsimp only
        generalize (low + high) / 2 = mid at md1 md2 ⊢
        refine ⟨.int (room : Int), rfl, .int n, rfl, .ref b, rfl, .int mid, rfl, room, n, mid, b, ks, fs, rfl, s2 _ _ hb, paired_imp (fun _ _ h => h.same s2) pr, fl, fun r er hr2 H3 p ws s3 hp pw => ?_, fun hno H3 s3 => ?_⟩
        · refine ⟨rfl, false, rfl, iteF ⟨.int mid, rfl, ?_⟩⟩
          exact ⟨_, by omega, low, mid, _, rfl, s2.trans s3, md1, k2, by omega, ⟨r, er, hr2⟩, hn, rfl⟩
        · refine ⟨rfl, true, rfl, iteT ⟨.int mid, rfl, ?_⟩⟩
          exact ⟨_, by omega, mid, high, _, rfl, s2.trans s3, md2, by omega, k3, hc, .inr hno, rfl⟩
      · rw [decide_eq_false cc]
        have ih : IsH n room fs high := isH_of up k1 (by omega) k2 hc hn
        obtain ⟨r0, er0, hr0⟩ := hc
        refine iteF ⟨.int (room : Int), rfl, .int n, rfl, .int (room : Int), rfl, .int n, rfl, .ref b, rfl, .int high, rfl, room, n, high, b, ks, fs, rfl, s2 _ _ hb, paired_imp (fun _ _ h => h.same s2) pr, fl, fun r er hr2 H3 p ws s3 hp pw => ?_, fun hno => absurd ⟨r0, er0, hr0⟩ hno⟩
        refine ⟨p, ws, rfl, sql hp, fun t4 o4 n4 ho4 => ⟨(by show 3 ≤ sizeLine; decide), fun t o nt ho => ?_⟩⟩
        have s4 := same_upd (o := .frz o4 (.tup ws)) n4
        have h4 : Ptp (upd H3 t4 (.frz o4 (.tup ws))) t4 ws := ⟨o4, upd_same, ho4⟩
        generalize upd H3 t4 (.frz o4 (.tup ws)) = H4 at s4 h4 nt ⊢
        have s5 := same_upd (o := .frz o (.tup [.int (room : Int), .int n, .ref t4])) nt
        exact q2 high r (by omega) ih er _ t (((s2.trans s3).trans s4).trans s5) (mkd _ t t4 ws r ⟨o, upd_same, ho⟩ (h4.same s5) (paired_imp (fun _ _ h => (h.same s4).same s5) pw) (by omega))
end
end Kb

/-! dicts whose keys are plain tuples, of any depth -/
namespace L2
open PySem PySem.Spec PyProof.Rows
mutual
/-- the value v is the key -/
def NkAt (H : Hp) : NestedKey → V → Prop
  | .none, v => v = .non
  | .num i, v => v = .int i
  | .text x, v => v = .str x
  | .tup ks, v => ∃ p vs, v = .ref p ∧ Ptp H p vs ∧ NkAll H ks vs
def NkAll (H : Hp) : List NestedKey → List V → Prop
  | [], vs => vs = []
  | k :: ks, vs => ∃ v r, vs = v :: r ∧ NkAt H k v ∧ NkAll H ks r
end
mutual
theorem NkAt.keep {H H' : Hp} (t : ∀ p xs, Ptp H p xs → Ptp H' p xs) : ∀ (k : NestedKey) (v : V), NkAt H k v → NkAt H' k v
  | .none, _, e => e
  | .num _, _, e => e
  | .text _, _, e => e
  | .tup ks, _, ⟨p, vs, e, hp, ha⟩ => ⟨p, vs, e, t _ _ hp, NkAll.keep t ks vs ha⟩
theorem NkAll.keep {H H' : Hp} (t : ∀ p xs, Ptp H p xs → Ptp H' p xs) : ∀ (ks : List NestedKey) (vs : List V), NkAll H ks vs → NkAll H' ks vs
  | [], _, e => e
  | k :: ks, _, ⟨v, r, e, h1, h2⟩ => ⟨v, r, e, NkAt.keep t k v h1, NkAll.keep t ks r h2⟩
end
mutual
theorem NkAt.is {P : Program} {w : World} {H : Hp} {h : Heap} (ok : HOk P w H h) : ∀ (k : NestedKey) (v : V) (u : Value), NkAt H k v → RelV v u → NestedIs h k u
  | .none, v, u, e, r => by
    cases (show v = .non from e)
    cases (show u = Value.none from r)
    exact .none
  | .num i, v, u, e, r => by
    cases (show v = .int i from e)
    obtain ⟨t, rfl⟩ := (show ∃ t, u = Value.int i t from r)
    exact .int i t
  | .text x, v, u, e, r => by
    cases (show v = .str x from e)
    obtain ⟨t, rfl⟩ := (show ∃ t, u = Value.str x t from r)
    exact .text x t
  | .tup ks, _, u, ⟨p, vs, e, ⟨ob, hp, _⟩, ha⟩, r => by
    subst e
    obtain rfl : u = Value.ref p := r
    obtain ⟨at_, _, its, rv, o2, h1, h2, n, h3⟩ := ok p _ hp
    exact .tup h1 h2 h3 (by simpa using NkAll.is ok ks vs its ha rv)
theorem NkAll.is {P : Program} {w : World} {H : Hp} {h : Heap} (ok : HOk P w H h) : ∀ (ks : List NestedKey) (vs : List V) (us : List Value), NkAll H ks vs → Vals vs us → NestedAll h ks us
  | [], vs, us, e, r => by
    cases (show vs = [] from e)
    cases r
    exact .nil
  | k :: ks, _, us, ⟨v, t, e, h1, h2⟩, r => by
    subst e
    cases r with
    | cons ra rb => exact .cons (NkAt.is ok k v _ h1 ra) (NkAll.is ok ks t _ h2 rb)
end
/-- the dict's own object -/
def TkO (P : Program) (w : World) (a : Addr) (xs : List (NestedKey × Addr × Value)) : HO := .ext fun h => ((a == sysModules) = false ∧ xs.length ≤ sizeLine ∧ (xs.map (·.1)).Nodup) ∧ ∃ o es ep, h.get? a = some o ∧ o.ExactDict ∧ o.data = .dict es ep ∧ es.toList = xs.map (entryOfKey (nestedKind P w))
abbrev TkR (H : Hp) (p : NestedKey × V) (q : NestedKey × Addr × Value) : Prop := p.1 = q.1 ∧ (NkAt H p.1 (.ref q.2.1) ∧ p.1.depth ≤ 8) ∧ RelV p.2 q.2.2
/-- at a stands the dict with these keys and values -/
def TkAt (P : Program) (w : World) (H : Hp) (a : Addr) (kvs : List (NestedKey × V)) : Prop := ∃ xs, H a = some (TkO P w a xs) ∧ Paired (TkR H) kvs xs
/-- .. locked, its object known -/
def TkFz (P : Program) (w : World) (H : Hp) (a : Addr) (od : Obj) (kvs : List (NestedKey × V)) : Prop := ∃ xs, H a = some (.frz od (TkO P w a xs)) ∧ Paired (TkR H) kvs xs
/-- .. either way -/
def TkRd (P : Program) (w : World) (H : Hp) (a : Addr) (kvs : List (NestedKey × V)) : Prop := TkAt P w H a kvs ∨ ∃ od, TkFz P w H a od kvs
theorem tkR_keep {H H' : Hp} (t : ∀ p xs, Ptp H p xs → Ptp H' p xs) {kvs : List (NestedKey × V)} {xs : List (NestedKey × Addr × Value)} (r : Paired (TkR H) kvs xs) : Paired (TkR H') kvs xs :=
  Paired.mapP r fun _ _ z => ⟨z.1, ⟨NkAt.keep t _ _ z.2.1.1, z.2.1.2⟩, z.2.2⟩
theorem TkAt.ne {P : Program} {w : World} {H : Hp} {a p : Addr} {kvs : List (NestedKey × V)} {ys : List V} (h : TkAt P w H a kvs) (hp : Ptp H p ys) : p ≠ a := by
  obtain ⟨xs, e, _⟩ := h
  obtain ⟨o, e2, _⟩ := hp
  exact ne_of e2 e (fun z => nomatch z)
theorem TkAt.keep {P : Program} {w : World} {H H' : Hp} {a : Addr} {kvs : List (NestedKey × V)} (h : TkAt P w H a kvs) (e : H' a = H a) (t : ∀ p xs, Ptp H p xs → Ptp H' p xs) : TkAt P w H' a kvs :=
  let ⟨xs, e1, r⟩ := h; ⟨xs, e.trans e1, tkR_keep t r⟩
theorem TkAt.len {P : Program} {w : World} {H : Hp} {a : Addr} {kvs : List (NestedKey × V)} (h : TkAt P w H a kvs) : ∃ xs : List (NestedKey × Addr × Value), H a = some (TkO P w a xs) ∧ kvs.length = xs.length := let ⟨xs, e, r⟩ := h; ⟨xs, e, Paired.length r⟩
/-- where it is locked -/
theorem TkAt.lock {P : Program} {w : World} {H : Hp} {a : Addr} {kvs : List (NestedKey × V)} (h : TkAt P w H a kvs) : ∃ xs, H a = some (TkO P w a xs) ∧ Mut (some (TkO P w a xs)) ∧ ∀ od, TkFz P w (upd H a (.frz od (TkO P w a xs))) a od kvs := by
  obtain ⟨xs, e, r⟩ := id h
  exact ⟨xs, e, True.intro, fun od => ⟨xs, upd_same, tkR_keep (fun p ys hp => hp.upd (h.ne hp)) r⟩⟩
theorem TkFz.keep {P : Program} {w : World} {H H' : Hp} {a : Addr} {od : Obj} {kvs : List (NestedKey × V)} (h : TkFz P w H a od kvs) (s : Same H H') : TkFz P w H' a od kvs :=
  let ⟨xs, e1, r⟩ := h; ⟨xs, s _ _ e1, tkR_keep (fun _ _ hp => hp.same s) r⟩
theorem tk_val {H : Hp} {kvs : List (NestedKey × V)} {xs : List (NestedKey × Addr × Value)} (r : Paired (TkR H) kvs xs) (k : NestedKey) : RelO (valV kvs k) ((atKey xs k).map (·.2)) := by
  induction r with
  | nil => exact True.intro
  | @cons p q ps qs h t ih =>
    obtain ⟨h1, _, h2⟩ := h
    by_cases e : p.1 = k
    · rw [valV_pos e, show atKey (q :: qs) k = some q.2 by simp [atKey, List.find?_cons, h1.symm.trans e]]
      exact h2
    · have e' : ¬ q.1 = k := fun z => e (h1.trans z)
      rw [valV_neg e, show atKey (q :: qs) k = atKey qs k by simp [atKey, List.find?_cons, e']]
      exact ih
theorem tk_put {H : Hp} {kvs : List (NestedKey × V)} {xs : List (NestedKey × Addr × Value)} (r : Paired (TkR H) kvs xs) (k : NestedKey) {b : Addr} {y : V} {u : Value} (hb : NkAt H k (.ref b)) (hd : k.depth ≤ 8) (ry : RelV y u) :
    Paired (TkR H) (putK kvs k y) (storedH xs k b u) := by
  have same : (kvs.any fun kv => decide (kv.1 = k)) = (atKey xs k).isSome := by rw [valV_any, (tk_val r k).isSome_eq, Option.isSome_map]
  unfold putK storedH
  rw [same]
  split
  · rename_i hq
    clear same hq
    induction r with
    | nil => exact .nil
    | @cons p q ps qs h t ih =>
      obtain ⟨h1, h2, h3⟩ := h
      rw [List.map_cons, List.map_cons]
      refine .cons ?_ ih
      unfold putAt
      by_cases e : p.1 = k
      · rw [if_pos e, if_pos (h1.symm.trans e)]
        exact ⟨h1, h2, ry⟩
      · rw [if_neg e, if_neg fun z => e (h1.trans z)]
        exact ⟨h1, h2, h3⟩
  · exact Paired.snoc r ⟨rfl, ⟨hb, hd⟩, ry⟩
section
variable {P : Program} {w : World} {H : Hp} {h : Heap} {a : Addr} {kvs : List (NestedKey × V)}
theorem tk_is (ok : HOk P w H h) {k : NestedKey} {b : Addr} (hb : NkAt H k (.ref b)) (hd : k.depth ≤ 8) : (nestedKind P w).is h k b := ⟨NkAt.is ok k _ _ hb rfl, hd⟩
theorem tk_all (ok : HOk P w H h) : ∀ {l : List (NestedKey × V)} {m : List (NestedKey × Addr × Value)}, Paired (TkR H) l m → ∀ x ∈ m, (nestedKind P w).is h x.1 x.2.1
  | _, _, .nil => fun _ hx => nomatch hx
  | _, _, .cons r t => fun x hx => by
    rcases List.mem_cons.mp hx with e | hx
    · subst e
      rw [← r.1]
      exact tk_is ok r.2.1.1 r.2.1.2
    · exact tk_all ok t x hx
theorem tk_dict (ok : HOk P w H h) (d : TkRd P w H a kvs) : kvs.length ≤ sizeLine ∧ (a == sysModules) = false ∧ ∃ xs, Paired (TkR H) kvs xs ∧ h.DictOfH (nestedKind P w) a xs := by
  obtain ⟨xs, φ, r⟩ : ∃ xs, (((a == sysModules) = false ∧ xs.length ≤ sizeLine ∧ (xs.map (·.1)).Nodup) ∧ ∃ o es ep, h.get? a = some o ∧ o.ExactDict ∧ o.data = .dict es ep ∧ es.toList = xs.map (entryOfKey (nestedKind P w))) ∧ Paired (TkR H) kvs xs := by
    rcases d with ⟨xs, e, r⟩ | ⟨od, xs, e, r⟩
    · exact ⟨xs, (ok a _ e).1, r⟩
    · exact ⟨xs, (ok a _ e).2.1, r⟩
  obtain ⟨⟨f1, f2, f3⟩, o, es, ep, g1, g2, g3, g4⟩ := φ
  exact ⟨by rw [Paired.length r]; exact f2, f1, xs, r, o, es, ep, g1, g2, g3, g4, tk_all ok r, f3⟩
theorem tkO_ok {H' : Hp} {h' : Heap} {xs : List (NestedKey × Addr × Value)} (z : xs.length ≤ sizeLine) (hd : (a == sysModules) = false) (dd : h'.DictOfH (nestedKind P w) a xs) : ObjOk P w H' h' a (TkO P w a xs) := by
  obtain ⟨o, es, ep, g1, g2, g3, g4, _, g5⟩ := dd
  exact ⟨⟨⟨hd, z, g5⟩, o, es, ep, g1, g2, g3, g4⟩, ⟨o, g1⟩, fun h1 h2 ⟨f, o', es', ep', e1, e2, e3, e4⟩ k => ⟨f, o', es', ep', k _ e1, e2, e3, e4⟩⟩
end
section
variable {X : Cx} {pins : List (Addr × Obj)} {σ : St} {H : Hp} {s : Shared} {a b : Addr} {kvs : List (NestedKey × V)} {k : NestedKey} {v : V} {r : Value} {A : Around} {E : Value → Shared → Prop}
theorem tk_room {A : Around} (hu : A.units + 9 < cLine) : (nestedKind X.prog X.w).room A.in1 := by
  show A.units + 1 + 8 < cLine
  omega
/-- d[k] -/
theorem tk_getItem {Q : Value → Shared → Prop} (hu : A.units + 9 < cLine) (I : Inv X pins σ H s) (d : TkRd X.prog X.w H a kvs) (hb : NkAt H k (.ref b)) (hd : k.depth ≤ 8) (l : valV kvs k = some v) (h : ∀ w' s', Inv X pins σ H s' → RelV v w' → Q w' s') :
    wpAny (model X.prog X.w) A (getItem (.ref a) (.ref b)) Q E s := by
  obtain ⟨z, y, xs, rel, dd⟩ := tk_dict I.hok d
  obtain ⟨w', hw, rw'⟩ := RelO.some_of (v := v) (o := (atKey xs k).map (·.2)) (by rw [← l]; exact tk_val rel k)
  obtain ⟨p, hp, hp2⟩ := Option.map_eq_some_iff.mp hw
  refine wpAny_getItem_heap (tk_room hu) (tk_is I.hok hb hd) dd hp ?_
  rw [hp2]
  exact h w' _ (I.tok _) rw'
/-- k in d -/
theorem tk_in {Q : Value → Shared → Prop} (hu : A.units + 9 < cLine) (I : Inv X pins σ H s) (d : TkRd X.prog X.w H a kvs) (hb : NkAt H k (.ref b)) (hd : k.depth ≤ 8) (h : ∀ s', Inv X pins σ H s' → Q (.bool (valV kvs k).isSome) s') :
    wpAny (model X.prog X.w) A (compareOp .In (.ref b) (.ref a)) Q E s := by
  obtain ⟨z, y, xs, rel, dd⟩ := tk_dict I.hok d
  refine wpAny_in_heap (tk_room hu) (tk_is I.hok hb hd) y dd ?_
  have q := (tk_val rel k).isSome_eq
  rw [Option.isSome_map] at q
  rw [← q]
  exact h _ (I.tok _)
theorem tk_notIn {Q : Value → Shared → Prop} (hu : A.units + 9 < cLine) (I : Inv X pins σ H s) (d : TkRd X.prog X.w H a kvs) (hb : NkAt H k (.ref b)) (hd : k.depth ≤ 8) (h : ∀ s', Inv X pins σ H s' → Q (.bool (!(valV kvs k).isSome)) s') :
    wpAny (model X.prog X.w) A (compareOp .NotIn (.ref b) (.ref a)) Q E s := by
  obtain ⟨z, y, xs, rel, dd⟩ := tk_dict I.hok d
  refine wpAny_notIn_heap (tk_room hu) (tk_is I.hok hb hd) y dd ?_
  have q := (tk_val rel k).isSome_eq
  rw [Option.isSome_map] at q
  rw [← q]
  exact h _ (I.tok _)
/-- d.get(k, x) -/
theorem tk_get2 {y : V} {Q : Value → Shared → Prop} (hu : A.units + 9 < cLine) (I : Inv X pins σ H s) (d : TkRd X.prog X.w H a kvs) (hb : NkAt H k (.ref b)) (hd : k.depth ≤ 8) (ry : RelV y r) (h : ∀ w' s', Inv X pins σ H s' → RelV ((valV kvs k).getD y) w' → Q w' s') :
    wpAny (model X.prog X.w) A (call (.builtin "dict.get") [.ref a, .ref b, r]) Q E s := by
  obtain ⟨z, y0, xs, rel, dd⟩ := tk_dict I.hok d
  exact call_meetsIn PySem.F.slot_dict_get dd.typeIs PySem.F.entry_dict_get (PySem.F.args_dict_get_3 _ _ _) (meetsH_dict_get_default (nestedKind X.prog X.w) a b y0 r) ⟨tk_room hu, k, xs, tk_is I.hok hb hd, dd, h _ _ (I.tok _) ((tk_val rel k).getD ry)⟩
theorem tk_written {h' : Heap} {t' : Nat} (I : Inv X pins σ H s) (d : TkAt X.prog X.w H a kvs) (hb : NkAt H k (.ref b)) (hd : k.depth ≤ 8) (rv : RelV v r) {xs : List (NestedKey × Addr × Value)} (e : H a = some (TkO X.prog X.w a xs)) (rel : Paired (TkR H) kvs xs) (y : (a == sysModules) = false) (hl : kvs.length < sizeLine)
    (dd : h'.DictOfH (nestedKind X.prog X.w) a (storedH xs k b r)) (hs : Heap.SameBut a s.heap h') : ∃ o, Inv X pins σ (upd H a o) { s with heap := h', toks := t' } ∧ TkAt X.prog X.w (upd H a o) a (putK kvs k v) := by
  have he : ∃ q, h'.get? a = some q := let ⟨q, _, _, hq, _⟩ := dd; ⟨q, hq⟩
  have rel2 := tk_put rel k hb hd rv
  have zl : (storedH xs k b r).length ≤ sizeLine := by
    rw [← Paired.length rel2]
    have := length_putK kvs k v
    omega
  refine ⟨TkO X.prog X.w a (storedH xs k b r), d_write I (by rw [e]; exact True.intro) hs he (tkO_ok zl y dd), _, upd_same, tkR_keep (fun p ys hp => hp.upd (d.ne hp)) rel2⟩
/-- d[k] = v -/
theorem tk_setItem {Q : Unit → Shared → Prop} (hu : A.units + 9 < cLine) (I : Inv X pins σ H s) (d : TkAt X.prog X.w H a kvs) (hb : NkAt H k (.ref b)) (hd : k.depth ≤ 8) (hl : kvs.length < sizeLine) (rv : RelV v r) (h : ∀ o s', Inv X pins σ (upd H a o) s' → TkAt X.prog X.w (upd H a o) a (putK kvs k v) → Q () s') :
    wpAny (model X.prog X.w) A (setItem (.ref a) (.ref b) r) Q E s := by
  obtain ⟨z, y, _⟩ := tk_dict I.hok (.inl d)
  obtain ⟨xs, e, rel⟩ := id d
  obtain ⟨_, ⟨_, f2, f3⟩, o, es, ep, g1, g2, g3, g4⟩ : True ∧ ((a == sysModules) = false ∧ xs.length ≤ sizeLine ∧ (xs.map (·.1)).Nodup) ∧ ∃ o es ep, s.heap.get? a = some o ∧ o.ExactDict ∧ o.data = .dict es ep ∧ es.toList = xs.map (entryOfKey (nestedKind X.prog X.w)) := ⟨trivial, (I.hok a _ e).1⟩
  have dd : s.heap.DictOfH (nestedKind X.prog X.w) a xs := ⟨o, es, ep, g1, g2, g3, g4, tk_all I.hok rel, f3⟩
  refine wpAny_setItem_heap (hsz := f2) (tk_room hu) (tk_is I.hok hb hd) dd fun h' dd' hs => ?_
  obtain ⟨o, I2, d2⟩ := tk_written (t' := s.toks + (nestedKind X.prog X.w).draws k) I d hb hd rv e rel y hl dd' hs
  exact h o _ I2 d2
/-- .. by a comprehension -/
theorem tk_dictSet {Q : Unit → Shared → Prop} (hu : A.units + 8 < cLine) (I : Inv X pins σ H s) (d : TkAt X.prog X.w H a kvs) (hb : NkAt H k (.ref b)) (hd : k.depth ≤ 8) (hl : kvs.length < sizeLine) (rv : RelV v r) (h : ∀ o s', Inv X pins σ (upd H a o) s' → TkAt X.prog X.w (upd H a o) a (putK kvs k v) → Q () s') :
    wpAny (model X.prog X.w) A (dictSet a (.ref b) r) Q E s := by
  obtain ⟨z, y, _⟩ := tk_dict I.hok (.inl d)
  obtain ⟨xs, e, rel⟩ := id d
  obtain ⟨_, ⟨_, f2, f3⟩, o, es, ep, g1, g2, g3, g4⟩ : True ∧ ((a == sysModules) = false ∧ xs.length ≤ sizeLine ∧ (xs.map (·.1)).Nodup) ∧ ∃ o es ep, s.heap.get? a = some o ∧ o.ExactDict ∧ o.data = .dict es ep ∧ es.toList = xs.map (entryOfKey (nestedKind X.prog X.w)) := ⟨trivial, (I.hok a _ e).1⟩
  have dd : s.heap.DictOfH (nestedKind X.prog X.w) a xs := ⟨o, es, ep, g1, g2, g3, g4, tk_all I.hok rel, f3⟩
  refine wpAny_dictSet_heap (hsz := f2) hu (tk_is I.hok hb hd) dd fun h' dd' hs => ?_
  obtain ⟨o, I2, d2⟩ := tk_written (t' := s.toks + (nestedKind X.prog X.w).draws k) I d hb hd rv e rel y hl dd' hs
  exact h o _ I2 d2
theorem tk_type (I : Inv X pins σ H s) (d : TkRd X.prog X.w H a kvs) : s.TypeIs (.ref a) "dict" := let ⟨_, _, _, _, dd⟩ := tk_dict I.hok d; dd.typeIs
theorem tk_plain (I : Inv X pins σ H s) (d : TkRd X.prog X.w H a kvs) : ∀ b, Value.ref a = .ref b → ∃ ob, s.heap.get? b = some ob ∧ ob.dict = none := fun b q => by
  cases q
  obtain ⟨_, _, xs, _, ob, _, _, h1, h2, _⟩ := tk_dict I.hok d
  exact ⟨ob, h1, h2.2.1⟩
end
/-! the rules -/
def tTNew (P : Program) (w : World) : TE := fun _ H Q => ∀ p o, H p = none → TkAt P w (upd H p o) p [] → Q (.ref p) (upd H p o)
def tTGet (P : Program) (w : World) (td ty : TE) : TE := fun σ H Q => td σ H fun x H1 => ty σ H1 fun y H2 => ∃ a b k kvs v, x = .ref a ∧ y = .ref b ∧ TkRd P w H2 a kvs ∧ NkAt H2 k (.ref b) ∧ k.depth ≤ 8 ∧ valV kvs k = some v ∧ Q v H2
def tTIn (P : Program) (w : World) (ty td : TE) : TE := fun σ H Q => ty σ H fun y H1 => td σ H1 fun x H2 => ∃ a b k kvs, x = .ref a ∧ y = .ref b ∧ TkRd P w H2 a kvs ∧ NkAt H2 k (.ref b) ∧ k.depth ≤ 8 ∧ Q (.bl (valV kvs k).isSome) H2
def tTNotIn (P : Program) (w : World) (ty td : TE) : TE := fun σ H Q => ty σ H fun y H1 => td σ H1 fun x H2 => ∃ a b k kvs, x = .ref a ∧ y = .ref b ∧ TkRd P w H2 a kvs ∧ NkAt H2 k (.ref b) ∧ k.depth ≤ 8 ∧ Q (.bl (!(valV kvs k).isSome)) H2
def tTGet2 (P : Program) (w : World) (td ty tx : TE) : TE := fun σ H Q => td σ H fun x H1 => ∃ a, x = .ref a ∧ (∃ kvs, TkRd P w H1 a kvs) ∧ ty σ H1 fun y H2 => tx σ H2 fun z H3 => ∃ b k kvs, y = .ref b ∧ TkRd P w H3 a kvs ∧ NkAt H3 k (.ref b) ∧ k.depth ≤ 8 ∧ Q ((valV kvs k).getD z) H3
def sTPut (P : Program) (w : World) (td ty tv : TE) : TS := fun D σ H => tv σ H fun v H1 => td σ H1 fun x H2 => ty σ H2 fun y H3 => ∃ a b k kvs, x = .ref a ∧ y = .ref b ∧ TkAt P w H3 a kvs ∧ NkAt H3 k (.ref b) ∧ k.depth ≤ 8 ∧ kvs.length < sizeLine ∧ ∀ o, TkAt P w (upd H3 a o) a (putK kvs k v) → D.nx σ (upd H3 a o)
section
variable {X : Cx} {o i e f value : Expr} {pos pos' apos cpos : Pos} {td ty tv tx : TE}
theorem tk_fresh {H : Hp} {p : Addr} {P : Program} {w : World} : TkAt P w (upd H p (TkO P w p [])) p [] := ⟨[], upd_same, .nil⟩
theorem pe_tnew : PE X (.Dict [] [] pos) (tTNew X.prog X.w) := ⟨fun pins s σ H Q I h =>
  wpAny_Dict_empty ⟨.ref s.heap.objs.size, _, I.laid (a := s.heap.objs.size) (o := TkO X.prog X.w s.heap.objs.size []) (t' := s.toks) (fun _ _ q => Heap.get?_push_of_some _ q) (Nat.le_refl _)
    (tkO_ok (Nat.zero_le _) (beq_eq_false_iff_ne.mpr (Ne.symm (Nat.ne_of_lt I.big))) (Heap.DictOfH.new s.heap)), rfl, h _ _ (I.hok.fresh (Nat.le_refl _)) tk_fresh⟩⟩
theorem pe_tget (hu : X.A.units + 9 < cLine) (ho : PE X o td) (hi : PE X i ty) (hs : NoSl i) : PE X (.Subscript o i pos) (tTGet X.prog X.w td ty) := by
  refine ⟨fun pins s σ H Q I h => ?_⟩
  refine subD_of PySem.F.slot_dict_getitem.lookup hs (thn (ho.run pins s σ H _ I h) fun u s1 ⟨x, H1, I1, rx, q1⟩ => thn (hi.run pins s1 σ H1 _ I1 q1) fun iv s2 ⟨y, H2, I2, ry, a, b, k, kvs, v, ex, ey, d, nk, dp, l, q2⟩ => ?_)
  subst ex ey
  obtain rfl : u = Value.ref a := rx
  obtain rfl : iv = Value.ref b := ry
  exact ⟨tk_type I2 d, tk_getItem hu I2 d nk dp l fun w' s3 I3 rw' => ⟨v, H2, I3, rw', q2⟩⟩
theorem pc_tin (hu : X.A.units + 9 < cLine) (hi : PE X i ty) (ho : PE X o td) : PC X .In i o (tTIn X.prog X.w ty td) := by
  refine ⟨fun pins s σ H Q I h => ?_⟩
  refine thn (hi.run pins s σ H _ I h) fun iv s1 ⟨y, H1, I1, ry, q1⟩ => thn (ho.run pins s1 σ H1 _ I1 q1) fun u s2 ⟨x, H2, I2, rx, a, b, k, kvs, ex, ey, d, nk, dp, q2⟩ => ?_
  subst ex ey
  obtain rfl : u = Value.ref a := rx
  obtain rfl : iv = Value.ref b := ry
  exact tk_in hu I2 d nk dp fun s3 I3 => ⟨.bl _, H2, I3, rfl, q2⟩
theorem pc_tnotin (hu : X.A.units + 9 < cLine) (hi : PE X i ty) (ho : PE X o td) : PC X .NotIn i o (tTNotIn X.prog X.w ty td) := by
  refine ⟨fun pins s σ H Q I h => ?_⟩
  refine thn (hi.run pins s σ H _ I h) fun iv s1 ⟨y, H1, I1, ry, q1⟩ => thn (ho.run pins s1 σ H1 _ I1 q1) fun u s2 ⟨x, H2, I2, rx, a, b, k, kvs, ex, ey, d, nk, dp, q2⟩ => ?_
  subst ex ey
  obtain rfl : u = Value.ref a := rx
  obtain rfl : iv = Value.ref b := ry
  exact tk_notIn hu I2 d nk dp fun s3 I3 => ⟨.bl _, H2, I3, rfl, q2⟩
theorem pe_tget2 (hu : X.A.units + 9 < cLine) (ho : PE X o td) (he : PE X e ty) (hf : PE X f tx) (m : M2 X o "get" apos e f cpos) : PE X (.Call (.Attribute o "get" apos) [e, f] [] cpos) (tTGet2 X.prog X.w td ty tx) := by
  refine ⟨fun pins s σ H Q I h => ?_⟩
  refine wpAny_Call_method m.base m.few m.line PySem.F.plainAttrs_dict PySem.F.slot_dict_get PySem.F.type_dict_get (thn (ho.run pins s σ H _ I h) fun u s1 ⟨x, H1, I1, rx, a, ex, ⟨kv0, d0⟩, q1⟩ => ?_)
  subst ex
  obtain rfl : u = Value.ref a := rx
  refine ⟨tk_type I1 d0, tk_plain I1 d0, ?_⟩
  rw [m.trees]
  refine Calls.callWith_builtin rfl (Calls.evalArgs_plain (Calls.spliced_cons (thn (he.run pins s1 σ H1 _ I1 q1) fun iv s2 ⟨y, H2, I2, ry, q2⟩ =>
    Calls.spliced_cons (thn (hf.run pins s2 σ H2 _ I2 q2) fun fv s3 ⟨z, H3, I3, rz, b, k, kvs, ey, d, nk, dp, q3⟩ => Calls.spliced_nil ?_))))
  subst ey
  obtain rfl : iv = Value.ref b := ry
  exact tk_get2 hu I3 d nk dp rz fun w' s4 I4 rw' => ⟨_, H3, I4, rw', q3⟩
theorem ps_tput (hu : X.A.units + 9 < cLine) (ho : PE X o td) (hi : PE X i ty) (hv : PE X value tv) (hs : swapsWith value (some (.Subscript o i pos')) pos.line X.env = pure false) :
    PS X (.Assign [.Subscript o i pos'] value pos) (sTPut X.prog X.w td ty tv) := by
  refine ⟨fun pins s σ H D I h => ?_⟩
  refine wpAny_Assign_Subscript (thn (hv.run pins s σ H _ I h) fun r s1 ⟨v, H1, I1, rv, q1⟩ => thn (ho.run pins s1 σ H1 _ I1 q1) fun u s2 ⟨x, H2, I2, rx, q2⟩ => thn (hi.run pins s2 σ H2 _ I2 q2) fun iv s3 ⟨y, H3, I3, ry, a, b, k, kvs, ex, ey, d, nk, dp, hl, q3⟩ => ?_) hs
  subst ex ey
  obtain rfl : u = Value.ref a := rx
  obtain rfl : iv = Value.ref b := ry
  exact tk_setItem hu I3 d nk dp hl rv fun o s4 I4 d4 => ⟨σ, _, I4, q3 o d4⟩
end
end L2

/-! dicts by tuples: walked, listed, counted, written as comprehensions -/
namespace L2
open PySem PySem.Spec PyProof.Rows
section
variable {X : Cx} {pins : List (Addr × Obj)} {σ : St} {H : Hp} {s : Shared} {d : Addr} {od : Obj} {kvs : List (NestedKey × V)}
/-- what a locked one's object holds -/
theorem tk_locked (I : Inv X pins σ H s) (h : TkFz X.prog X.w H d od kvs) : ((d == sysModules) = false ∧ s.heap.get? d = some od ∧ od.ExactDict ∧ kvs.length ≤ sizeLine) ∧ ∃ (es : Array DictEntry) (ep : Nat), od.data = .dict es ep ∧ es.size = kvs.length ∧
    ∀ (i : Nat) (k : NestedKey) (v : V), kvs[i]? = some (k, v) → ∃ (en : DictEntry) (q : Addr), es[i]? = some en ∧ en.key = .ref q ∧ NkAt H k (.ref q) := by
  obtain ⟨xs, e, r⟩ := h
  obtain ⟨here, ⟨⟨y, z, _⟩, ob, es, ep, g1, g2, g3, g4⟩, _⟩ := I.hok d _ e
  rw [here] at g1
  cases g1
  have ln := Paired.length r
  refine ⟨⟨y, here, g2, by rw [ln]; exact z⟩, es, ep, g3, (size_of_entries g4).trans ln.symm, fun i k v ei => ?_⟩
  obtain ⟨q, hq, q1, q2, _⟩ := paired_get r ei
  have en := entry_at g4 i
  rw [hq] at en
  exact ⟨_, q.2.1, en, rfl, by have := q2.1; exact this⟩
end
/-- the keys of a locked one, in their order -/
def ItT (P : Program) (w : World) (d : Addr) (od : Obj) (kvs : List (NestedKey × V)) : It where
  go i H := TkFz P w H d od kvs ∧ i < kvs.length
  yld i H x H' := H' = H ∧ ∃ k v q, kvs[i]? = some (k, v) ∧ x = .ref q ∧ NkAt H k (.ref q)
  stop i H := TkFz P w H d od kvs ∧ kvs.length ≤ i
theorem walk_tkeys {P : Program} {w : World} {d : Addr} {od : Obj} {kvs : List (NestedKey × V)} : Walk (ItT P w d od kvs) kvs.length (fun H => TkFz P w H d od kvs) (fun i H x H' => H' = H ∧ ∃ k v q, kvs[i]? = some (k, v) ∧ x = .ref q ∧ NkAt H k (.ref q)) where
  goes := fun _ _ lt q => ⟨q, lt⟩
  stops := fun _ q => ⟨q, Nat.le_refl _⟩
  yields := fun _ _ _ _ _ _ y => y
theorem turn_tkeys {P : Program} {w : World} {K : PySem.W.Frag} {tg : Expr} {d : Addr} {od : Obj} {es : Array DictEntry} {ep : Nat} {kvs : List (NestedKey × V)} (it : Addr) (dat : od.data = .dict es ep) :
    Turn P w K tg (ItT P w d od kvs) [it] it (fun i h => h.IsKeyIter it d i kvs.length ep) where
  mem := List.mem_singleton.mpr rfl
  obj := fun _ _ st b hb => by
    rw [List.mem_singleton.mp hb]
    obtain ⟨oi, e, _, fld⟩ := st
    exact ⟨oi, e, fun v z => by rw [fld] at z; cases z⟩
  keep := fun _ _ _ st k => st.at fun oi e => k it (List.mem_singleton.mpr rfl) oi e
  item := by
    intro X eP eW eK calm i pins s σ H E I off st here
    subst eP eW eK
    obtain ⟨fz, lt⟩ := here
    obtain ⟨f0, f1, _, f3, f4, f5⟩ := off it (List.mem_singleton.mpr rfl)
    obtain ⟨⟨_, at_, _, _⟩, es2, ep2, dat2, sz, ent⟩ := tk_locked I fz
    obtain ⟨rfl, rfl⟩ := dict_ep dat dat2
    obtain ⟨en, q, hen, hkey, nk⟩ := ent i kvs[i].1 kvs[i].2 (List.getElem?_eq_getElem lt)
    refine next_key_item st at_ dat2 sz hen fun h2 st2 sb => ?_
    have I2 : Inv X pins σ H { s with heap := h2 } := I.turned (t' := s.toks) (fun b ob ne e => (sb.2 b ne).trans e) f0 f1 f3 f4 f5
    obtain ⟨oi, e, cl, fld⟩ := id st2
    exact ⟨en.key, rfl, go_of (s := { s with heap := h2 }) e cl fld (by decide) ⟨.ref q, H, I2, hkey, ⟨rfl, _, _, q, List.getElem?_eq_getElem lt, rfl, nk⟩, st2, fun b hb => (off b hb).1⟩⟩
  done := by
    intro X eP eW eK calm i pins s σ H E I off st here
    subst eP eW eK
    obtain ⟨fz, ge⟩ := here
    obtain ⟨f0, f1, _, f3, f4, f5⟩ := off it (List.mem_singleton.mpr rfl)
    obtain ⟨⟨_, at_, _, _⟩, es2, ep2, dat2, sz, _⟩ := tk_locked I fz
    obtain ⟨rfl, rfl⟩ := dict_ep dat dat2
    exact next_key_end (I.ok.hd calm) st at_ dat2 sz ge fun h2 eb => ⟨rfl, I.turned (t' := s.toks) (fun b ob ne e => eb b ob ne e) f0 f1 f3 f4 f5⟩
  self := fun A i s Q E st h => wpAny_pyIter_keyiter st h
/-- for k in d, d locked -/
def iTKeys (P : Program) (w : World) (td : TE) : TI := fun σ H R => td σ H fun x H1 => ∃ d od kvs, x = .ref d ∧ TkFz P w H1 d od kvs ∧ R (ItT P w d od kvs) H1
theorem pi_tkeys {X : Cx} {tg e : Expr} {td : TE} (he : PE X e td) : PI X tg e (iTKeys X.prog X.w td) := by
  refine ⟨fun pins s σ H R I h => thn (he.run pins s σ H _ I h) fun u s1 ⟨x, H1, I1, rx, d, od, kvs, ex, fz, q⟩ => ?_⟩
  subst ex
  cases (show u = Value.ref d from rx)
  obtain ⟨⟨y, at_, exact_, _⟩, es, ep, dat, sz, _⟩ := tk_locked I1 fz
  refine iter_keys y at_ exact_ dat (pi_one (tk := s1.toks) I1 _ (turn_tkeys _ dat) ⟨_, Heap.get?_push_size _ rfl, rfl, ?_⟩ q)
  rw [sz] <;> rfl
section
variable {X : Cx}
theorem tk_addrs {H : Hp} {kvs : List (NestedKey × V)} {ys : List (NestedKey × Addr × Value)} (pr : Paired (TkR H) kvs ys) : Paired (fun (kv : NestedKey × V) b => NkAt H kv.1 (.ref b)) kvs (ys.map fun x => x.2.1) := by
  induction pr with
  | nil => exact .nil
  | cons a t ih => exact .cons a.2.1.1 ih
/-- list(d) -/
def rListTk (P : Program) (w : World) : List V → Hp → VK → Prop := fun xs H Q => ∃ d kvs, xs = [V.ref d] ∧ TkAt P w H d kvs ∧ ∀ p bs, H p = none → Paired (fun (kv : NestedKey × V) b => NkAt H kv.1 (.ref b)) kvs bs → Q (.ref p) (upd H p (.lst (bs.map V.ref)))
theorem call_list_tk (calm : X.calm = true) : CallR X (.type "list") (rListTk X.prog X.w) := by
  intro pins s σ H xs us Q I r h
  obtain ⟨d, kvs, rfl, ⟨ys, hd, pr⟩, q⟩ := h
  obtain ⟨u, rfl, rx⟩ := r.one
  cases rx
  obtain ⟨⟨⟨y, z, _⟩, ob, es, ep, g1, g2, g3, g4⟩, _⟩ := I.hok d _ hd
  have l1 : es.size = ys.length := size_of_entries g4
  refine PySem.W.kdl_call (kdl_raw y g2 g3) (I.ok.hd calm) g1 (by omega) fun h2 tk acc c kp e it => ?_
  have told : acc.toList = (ys.map fun x => x.2.1).map Value.ref := by
    have la : acc.toList.length = ys.length := by rw [Array.length_toList, it.1]; exact l1
    refine List.ext_getElem? fun j => ?_
    rw [List.map_map, List.getElem?_map]
    by_cases lt : j < ys.length
    · obtain ⟨en, hen, hv⟩ := it.2 j (acc.toList[j]'(by omega)) (by rw [← Array.getElem?_toList, List.getElem?_eq_getElem])
      have en2 := entry_at g4 j
      rw [hen, List.getElem?_eq_getElem lt] at en2
      rw [List.getElem?_eq_getElem (by omega), hv, Option.some.inj en2, List.getElem?_eq_getElem lt]
      rfl
    · rw [List.getElem?_eq_none (by omega), List.getElem?_eq_none (by omega)]
      rfl
  have rv : Vals ((ys.map fun x => x.2.1).map V.ref) acc.toList := by rw [told]; exact vals_refs _
  refine ⟨.ref s.heap.objs.size, _, I.laid (t' := tk) (o := .lst ((ys.map fun x => x.2.1).map V.ref)) kp (Nat.le_refl _) ⟨by rw [List.length_map, List.length_map]; exact z, acc.toList, c, rv, by rw [Array.toArray_toList]; exact e⟩, rfl, q _ _ (I.hok.fresh (Nat.le_refl _)) (tk_addrs pr)⟩
/-- len(d) -/
def rLenTk (P : Program) (w : World) : List V → Hp → VK → Prop := fun xs H Q => ∃ d kvs, xs = [V.ref d] ∧ TkRd P w H d kvs ∧ Q (.int ((kvs.length : Nat) : Int)) H
theorem call_len_tk : CallR X (.builtin "len") (rLenTk X.prog X.w) := by
  intro pins s σ H xs us Q I r h
  obtain ⟨d, kvs, rfl, hd, q⟩ := h
  obtain ⟨u, rfl, rx⟩ := r.one
  cases rx
  obtain ⟨z, y, ys, rel, dd⟩ := tk_dict I.hok hd
  have ln := Paired.length rel
  refine call_len_dictH y dd (by rw [← ln]; rw [sizeLine_eq] at z; omega) ?_
  rw [← ln]
  exact ⟨.int ((kvs.length : Nat) : Int), H, I.tok _, ⟨_, rfl⟩, q⟩
/-- {k: v for target in iter if ..}, keys tuples: D the new dict -/
def tTDc (P : Program) (w : World) (wi : TI) (g : TG) (tt : TT) (tk tv : TE) (vs : List Nat) : TE := fun σ H Q => wi σ H fun J H1 => ∀ D o0, H1 D = none → TkAt P w (upd H1 D o0) D [] → ∃ W : Nat → Nat → Hp → Prop, (∃ m, W 0 m (upd H1 D o0)) ∧ ∀ i m H, W i m H →
  (J.stop i H ∧ Q (.ref D) H) ∨ (J.go i H ∧ ∃ Nx : Hp → Prop, (∀ H', Nx H' → ∃ m', m' < m ∧ W (i + 1) m' H') ∧ ∀ x H', J.yld i H x H' → g x (wipe σ vs) H' fun σ2 H2 => wipe σ2 vs = wipe σ vs ∧ tt σ2 H2 fun b H3 =>
    if b = true then tk σ2 H3 fun y H4 => tv σ2 H4 fun z H5 => ∃ q k kvs, y = .ref q ∧ NkAt H5 k (.ref q) ∧ k.depth ≤ 8 ∧ TkAt P w H5 D kvs ∧ kvs.length < sizeLine ∧ ∀ o, TkAt P w (upd H5 D o) D (putK kvs k z) → Nx (upd H5 D o) else Nx H3)
theorem dc_coreT {pins : List (Addr × Obj)} {s : Shared} {σ : St} {H : Hp} {Q : VK} {kx vx tg iter : Expr} {ifs : List Expr} {scope : Scope} {own : List (Str × Nat)} {pos ipos : Pos} {wi : TI} {g : TG} {tt : TT} {tk tv : TE} {use : Option (Value → Sem Unit)} {Qf : Value → Shared → Prop}
    (room : X.A.units + 8 < cLine) (calm : X.calm = true) (nd : X.N.Nodup) (I : Inv X pins σ H s) (over : PI X tg iter wi) (ok : BlkOk X.N X.env.scope scope own)
    (tgt : ∀ (s : Shared) (H : Hp) (C : Addr) (cl : List (Str × Addr)) (fp : List Addr), PG (X.blk s H scope (compEnvC scope cl C X.env) fp) tg g)
    (tst : ∀ (s : Shared) (H : Hp) (C : Addr) (cl : List (Str × Addr)) (fp : List Addr), PTs (X.blk s H scope (compEnvC scope cl C X.env) fp) ifs tt)
    (key : ∀ (s : Shared) (H : Hp) (C : Addr) (cl : List (Str × Addr)) (fp : List Addr), PE (X.blk s H scope (compEnvC scope cl C X.env) fp) kx tk)
    (val : ∀ (s : Shared) (H : Hp) (C : Addr) (cl : List (Str × Addr)) (fp : List Addr), PE (X.blk s H scope (compEnvC scope cl C X.env) fp) vx tv) (plain : ∀ x, foldedSetIterable iter X.env x = pure x)
    (reads : tTDc X.prog X.w wi g tt tk tv (own.map (·.2)) σ H Q)
    (last : ∀ D C s' m H', Inv X pins σ H' s' → Q (.ref D) H' → s'.heap.Ns C m → FpOk X pins H' C → compPost (model X.prog X.w) X.A X.xe use Qf (.ref D) C (.ok .next) s') :
    wpAny (model X.prog X.w) X.A (comprehension (.DictComp kx vx [⟨tg, iter, ifs, 0⟩] scope pos) scope X.env ipos newDict false (eval iter X.env) use) Qf X.xe s := by
  have captured : ∀ y ∈ scope.names, y.2 = .free → ∃ c, X.env.cells.lookup y.1 = some c := fun y hy e =>
    (ok.free y hy e).elim (fun k => I.ok.has _ (.inl k)) fun k => I.ok.has _ (.inr k)
  refine wpAny_comprehension_free (use := use) rfl plain (closure_ok captured) ok.kind (fun y hy e => by rw [ok.uniq y hy, e])
    (thn (over.run pins s σ H _ I reads) fun xv s1 hx => thn hx fun itv s2 got => ?_)
  obtain ⟨it, fp, tn, J, H2, eit, I2, T, st2, free2, q⟩ := got
  subst eit
  refine wpAny_newObj_type (newEnv_comp ?_)
  obtain ⟨D, hD⟩ : ∃ D, s2.heap.objs.size = D := ⟨_, rfl⟩
  rw [hD]
  have new : H2 D = none := I2.hok.fresh (Nat.le_of_eq hD)
  obtain ⟨W, ⟨m0, w0⟩, turns⟩ := q D (TkO X.prog X.w D []) new tk_fresh
  obtain ⟨s3, hs3⟩ : ∃ s3 : Shared, ({ s2 with heap := s2.heap.push { cls := .type "dict", data := .dict #[] } } : Shared) = s3 := ⟨_, rfl⟩
  have hp3 : s3.heap = s2.heap.push { cls := .type "dict", data := .dict #[] } := by rw [← hs3]
  obtain ⟨H3, hH3⟩ : ∃ H3, upd H2 D (TkO X.prog X.w D []) = H3 := ⟨_, rfl⟩
  have I3 : Inv X pins σ H3 s3 := by
    rw [← hs3, ← hH3]
    refine I2.laid (t' := s2.toks) (fun b o e => Heap.get?_push_of_some _ e) (Nat.le_of_eq hD) ?_
    rw [← hD]
    exact tkO_ok (Nat.zero_le _) (beq_eq_false_iff_ne.mpr (Ne.symm (Nat.ne_of_lt I2.big))) (Heap.DictOfH.new s2.heap)
  have below : ∀ b ∈ fp, b < s2.heap.objs.size := fun b hb => let ⟨_, e, _⟩ := T.obj _ _ st2 b hb; Heap.lt_size e
  have free3 : ∀ b ∈ fp, FpOk X pins H3 b ∧ b < s3.heap.objs.size := fun b hb => by
    have lt := below b hb
    refine ⟨⟨?_, (free2 b hb).2⟩, by rw [hp3, Heap.size_push]; exact Nat.lt_succ_of_lt lt⟩
    rw [← hH3, upd_ne (by rw [← hD]; exact Nat.ne_of_lt lt)]
    exact (free2 b hb).1
  have st3 : tn 0 s3.heap := T.keep _ _ _ st2 fun b _ o e => by rw [hp3]; exact Heap.get?_push_of_some _ e
  rw [hH3] at w0
  have I4 := block_start I3 ok nd free3
  have ptg := tgt s3 H3 s3.heap.objs.size (cellsFrom (s3.heap.objs.size + 1) scope.names (cloFrom X.env.cells scope.names [])) fp
  have pts := tst s3 H3 s3.heap.objs.size (cellsFrom (s3.heap.objs.size + 1) scope.names (cloFrom X.env.cells scope.names [])) fp
  have pky := key s3 H3 s3.heap.objs.size (cellsFrom (s3.heap.objs.size + 1) scope.names (cloFrom X.env.cells scope.names [])) fp
  have pvl := val s3 H3 s3.heap.objs.size (cellsFrom (s3.heap.objs.size + 1) scope.names (cloFrom X.env.cells scope.names [])) fp
  rw [hs3]
  show codeAny _ _ (.compStart (.DictComp kx vx [⟨tg, iter, ifs, 0⟩] scope pos) 0 (.ref it) (.ref D) (compEnvC scope (cellsFrom (s3.heap.objs.size + 1) scope.names (cloFrom X.env.cells scope.names [])) s3.heap.objs.size X.env)) (compPost (model X.prog X.w) X.A X.xe use Qf (.ref D) s3.heap.objs.size) { s3 with heap := pushCells (s3.heap.push { cls := .type "dict", data := .dict #[] }) scope.names }
  have nfp : ∀ b ∈ fp, H3 b = none := fun b hb => (free3 b hb).1.1
  generalize hce : compEnvC scope (cellsFrom (s3.heap.objs.size + 1) scope.names (cloFrom X.env.cells scope.names [])) s3.heap.objs.size X.env = ce at I4 ptg pts pky pvl ⊢
  have cL : ce.locals = s3.heap.objs.size := by subst hce; rfl
  generalize hs4 : ({ s3 with heap := pushCells (s3.heap.push { cls := .type "dict", data := .dict #[] }) scope.names } : Shared) = s4 at I4 ⊢
  have st4 : tn 0 s4.heap := T.keep _ _ _ st3 fun b _ o e => by rw [← hs4]; exact pushCells_keeps _ _ _ _ (Heap.get?_push_of_some _ e)
  have stands : ∀ {σ' : St} {H' : Hp} {s' : Shared}, Inv (X.blk s3 H3 scope ce fp) [] σ' H' s' → (∀ b ∈ fp, H' b = none) → ∀ b ∈ fp, FpOk (X.blk s3 H3 scope ce fp) [] H' b := fun {σ' H' s'} I' hn b hb =>
    ⟨hn b hb, (I'.ok.exf b hb).1, I'.ok.exfs b hb, .inl hb, fun x c e => (I'.ok.exf b hb).2 x c e, fun p hp => absurd (show p ∈ ([] : List (Addr × Obj)) ++ [] from hp) (by simp)⟩
  refine codeAny_compStart_dict ?loop (T.self X.A 0 _ _ _ st4 ?loop)
  case loop =>
    refine compLoop_anyD (fun n s' => ∃ i H', Inv (X.blk s3 H3 scope ce fp) [] (wipe σ (own.map (·.2))) H' s' ∧ tn i s'.heap ∧ (∀ b ∈ fp, H' b = none) ∧ W i n H') ?_ m0 ⟨0, H3, I4, st4, nfp, w0⟩
    rintro n s5 ⟨i, H5, I5, st5, n5, w5⟩
    rcases turns i n H5 w5 with ⟨stop, qq⟩ | ⟨go, Nx, less, step⟩
    · refine thnF (T.done (X.blk s3 H3 scope ce fp) rfl rfl rfl calm i [] s5 _ H5 (fun _ _ => False) I5 (stands I5 n5) st5 stop) fun r s6 ⟨hr, I6⟩ => ?_
      subst hr
      have I7 : Inv X pins σ H5 s6 := I3.call' (ch := fp) I6.os I6.base I6.hok I6.bare fun b hb => ⟨(free3 b hb).1.2.2.2.1, (free3 b hb).1.2.1, (free3 b hb).1.2.2.2.2.1, (free3 b hb).1.2.2.2.2.2⟩
      have nC : H5 s3.heap.objs.size = none := by
        have z : H5 ce.locals = none := I6.free
        rw [cL] at z
        exact z
      obtain ⟨m, hn, _⟩ := I6.loc
      have hn : s6.heap.Ns ce.locals m := hn
      rw [cL] at hn
      exact last D s3.heap.objs.size s6 m H5 I7 qq hn (I3.fpOk (Nat.le_refl _) nC)
    · refine thnF (T.item (X.blk s3 H3 scope ce fp) rfl rfl rfl calm i [] s5 _ H5 (fun _ _ => False) I5 (stands I5 n5) st5 go) fun r s6 ⟨u, hr, h6⟩ => ?_
      subst hr
      refine thnF h6 fun _ s7 ⟨x, H7, I7, r7, y7, st7, n7⟩ => ?_
      refine thnF (ptg.run _ s7 _ H7 x u _ (I7.pinned (stands I7 n7) (T.obj _ _ st7)) r7 (step x H7 y7)) fun _ s8 ⟨σ8, H8, I8, hw8, q8⟩ => ?_
      refine thnF (pts.run _ s8 σ8 H8 _ I8 q8) fun b s9 ⟨H9, I9, q9⟩ => ?_
      have next : ∀ {s' : Shared} {H' : Hp}, Inv (X.blk s3 H3 scope ce fp) ([] ++ pinsAt fp s7.heap) σ8 H' s' → Nx H' → ∃ m, m < n ∧ ∃ i H', Inv (X.blk s3 H3 scope ce fp) [] (wipe σ (own.map (·.2))) H' s' ∧ tn i s'.heap ∧ (∀ b ∈ fp, H' b = none) ∧ W i m H' := fun {s' H'} I' nx => by
        obtain ⟨m', hm, w'⟩ := less H' nx
        have kept : ∀ b ∈ fp, ∀ o, s7.heap.get? b = some o → s'.heap.get? b = some o ∧ H' b = none := fun b hb o e =>
          let z := I'.pin (b, o) (List.mem_append_right _ (List.mem_append_right _ (mem_pinsAt hb e)))
          ⟨z.1, z.2.1⟩
        refine ⟨m', hm, i + 1, H', (I'.unpinned (pins := [])).weak (by rw [← hw8, wipe_length]) (fun j v e => ?_), T.keep _ _ _ st7 fun b hb o e => (kept b hb o e).1, fun b hb => ?_, w'⟩
        · rw [← hw8] at e
          exact (wipe_some e).1
        · obtain ⟨o, e, _⟩ := T.obj _ _ st7 b hb
          exact (kept b hb o e).2
      cases b with
      | false => exact next I9 q9
      | true =>
        refine thnF (pky.run _ s9 σ8 H9 _ I9 q9) fun zk s10 ⟨yk, H10, I10, r10, q10⟩ => ?_
        refine thnF (pvl.run _ s10 σ8 H10 _ I10 q10) fun zv s11 ⟨yv, H11, I11, r11, kq, k, kvs, ek, nk, dp, dd, hz, nx⟩ => ?_
        subst ek
        cases (show zk = Value.ref kq from r10)
        exact tk_dictSet (X := X.blk s3 H3 scope ce fp) room I11 dd nk dp hz r11 fun o s12 I12 d12 => next I12 (nx o d12)
variable {kx vx tg iter : Expr} {ifs : List Expr} {scope : Scope} {own : List (Str × Nat)} {pos spos : Pos} {wi : TI} {g : TG} {tt : TT} {tk tv : TE}
/-- as a value -/
theorem pe_tdc (room : X.A.units + 8 < cLine) (calm : X.calm = true) (nd : X.N.Nodup) (over : PI X tg iter wi) (ok : BlkOk X.N X.env.scope scope own)
    (tgt : ∀ (s : Shared) (H : Hp) (C : Addr) (cl : List (Str × Addr)) (fp : List Addr), PG (X.blk s H scope (compEnvC scope cl C X.env) fp) tg g)
    (tst : ∀ (s : Shared) (H : Hp) (C : Addr) (cl : List (Str × Addr)) (fp : List Addr), PTs (X.blk s H scope (compEnvC scope cl C X.env) fp) ifs tt)
    (key : ∀ (s : Shared) (H : Hp) (C : Addr) (cl : List (Str × Addr)) (fp : List Addr), PE (X.blk s H scope (compEnvC scope cl C X.env) fp) kx tk)
    (val : ∀ (s : Shared) (H : Hp) (C : Addr) (cl : List (Str × Addr)) (fp : List Addr), PE (X.blk s H scope (compEnvC scope cl C X.env) fp) vx tv) (plain : ∀ x, foldedSetIterable iter X.env x = pure x := by intro _; rfl) :
    PE X (.DictComp kx vx [⟨tg, iter, ifs, 0⟩] scope pos) (tTDc X.prog X.w wi g tt tk tv (own.map (·.2))) := by
  refine ⟨fun pins s σ H Q I h => ?_⟩
  rw [arm_eval_DictComp]
  refine dc_coreT room calm nd I over ok tgt tst key val plain h fun D C s' m H' I' q hn f => ⟨m, hn, fun h2 sb => ?_⟩
  obtain ⟨f0, f1, _, f3, f4, f5⟩ := f
  exact ⟨.ref D, H', I'.turned (t' := s'.toks) (fun b o ne e => (sb.2 b ne).trans e) f0 f1 f3 f4 f5, rfl, q⟩
/-- name = {.. for ..} on one line, the name a local -/
theorem ps_setTdc {i : Nat} {y : Str} {py : Pos} (room : X.A.units + 8 < cLine) (calm : X.calm = true) (nd : X.N.Nodup) (hy : X.N[i]? = some y) (loc : X.env.scope.names.lookup y = some .local)
    (sw : swapsWith (.DictComp kx vx [⟨tg, iter, ifs, 0⟩] scope pos) (some (.Name y py)) spos.line X.env = pure true) (over : PI X tg iter wi) (ok : BlkOk X.N X.env.scope scope own)
    (tgt : ∀ (s : Shared) (H : Hp) (C : Addr) (cl : List (Str × Addr)) (fp : List Addr), PG (X.blk s H scope (compEnvC scope cl C X.env) fp) tg g)
    (tst : ∀ (s : Shared) (H : Hp) (C : Addr) (cl : List (Str × Addr)) (fp : List Addr), PTs (X.blk s H scope (compEnvC scope cl C X.env) fp) ifs tt)
    (key : ∀ (s : Shared) (H : Hp) (C : Addr) (cl : List (Str × Addr)) (fp : List Addr), PE (X.blk s H scope (compEnvC scope cl C X.env) fp) kx tk)
    (val : ∀ (s : Shared) (H : Hp) (C : Addr) (cl : List (Str × Addr)) (fp : List Addr), PE (X.blk s H scope (compEnvC scope cl C X.env) fp) vx tv) (plain : ∀ x, foldedSetIterable iter X.env x = pure x := by intro _; rfl) :
    PS X (.Assign [.Name y py] (.DictComp kx vx [⟨tg, iter, ifs, 0⟩] scope pos) spos) (tAsg (tTDc X.prog X.w wi g tt tk tv (own.map (·.2))) (gName i)) := by
  refine ⟨fun pins s σ H D I h => ?_⟩
  rw [exec_Assign_Name_used _ _ _ _ sw]
  refine wpAny_bind (wpAny_standAt (wpAny_bind ?_))
  show wpAny _ X.A (do let _ ← comprehension (.DictComp kx vx [⟨tg, iter, ifs, 0⟩] scope pos) scope X.env (firstIterPos [⟨tg, iter, ifs, 0⟩] pos) newDict false (eval iter X.env) (some (assign (.Name y py) X.env))) _ _ s
  have h : tTDc X.prog X.w wi g tt tk tv (own.map (·.2)) σ H (fun x H1 => gName i x σ H1 D.nx) := h
  refine wpAny_bind (thn (dc_coreT (Qf := fun _ s' => SP X pins D .next s') room calm nd I over ok tgt tst key val plain h fun L C s' m H' I' q hn f => ?_) fun _ s' hq => wpAny_pure (wpAny_pure hq))
  show wpAny _ _ (assign (.Name y py) X.env (.ref L)) _ _ _
  refine wpAny_assign_Name (store_ok2 (v := V.ref L) I' nd hy (.inl loc) rfl (fun s2 I2 ⟨a, sb, ha⟩ => ?_) (.inr loc))
  obtain ⟨f0, f1, _, f3, f4, f5⟩ := f
  have haC : C ≠ a := by
    rcases ha with z | z
    · rw [z]; exact f1
    · exact fun e => f4 y a z e.symm
  exact ⟨m, hn.sameBut sb haC, fun h3 sb3 => ⟨_, H', I2.turned (t' := s2.toks) (fun b o ne e => (sb3.2 b ne).trans e) f0 f1 f3 f4 f5, q⟩⟩
/-- its reading, over anything that is walked -/
theorem dc_itT {P : Program} {w : World} {J : It} {n : Nat} {G : Hp → Prop} {Y : Nat → Hp → V → Hp → Prop} (wk : Walk J n G Y) {g : TG} {tt : TT} {tk tv : TE} {vs : List Nat} {σ : St} {H1 : Hp} {D : Addr} {o0 : HO} {Qd : Hp → Prop} (Pv : Nat → Hp → Prop) (h0 : Pv 0 (upd H1 D o0)) (hG : ∀ i H, i ≤ n → Pv i H → G H)
    (hs : ∀ i x H H', i < n → Pv i H → Y i H x H' → g x (wipe σ vs) H' fun σ2 H2 => wipe σ2 vs = wipe σ vs ∧ tt σ2 H2 fun b H3 =>
      if b = true then tk σ2 H3 fun y H4 => tv σ2 H4 fun z H5 => ∃ q k kvs, y = .ref q ∧ NkAt H5 k (.ref q) ∧ k.depth ≤ 8 ∧ TkAt P w H5 D kvs ∧ kvs.length < sizeLine ∧ ∀ o, TkAt P w (upd H5 D o) D (putK kvs k z) → Pv (i + 1) (upd H5 D o) else Pv (i + 1) H3) (hd : ∀ H, Pv n H → Qd H) :
    ∃ W : Nat → Nat → Hp → Prop, (∃ m, W 0 m (upd H1 D o0)) ∧ ∀ i m H, W i m H →
      (J.stop i H ∧ Qd H) ∨ (J.go i H ∧ ∃ Nx : Hp → Prop, (∀ H', Nx H' → ∃ m', m' < m ∧ W (i + 1) m' H') ∧ ∀ x H', J.yld i H x H' → g x (wipe σ vs) H' fun σ2 H2 => wipe σ2 vs = wipe σ vs ∧ tt σ2 H2 fun b H3 =>
        if b = true then tk σ2 H3 fun y H4 => tv σ2 H4 fun z H5 => ∃ q k kvs, y = .ref q ∧ NkAt H5 k (.ref q) ∧ k.depth ≤ 8 ∧ TkAt P w H5 D kvs ∧ kvs.length < sizeLine ∧ ∀ o, TkAt P w (upd H5 D o) D (putK kvs k z) → Nx (upd H5 D o) else Nx H3) := by
  refine ⟨fun i m H => m = n - i ∧ i ≤ n ∧ Pv i H, ⟨n, by simp, Nat.zero_le _, h0⟩, fun i m H ⟨em, hi, p⟩ => ?_⟩
  subst em
  have here := hG i H hi p
  by_cases lt : i < n
  · exact .inr ⟨wk.goes i H lt here, Pv (i + 1), fun H' p' => ⟨n - (i + 1), by omega, rfl, lt, p'⟩, fun x H' y => hs i x H H' lt p (wk.yields i H x H' lt here y)⟩
  · obtain rfl : i = n := by omega
    exact .inl ⟨wk.stops H here, hd H p⟩
end
end L2

/-! sorted(xs), xs plain tuples of ints, any number of them -/
namespace L2
open PySem PySem.Spec PyProof.Rows PySem.W
def rowD (ns : List Int) : PyData := .tuple (ns.map .int)
theorem le_rows {β : Type} (k : β → List Int) : dataLe false (fun b => rowD (k b)) = fun p q => decide (k p ≤ k q) := by
  funext p q
  show (!dataLt (.tuple ((k q).map .int)) (.tuple ((k p).map .int))) = _
  rw [dataLt_tuple]
  show (!rowLt ((k q).map .int) ((k p).map .int)) = _
  rw [dataLt_ints, Bool.eq_iff_iff, Bool.not_eq_true', decide_eq_false_iff_not, decide_eq_true_eq]
  exact List.not_lt
theorem reads_ints {h : Heap} : ∀ {ns : List Int} {us : List Value}, Vals (ns.map V.int) us → ReadsAll h us (ns.map .int) []
  | [], _, .nil => .nil
  | n :: ns, _, .cons ⟨t, e⟩ r => by
    subst e
    exact ReadsAll.cons (as := []) (.int n t) (reads_ints r)
theorem depth_row (ns : List Int) : (rowD ns).depth ≤ 1 := by
  unfold rowD
  simp [PyData.depth, depth_ints]
theorem alike_rows (a b : List Int) : alike (rowD a) (rowD b) = true := by
  unfold rowD
  simp [alike, alike_ints]
theorem each_of : ∀ {xs : List V} {us : List Value}, Vals xs us → EachIs (fun v b => RelV b v) us xs
  | _, _, .nil => .nil
  | _, _, .cons r t => .cons r (each_of t)
theorem of_each : ∀ {us : List Value} {xs : List V}, EachIs (fun v b => RelV b v) us xs → Vals xs us
  | _, _, .nil => .nil
  | _, _, .cons r t => .cons r (of_each t)
/-- k tells each one's ints, at least one -/
def rSortedRows (K : PySem.W.Frag) : List V → Hp → VK → Prop := fun vs H Q => ∃ (a : Addr) (xs : List V) (k : V → List Int), vs = [V.ref a] ∧ SqL K H a xs ∧ (∀ x ∈ xs, k x ≠ [] ∧ ∃ t, x = V.ref t ∧ Ptp H t ((k x).map V.int)) ∧
  ∀ ys p, ys.Perm xs → ys.Pairwise (fun x y => k x ≤ k y) → H p = none → Q (.ref p) (upd H p (.lst ys))
theorem cr_sortedRows {X : Cx} (hu : X.A.units + 64 < cLine) : CallR X (.builtin "sorted") (rSortedRows X.K) := by
  intro pins s σ H vs us Q I r h
  obtain ⟨a, xs, k, rfl, hs, hx, q⟩ := h
  obtain ⟨its, rv, hl, hz⟩ := I.list hs
  rw [Vals.ref1 r]
  have reads : ∀ (zs : List V) (ws : List Value), Vals zs ws → (∀ z ∈ zs, z ∈ xs) → EachIs (fun v b => ∃ as, Reads s.heap v (rowD (k b)) as) ws zs := by
    intro zs ws rr
    induction rr with
    | nil => exact fun _ => .nil
    | @cons z u zs ws r1 t ih =>
      intro hm
      refine .cons ?_ (ih fun y hy => hm y (List.mem_cons_of_mem _ hy))
      obtain ⟨_, t, e, o, ht, _⟩ := hx z (hm z List.mem_cons_self)
      rw [e] at r1
      cases (show u = Value.ref t from r1)
      obtain ⟨_, _, its2, r2, o2, h1, h2, n, h3⟩ := I.hok t _ ht
      exact ⟨[], .tuple h1 h2 h3 (by simpa using reads_ints r2)⟩
  have alk : AllAlike (xs.map fun b => rowD (k b)) := AllAlike.of fun b b' => alike_rows _ _
  have srt : Sortable (xs.map fun b => rowD (k b)) := .inl fun d hd => by
    obtain ⟨b, hb, rfl⟩ := List.mem_map.mp hd
    obtain ⟨ne, _⟩ := hx b hb
    cases e : k b with
    | nil => exact absurd e ne
    | cons i r => exact ⟨.int i, r.map .int, rfl⟩
  refine sorted_data (R := fun v b => RelV b v) (enc := fun b => rowD (k b)) hl.isList (each_of rv) (reads xs its rv fun _ h => h) alk srt hz (fun b _ => ?_) fun out ho he => ?_
  · have := depth_row (k b)
    omega
  · obtain ⟨ep, at_⟩ := PyProof.Rows.sortedAll_at s.heap its out.toArray
    rw [le_rows] at he
    have perm := List.mergeSort_perm xs fun p q => decide (k p ≤ k q)
    refine ⟨.ref _, upd H (s.heap.objs.size + 1) (.lst (xs.mergeSort fun p q => decide (k p ≤ k q))), I.laid (t' := s.toks) (fun _ _ => PyProof.Rows.sortedAll_old) (Nat.le_succ _) ⟨by rw [perm.length_eq]; exact hz, out, ep, of_each he, at_⟩, rfl,
      q _ _ perm ?_ (I.hok.fresh (Nat.le_succ _))⟩
    refine (List.pairwise_mergeSort (le := fun p q => decide (k p ≤ k q)) (fun a b c h1 h2 => ?_) (fun a b => ?_) xs).imp fun {x y} h => of_decide_eq_true h
    · exact decide_eq_true (List.le_trans (of_decide_eq_true h1) (of_decide_eq_true h2))
    · rw [Bool.or_eq_true, decide_eq_true_eq, decide_eq_true_eq]
      exact List.le_total _ _
/-- the first ints of such rows rise -/
theorem head_le {a b : Int} {as bs : List Int} (h : (a :: as) ≤ (b :: bs)) : a ≤ b := by
  by_cases c : a ≤ b
  · exact c
  · exact absurd (List.cons_lt_cons_iff.mpr (.inl (by omega))) (List.not_lt.mpr h)
end L2

namespace PySem
open Sem (wp)
/-! own rule: max(list of ints, default=..) -/
section
variable {prog : Program} {w : World} {A : Around} {E : Value → Shared → Prop} {s : Shared}
theorem kw_tree {id : String} {b : Builtin} {args : List Value} {kw : List (Str × Value)} {Q : Value → Shared → Prop} (hk : builtinKind id = none) (hp : plainId id = true) (hb : entryFor table id = some b) (ha : argsOk id ⟨args, kw⟩)
    (hc : wpAny (model prog w) A.in1 (b ⟨args, kw⟩) (fun fin s' => match fin with
      | .done f => (match (Except.ok f : Result) with | .ok (.ret v) => Q v s' | .ok _ => False | .error e => E e s')
      | .again c' => c'.quiet = true ∧ codeAny (model prog w) A c' (fun r s' => match r with | .ok (.ret v) => Q v s' | .ok _ => False | .error e => E e s') s') E s) :
    wpAny (model prog w) A (call (.builtin id) args kw) Q E s := by
  refine wpAny_call (codeAny_call_builtin hp hb ?_)
  simp only [checkBuiltinCall, hk]
  cases hsig : Manifest.signature? id with
  | none => exact wpAny_pure hc
  | some sig =>
    have ha' : Bind.checkArgs id sig ⟨args, kw⟩ = pure () := by simpa only [argsOk, hsig] using ha
    simp only [ha']
    exact wpAny_pure hc
end
section
variable {prog : Program} {w : World} {A : Around} {R : Result → Shared → Prop} {I : Addr} {fp wr : List Addr} {n : Nat} {P : Nat → Value → Prop} {St : Nat → Heap → Prop} {dv : Value}
/-- where a list of two is, the greatest so far and its like -/
def twoAt (h : Heap) (S : Addr) (v : Value) : Prop := ∃ c, h.get? S = some { cls := .type "list", dict := none, data := .seq #[v, v] c, slots := #[] }
theorem maxd_go (W : Walks prog w A.in1 I fp wr n P St) (bt : Nat → Nat → Bool) (hcmp : CmpOf prog w A.in1 .Gt P bt) (S : Addr) (hSf : S ∉ fp) :
    ∀ (k j : Nat) (s : Shared) (vb : Value), n = j + 1 + k → St (j + 1) s.heap → P (argBest bt j) vb → twoAt s.heap S vb →
    (∀ v h' tk, P (argBest bt (n - 1)) v → (∀ b o, b ∉ wr → b ≠ S → s.heap.get? b = some o → h'.get? b = some o) → R (.ok (.ret v)) { s with heap := h', toks := tk }) →
    codeAny (model prog w) A (.builtin "max.loop" ⟨[.ref I, .none, .ref S], [("default", dv)]⟩) R s := by
  have hSw : S ∉ wr := fun h => hSf (W.sub _ h)
  have hname : (toString "max" ++ toString ".loop" : String) = "max.loop" := by decide
  intro k
  induction k with
  | zero =>
    rintro j s vb hk hst hPb ⟨c, hS⟩ hR
    refine codeAny_builtin F.entry_max_loop ?_
    rw [Around.under_plainId F.plain_max_loop _]
    show wpAny _ A.in1 (seqItems? (.ref S) >>= _) _ _ s
    refine wpAny_bind (wpAny_seqItems hS rfl ?_)
    show wpAny _ A.in1 (tryCatch (pyNext (.ref I)) _ >>= _) _ _ s
    refine wpAny_bind (wpAny_tryCatch (W.done s _ _ (by rw [hk]; exact hst) fun h' tk hk' => ?_))
    have hS' := hk' S _ hSw hS
    show wpAny _ A.in1 (updateSeq S (fun _ => #[]) >>= _) _ _ _
    refine wpAny_bind ?_
    refine wpAny_updateSeq hS' rfl (wpAny_bind (wpAny_letGo (wpAny_pure ?_)))
    exact hR vb _ tk (by rw [hk]; exact hPb) fun b o hbw hbS e => (Heap.get?_update_other _ _ (Ne.symm hbS)).trans (hk' b o hbw e)
  | succ k ih =>
    rintro j s vb hk hst hPb ⟨c, hS⟩ hR
    refine codeAny_builtin F.entry_max_loop ?_
    rw [Around.under_plainId F.plain_max_loop _]
    show wpAny _ A.in1 (seqItems? (.ref S) >>= _) _ _ s
    refine wpAny_bind (wpAny_seqItems hS rfl ?_)
    show wpAny _ A.in1 (tryCatch (pyNext (.ref I)) _ >>= _) _ _ s
    refine wpAny_bind (wpAny_tryCatch (W.item (j + 1) s _ _ (by omega) hst fun v h' tk hP hst' hk' => ?_))
    have hS' := hk' S _ hSw hS
    show wpAny _ A.in1 (tryCatch (holding [v, v] (richCompare .Gt v vb >>= _)) _ >>= _) _ _ _
    refine wpAny_bind (wpAny_tryCatch (wpAny_holding (wpAny_bind (hcmp (j + 1) (argBest bt j) v vb _ _ _ hP hPb ?_))))
    refine wpAny_bind (wpAny_holding (wpAny_truthy_bool ?_))
    refine wpAny_bind (wpAny_letGo (wpAny_pure ?_))
    cases hb : bt (j + 1) (argBest bt j) with
    | true =>
      simp only [if_true]
      refine wpAny_bind ?_
      refine wpAny_updateSeq hS' rfl (wpAny_bind (wpAny_letGo ?_))
      rw [hname]
      refine wpAny_pure ⟨plainId_quiet F.plain_max_loop _, ih (j + 1) _ v (by omega) (W.frame _ _ _ hst' fun b hbf o e => (Heap.get?_update_other _ _ (fun h : S = b => hSf (by rw [h]; exact hbf))).trans e) (by simp only [argBest, hb, if_true]; exact hP) ⟨_, Heap.get?_update_self _ hS' rfl⟩ fun v' h'' tk'' hP' hk'' => ?_⟩
      exact hR v' h'' tk'' hP' fun b o hbw hbS e => hk'' b o hbw hbS ((Heap.get?_update_other _ _ (Ne.symm hbS)).trans (hk' b o hbw e))
    | false =>
      simp only [Bool.false_eq_true, if_false]
      refine wpAny_bind (wpAny_letGo ?_)
      rw [hname]
      refine wpAny_pure ⟨plainId_quiet F.plain_max_loop _, ih (j + 1) _ vb (by omega) hst' (by simp only [argBest, hb, Bool.false_eq_true, if_false]; exact hPb) ⟨c, hS'⟩ fun v' h'' tk'' hP' hk'' => ?_⟩
      exact hR v' h'' tk'' hP' fun b o hbw hbS e => hk'' b o hbw hbS (hk' b o hbw e)
theorem maxd_start (W : Walks prog w A.in1 I fp wr n P St) (bt : Nat → Nat → Bool) (hcmp : CmpOf prog w A.in1 .Gt P bt) (S : Addr) (hSf : S ∉ fp) {s : Shared} {c : Nat} (hst : St 0 s.heap)
    (hS : s.heap.get? S = some { cls := .type "list", dict := none, data := .seq #[] c, slots := #[] })
    (hR : ∀ v h' tk, (n = 0 ∧ v = dv ∨ 0 < n ∧ P (argBest bt (n - 1)) v) → (∀ b o, b ∉ wr → b ≠ S → s.heap.get? b = some o → h'.get? b = some o) → R (.ok (.ret v)) { s with heap := h', toks := tk }) :
    codeAny (model prog w) A (.builtin "max.loop" ⟨[.ref I, .none, .ref S], [("default", dv)]⟩) R s := by
  have hSw : S ∉ wr := fun h => hSf (W.sub _ h)
  have hname : (toString "max" ++ toString ".loop" : String) = "max.loop" := by decide
  refine codeAny_builtin F.entry_max_loop ?_
  rw [Around.under_plainId F.plain_max_loop _]
  show wpAny _ A.in1 (seqItems? (.ref S) >>= _) _ _ s
  refine wpAny_bind (wpAny_seqItems hS rfl ?_)
  show wpAny _ A.in1 (tryCatch (pyNext (.ref I)) _ >>= _) _ _ s
  cases n with
  | zero =>
    refine wpAny_bind (wpAny_tryCatch (W.done s _ _ hst fun h' tk hk' => ?_))
    show wpAny _ A.in1 (rule _ >>= _) _ _ _
    exact wpAny_bind (wpAny_rule (wpAny_pure (hR dv h' tk (.inl ⟨rfl, rfl⟩) fun b o hbw _ e => hk' b o hbw e)))
  | succ n =>
    refine wpAny_bind (wpAny_tryCatch (W.item 0 s _ _ (Nat.succ_pos n) hst fun v h' tk hP hst' hk' => ?_))
    have hS' := hk' S _ hSw hS
    show wpAny _ A.in1 (updateSeq S (fun _ => #[v, v]) >>= _) _ _ _
    refine wpAny_bind ?_
    refine wpAny_updateSeq hS' rfl ?_
    rw [hname]
    refine wpAny_pure ⟨plainId_quiet F.plain_max_loop _, maxd_go W bt hcmp S hSf n 0 _ v (by omega) (W.frame _ _ _ hst' fun b hbf o e => (Heap.get?_update_other _ _ (fun h : S = b => hSf (by rw [h]; exact hbf))).trans e) hP ⟨_, Heap.get?_update_self _ hS' rfl⟩ fun v' h'' tk'' hP' hk'' => ?_⟩
    exact hR v' h'' tk'' (.inr ⟨Nat.succ_pos n, hP'⟩) fun b o hbw hbS e => hk'' b o hbw hbS ((Heap.get?_update_other _ _ (Ne.symm hbS)).trans (hk' b o hbw e))
end
section
variable {prog : Program} {w : World} {A : Around} {E : Value → Shared → Prop} {s : Shared} {l : Addr} {xs : Array (Int × Tok)} {dv : Value}
theorem args_maxd (a d : Value) : argsOk "max" ⟨[a], [("default", d)]⟩ := by unfold argsOk; kernel_rfl
theorem maxd_ints {Q : Value → Shared → Prop} (hh : A.handled = none) (hl : s.heap.IsList l (intItems xs))
    (h : ∀ v h' tk, (xs.size = 0 ∧ v = dv ∨ 0 < xs.size ∧ (intItems xs)[argBest (fun i j => decide (numAt xs i > numAt xs j)) (xs.size - 1)]? = some v) → (∀ b o, s.heap.get? b = some o → h'.get? b = some o) → Q v { s with heap := h', toks := tk }) :
    wpAny (model prog w) A (call (.builtin "max") [.ref l] [("default", dv)]) Q E s := by
  have hname : (toString "max" ++ toString ".loop" : String) = "max.loop" := by decide
  refine kw_tree F.kind_max F.plain_max F.entry_max (args_maxd _ _) ?_
  show wpAny _ A.in1 (Builtin.Builtins.bindParams "max" ["key", "default"] 0 ⟨[], [("default", dv)]⟩ >>= _) _ _ s
  refine wpAny_bind (wpAny_of_eq (show Builtin.Builtins.bindParams "max" ["key", "default"] 0 ⟨[], [("default", dv)]⟩ = pure [none, some dv] from rfl) ?_)
  refine wpAny_bind (wpAny_pure ?_)
  refine wpAny_bind (iter_intList hl fun s₂ e st hfp hlI => ?_)
  subst e
  refine wpAny_bind (wpAny_newObj_type ?_)
  have W := Walks.list (prog := prog) (w := w) (A := A.in1) hh _ l hlI (intItems xs)
  rw [hname]
  refine wpAny_pure ⟨plainId_quiet F.plain_max_loop _, maxd_start W _ (CmpOf.ints_gt (numAt xs) (fun _ _ => intItems_at)) _ (fun hm => Nat.lt_irrefl _ (hfp _ hm)) (W.frame _ _ _ st fun b _ o e => Heap.get?_push_of_some _ e) (Heap.get?_push_size _ rfl) fun v h' tk hP hk => ?_⟩
  exact h v h' tk (by simpa [intItems] using hP) (old_kept fun b o hbw e => hk b o hbw (Nat.ne_of_lt (Heap.lt_size e)) (Heap.get?_push_of_some _ e))
end
end PySem
namespace L2
open PySem PySem.Spec PyProof.Rows
variable {X : Cx}
/-- max(xs, default=d), xs a list of ints -/
def rMaxDf (K : PySem.W.Frag) : List V → List V → Hp → VK → Prop := fun vs zs H Q => ∃ (a : Addr) (ns : List Int) (d : V), vs = [V.ref a] ∧ zs = [d] ∧ SqL K H a (ns.map V.int) ∧ (ns = [] → Q d H) ∧ ∀ m, m ∈ ns → (∀ y, y ∈ ns → y ≤ m) → Q (.int m) H
theorem cr_maxDf (hc : X.calm = true) : CallRK X (.builtin "max") [Str.ofString "default"] (rMaxDf X.K) := by
  intro pins s σ H vs zs us ws Q I r rz h
  obtain ⟨a, ns, d, rfl, rfl, hs, q0, q⟩ := h
  obtain ⟨its, rv, hl, _⟩ := I.list hs
  obtain rfl := Vals.ref1 r
  obtain ⟨w1, rfl, e1⟩ := vals1 rz
  have hi := rv.ints
  obtain ⟨xs, e⟩ := hi.allInts.items
  have hn : numsOf (intItems xs).toList = ns := by rw [← e]; exact hi.numsOf
  rw [nums_intItems] at hn
  subst hn
  have hl2 := hl.isList
  rw [e] at hl2
  refine PySem.maxd_ints (dv := w1) (I.ok.hd hc) hl2 fun v h' tk hv hk => ?_
  rcases hv with ⟨h0, rfl⟩ | ⟨h0, hv⟩
  · exact ⟨d, H, I.kept hk, e1, q0 (by rw [List.map_eq_nil_iff]; exact List.eq_nil_of_length_eq_zero (by simpa using h0))⟩
  · obtain ⟨t, rfl⟩ := intItems_at hv
    obtain ⟨h1, h2⟩ := argBest_gt (numAt xs) (xs.size - 1)
    refine ⟨.int _, H, I.kept hk, ⟨_, rfl⟩, q _ ?_ fun b hb => ?_⟩
    · rw [numAt_eq]; exact PySem.getD_mem (by rw [List.length_map, Array.length_toList]; omega)
    · obtain ⟨j, hj, rfl⟩ := mem_getD hb
      rw [List.length_map, Array.length_toList] at hj
      rw [← numAt_eq]; exact h2 j (by omega)
/-! generators within a comprehension, K told -/
theorem pi_tupK {K : PySem.W.Frag} {tg l : Expr} {tl : TE} (hK : X.K = K) (hl : PE X l tl) : PI X tg l (iTup K tl) := by
  subst hK
  exact pi_tup hl
theorem pi_listK {K : PySem.W.Frag} {tg l : Expr} {tl : TE} (hK : X.K = K) (hl : PE X l tl) : PI X tg l (iList K tl) := by
  subst hK
  exact pi_list hl
theorem op_notInK {K : PySem.W.Frag} (hK : X.K = K) : OpR X (compareOp .NotIn) (rIn K true) := by
  subst hK
  exact op_notIn_seq
theorem op_inK {K : PySem.W.Frag} (hK : X.K = K) : OpR X (compareOp .In) (rIn K false) := by
  subst hK
  exact op_in_seq
theorem op_eqDK {K : PySem.W.Frag} (hK : X.K = K) (hu : X.A.units + 64 < cLine) : OpR X (compareOp .Eq) (rEqD K) := by
  subst hK
  exact op_eqD hu
end L2

namespace Kb
open PySem PySem.Spec PyProof.Rows L2 RZ
/-! fractions by their keys, and as keys of dicts -/
def FrAt (H : Hp) (v : V) (k : Int) : Prop := ∃ u, v = .ref u ∧ Ptp H u [.int (frT k scl), .int (frN k scl)]
theorem FrAt.same {H H' : Hp} {v : V} {k : Int} (h : FrAt H v k) (s : Same H H') : FrAt H' v k := let ⟨u, e, p⟩ := h; ⟨u, e, p.same s⟩
theorem FrAt.keep {H H' : Hp} {v : V} {k : Int} (h : FrAt H v k) (t : ∀ p xs, Ptp H p xs → Ptp H' p xs) : FrAt H' v k := let ⟨u, e, p⟩ := h; ⟨u, e, t _ _ p⟩
theorem frs_same {H H' : Hp} {us : List V} {ks : List Int} (h : Paired (FrAt H) us ks) (s : Same H H') : Paired (FrAt H') us ks := paired_imp (fun _ _ h => h.same s) h
def frK (k : Int) : NestedKey := .tup [.num (frT k scl), .num (frN k scl)]
theorem key_of_fr {k j : Int} (h1 : frT k scl = frT j scl) (h2 : frN k scl = frN j scl) : k = j := by
  have e := fr_eq h1 h2
  have s : scl = 2688840 := rfl
  rw [s] at e
  omega
theorem frK_inj {k j : Int} (h : frK k = frK j) : k = j := by
  unfold frK at h
  injection h with h
  injection h with h1 h
  injection h with h2 _
  injection h1 with h1
  injection h2 with h2
  exact key_of_fr h1 h2
theorem frK_iff {k j : Int} : frK k = frK j ↔ k = j := ⟨frK_inj, fun e => by rw [e]⟩
theorem frK_dp (k : Int) : (frK k).depth ≤ 8 := by
  unfold frK
  simp [NestedKey.depth, NestedKey.depthAll]
theorem fr_nk {H : Hp} {u : Addr} {k : Int} (h : Ptp H u [.int (frT k scl), .int (frN k scl)]) : NkAt H (frK k) (.ref u) := ⟨u, _, rfl, h, _, _, rfl, rfl, _, _, rfl, rfl, rfl⟩
theorem nk_fr {H : Hp} {u : Addr} {k : Int} (h : NkAt H (frK k) (.ref u)) : Ptp H u [.int (frT k scl), .int (frN k scl)] := by
  obtain ⟨p, vs, e, hp, v1, r1, rfl, e1, v2, r2, rfl, e2, e3⟩ := h
  cases e
  cases (show v1 = .int (frT k scl) from e1)
  cases (show v2 = .int (frN k scl) from e2)
  cases (show r2 = [] from e3)
  exact hp
/-! the dict's entries, its keys in the order they came -/
def insL (ds : List Int) (k : Int) : List Int := if k ∈ ds then ds else ds ++ [k]
def kvF (ds : List Int) (f : Int → V) : List (NestedKey × V) := ds.map fun k => (frK k, f k)
theorem kvF_at {ds : List Int} {f : Int → V} {i : Nat} {q : NestedKey} {v : V} (h : (kvF ds f)[i]? = some (q, v)) : ∃ k, ds[i]? = some k ∧ q = frK k ∧ v = f k := by
  obtain ⟨k, hk, e⟩ := map_at h
  cases e
  exact ⟨k, hk, rfl, rfl⟩
theorem val_kvF {f : Int → V} {k : Int} : ∀ {ds : List Int}, valV (kvF ds f) (frK k) = if k ∈ ds then some (f k) else none
  | [] => rfl
  | d :: ds => by
    have ih := val_kvF (f := f) (k := k) (ds := ds)
    show valV ((frK d, f d) :: kvF ds f) (frK k) = _
    by_cases e : d = k
    · subst e
      rw [valV_pos rfl, if_pos List.mem_cons_self]
    · rw [valV_neg (fun z => e (frK_inj z)), ih]
      by_cases m : k ∈ ds
      · rw [if_pos m, if_pos (List.mem_cons_of_mem _ m)]
      · rw [if_neg m, if_neg (fun z => by
          rcases List.mem_cons.mp z with z | z
          · exact e z.symm
          · exact m z)]
theorem put_kvF {f : Int → V} {k : Int} {v : V} {ds : List Int} : putK (kvF ds f) (frK k) v = kvF (insL ds k) (fun j => if j = k then v else f j) := by
  have an : ((kvF ds f).any fun kv => decide (kv.1 = frK k)) = true ↔ k ∈ ds := by
    rw [List.any_eq_true]
    constructor
    · rintro ⟨x, hx, h⟩
      obtain ⟨d, hd, rfl⟩ := List.mem_map.mp hx
      rw [← frK_inj (of_decide_eq_true h)]
      exact hd
    · intro h
      exact ⟨_, List.mem_map.mpr ⟨k, h, rfl⟩, decide_eq_true rfl⟩
  unfold putK insL
  by_cases m : k ∈ ds
  · rw [if_pos (an.mpr m), if_pos m]
    unfold kvF
    rw [List.map_map]
    refine List.map_congr_left fun d _ => ?_
    show (if frK d = frK k then (frK d, v) else (frK d, f d)) = (frK d, if d = k then v else f d)
    by_cases e : d = k
    · rw [if_pos (by rw [e]), if_pos e]
    · rw [if_neg (fun z => e (frK_inj z)), if_neg e]
  · rw [if_neg (fun z => m (an.mp z)), if_neg m]
    unfold kvF
    rw [List.map_append]
    congr 1
    · refine List.map_congr_left fun d hd => ?_
      show (frK d, f d) = (frK d, if d = k then v else f d)
      rw [if_neg (fun z => m (by rw [← z]; exact hd))]
    · show [(frK k, v)] = [(frK k, if k = k then v else f k)]
      rw [if_pos rfl]
theorem mem_insL {ds : List Int} {k j : Int} : j ∈ insL ds k ↔ j ∈ ds ∨ j = k := by
  unfold insL
  split
  · rename_i m
    exact ⟨.inl, fun h => h.elim id fun e => by rw [e]; exact m⟩
  · rw [List.mem_append, List.mem_singleton]
theorem insL_nd {ds : List Int} {k : Int} (h : ds.Nodup) : (insL ds k).Nodup := by
  unfold insL
  split
  · exact h
  · rename_i m
    rw [List.nodup_append]
    exact ⟨h, by simp, fun x hx y hy => by rw [List.mem_singleton.mp hy]; exact fun z => m (z ▸ hx)⟩
theorem insL_len {ds : List Int} {k : Int} : (insL ds k).length ≤ ds.length + 1 := by
  unfold insL
  split
  · omega
  · rw [List.length_append, List.length_singleton]
    exact Nat.le_refl _
def unl (ks : List Int) : List Int := ks.foldl insL []
theorem unl_snoc {ks : List Int} {k : Int} : unl (ks ++ [k]) = insL (unl ks) k := by unfold unl; rw [List.foldl_append]; rfl
theorem unl_all : ∀ (ks : List Int), (unl ks).Nodup ∧ (∀ k, k ∈ unl ks ↔ k ∈ ks) ∧ (unl ks).length ≤ ks.length := by
  intro ks
  suffices h : ∀ (n : Nat) (ks : List Int), ks.length = n → (unl ks).Nodup ∧ (∀ k, k ∈ unl ks ↔ k ∈ ks) ∧ (unl ks).length ≤ ks.length from h _ ks rfl
  intro n
  induction n with
  | zero =>
    intro ks e
    cases List.length_eq_zero_iff.mp e
    exact ⟨List.nodup_nil, fun _ => Iff.rfl, Nat.le_refl _⟩
  | succ n ih =>
    intro ks e
    have ne : ks ≠ [] := fun z => by rw [z] at e; cases e
    obtain ⟨a, b, rfl⟩ : ∃ a b, ks = a ++ [b] := ⟨ks.dropLast, ks.getLast ne, (List.dropLast_concat_getLast ne).symm⟩
    rw [List.length_append, List.length_singleton] at e
    obtain ⟨h1, h2, h3⟩ := ih a (by omega)
    rw [unl_snoc]
    refine ⟨insL_nd h1, fun k => ?_, ?_⟩
    · rw [mem_insL, h2, List.mem_append, List.mem_singleton]
    · rw [List.length_append, List.length_singleton]
      exact Nat.le_trans insL_len (by omega)
/-! in their order -/
def rowN (W k : Int) : Int := frT k scl * W * W / frN k scl
def rowK (W k : Int) : List Int := [rowN W k, frT k scl, frN k scl]
theorem rowN_lt {W k j : Int} (h1 : frN k scl ≤ W) (h2 : frN j scl ≤ W) (h : k < j) : rowN W k < rowN W j := by
  have p1 : 1 ≤ frN k scl := frN_pos (by decide)
  have p2 : 1 ≤ frN j scl := frN_pos (by decide)
  have lt : frT k scl * frN j scl < frT j scl * frN k scl := (fr_lt (n := k) (m := j) (S := scl) (S' := scl) (by decide) (by decide)).mpr (by have s : scl = 2688840 := rfl; rw [s]; omega)
  unfold rowN
  generalize frT k scl = a at *
  generalize frT j scl = b at *
  generalize frN k scl = n at *
  generalize frN j scl = m at *
  have np : (0 : Int) < n := by omega
  have mp : (0 : Int) < m := by omega
  have qle : a * W * W / n * n ≤ a * W * W := Int.ediv_mul_le _ (by omega)
  refine Int.lt_of_add_one_le ((Int.le_ediv_iff_mul_le mp).mpr ?_)
  generalize a * W * W / n = q at qle ⊢
  -- (q + 1) * m ≤ b * W * W, from times n
  refine Int.le_of_mul_le_mul_right ?_ np
  have ww : 0 ≤ W * W := Int.mul_nonneg (by omega) (by omega)
  have e1 : (q + 1) * m * n = (q * n) * m + m * n := by
    rw [Int.add_mul, Int.add_mul, Int.one_mul, Int.mul_assoc q m n, Int.mul_comm m n, ← Int.mul_assoc q n m, Int.mul_comm n m]
  have e2 : b * W * W * n = (b * n) * (W * W) := by
    rw [Int.mul_assoc b W W, Int.mul_assoc b (W * W) n, Int.mul_comm (W * W) n, ← Int.mul_assoc]
  have e3 : a * W * W * m = (a * m) * (W * W) := by
    rw [Int.mul_assoc a W W, Int.mul_assoc a (W * W) m, Int.mul_comm (W * W) m, ← Int.mul_assoc]
  have h3 : (q * n) * m ≤ a * W * W * m := Int.mul_le_mul_of_nonneg_right qle (by omega)
  have h4 : (a * m + 1) * (W * W) ≤ (b * n) * (W * W) := Int.mul_le_mul_of_nonneg_right (by omega) ww
  have h5 : m * n ≤ W * W := Int.mul_le_mul h2 h1 (by omega) (by omega)
  rw [Int.add_mul, Int.one_mul] at h4
  rw [e1, e2]
  omega
theorem rowN_le {W k j : Int} (h1 : frN k scl ≤ W) (h2 : frN j scl ≤ W) (h : rowK W k ≤ rowK W j) : k ≤ j := by
  by_cases c : k ≤ j
  · exact c
  · have := rowN_lt h2 h1 (show j < k by omega)
    have := head_le h
    omega
/-- what stands in a plain tuple of ints -/
def rowOf (H : Hp) : V → List Int
  | .ref t => match H t with
    | some (.frz _ (.tup xs)) => xs.filterMap fun x => match x with
      | .int i => some i
      | _ => none
    | _ => []
  | _ => []
theorem rowOf_at {H : Hp} {t : Addr} {ns : List Int} (h : Ptp H t (ns.map V.int)) : rowOf H (.ref t) = ns := by
  obtain ⟨o, e, _⟩ := h
  unfold rowOf
  simp only [e]
  clear e
  induction ns with
  | nil => rfl
  | cons n ns ih => exact congrArg (n :: ·) ih
theorem perm_paired {α β : Type} {F : α → β → Prop} {ys ws : List α} (p : ys.Perm ws) : ∀ {ds : List β}, Paired F ws ds → ∃ ks, ks.Perm ds ∧ Paired F ys ks := by
  induction p with
  | nil =>
    intro ds h
    cases h
    exact ⟨[], .nil, .nil⟩
  | cons x _ ih =>
    intro ds h
    cases h with
    | @cons _ d _ ds hx t =>
      obtain ⟨ks, p, q⟩ := ih t
      exact ⟨d :: ks, p.cons d, .cons hx q⟩
  | swap x y l =>
    intro ds h
    cases h with
    | @cons _ d _ ds hx t =>
      cases t with
      | @cons _ e _ ds hy t => exact ⟨e :: d :: ds, List.Perm.swap d e ds, .cons hy (.cons hx t)⟩
  | trans _ _ ih1 ih2 =>
    intro ds h
    obtain ⟨ks, p, q⟩ := ih2 h
    obtain ⟨js, p', q'⟩ := ih1 q
    exact ⟨js, p'.trans p, q'⟩
theorem paired_maps {α β γ : Type} {F : α → β → Prop} {g : α → γ} {h : β → γ} (e : ∀ x k, F x k → g x = h k) : ∀ {ys : List α} {ks : List β}, Paired F ys ks → ys.map g = ks.map h
  | _, _, .nil => rfl
  | _, _, .cons r t => by rw [List.map_cons, List.map_cons, e _ _ r, paired_maps e t]
theorem lk_same {H H3 : Hp} {d : Addr} {od : Obj} {u : HO} (hd : H d = some u) (s : Same (upd H d (.frz od u)) H3) : Same H (upd H3 d u) := fun b v e => by
  by_cases hb : b = d
  · subst hb
    rw [hd] at e
    cases e
    exact upd_same
  · rw [upd_ne hb]
    refine s b v ?_
    rw [upd_ne hb]
    exact e
theorem lk_back {H3 : Hp} {d b : Addr} {od : Obj} {u v : HO} (hd : H3 d = some (.frz od u)) (h : H3 b = some v) (n : v ≠ .frz od u) : (upd H3 d u) b = some v := by
  rw [upd_ne (ne_of h hd n)]
  exact h
theorem ptp_back {H3 : Hp} {d p : Addr} {od : Obj} {P : Program} {w : World} {qs : List (NestedKey × Addr × Value)} {xs : List V} (hd : H3 d = some (.frz od (TkO P w d qs))) (h : Ptp H3 p xs) : Ptp (upd H3 d (TkO P w d qs)) p xs := by
  obtain ⟨o, e, z⟩ := h
  exact ⟨o, lk_back hd e (fun q => by cases q), z⟩
theorem same_gone {H H' : Hp} {R : Addr} (s : Same H H') (h : H' R = none) : H R = none := by
  cases e : H R with
  | none => rfl
  | some o =>
    rw [s R o e] at h
    cases h
theorem rm8 {n : Nat} (h : n + 64 < cLine) : n + 8 < cLine := Nat.lt_of_le_of_lt (by omega) h
theorem rm9 {n : Nat} (h : n + 64 < cLine) : n + 9 < cLine := Nat.lt_of_le_of_lt (by omega) h
theorem lgP {n k : Nat} (h : n ≤ 2 ^ k) : n.log2 ≤ k := by
  by_cases h0 : n = 0
  · subst h0
    exact Nat.zero_le _
  · have := (Nat.log2_lt h0).mpr (Nat.lt_of_le_of_lt h (Nat.pow_lt_pow_right (by decide) (Nat.lt_succ_self k)))
    omega
end Kb

namespace Kb
open PySem PySem.Spec PyProof.Rows L2 RZ
abbrev sP_ascending : Stmt := topS 22
abbrev NP_ascending : List Str := ["fractions", "unlike", "widest", "rows", "fraction", "_", "top", "bottom"]
theorem scP_ascending : FnScope ["fractions", "unlike", "widest", "rows", "fraction", "_", "top", "bottom"] ["fractions"] (defScope sP_ascending) := ⟨rfl, rfl, rfl, by decide +kernel, rfl, by decide +kernel, by decide +kernel⟩
abbrev DnAscending (K : PySem.W.Frag) (mg : Str → Option Value) := Dn K mg "ascending" sP_ascending ["fractions"]
section
variable {P : Program} {w : World} {K : PySem.W.Frag} {mg : Str → Option Value} {base : Heap}
def spAscending : Sp := fun vs H Q _ => ∃ (l : Addr) (us : List V) (ks : List Int), vs = [.ref l] ∧ H l = some (.lst us) ∧ Paired (FrAt H) us ks ∧ us.length ≤ 90000 ∧ (∀ k ∈ ks, k.natAbs ≤ 2 ^ 89) ∧
  ∀ H' p ws ys, Same H H' → H p = none → H' p = some (.lst ws) → Paired (FrAt H') ws ys → ys.Pairwise (· < ·) → (∀ k, k ∈ ys ↔ k ∈ ks) → ys.length ≤ us.length → Q (.ref p) H'
theorem ok_ascending (T : Blt mg) (d : DnAscending K mg) : FnOk P w K mg base CX0 1 d.f d.fd ["fractions"] spAscending := by
  refine d.F.ok scP_ascending (fun vs H Q E h => ?_) (fun cdv A outer s H vs Q E hr h => ?_)
  · obtain ⟨l, us, ks, rfl, _⟩ := h
    rfl
  · obtain ⟨l, us, ks, rfl, hl, pr, ul, kb, q⟩ := h
    refine ⟨_, (pss_cons (ps_setTdc (i := 1) (own := [("fraction", 4)]) (g := gName 4) (tt := tYes) (rm8 hr.units) rfl scP_ascending.nd rfl rfl (sw_trueD rfl rfl rfl (by decide +kernel)) (pi_list (pv 0)) (blkOk_by (N := NP_ascending) (sc := defScope sP_ascending) (by decide +kernel)) (fun _ _ _ _ _ => pg_name (i := 4) scP_ascending.nd rfl (Or.inl rfl)) (fun _ _ _ _ _ => pts_nil) (fun _ _ _ _ _ => (pv 4)) (fun _ _ _ _ _ => pe_bl))
    (pss_cons (ps_asg (pe_callBK (cr_maxDf rfl) (by rfl) T.n_max (by decide +kernel) (pa_cons (pe_lock (pe_lc (own := [("_", 5), ("bottom", 7)]) (g := gTup K 2 (gCons (gName 5) (gCons (gName 7) gNil))) (tt := tYes) rfl scP_ascending.nd (pi_tkeys (pv 1)) (blkOk_by (N := NP_ascending) (sc := defScope sP_ascending) (by decide +kernel)) (fun _ _ _ _ _ => pg_tup (by rfl) (pgs_cons (pg_name (i := 5) scP_ascending.nd rfl (Or.inl rfl)) (pgs_cons (pg_name (i := 7) scP_ascending.nd rfl (Or.inl rfl)) pgs_nil))) (fun _ _ _ _ _ => pts_nil) (fun _ _ _ _ _ => (pv 7)))) pa_nil) (pk_cons pe_int pk_nil)) (pg_name (i := 2) scP_ascending.nd rfl (Or.inr rfl)))
    (pss_cons (ps_set (i := 3) scP_ascending.nd rfl (Or.inl rfl) (pe_callB (cr_sortedRows hr.units) (by rfl) T.n_sorted (by decide +kernel) (pa_cons (pe_lock (pe_lc (own := [("top", 6), ("bottom", 7)]) (g := gTup K 2 (gCons (gName 6) (gCons (gName 7) gNil))) (tt := tYes) rfl scP_ascending.nd (pi_tkeys (pv 1)) (blkOk_by (N := NP_ascending) (sc := defScope sP_ascending) (by decide +kernel)) (fun _ _ _ _ _ => pg_tup (by rfl) (pgs_cons (pg_name (i := 6) scP_ascending.nd rfl (Or.inl rfl)) (pgs_cons (pg_name (i := 7) scP_ascending.nd rfl (Or.inl rfl)) pgs_nil))) (fun _ _ _ _ _ => pts_nil) (fun _ _ _ _ _ => (pe_tupF (pa_cons (pe_op op_fdivW (pe_op op_mulW (pe_op op_mulW (pv 6) (pv 2)) (pv 2)) (pv 7)) (pa_cons (pv 6) (pa_cons (pv 7) pa_nil))))))) pa_nil)))
    (pss_one (ps_ret (pe_lc (own := [("_", 5), ("top", 6), ("bottom", 7)]) (g := gTup K 3 (gCons (gName 5) (gCons (gName 6) (gCons (gName 7) gNil)))) (tt := tYes) rfl scP_ascending.nd (pi_list (pv 3)) (blkOk_by (N := NP_ascending) (sc := defScope sP_ascending) (by decide +kernel)) (fun _ _ _ _ _ => pg_tup (by rfl) (pgs_cons (pg_name (i := 5) scP_ascending.nd rfl (Or.inl rfl)) (pgs_cons (pg_name (i := 6) scP_ascending.nd rfl (Or.inl rfl)) (pgs_cons (pg_name (i := 7) scP_ascending.nd rfl (Or.inl rfl)) pgs_nil)))) (fun _ _ _ _ _ => pts_nil) (fun _ _ _ _ _ => (pe_tupF (pa_cons (pv 6) (pa_cons (pv 7) pa_nil)))))))))), ?_⟩
    have kl : us.length = ks.length := Paired.length pr
    -- the unlike ones
    refine ⟨.ref l, rfl, l, rfl, ⟨_, sql hl⟩, fun D o0 nD d0 => ?_⟩
    refine dc_itT walk_list (fun i H3 => Same H H3 ∧ TkAt P w H3 D (kvF (unl (ks.take i)) fun _ => .bl true)) ⟨same_upd nD, d0⟩ (fun i H3 _ h3 => sql (h3.1 _ _ hl)) (fun i x H3 H4 hi g3 hy => ?_) (fun H3 g3 => ?_)
    · obtain ⟨rfl, hx⟩ := hy
      obtain ⟨s3, d3⟩ := g3
      obtain ⟨k, hk, u, rfl, hu⟩ := paired_at pr hx
      have hu3 := hu.same s3
      have lt := (unl_all (ks.take i)).2.2
      rw [List.length_take] at lt
      have et : unl (ks.take (i + 1)) = insL (unl (ks.take i)) k := by rw [List.take_add_one, hk]; exact unl_snoc
      refine ⟨rfl, .ref u, rfl, u, frK k, _, rfl, fr_nk hu3, frK_dp k, d3, by show (List.map _ _).length < sizeLine; rw [List.length_map, sizeLine_eq]; omega, fun o d4 => ⟨Same.put s3 nD, ?_⟩⟩
      rw [et]
      rw [put_kvF] at d4
      have ef : (fun j => if j = k then V.bl true else V.bl true) = fun _ => V.bl true := by
        funext j
        split <;> rfl
      rw [ef] at d4
      exact d4
    obtain ⟨s3, d3⟩ := g3
    rw [kl, List.take_length] at d3
    obtain ⟨und, umem, ulen⟩ := unl_all ks
    generalize unl ks = ds at d3 und umem ulen
    have dl : ds.length ≤ 90000 := by omega
    -- the widest
    obtain ⟨qs, hD3, mu, fz⟩ := d3.lock
    refine ⟨D, _, hD3, mu, fun od => ?_⟩
    have fz := fz od
    refine ⟨.ref D, rfl, D, od, _, rfl, fz, fun L nL => ?_⟩
    have sL := same_upd (o := .lst []) nL
    generalize hHl : upd H3 D (.frz od (TkO P w D qs)) = Hl at nL sL fz ⊢
    have hln : Hl D = some (.frz od (TkO P w D qs)) := by rw [← hHl]; exact upd_same
    have kvl : ∀ f : Int → V, (kvF ds f).length = ds.length := fun f => by unfold kvF; rw [List.length_map]
    refine lc_it walk_tkeys (fun i H4 => Same Hl H4 ∧ H4 L = some (.lst ((ds.take i).map fun k => V.int (frN k scl)))) ⟨sL, upd_same⟩ (fun i H4 _ h4 => fz.keep h4.1) (fun i x H4 H5 hi g4 hy => ?_) (fun H4 g4 => ?_)
    · obtain ⟨rfl, kk, v, qa, hkv, rfl, nk⟩ := hy
      obtain ⟨k, hk, rfl, rfl⟩ := kvF_at hkv
      obtain ⟨s4, hL4⟩ := g4
      have hq := nk_fr nk
      rw [kvl] at hi
      refine ⟨qa, _, rfl, hq.seq, rfl, _, _, rfl, _, _, rfl, rfl, rfl, .int (frN k scl), rfl, _, hL4, by rw [List.length_map, List.length_take, sizeLine_eq]; omega, Same.put s4 nL, ?_⟩
      rw [upd_same, List.take_add_one, hk, List.map_append]
      rfl
    obtain ⟨s4, hL4⟩ := g4
    rw [kvl, List.take_length] at hL4
    have hD4 := s4 _ _ hln
    refine ⟨hD4, ?_⟩
    have s34 : Same H3 (upd H4 D (TkO P w D qs)) := lk_same hD3 (by rw [hHl]; exact s4)
    have hL5 : (upd H4 D (TkO P w D qs)) L = some (.lst (ds.map fun k => V.int (frN k scl))) := lk_back hD4 hL4 (fun z => nomatch z)
    have d5 : TkAt P w (upd H4 D (TkO P w D qs)) D (kvF ds fun _ => .bl true) := d3.keep (upd_same.trans hD3.symm) (fun p xs h => h.same s34)
    generalize upd H4 D (TkO P w D qs) = H5 at s34 hL5 d5 ⊢
    have p1 : ∀ k : Int, 1 ≤ frN k scl := fun k => frN_pos (by decide)
    have pS : ∀ k : Int, frN k scl ≤ 2688840 := fun k => by
      have := (fr_le (n := k) (S := scl) (by decide)).2
      have e : scl.natAbs = 2688840 := rfl
      have := p1 k
      omega
    refine ⟨L, ds.map fun k => frN k scl, .int 1, rfl, rfl, by rw [List.map_map]; exact sql hL5, ?none, ?some⟩
    case' none =>
      intro e
      obtain ⟨W, eW, W1, W2, hW⟩ : ∃ W : Int, W = 1 ∧ 1 ≤ W ∧ W ≤ 2688840 ∧ ∀ k ∈ ds, frN k scl ≤ W := ⟨1, rfl, Int.le_refl _, by decide, fun k hk => by
        rw [List.map_eq_nil_iff] at e
        rw [e] at hk
        cases hk⟩
      rw [← eW]
    case' some =>
      intro W hW0 hmx
      have W1 : 1 ≤ W := by obtain ⟨k, _, e⟩ := List.mem_map.mp hW0; rw [← e]; exact p1 k
      have W2 : W ≤ 2688840 := by obtain ⟨k, _, e⟩ := List.mem_map.mp hW0; rw [← e]; exact pS k
      have hW : ∀ k ∈ ds, frN k scl ≤ W := fun j hj => hmx _ (List.mem_map.mpr ⟨j, hj, rfl⟩)
    all_goals
      obtain ⟨qs5, hD5, mu5, fz5⟩ := d5.lock
      refine ⟨D, _, hD5, mu5, fun od5 => ?_⟩
      have fz5 := fz5 od5
      refine ⟨.ref D, rfl, D, od5, _, rfl, fz5, fun L6 nL6 => ?_⟩
      have sL6 := same_upd (o := .lst []) nL6
      generalize hHl5 : upd H5 D (.frz od5 (TkO P w D qs5)) = Hl5 at nL6 sL6 fz5 ⊢
      have hln5 : Hl5 D = some (.frz od5 (TkO P w D qs5)) := by rw [← hHl5]; exact upd_same
      refine lc_it walk_tkeys (fun i H6 => Same Hl5 H6 ∧ ∃ ws, H6 L6 = some (.lst ws) ∧ ws.length ≤ i ∧ Paired (fun v k => ∃ t, v = .ref t ∧ Ptp H6 t ((rowK W k).map V.int)) ws (ds.take i)) ⟨sL6, [], upd_same, Nat.le_refl _, .nil⟩ (fun i H6 _ h6 => fz5.keep h6.1) (fun i x H6 H7 hi g6 hy => ?_) (fun H6 g6 => ?_)
      · obtain ⟨rfl, kk, v, qa, hkv, rfl, nk⟩ := hy
        obtain ⟨k, hk, rfl, rfl⟩ := kvF_at hkv
        obtain ⟨s6, ws, hL6, wl, pw⟩ := g6
        have hq := nk_fr nk
        rw [kvl] at hi
        have kb1 : (frT k scl).natAbs ≤ 2 ^ 89 := Nat.le_trans (fr_le (by decide)).1 (kb k ((umem k).mp (List.mem_of_getElem? hk)))
        have lt := lgP kb1
        have p22 : (2 : Nat) ^ 22 = 4194304 := by decide
        have q1 := p1 k
        have q2 := pS k
        have W22 : W.natAbs ≤ 2 ^ 22 := by omega
        have N22 : (frN k scl).natAbs ≤ 2 ^ 22 := by omega
        have lW := lgP W22
        have lN := lgP N22
        have l2 : (frT k scl * W).natAbs.log2 ≤ 111 := lgP (by
          rw [Int.natAbs_mul]
          exact Nat.le_trans (Nat.mul_le_mul kb1 W22) (by decide))
        refine ⟨qa, _, rfl, hq.seq, rfl, _, _, rfl, _, _, rfl, rfl, rfl, ?_⟩
        refine ⟨.int (frT k scl), rfl, .int W, rfl, _, _, rfl, rfl, (by show _ + _ < 1000000; omega), .int W, rfl, _, _, rfl, rfl, (by show _ + _ < 1000000; omega), .int (frN k scl), rfl, _, _, rfl, rfl, ⟨by have := p1 k; omega, by omega⟩, .int (frT k scl), rfl, .int (frN k scl), rfl, (by show 3 ≤ sizeLine; decide), fun t o nt ho => ?_⟩
        dsimp only
        have sT := same_upd (o := .frz o (.tup [.int (frT k scl * W * W / frN k scl), .int (frT k scl), .int (frN k scl)])) nt
        have hT : Ptp (upd H7 t (.frz o (.tup [.int (frT k scl * W * W / frN k scl), .int (frT k scl), .int (frN k scl)]))) t ((rowK W k).map V.int) := ⟨o, upd_same, ho⟩
        generalize upd H7 t (.frz o (.tup [.int (frT k scl * W * W / frN k scl), .int (frT k scl), .int (frN k scl)])) = H8 at sT hT ⊢
        have hL8 := sT _ _ hL6
        refine ⟨ws, hL8, by rw [sizeLine_eq]; omega, Same.put (s6.trans sT) nL6, ws ++ [.ref t], upd_same, by rw [List.length_append, List.length_singleton]; omega, ?_⟩
        have kp : KpD H8 (upd H8 L6 (.lst (ws ++ [.ref t]))) := kpD_list hL8
        rw [List.take_add_one, hk]
        exact paired_app (paired_imp (fun _ _ ⟨t, e, h⟩ => ⟨t, e, kp.t _ _ (h.same sT)⟩) pw) (.cons ⟨t, rfl, kp.t _ _ hT⟩ .nil)
      obtain ⟨s6, ws, hL6, wl, pw⟩ := g6
      rw [kvl, List.take_length] at pw
      have hD6 := s6 _ _ hln5
      refine ⟨hD6, ?_⟩
      have s56 : Same H5 (upd H6 D (TkO P w D qs5)) := lk_same hD5 (by rw [hHl5]; exact s6)
      have hL7 := lk_back hD6 hL6 (fun z => nomatch z)
      have pw7 : Paired (fun v k => ∃ t, v = .ref t ∧ Ptp (upd H6 D (TkO P w D qs5)) t ((rowK W k).map V.int)) ws ds := paired_imp (fun _ _ ⟨t, e, h⟩ => ⟨t, e, ptp_back hD6 h⟩) pw
      generalize upd H6 D (TkO P w D qs5) = H7 at s56 hL7 pw7 ⊢
      have s07 := (s3.trans s34).trans s56
      refine ⟨L6, ws, rowOf H7, rfl, sql hL7, fun x hx => ?_, fun ys p perm srt np => ?_⟩
      · obtain ⟨i, hi⟩ := List.getElem?_of_mem hx
        obtain ⟨k, _, t, rfl, ht⟩ := paired_at pw7 hi
        rw [rowOf_at ht]
        exact ⟨(fun z => nomatch z), t, rfl, ht⟩
      · obtain ⟨js, pj, py⟩ := perm_paired perm pw7
        have s78 := same_upd (o := .lst ys) np
        have h8 : (upd H7 p (.lst ys)) p = some (.lst ys) := upd_same
        have em : ys.map (rowOf H7) = js.map (rowK W) := paired_maps (fun x k ⟨t, e, h⟩ => by rw [e]; exact rowOf_at h) py
        have jw : js.Pairwise (· < ·) := by
          have h1 : (ys.map (rowOf H7)).Pairwise (· ≤ ·) := List.pairwise_map.mpr srt
          rw [em] at h1
          have h2 := List.pairwise_map.mp h1
          have nd : js.Nodup := pj.nodup_iff.mpr und
          refine (List.Pairwise.and_mem.mp (List.Pairwise.and h2 nd)).imp fun {x y} ⟨hx, hy, hle, hne⟩ => ?_
          have := rowN_le (hW x (pj.mem_iff.mp hx)) (hW y (pj.mem_iff.mp hy)) hle
          have hne : x ≠ y := hne
          omega
        have jl : js.length = ds.length := pj.length_eq
        generalize upd H7 p (.lst ys) = H8 at s78 h8 ⊢
        have yl : ys.length = js.length := Paired.length py
        refine ⟨.ref p, rfl, p, rfl, ⟨_, sql h8⟩, fun R nR => ?_⟩
        refine lc_list (xs := ys) (fun i H9 => Same H8 H9 ∧ ∃ ws, H9 R = some (.lst ws) ∧ ws.length ≤ i ∧ Paired (FrAt H9) ws (js.take i)) ⟨same_upd nR, [], upd_same, Nat.le_refl _, .nil⟩ (fun i H9 _ h9 => sql (h9.1 _ _ h8)) (fun i v H9 hv g9 => ?_) (fun H9 g9 => ?_)
        · obtain ⟨s9, ws9, hR9, wl9, pw9⟩ := g9
          obtain ⟨k, hk, t, rfl, ht⟩ := paired_at py hv
          have ht9 : Ptp H9 t [.int (rowN W k), .int (frT k scl), .int (frN k scl)] := (ht.same s78).same s9
          have il := (List.getElem?_eq_some_iff.mp hv).1
          refine ⟨t, _, rfl, ht9.seq, rfl, _, _, rfl, _, _, rfl, _, _, rfl, rfl, rfl, .int (frT k scl), rfl, .int (frN k scl), rfl, (by show 2 ≤ sizeLine; decide), fun t2 o nt ho => ?_⟩
          have sT := same_upd (o := .frz o (.tup [.int (frT k scl), .int (frN k scl)])) nt
          have hT : Ptp (upd H9 t2 (.frz o (.tup [.int (frT k scl), .int (frN k scl)]))) t2 [.int (frT k scl), .int (frN k scl)] := ⟨o, upd_same, ho⟩
          generalize upd H9 t2 (.frz o (.tup [.int (frT k scl), .int (frN k scl)])) = H10 at sT hT ⊢
          have hR10 := sT _ _ hR9
          have kp : KpD H10 (upd H10 R (.lst (ws9 ++ [.ref t2]))) := kpD_list hR10
          refine ⟨ws9, hR10, by rw [sizeLine_eq]; omega, Same.put (s9.trans sT) nR, ws9 ++ [.ref t2], upd_same, by rw [List.length_append, List.length_singleton]; omega, ?_⟩
          rw [List.take_add_one, hk]
          exact paired_app (paired_imp (fun _ _ h => (h.same sT).keep kp.t) pw9) (.cons ⟨t2, rfl, kp.t _ _ hT⟩ .nil)
        · obtain ⟨s9, ws9, hR9, wl9, pw9⟩ := g9
          rw [yl, List.take_length] at pw9
          have s08 := s07.trans s78
          have nR0 : H R = none := same_gone s08 nR
          exact q H9 R ws9 js (s08.trans s9) nR0 hR9 pw9 jw (fun k => (pj.mem_iff).trans (umem k)) (by omega)
end
end Kb

namespace Kb
open PySem PySem.Spec PyProof.Rows L2 RZ
/-! dicts by ints, as kvF -/
def kvI (ds : List Int) (f : Int → V) : List (Key × V) := ds.map fun k => ((Sum.inl k : Key), f k)
theorem kvI_keys {ds : List Int} {f : Int → V} : (kvI ds f).map (·.1) = ds.map Sum.inl := by
  unfold kvI
  rw [List.map_map]
  rfl
theorem val_kvI {f : Int → V} {k : Int} : ∀ {ds : List Int}, valV (kvI ds f) (Sum.inl k) = if k ∈ ds then some (f k) else none
  | [] => rfl
  | d :: ds => by
    have ih := val_kvI (f := f) (k := k) (ds := ds)
    show valV (((Sum.inl d : Key), f d) :: kvI ds f) (Sum.inl k) = _
    by_cases e : d = k
    · subst e
      rw [valV_pos rfl, if_pos List.mem_cons_self]
    · rw [valV_neg (fun z => e (Sum.inl.inj z)), ih]
      by_cases m : k ∈ ds
      · rw [if_pos m, if_pos (List.mem_cons_of_mem _ m)]
      · rw [if_neg m, if_neg (fun z => by
          rcases List.mem_cons.mp z with z | z
          · exact e z.symm
          · exact m z)]
theorem put_kvI {f : Int → V} {k : Int} {v : V} {ds : List Int} : putK (kvI ds f) (Sum.inl k) v = kvI (insL ds k) (fun j => if j = k then v else f j) := by
  have an : ((kvI ds f).any fun kv => decide (kv.1 = (Sum.inl k : Key))) = true ↔ k ∈ ds := by
    rw [List.any_eq_true]
    constructor
    · rintro ⟨x, hx, h⟩
      obtain ⟨d, hd, rfl⟩ := List.mem_map.mp hx
      rw [← Sum.inl.inj (of_decide_eq_true h)]
      exact hd
    · intro h
      exact ⟨_, List.mem_map.mpr ⟨k, h, rfl⟩, decide_eq_true rfl⟩
  unfold putK insL
  by_cases m : k ∈ ds
  · rw [if_pos (an.mpr m), if_pos m]
    unfold kvI
    rw [List.map_map]
    refine List.map_congr_left fun d _ => ?_
    show (if (Sum.inl d : Key) = Sum.inl k then ((Sum.inl d : Key), v) else (Sum.inl d, f d)) = (Sum.inl d, if d = k then v else f d)
    by_cases e : d = k
    · rw [if_pos (by rw [e]), if_pos e]
    · rw [if_neg (fun z => e (Sum.inl.inj z)), if_neg e]
  · rw [if_neg (fun z => m (an.mp z)), if_neg m]
    unfold kvI
    rw [List.map_append]
    congr 1
    · refine List.map_congr_left fun d hd => ?_
      show ((Sum.inl d : Key), f d) = (Sum.inl d, if d = k then v else f d)
      rw [if_neg (fun z => m (by rw [← z]; exact hd))]
    · show [((Sum.inl k : Key), v)] = [(Sum.inl k, if k = k then v else f k)]
      rw [if_pos rfl]
/-! exact marks -/
def bel (ks : List Int) (v : Int) : Int := ((ks.filter fun k => decide (k < v)).length : Nat)
def upt (ks : List Int) (v : Int) : Int := ((ks.filter fun k => decide (k ≤ v)).length : Nat)
def exM (ks : List Int) (y : Int) : Fd := ⟨y, bel ks y, bel ks y, upt ks y, upt ks y⟩
def exF (ks ys : List Int) : List Fd := ys.map (exM ks)
theorem exF_len {ks ys : List Int} : (exF ks ys).length = ys.length := List.length_map _
theorem exF_at {ks ys : List Int} {i : Nat} {f : Fd} (h : (exF ks ys)[i]? = some f) : ∃ y, ys[i]? = some y ∧ exM ks y = f := map_at h
structure Srt (ks ys : List Int) : Prop where
  up : ys.Pairwise (· < ·)
  mem : ∀ k, k ∈ ys ↔ k ∈ ks
theorem upt_bel (ks : List Int) (v : Int) : upt ks v = bel ks v + (ks.count v : Nat) := by
  unfold upt bel
  induction ks with
  | nil => rfl
  | cons k ks ih =>
    rw [List.filter_cons, List.filter_cons, List.count_cons]
    have e : (k == v) = decide (k = v) := rfl
    rw [e]
    by_cases h1 : k < v
    · rw [if_pos (decide_eq_true (show k ≤ v by omega)), if_pos (decide_eq_true h1), decide_eq_false (show ¬ k = v by omega)]
      rw [List.length_cons, List.length_cons]
      simp only [Bool.false_eq_true, if_false]
      omega
    · by_cases h2 : k = v
      · rw [if_pos (decide_eq_true (show k ≤ v by omega)), if_neg (by rw [decide_eq_true_eq]; exact h1), decide_eq_true h2, List.length_cons]
        simp only [if_true]
        omega
      · rw [if_neg (by rw [decide_eq_true_eq]; omega), if_neg (by rw [decide_eq_true_eq]; exact h1), decide_eq_false h2]
        simp only [Bool.false_eq_true, if_false]
        omega
theorem bel_nn (ks : List Int) (v : Int) : 0 ≤ bel ks v := Int.natCast_nonneg _
theorem upt_le (ks : List Int) (v : Int) : upt ks v ≤ (ks.length : Nat) := by
  unfold upt
  exact Int.ofNat_le.mpr (List.length_filter_le _ _)
theorem bel_lt_upt {ks : List Int} {v : Int} (h : v ∈ ks) : bel ks v < upt ks v := by
  have := List.count_pos_iff.mpr h
  rw [upt_bel]
  omega
theorem filt_congr {ks : List Int} {p q : Int → Bool} (h : ∀ k ∈ ks, p k = q k) : (ks.filter p).length = (ks.filter q).length := by rw [List.filter_congr h]
theorem filt_le {ks : List Int} {p q : Int → Bool} (h : ∀ k ∈ ks, p k = true → q k = true) : (ks.filter p).length ≤ (ks.filter q).length := by
  rw [← List.countP_eq_length_filter, ← List.countP_eq_length_filter]
  exact List.countP_mono_left h
theorem bel_eq_upt {ks : List Int} {v u : Int} (h : ∀ k ∈ ks, (k < v ↔ k ≤ u)) : bel ks v = upt ks u := by
  unfold bel upt
  have e := filt_congr (ks := ks) (p := fun k => decide (k < v)) (q := fun k => decide (k ≤ u)) (fun k hk => by rw [Bool.eq_iff_iff, decide_eq_true_eq, decide_eq_true_eq]; exact h k hk)
  rw [e]
theorem bel_mono {ks : List Int} {v u : Int} (h : v ≤ u) : bel ks v ≤ bel ks u := by
  unfold bel
  refine Int.ofNat_le.mpr (filt_le fun k _ hk => ?_)
  rw [decide_eq_true_eq] at hk ⊢
  omega
theorem upt_mono {ks : List Int} {v u : Int} (h : v ≤ u) : upt ks v ≤ upt ks u := by
  unfold upt
  refine Int.ofNat_le.mpr (filt_le fun k _ hk => ?_)
  rw [decide_eq_true_eq] at hk ⊢
  omega
theorem upt_le_bel {ks : List Int} {v u : Int} (h : v < u) : upt ks v ≤ bel ks u := by
  unfold upt bel
  refine Int.ofNat_le.mpr (filt_le fun k _ hk => ?_)
  rw [decide_eq_true_eq] at hk ⊢
  omega
theorem bel_le_upt (ks : List Int) (v : Int) : bel ks v ≤ upt ks v := by
  rw [upt_bel]
  omega
theorem Srt.lt {ks ys : List Int} (s : Srt ks ys) {i j : Nat} {x y : Int} (h1 : ys[i]? = some x) (h2 : ys[j]? = some y) (h : i < j) : x < y := by
  obtain ⟨l1, e1⟩ := List.getElem?_eq_some_iff.mp h1
  obtain ⟨l2, e2⟩ := List.getElem?_eq_some_iff.mp h2
  rw [← e1, ← e2]
  exact List.pairwise_iff_getElem.mp s.up i j l1 l2 h
theorem Srt.idx {ks ys : List Int} (s : Srt ks ys) {k : Int} (h : k ∈ ks) : ∃ i : Nat, ys[i]? = some k := List.getElem?_of_mem ((s.mem k).mpr h)
/-- neighbours -/
theorem Srt.adj {ks ys : List Int} (s : Srt ks ys) {i : Nat} {x y : Int} (h1 : ys[i]? = some x) (h2 : ys[i + 1]? = some y) : ∀ k ∈ ks, (k < y ↔ k ≤ x) := by
  intro k hk
  obtain ⟨j, hj⟩ := s.idx hk
  have xy := s.lt h1 h2 (by omega)
  by_cases c : j ≤ i
  · have : k ≤ x := by
      rcases Nat.lt_or_eq_of_le c with c | c
      · exact Int.le_of_lt (s.lt hj h1 c)
      · subst c
        rw [hj] at h1
        cases h1
        exact Int.le_refl _
    omega
  · have : y ≤ k := by
      rcases Nat.lt_or_eq_of_le (show i + 1 ≤ j by omega) with c | c
      · exact Int.le_of_lt (s.lt h2 hj c)
      · subst c
        rw [hj] at h2
        cases h2
        exact Int.le_refl _
    omega
theorem Srt.first {ks ys : List Int} (s : Srt ks ys) {x : Int} (h : ys[0]? = some x) : ∀ k ∈ ks, x ≤ k := by
  intro k hk
  obtain ⟨j, hj⟩ := s.idx hk
  rcases Nat.eq_zero_or_pos j with c | c
  · subst c
    rw [hj] at h
    cases h
    exact Int.le_refl _
  · exact Int.le_of_lt (s.lt h hj c)
theorem Srt.last {ks ys : List Int} (s : Srt ks ys) {x : Int} (h : ys[ys.length - 1]? = some x) : ∀ k ∈ ks, k ≤ x := by
  intro k hk
  obtain ⟨j, hj⟩ := s.idx hk
  have jl := (List.getElem?_eq_some_iff.mp hj).1
  by_cases c : j = ys.length - 1
  · subst c
    rw [hj] at h
    cases h
    exact Int.le_refl _
  · exact Int.le_of_lt (s.lt hj h (by omega))
theorem filt_all {ks : List Int} {p : Int → Bool} (h : ∀ k ∈ ks, p k = true) : (ks.filter p).length = ks.length := by rw [List.filter_eq_self.mpr h]
theorem filt_none {ks : List Int} {p : Int → Bool} (h : ∀ k ∈ ks, p k = false) : (ks.filter p).length = 0 := by
  rw [List.filter_eq_nil_iff.mpr fun k hk => by rw [h k hk]; exact Bool.false_ne_true]
  rfl
/-- how many are below the i-th -/
def belAt (ks ys : List Int) (i : Nat) : Int := match ys[i]? with
  | some y => bel ks y
  | none => (ks.length : Nat)
theorem belAt_some {ks ys : List Int} {i : Nat} {y : Int} (h : ys[i]? = some y) : belAt ks ys i = bel ks y := by unfold belAt; rw [h]
theorem belAt_zero {ks ys : List Int} (s : Srt ks ys) : belAt ks ys 0 = 0 := by
  unfold belAt
  cases e : ys[0]? with
  | some y =>
    show bel ks y = 0
    unfold bel
    rw [filt_none fun k hk => decide_eq_false (by have := s.first e k hk; omega)]
    rfl
  | none =>
    have ny : ys = [] := List.length_eq_zero_iff.mp (by have := List.getElem?_eq_none_iff.mp e; omega)
    have : ks = [] := List.eq_nil_iff_forall_not_mem.mpr fun k hk => by
      have := (s.mem k).mpr hk
      rw [ny] at this
      cases this
    rw [this]
    rfl
theorem belAt_succ {ks ys : List Int} (s : Srt ks ys) {i : Nat} {y : Int} (h : ys[i]? = some y) : belAt ks ys (i + 1) = upt ks y := by
  unfold belAt
  cases e : ys[i + 1]? with
  | some z => exact bel_eq_upt (s.adj h e)
  | none =>
    show ((ks.length : Nat) : Int) = upt ks y
    have hl := (List.getElem?_eq_some_iff.mp h).1
    have hn := List.getElem?_eq_none_iff.mp e
    have : ys[ys.length - 1]? = some y := by rw [show ys.length - 1 = i by omega]; exact h
    unfold upt
    rw [filt_all fun k hk => decide_eq_true (s.last this k hk)]
theorem belAt_end {ks ys : List Int} : belAt ks ys ys.length = (ks.length : Nat) := by
  unfold belAt
  rw [List.getElem?_eq_none (Nat.le_refl _)]
theorem exF_ok {ks ys : List Int} (s : Srt ks ys) (kb : ∀ k ∈ ks, k.natAbs ≤ 2 ^ 89) (n1 : ks.length ≤ 2 ^ 30) (yl : ys.length ≤ 3000) : FsOk (ks.length : Nat) (exF ks ys) := by
  have p30 : (2 : Nat) ^ 30 = 1073741824 := by decide
  have p40 : (2 : Int) ^ 40 = 1099511627776 := by decide
  refine ⟨fun f hf => ?_, ?_, fun i f g h1 h2 => ?_, fun f hf => ?_, Int.natCast_nonneg _, by omega, by rw [exF_len]; exact yl⟩
  · obtain ⟨y, hy, rfl⟩ := List.mem_map.mp hf
    have b := bel_lt_upt ((s.mem y).mp hy)
    have u := upt_le ks y
    exact ⟨bel_nn _ _, b, u, Int.le_refl _, b, u, Int.le_refl _⟩
  · exact List.pairwise_map.mpr s.up
  · obtain ⟨x, hx, rfl⟩ := exF_at h1
    obtain ⟨y, hy, rfl⟩ := exF_at h2
    have e : bel ks y = upt ks x := bel_eq_upt (s.adj hx hy)
    exact ⟨by show upt ks x ≤ bel ks y; omega, by show upt ks x ≤ bel ks y; omega⟩
  · obtain ⟨y, hy, rfl⟩ := List.mem_map.mp hf
    exact kb y ((s.mem y).mp hy)
/-- there is just one such list -/
theorem srt_one {ks xs ys : List Int} (s : Srt ks xs) (t : Srt ks ys) : xs = ys := by
  have key : ∀ (xs ys : List Int), xs.Pairwise (· < ·) → ys.Pairwise (· < ·) → (∀ k, k ∈ xs ↔ k ∈ ys) → xs = ys := by
    intro xs
    induction xs with
    | nil =>
      intro ys _ _ h
      exact (List.eq_nil_iff_forall_not_mem.mpr fun k hk => by cases (h k).mpr hk).symm
    | cons x xs ih =>
      intro ys h1 h2 h
      cases ys with
      | nil => cases (h x).mp List.mem_cons_self
      | cons y ys =>
        obtain ⟨a1, a2⟩ := List.pairwise_cons.mp h1
        obtain ⟨b1, b2⟩ := List.pairwise_cons.mp h2
        have e : x = y := by
          have hx := (h x).mp List.mem_cons_self
          have hy := (h y).mpr List.mem_cons_self
          rcases List.mem_cons.mp hx with e | hx
          · exact e
          · rcases List.mem_cons.mp hy with e | hy
            · exact e.symm
            · have := b1 x hx
              have := a1 y hy
              omega
        subst e
        rw [ih ys a2 b2 fun k => ⟨fun hk => by
          rcases List.mem_cons.mp ((h k).mp (List.mem_cons_of_mem _ hk)) with e | hk'
          · have := a1 k hk
            omega
          · exact hk', fun hk => by
          rcases List.mem_cons.mp ((h k).mpr (List.mem_cons_of_mem _ hk)) with e | hk'
          · have := b1 k hk
            omega
          · exact hk'⟩]
  exact key xs ys s.up t.up fun k => (s.mem k).trans (t.mem k).symm
/-- what the program and the law tell of marks -/
def ThinOut (room : Nat) (n : Int) (fs r : List Fd) : Prop := (fs.length ≤ room ∧ r = fs) ∨ (room < fs.length ∧ ∃ g, IsH n room fs g ∧ stp n g 0 none fs = some r)
theorem ThinOut.one {room : Nat} {n : Int} {fs r r' : List Fd} (h : ThinOut room n fs r) (h' : ThinOut room n fs r') : r = r' := by
  rcases h with ⟨l, rfl⟩ | ⟨l, g, ih, e⟩
  · rcases h' with ⟨_, rfl⟩ | ⟨l', _⟩
    · rfl
    · omega
  · rcases h' with ⟨l', _⟩ | ⟨_, g', ih', e'⟩
    · omega
    · rw [ih.one ih'] at e
      rw [e] at e'
      exact Option.some.inj e'
theorem ThinOut.sub {room : Nat} {n : Int} {fs r : List Fd} (up : Up fs) (h : ThinOut room n fs r) : r.Sublist fs ∧ r.length ≤ room := by
  rcases h with ⟨l, rfl⟩ | ⟨_, g, ih, e⟩
  · exact ⟨List.Sublist.refl _, l⟩
  · obtain ⟨h1, h2, _⟩ := ih.eq up e
    exact ⟨h2, h1⟩
end Kb

namespace Kb
open PySem PySem.Spec PyProof.Rows L2 RZ
abbrev sP_are_numbers : Stmt := topS 23
abbrev NP_are_numbers : List Str := ["thing", "item"]
theorem scP_are_numbers : FnScope ["thing", "item"] ["thing"] (defScope sP_are_numbers) := ⟨rfl, rfl, rfl, by decide +kernel, rfl, by decide +kernel, by decide +kernel⟩
abbrev DnAreNumbers (K : PySem.W.Frag) (mg : Str → Option Value) := Dn K mg "are_numbers" sP_are_numbers ["thing"]
abbrev sP__ranks_of : Stmt := topS 36
abbrev NP__ranks_of : List Str := ["room", "numbers", "counts", "value", "marks", "below", "up_to"]
theorem scP__ranks_of : FnScope ["room", "numbers", "counts", "value", "marks", "below", "up_to"] ["room", "numbers"] (defScope sP__ranks_of) := ⟨rfl, rfl, rfl, by decide +kernel, rfl, by decide +kernel, by decide +kernel⟩
abbrev Dn_RanksOf (K : PySem.W.Frag) (mg : Str → Option Value) := Dn K mg "_ranks_of" sP__ranks_of ["room", "numbers"]
abbrev NP_ranks_of : List Str := ["room", "numbers"]
section
variable {P : Program} {w : World} {K : PySem.W.Frag} {mg : Str → Option Value} {base : Heap}
theorem fr_sz {k : Int} (h : k.natAbs ≤ 2 ^ 89) : (frT k scl).natAbs ≤ 2 ^ 100 ∧ (frN k scl).natAbs ≤ 2 ^ 100 := by
  obtain ⟨a, b⟩ := fr_le (n := k) (S := scl) (by decide)
  have e : scl.natAbs = 2688840 := rfl
  have p : (2 : Nat) ^ 100 = 1267650600228229401496703205376 := by decide
  exact ⟨Nat.le_trans a (Nat.le_trans h (by decide)), by omega⟩
theorem fr_d {H : Hp} {v : V} {k : Int} (h : FrAt H v k) (kb : k.natAbs ≤ 2 ^ 89) : DtAt K H v (.tup [.int (frT k scl), .int (frN k scl)]) := by
  obtain ⟨u, rfl, hu⟩ := h
  exact fr_dt hu (fr_sz kb)
theorem frs_d {H : Hp} : ∀ {us : List V} {ks : List Int}, Paired (FrAt H) us ks → (∀ k ∈ ks, k.natAbs ≤ 2 ^ 89) → Paired (DtAt K H) us (ks.map fun k => .tup [.int (frT k scl), .int (frN k scl)])
  | _, _, .nil, _ => .nil
  | _, _, .cons r t, h => .cons (fr_d r (h _ List.mem_cons_self)) (frs_d t fun k hk => h k (List.mem_cons_of_mem _ hk))
/-! are_numbers, of a right stream -/
def spAreNumbers : Sp := fun vs H Q _ => ∃ (p : Addr) (us : List V) (ks : List Int), vs = [.ref p] ∧ Ptp H p us ∧ Paired (FrAt H) us ks ∧ us.length ≤ 3000 ∧ (∀ k ∈ ks, k.natAbs ≤ 2 ^ 89) ∧ ∀ H', Same H H' → Q (.bl true) H'
theorem ok_are_numbers (T : Blt mg) (gG : mg "gcd" = some (.builtin "math.gcd")) (dP_is_int : DnIsInt K mg) (dP_is_fraction : DnIsFraction K mg) (d : DnAreNumbers K mg) : FnOk P w K mg base CX0 3 d.f d.fd ["thing"] spAreNumbers := by
  have GP_is_fraction : FnOk P w K mg base CX0 2 dP_is_fraction.f dP_is_fraction.fd ["thing"] (spIsFraction K) := ok_is_fraction T gG dP_is_int dP_is_fraction
  refine d.F.ok scP_are_numbers (fun vs H Q E h => ?_) (fun cdv A outer s H vs Q E hr h => ?_)
  · obtain ⟨p, us, ks, rfl, _⟩ := h
    rfl
  · obtain ⟨p, us, ks, rfl, hp, pr, ul, kb, q⟩ := h
    refine ⟨_, (pss_one (ps_ret (pe_and (pe_callB (call_isD (K := K) rfl) (by rfl) T.n_isinstance (by decide +kernel) (pa_cons (pv 0) (pa_cons (pe_bltn (v := .ty "tuple") (by rfl) T.n_tuple (by decide +kernel) rfl) pa_nil))) (pe_one (pe_callB (cr_all rfl) (by rfl) T.n_all (by decide +kernel) (pa_cons (pe_lc (own := [("item", 1)]) (g := gName 1) (tt := tYes) rfl scP_are_numbers.nd (pi_tup (pv 0)) (blkOk_by (N := NP_are_numbers) (sc := defScope sP_are_numbers) (by decide +kernel)) (fun _ _ _ _ _ => pg_name (i := 1) scP_are_numbers.nd rfl (Or.inl rfl)) (fun _ _ _ _ _ => pts_nil) (fun _ _ _ _ _ => (pe_call GP_is_fraction (hr.mono (by omega)) (by rfl) dP_is_fraction.g dP_is_fraction.F.kp dP_is_fraction.b .nil pass0 (pa_cons (pv 1) pa_nil)))) pa_nil)))))), ?_⟩
    have dt : DtAt K H (.ref p) (.tup (ks.map fun k => .tup [.int (frT k scl), .int (frN k scl)])) := DtAt.mk hp (by omega) (frs_d pr kb)
    obtain ⟨t, ty, kI, kB, kS, kT⟩ := dt.ty
    refine ⟨.ref p, rfl, .ref p, _, t, _, true, rfl, .ty "tuple", ty, kT, true, rfl, iteT ?_⟩
    refine ⟨.ref p, rfl, p, rfl, ⟨_, hp.seq⟩, fun D nD => ?_⟩
    refine lc_tup (xs := us) (fun j H3 => Same H H3 ∧ H3 D = some (.lst (((ks.take j).map fun _ => true).map V.bl))) ⟨same_upd nD, upd_same⟩ (fun j H3 _ h3 => (hp.same h3.1).seq) (fun j u H3 hu g3 => ?_) (fun H3 g3 => ?_)
    · obtain ⟨k, hk, hat⟩ := paired_at pr hu
      obtain ⟨s3, hD⟩ := g3
      have hkm := kb k (List.mem_of_getElem? hk)
      have jl := (List.getElem?_eq_some_iff.mp hu).1
      refine ⟨rfl, u, rfl, u, _, rfl, fr_d (hat.same s3) hkm, _, hD, ?_, Same.put s3 nD, ?_⟩
      · rw [List.length_map, List.length_map, List.length_take, sizeLine_eq]
        omega
      · rw [upd_same, List.take_add_one, hk, List.map_append, List.map_append, frB_of (fr_ok (by decide))]
        rfl
    · obtain ⟨s3, hD⟩ := g3
      refine ⟨D, _, rfl, sql hD, ?_⟩
      rw [List.all_eq_true.mpr fun b hb => by
        obtain ⟨_, _, rfl⟩ := List.mem_map.mp hb
        rfl]
      exact q H3 s3
/-! _ranks_of -/
def spRanksOf (K : PySem.W.Frag) : Sp := fun vs H Q _ => ∃ (room : Nat) (p : Addr) (us : List V) (ks : List Int), vs = [.int (room : Int), .ref p] ∧ Ptp H p us ∧ Paired (FrAt H) us ks ∧ us.length ≤ 3000 ∧ (∀ k ∈ ks, k.natAbs ≤ 2 ^ 89) ∧ 1 ≤ room ∧ room ≤ 64 ∧
  ∀ ys r, Srt ks ys → ThinOut room (ks.length : Nat) (exF ks ys) r → ∀ H' p', Same H H' → DtAt K H' (.ref p') (rk2 room (ks.length : Nat) (r.map Fd.m)) → Q (.ref p') H'
theorem ok__ranks_of (T : Blt mg) (dP_ascending : DnAscending K mg) (dP_chosen : DnChosen K mg) (dP_thin : DnThin K mg) (d : Dn_RanksOf K mg) : FnOk P w K mg base CX0 3 d.f d.fd ["room", "numbers"] (spRanksOf K) := by
  have GP_ascending : FnOk P w K mg base CX0 1 dP_ascending.f dP_ascending.fd ["fractions"] spAscending := ok_ascending T dP_ascending
  have GP_thin : FnOk P w K mg base CX0 2 dP_thin.f dP_thin.fd ["room", "many", "marks"] (spThin K) := ok_thin T dP_chosen dP_thin
  refine d.F.ok scP__ranks_of (fun vs H Q E h => ?_) (fun cdv A outer s H vs Q E hr h => ?_)
  · obtain ⟨room, p, us, ks, rfl, _⟩ := h
    rfl
  · obtain ⟨room, p, us, ks, rfl, hp, pr, ul, kb, r1, r64, q⟩ := h
    refine ⟨_, (pss_cons (ps_set (i := 2) scP__ranks_of.nd rfl (Or.inl rfl) pe_tnew)
    (pss_cons (ps_for PassesOwn.never rfl (pi_tup (pv 1)) (pg_name (i := 3) scP__ranks_of.nd rfl (Or.inl rfl))
      (pss_one (ps_tput (rm9 hr.units) (pv 2) (pv 3) (pe_op op_add (pe_tget2 (rm9 hr.units) (pv 2) (pv 3) pe_int ⟨rfl, rfl, rfl, rfl⟩) pe_int) rfl)))
    (pss_cons (ps_set (i := 4) scP__ranks_of.nd rfl (Or.inl rfl) (pe_lst pa_nil))
    (pss_cons (ps_set (i := 5) scP__ranks_of.nd rfl (Or.inl rfl) pe_int)
    (pss_cons (ps_for PassesOwn.never rfl (pi_list (pe_call GP_ascending (hr.mono (by omega)) (by rfl) dP_ascending.g dP_ascending.F.kp dP_ascending.b .nil pass0 (pa_cons (pe_callTy (call_list_tk rfl) (by rfl) T.n_list (by decide +kernel) (pa_cons (pv 2) pa_nil)) pa_nil))) (pg_name (i := 3) scP__ranks_of.nd rfl (Or.inl rfl))
      (pss_cons (ps_set (i := 6) scP__ranks_of.nd rfl (Or.inl rfl) (pe_op op_add (pv 5) (pe_tget (rm9 hr.units) (pv 2) (pv 3) (fun _ _ => rfl))))
      (pss_cons (ps_expr (pe_bm PySem.F.plainAttrs_list PySem.F.slot_list_append PySem.F.type_list_append mt_append (pv 4) (pa_cons (pe_tupF (pa_cons (pv 3) (pa_cons (pv 5) (pa_cons (pv 5) (pa_cons (pv 6) (pa_cons (pv 6) pa_nil)))))) pa_nil)))
      (pss_one (ps_set (i := 5) scP__ranks_of.nd rfl (Or.inl rfl) (pv 6))))))
    (pss_one (ps_ret (pe_call GP_thin (hr.mono (by omega)) (by rfl) dP_thin.g dP_thin.F.kp dP_thin.b .nil pass0 (pa_cons (pv 0) (pa_cons (pe_callB call_len_seq (by rfl) T.n_len (by decide +kernel) (pa_cons (pv 1) pa_nil)) (pa_cons (pv 4) pa_nil))))))))))), ?_⟩
    have kl : us.length = ks.length := Paired.length pr
    -- the counts
    intro D o0 nD d0
    refine ⟨.ref p, rfl, p, rfl, ⟨_, (hp.same (same_upd nD)).seq⟩, ?_⟩
    refine for_tup (xs := us) (fun i σ H2 => ∃ y3 : Option V, σ = [some (.int (room : Int)), some (.ref p), some (.ref D), y3, none, none, none] ∧ Same H H2 ∧ TkAt P w H2 D (kvF (unl (ks.take i)) fun k => .int (((ks.take i).count k : Nat) : Int))) ⟨none, rfl, same_upd nD, d0⟩ (fun i σ H2 _ ⟨_, _, s, _⟩ => (hp.same s).seq) ?_ ?_
    · rintro i v σ H2 hv ⟨y3, rfl, s2, d2⟩
      obtain ⟨k, hk, u, rfl, hu⟩ := paired_at pr hv
      have hu2 := hu.same s2
      have il := (List.getElem?_eq_some_iff.mp hv).1
      have et : ks.take (i + 1) = ks.take i ++ [k] := by rw [List.take_add_one, hk]; rfl
      have lt := (unl_all (ks.take i)).2.2
      rw [List.length_take] at lt
      have gv : (valV (kvF (unl (ks.take i)) fun k => V.int (((ks.take i).count k : Nat) : Int)) (frK k)).getD (.int 0) = .int (((ks.take i).count k : Nat) : Int) := by
        rw [val_kvF]
        split
        · rfl
        · rename_i m
          rw [List.count_eq_zero_of_not_mem fun z => m (((unl_all (ks.take i)).2.1 k).mpr z)]
          rfl
      refine ⟨.ref D, rfl, D, rfl, ⟨_, .inl d2⟩, .ref u, rfl, u, frK k, _, rfl, .inl d2, fr_nk hu2, frK_dp k, ?_⟩
      rw [gv]
      refine ⟨_, _, rfl, rfl, .ref D, rfl, .ref u, rfl, D, u, frK k, _, rfl, rfl, d2, fr_nk hu2, frK_dp k, by show (List.map _ _).length < sizeLine; rw [List.length_map, sizeLine_eq]; omega, fun o d3 => ⟨_, rfl, Same.put s2 nD, ?_⟩⟩
      rw [put_kvF] at d3
      rw [et, unl_snoc]
      have ef : (fun j => if j = k then V.int ((((ks.take i).count k : Nat) : Int) + 1) else V.int (((ks.take i).count j : Nat) : Int)) = fun j => V.int (((ks.take i ++ [k]).count j : Nat) : Int) := by
        funext j
        rw [List.count_append, List.count_singleton]
        by_cases e : j = k
        · subst e
          rw [if_pos rfl, if_pos (by rw [beq_self_eq_true]), Int.natCast_add]
          rfl
        · rw [if_neg e, if_neg (by rw [beq_iff_eq]; exact fun z => e z.symm), Nat.add_zero]
      rw [← ef]
      exact d3
    rintro σ H2 ⟨y3, rfl, s2, d2⟩
    rw [kl, List.take_length] at d2
    obtain ⟨und, umem, ulen⟩ := unl_all ks
    generalize hds : unl ks = ds at d2 und umem ulen
    -- the marks
    refine ⟨(by show 0 ≤ sizeLine; decide), fun M nM => ?_⟩
    have s3 := same_upd (o := .lst []) nM
    have hM3 : (upd H2 M (.lst [])) M = some (.lst []) := upd_same
    have nM0 := same_gone s2 nM
    have dne : D ≠ M := by
      obtain ⟨qs, e, _⟩ := id d2
      exact ne_of_none e nM
    have d3 : TkAt P w (upd H2 M (.lst [])) D (kvF ds fun k => .int ((ks.count k : Nat) : Int)) := d2.keep (upd_ne dne) (fun p xs h => h.same s3)
    have s03 := s2.trans s3
    generalize upd H2 M (.lst []) = H3 at s3 hM3 d3 s03 ⊢
    refine ⟨.ref D, rfl, D, _, rfl, d3, fun L bs nL pb => ?_⟩
    have s4 := same_upd (o := .lst (bs.map V.ref)) nL
    have hL4 : (upd H3 L (.lst (bs.map V.ref))) L = some (.lst (bs.map V.ref)) := upd_same
    have pb4 : Paired (FrAt (upd H3 L (.lst (bs.map V.ref)))) (bs.map V.ref) ds := by
      have go : ∀ (Hx : Hp) (sx : Same H3 Hx) {ds : List Int} {bs : List Addr}, Paired (fun (kv : NestedKey × V) b => NkAt H3 kv.1 (.ref b)) (kvF ds (fun k => .int ((ks.count k : Nat) : Int))) bs → Paired (FrAt Hx) (bs.map V.ref) ds := by
        intro Hx sx ds
        induction ds with
        | nil =>
          intro bs h
          cases h
          exact .nil
        | cons k ds ih =>
          intro bs h
          cases h with
          | cons r t => exact .cons ⟨_, rfl, (nk_fr r).same sx⟩ (ih t)
      exact go _ s4 pb
    have dne4 : D ≠ L := by
      obtain ⟨qs, e, _⟩ := id d3
      exact ne_of_none e nL
    have d4 := d3.keep (H' := upd H3 L (.lst (bs.map V.ref))) (upd_ne dne4) (fun p xs h => h.same s4)
    have hM4 := s4 _ _ hM3
    have s04 := s03.trans s4
    generalize upd H3 L (.lst (bs.map V.ref)) = H4 at s4 hL4 pb4 d4 hM4 s04 ⊢
    have bl : (bs.map V.ref).length = ds.length := Paired.length pb4
    refine ⟨L, _, ds, rfl, hL4, pb4, by omega, fun k hk => kb k ((umem k).mp hk), fun H5 A5 ws ys s5 nA5 hA5 pw yup ymem yl => ?_⟩
    have srt : Srt ks ys := ⟨yup, fun k => (ymem k).trans (umem k)⟩
    have d5 : TkAt P w H5 D (kvF ds fun k => .int ((ks.count k : Nat) : Int)) := by
      obtain ⟨qs, e, _⟩ := id d4
      exact d4.keep ((s5 _ _ e).trans e.symm) (fun p xs h => h.same s5)
    have hM5 := s5 _ _ hM4
    have s05 := s04.trans s5
    have wl : ws.length = ys.length := Paired.length pw
    refine ⟨A5, rfl, ⟨_, sql hA5⟩, ?_⟩
    have neM : A5 ≠ M := (ne_of_none hM4 nA5).symm
    refine for_list (xs := ws) (fun i σ H6 => ∃ (y3 y6 : Option V) (us6 : List V), σ = [some (.int (room : Int)), some (.ref p), some (.ref D), y3, some (.ref M), some (.int (belAt ks ys i)), y6] ∧ Same H H6 ∧ H6 A5 = some (.lst ws) ∧ Paired (FrAt H6) ws ys ∧ TkAt P w H6 D (kvF ds fun k => .int ((ks.count k : Nat) : Int)) ∧ H6 M = some (.lst us6) ∧ Paired (DtAt K H6) us6 ((exF ks (ys.take i)).map fun f => mk2 f.m)) ⟨_, _, [], by rw [belAt_zero srt]; rfl, s05, hA5, pw, d5, hM5, .nil⟩ (fun i σ H6 _ ⟨_, _, _, _, _, e, _⟩ => sql e) ?_ ?_
    · rintro i v σ H6 hv ⟨y3, y6, us6, rfl, s6, hA6, pw6, d6, hM6, pm⟩
      obtain ⟨y, hy, u, rfl, hu⟩ := paired_at pw6 hv
      have ym := (srt.mem y).mp (List.mem_of_getElem? hy)
      have il := (List.getElem?_eq_some_iff.mp hy).1
      refine ⟨.int (belAt ks ys i), rfl, .ref D, rfl, .ref u, rfl, D, u, frK y, _, .int ((ks.count y : Nat) : Int), rfl, rfl, .inl d6, fr_nk hu, frK_dp y, by rw [val_kvF, if_pos ((umem y).mpr ym)], ?_⟩
      refine ⟨_, _, rfl, rfl, ?_⟩
      have eu : belAt ks ys i + ((ks.count y : Nat) : Int) = belAt ks ys (i + 1) := by rw [belAt_some hy, belAt_succ srt hy, upt_bel]
      dsimp only
      rw [eu]
      refine ⟨.ref M, rfl, .inl ⟨rfl, _, sql hM6⟩, .ref u, rfl, .int (belAt ks ys i), rfl, .int (belAt ks ys i), rfl, .int (belAt ks ys (i + 1)), rfl, .int (belAt ks ys (i + 1)), rfl, (by show 5 ≤ sizeLine; decide), fun t o nt ho => ?_⟩
      have sT := same_upd (o := .frz o (.tup [.ref u, .int (belAt ks ys i), .int (belAt ks ys i), .int (belAt ks ys (i + 1)), .int (belAt ks ys (i + 1))])) nt
      have hT : Ptp (upd H6 t (.frz o (.tup [.ref u, .int (belAt ks ys i), .int (belAt ks ys i), .int (belAt ks ys (i + 1)), .int (belAt ks ys (i + 1))]))) t [.ref u, .int (belAt ks ys i), .int (belAt ks ys i), .int (belAt ks ys (i + 1)), .int (belAt ks ys (i + 1))] := ⟨o, upd_same, ho⟩
      generalize upd H6 t (.frz o (.tup [.ref u, .int (belAt ks ys i), .int (belAt ks ys i), .int (belAt ks ys (i + 1)), .int (belAt ks ys (i + 1))])) = H7 at sT hT ⊢
      have b1 : belAt ks ys i = bel ks y := belAt_some hy
      have b2 : belAt ks ys (i + 1) = upt ks y := belAt_succ srt hy
      rw [b1, b2] at hT
      have z1 := bel_nn ks y
      have z2 := upt_le ks y
      have z3 := bel_le_upt ks y
      have p100 : (2 : Nat) ^ 100 = 1267650600228229401496703205376 := by decide
      have dm : DtAt K H7 (.ref t) (mk2 (exM ks y).m) := DtAt.mk hT (by show 5 ≤ 5000; decide) (.cons (fr_d ⟨u, rfl, hu.same sT⟩ (kb y ym)) (.cons (.lf ⟨rfl, by show (bel ks y).natAbs ≤ _; omega⟩) (.cons (.lf ⟨rfl, by show (bel ks y).natAbs ≤ _; omega⟩) (.cons (.lf ⟨rfl, by show (upt ks y).natAbs ≤ _; omega⟩) (.cons (.lf ⟨rfl, by show (upt ks y).natAbs ≤ _; omega⟩) .nil)))))
      have hM7 := sT _ _ hM6
      have ml : us6.length ≤ i := by rw [Paired.length pm, List.length_map, exF_len, List.length_take]; omega
      have kp : KpD H7 (upd H7 M (.lst (us6 ++ [.ref t]))) := kpD_list hM7
      have neM7 : D ≠ M := dne
      refine ⟨M, us6, .ref t, rfl, rfl, hM7, by rw [sizeLine_eq]; omega, .int (belAt ks ys (i + 1)), rfl, _, _, us6 ++ [.ref t], rfl, Same.put (s6.trans sT) nM0, by rw [upd_ne neM]; exact sT _ _ hA6, paired_imp (fun _ _ h => (h.same sT).keep kp.t) pw6, ?_, upd_same, ?_⟩
      · obtain ⟨qs, e, _⟩ := id d6
        exact d6.keep (by rw [upd_ne neM7]; exact (sT _ _ e).trans e.symm) (fun p xs h => kp.t _ _ (h.same sT))
      · rw [List.take_add_one, hy]
        unfold exF
        rw [List.map_append, List.map_append]
        exact paired_app (paired_imp (fun _ _ h => (h.same sT).keep kp) pm) (.cons (dm.keep kp) .nil)
    · rintro σ H6 ⟨y3, y6, us6, rfl, s6, hA6, pw6, d6, hM6, pm⟩
      rw [wl, List.take_length] at pm
      have yl3 : ys.length ≤ 3000 := by omega
      have fok := exF_ok srt kb (by have : (2 : Nat) ^ 30 = 1073741824 := by decide
                                    omega) yl3
      have n1 := fok.n1
      have p40 : (2 : Int) ^ 40 = 1099511627776 := by decide
      have p41 : (2 : Int) ^ 41 = 2199023255552 := by decide
      refine ⟨.int (room : Int), rfl, .ref p, rfl, p, _, rfl, .inr (hp.same s6).seq, .ref M, rfl, room, ((us.length : Nat) : Int), M, us6, exF ks ys, rfl, hM6, pm, fok.len, r64, Int.natCast_nonneg _, by omega, fok.up, fun c H7 p7 s7 d7 => ?_, fun g r c ih er H7 p7 s7 d7 => ?_⟩
      · rw [kl] at d7
        exact q ys _ srt (.inl ⟨c, rfl⟩) H7 p7 (s6.trans s7) d7
      · rw [kl] at d7 ih er
        exact q ys r srt (.inr ⟨c, g, ih, er⟩) H7 p7 (s6.trans s7) d7
end
end Kb

namespace Kb
open PySem PySem.Spec PyProof.Rows L2 RZ
abbrev sexact : Stmt := topS 54
abbrev Nexact : List Str := ["_law_keys", "_law_counts", "_law_key", "_law_found", "_law_below", "_law_up"]
theorem scexact : FnScope ["_law_keys", "_law_counts", "_law_key", "_law_found", "_law_below", "_law_up"] ["_law_keys"] (defScope sexact) := ⟨rfl, rfl, rfl, by decide +kernel, rfl, by decide +kernel, by decide +kernel⟩
abbrev Dnexact (K : PySem.W.Frag) (mg : Str → Option Value) := Dn K mg "_law_exact" sexact ["_law_keys"]
section
variable {P : Program} {w : World} {K : PySem.W.Frag} {mg : Str → Option Value} {base : Heap}
def spExact : Sp := fun vs H Q _ => ∃ (l : Addr) (ks : List Int), vs = [.ref l] ∧ H l = some (.lst (ks.map V.int)) ∧ ks.length ≤ 3000 ∧
  ∀ ys, Srt ks ys → ∀ H' p us, Same H H' → H p = none → H' p = some (.lst us) → Paired (FdAt H') us (exF ks ys) → Q (.ref p) H'
theorem ok_exact (T : Blt mg) (d : Dnexact K mg) : FnOk P w K mg base CX0 1 d.f d.fd ["_law_keys"] spExact := by
  refine d.F.ok scexact (fun vs H Q E h => ?_) (fun cdv A outer s H vs Q E hr h => ?_)
  · obtain ⟨l, ks, rfl, _⟩ := h
    rfl
  · obtain ⟨l, ks, rfl, hl, kl, q⟩ := h
    have hu := hu_of hr
    refine ⟨_, (pss_cons (ps_set (i := 1) scexact.nd rfl (Or.inl rfl) pe_dnewK)
    (pss_cons (ps_for PassesOwn.never rfl (pi_list (pv 0)) (pg_name (i := 2) scexact.nd rfl (Or.inl rfl))
      (pss_one (ps_dput hu (pv 1) (pv 2) (pe_op op_add (pe_dget2 hu (pv 1) (pv 2) pe_int ⟨rfl, rfl, rfl, rfl⟩) pe_int) rfl)))
    (pss_cons (ps_set (i := 3) scexact.nd rfl (Or.inl rfl) (pe_lst pa_nil))
    (pss_cons (ps_set (i := 4) scexact.nd rfl (Or.inl rfl) pe_int)
    (pss_cons (ps_for PassesOwn.never rfl (pi_list (pe_callB (cr_sortedDIL rfl) (by rfl) T.n_sorted (by decide +kernel) (pa_cons (pv 1) pa_nil))) (pg_name (i := 2) scexact.nd rfl (Or.inl rfl))
      (pss_cons (ps_set (i := 5) scexact.nd rfl (Or.inl rfl) (pe_op op_add (pv 4) (pe_dget hu (pv 1) (pv 2) (fun _ _ => rfl))))
      (pss_cons (ps_expr (pe_bm PySem.F.plainAttrs_list PySem.F.slot_list_append PySem.F.type_list_append mt_append (pv 3) (pa_cons (pe_tupF (pa_cons (pv 2) (pa_cons (pv 4) (pa_cons (pv 4) (pa_cons (pv 5) (pa_cons (pv 5) pa_nil)))))) pa_nil)))
      (pss_one (ps_set (i := 4) scexact.nd rfl (Or.inl rfl) (pv 5))))))
    (pss_one (ps_ret (pv 3)))))))), ?_⟩
    intro D nD
    have el : (ks.map V.int).length = ks.length := List.length_map _
    refine ⟨.ref l, rfl, l, rfl, ⟨_, sql (same_upd nD _ _ hl)⟩, ?_⟩
    refine for_list (xs := ks.map V.int) (fun i σ H2 => ∃ y3 : Option V, σ = [some (.ref l), some (.ref D), y3, none, none, none] ∧ Same H H2 ∧ H2 D = some (.dK (kvI (unl (ks.take i)) fun k => .int (((ks.take i).count k : Nat) : Int)))) ⟨none, rfl, same_upd nD, upd_same⟩ (fun i σ H2 _ ⟨_, _, s, _⟩ => sql (s _ _ hl)) ?_ ?_
    · rintro i v σ H2 hv ⟨y3, rfl, s2, d2⟩
      obtain ⟨k, hk, rfl⟩ := map_at hv
      have il := (List.getElem?_eq_some_iff.mp hk).1
      have et : ks.take (i + 1) = ks.take i ++ [k] := by rw [List.take_add_one, hk]; rfl
      have lt := (unl_all (ks.take i)).2.2
      rw [List.length_take] at lt
      have gv : (valV (kvI (unl (ks.take i)) fun k => V.int (((ks.take i).count k : Nat) : Int)) (Sum.inl k)).getD (.int 0) = .int (((ks.take i).count k : Nat) : Int) := by
        rw [val_kvI]
        split
        · rfl
        · rename_i m
          rw [List.count_eq_zero_of_not_mem fun z => m (((unl_all (ks.take i)).2.1 k).mpr z)]
          rfl
      refine ⟨.ref D, rfl, D, rfl, .inl ⟨_, .inl d2⟩, .int k, rfl, _, DGet.k (k := Sum.inl k) d2, ?_⟩
      rw [gv]
      refine ⟨_, _, rfl, rfl, .ref D, rfl, .int k, rfl, D, _, rfl, DPut.k (k := Sum.inl k) d2 (by show (List.map _ _).length < sizeLine; rw [List.length_map, sizeLine_eq]; omega), _, rfl, Same.put s2 nD, ?_⟩
      rw [upd_same, put_kvI, et, unl_snoc]
      have ef : (fun j => if j = k then V.int ((((ks.take i).count k : Nat) : Int) + 1) else V.int (((ks.take i).count j : Nat) : Int)) = fun j => V.int (((ks.take i ++ [k]).count j : Nat) : Int) := by
        funext j
        rw [List.count_append, List.count_singleton]
        by_cases e : j = k
        · subst e
          rw [if_pos rfl, if_pos (by rw [beq_self_eq_true]), Int.natCast_add]
          rfl
        · rw [if_neg e, if_neg (by rw [beq_iff_eq]; exact fun z => e z.symm), Nat.add_zero]
      rw [← ef]
    rintro σ H2 ⟨y3, rfl, s2, d2⟩
    rw [el, List.take_length] at d2
    obtain ⟨und, umem, ulen⟩ := unl_all ks
    generalize hds : unl ks = ds at d2 und umem ulen
    refine ⟨(by show 0 ≤ sizeLine; decide), fun M nM => ?_⟩
    have s3 := same_upd (o := .lst []) nM
    have hM3 : (upd H2 M (.lst [])) M = some (.lst []) := upd_same
    have nM0 := same_gone s2 nM
    have d3 := s3 _ _ d2
    have s03 := s2.trans s3
    have dne : D ≠ M := ne_of_none d2 nM
    generalize upd H2 M (.lst []) = H3 at s3 hM3 d3 s03 ⊢
    refine ⟨.ref D, rfl, D, _, ds, rfl, d3, kvI_keys, fun ys A perm srt0 nA => ?_⟩
    have srt : Srt ks ys := by
      refine ⟨?_, fun k => perm.mem_iff.trans (umem k)⟩
      have hnd : ys.Nodup := perm.nodup_iff.mpr und
      exact (List.Pairwise.and srt0 hnd).imp fun {x y} h => by
        have h1 := h.1
        have h2 : x ≠ y := h.2
        omega
    have sA := same_upd (o := .lst (ys.map V.int)) nA
    have hA4 : (upd H3 A (.lst (ys.map V.int))) A = some (.lst (ys.map V.int)) := upd_same
    have d4 := sA _ _ d3
    have hM4 := sA _ _ hM3
    have s04 := s03.trans sA
    have neM : A ≠ M := (ne_of_none hM3 nA).symm
    have neD : A ≠ D := (ne_of_none d3 nA).symm
    generalize upd H3 A (.lst (ys.map V.int)) = H4 at hA4 d4 hM4 s04 ⊢
    have yll : ys.length ≤ 3000 := by rw [perm.length_eq]; omega
    have wl : (ys.map V.int).length = ys.length := List.length_map _
    refine ⟨A, rfl, ⟨_, sql hA4⟩, ?_⟩
    refine for_list (xs := ys.map V.int) (fun i σ H6 => ∃ (y3 y6 : Option V) (us6 : List V), σ = [some (.ref l), some (.ref D), y3, some (.ref M), some (.int (belAt ks ys i)), y6] ∧ Same H H6 ∧ H6 A = some (.lst (ys.map V.int)) ∧ H6 D = some (.dK (kvI ds fun k => .int ((ks.count k : Nat) : Int))) ∧ H6 M = some (.lst us6) ∧ Paired (FdAt H6) us6 (exF ks (ys.take i))) ⟨_, _, [], by rw [belAt_zero srt]; rfl, s04, hA4, d4, hM4, .nil⟩ (fun i σ H6 _ ⟨_, _, _, _, _, e, _⟩ => sql e) ?_ ?_
    · rintro i v σ H6 hv ⟨y3, y6, us6, rfl, s6, hA6, d6, hM6, pm⟩
      obtain ⟨y, hy, rfl⟩ := map_at hv
      have ym := (srt.mem y).mp (List.mem_of_getElem? hy)
      have il := (List.getElem?_eq_some_iff.mp hy).1
      refine ⟨.int (belAt ks ys i), rfl, .ref D, rfl, .int y, rfl, D, .int ((ks.count y : Nat) : Int), rfl, ?_, ?_⟩
      · have := DGet.k (k := Sum.inl y) d6
        rw [val_kvI, if_pos ((umem y).mpr ym)] at this
        exact this
      refine ⟨_, _, rfl, rfl, ?_⟩
      have eu : belAt ks ys i + ((ks.count y : Nat) : Int) = belAt ks ys (i + 1) := by rw [belAt_some hy, belAt_succ srt hy, upt_bel]
      dsimp only
      rw [eu]
      refine ⟨.ref M, rfl, .inl ⟨rfl, _, sql hM6⟩, .int y, rfl, .int (belAt ks ys i), rfl, .int (belAt ks ys i), rfl, .int (belAt ks ys (i + 1)), rfl, .int (belAt ks ys (i + 1)), rfl, (by show 5 ≤ sizeLine; decide), fun t o nt ho => ?_⟩
      have sT := same_upd (o := .frz o (.tup [.int y, .int (belAt ks ys i), .int (belAt ks ys i), .int (belAt ks ys (i + 1)), .int (belAt ks ys (i + 1))])) nt
      have hT : Ptp (upd H6 t (.frz o (.tup [.int y, .int (belAt ks ys i), .int (belAt ks ys i), .int (belAt ks ys (i + 1)), .int (belAt ks ys (i + 1))]))) t [.int y, .int (belAt ks ys i), .int (belAt ks ys i), .int (belAt ks ys (i + 1)), .int (belAt ks ys (i + 1))] := ⟨o, upd_same, ho⟩
      generalize upd H6 t (.frz o (.tup [.int y, .int (belAt ks ys i), .int (belAt ks ys i), .int (belAt ks ys (i + 1)), .int (belAt ks ys (i + 1))])) = H7 at sT hT ⊢
      have b1 : belAt ks ys i = bel ks y := belAt_some hy
      have b2 : belAt ks ys (i + 1) = upt ks y := belAt_succ srt hy
      rw [b1, b2] at hT
      have hM7 := sT _ _ hM6
      have ml : us6.length ≤ i := by rw [Paired.length pm, exF_len, List.length_take]; omega
      have kp : KpD H7 (upd H7 M (.lst (us6 ++ [.ref t]))) := kpD_list hM7
      refine ⟨M, us6, .ref t, rfl, rfl, hM7, by rw [sizeLine_eq]; omega, .int (belAt ks ys (i + 1)), rfl, _, _, us6 ++ [.ref t], rfl, Same.put (s6.trans sT) nM0, by rw [upd_ne neM]; exact sT _ _ hA6, by rw [upd_ne dne]; exact sT _ _ d6, upd_same, ?_⟩
      rw [List.take_add_one, hy]
      unfold exF
      rw [List.map_append]
      exact paired_app (paired_imp (fun _ _ h => h.keep ⟨fun a xs h => kp.t _ _ (h.same sT), fun a xs h => kp.l _ _ (sT _ _ h), fun a x h => kp.d _ _ (sT _ _ h)⟩) pm) (.cons ⟨t, rfl, kp.t _ _ hT⟩ .nil)
    · rintro σ H6 ⟨y3, y6, us6, rfl, s6, hA6, d6, hM6, pm⟩
      rw [wl, List.take_length] at pm
      exact ⟨.ref M, rfl, q ys srt H6 M us6 s6 nM0 hM6 pm⟩
end
end Kb

namespace Kb
open PySem PySem.Spec PyProof.Rows L2 RZ
abbrev Nreached : List Str := ["_law_room", "_law_many", "_law_marks", "_law_most", "_law_last", "_law_kept", "_law_turn", "_law_near", "_law_mark"]
theorem flB_iff {m o : Mk} : flB m o = true ↔ (m.t * o.b < o.t * m.b) ∧ m.y ≤ o.w ∧ m.z ≤ o.x := by
  unfold flB lsB
  rw [Bool.and_eq_true, Bool.and_eq_true, decide_eq_true_eq, decide_eq_true_eq, decide_eq_true_eq]
theorem st_all {ms : List Mk} : (stB ms).all id = true ↔ ∀ i m o, ms[i]? = some m → ms[i + 1]? = some o → flB m o = true := by
  rw [List.all_eq_true]
  constructor
  · intro h i m o h1 h2
    exact h _ (List.mem_of_getElem? (stB_at h1 (by rw [List.getElem?_drop, Nat.add_comm]; exact h2)))
  · intro h b hb
    obtain ⟨i, hi⟩ := List.getElem?_of_mem hb
    unfold stB at hi
    rw [List.getElem?_map] at hi
    cases hz : (ms.zip (ms.drop 1))[i]? with
    | none =>
      rw [hz] at hi
      cases hi
    | some p =>
      rw [hz] at hi
      cases hi
      obtain ⟨m, o⟩ := p
      obtain ⟨h1, h2⟩ := List.getElem?_zip_eq_some.mp hz
      rw [List.getElem?_drop, Nat.add_comm] at h2
      exact h i m o h1 h2
theorem mk2_map_inj {ms ms' : List Mk} (h : ms.map mk2 = ms'.map mk2) : ms = ms' := by
  have := congrArg (List.map mkO) h
  rw [map_mkO, map_mkO] at this
  exact this
theorem rk2_inj {r n r' n' : Int} {ms ms' : List Mk} (h : rk2 r n ms = rk2 r' n' ms') : r = r' ∧ n = n' ∧ ms = ms' := by
  unfold rk2 at h
  injection h with h
  injection h with h1 h
  injection h with h2 h
  injection h with h3 _
  injection h1 with h1
  injection h2 with h2
  injection h3 with h3
  exact ⟨h1, h2, mk2_map_inj h3⟩
theorem atI_end {α : Type} {xs : List α} {v : α} (h : xs[xs.length - 1]? = some v) : atI xs (-1) = some v := by
  have hl := (List.getElem?_eq_some_iff.mp h).1
  have hne : xs ≠ [] := fun z => by rw [z] at hl; exact absurd hl (Nat.not_lt_zero _)
  have e : xs.dropLast ++ [xs.getLast hne] = xs := List.dropLast_concat_getLast hne
  have ev : xs.getLast hne = v := by
    rw [List.getLast_eq_getElem]
    exact Option.some.inj ((List.getElem?_eq_getElem hl).symm.trans h)
  rw [← e, ev]
  exact atI_last _ _
/-- marks that are drawn are right ones -/
theorem mks_right {n : Int} {fs : List Fd} (ok : FsOk n fs) : mksB (.int n) (.tup (fs.map fun f => mk2 f.m)) = true := by
  have e0 : (fs.map fun f => mk2 f.m) = (fs.map Fd.m).map mk2 := by rw [List.map_map]; rfl
  show (decide (0 ≤ n) && ((fs.map fun f => mk2 f.m).all (mkB n) && (stB ((fs.map fun f => mk2 f.m).map mkO)).all id)) = true
  rw [decide_eq_true ok.n0, Bool.true_and, List.all_eq_true.mpr fun d hd => by
    obtain ⟨f, hf, rfl⟩ := List.mem_map.mp hd
    exact mkB_of ⟨fr_ok (by decide), ok.bd f hf⟩, Bool.true_and, e0, map_mkO]
  refine st_all.mpr fun i m o h1 h2 => ?_
  obtain ⟨f, hf, rfl⟩ := map_at h1
  obtain ⟨g, hg, rfl⟩ := map_at h2
  obtain ⟨a1, a2⟩ := ok.ad i f g hf hg
  have kk : f.k < g.k := by
    obtain ⟨hi', e1⟩ := List.getElem?_eq_some_iff.mp hf
    obtain ⟨hj', e2⟩ := List.getElem?_eq_some_iff.mp hg
    rw [← e1, ← e2]
    exact List.pairwise_iff_getElem.mp ok.ky i (i + 1) hi' hj' (by omega)
  have sclv : scl = 2688840 := rfl
  exact flB_iff.mpr ⟨(fr_lt (by decide) (by decide)).mpr (by rw [sclv]; omega), a1, a2⟩
/-! drawn marks, some of them -/
theorem FsOk.pw {n : Int} {fs : List Fd} (ok : FsOk n fs) : fs.Pairwise fun f g => f.y ≤ g.w ∧ f.z ≤ g.x := by
  have key : ∀ (d i : Nat) (f g : Fd), fs[i]? = some f → fs[i + 1 + d]? = some g → f.y ≤ g.w ∧ f.z ≤ g.x := by
    intro d
    induction d with
    | zero => exact fun i f g h1 h2 => ok.ad i f g h1 h2
    | succ d ih =>
      intro i f g h1 h2
      have hl : i + 1 < fs.length := by
        have := (List.getElem?_eq_some_iff.mp h2).1
        omega
      have hm := List.getElem?_eq_getElem hl
      have a := ih (i + 1) _ g hm (by rw [← h2]; congr 1; omega)
      obtain ⟨b1, b2⟩ := ok.ad i f _ h1 hm
      have bm := ok.bd _ (List.mem_of_getElem? hm)
      have c1 : fs[i + 1].x < fs[i + 1].z := bm.bd
      have c2 : fs[i + 1].w < fs[i + 1].y := bm.ac
      omega
  refine List.pairwise_iff_getElem.mpr fun i j hi hj hij => ?_
  exact key (j - i - 1) i _ _ (List.getElem?_eq_getElem hi) (by rw [show i + 1 + (j - i - 1) = j by omega]; exact List.getElem?_eq_getElem hj)
theorem FsOk.sub {n : Int} {fs r : List Fd} (ok : FsOk n fs) (h : r.Sublist fs) : FsOk n r := by
  have pw := ok.pw.sublist h
  refine ⟨fun f hf => ok.bd f (h.subset hf), ok.ky.sublist h, fun i f g e1 e2 => ?_, fun f hf => ok.kb f (h.subset hf), ok.n0, ok.n1, Nat.le_trans h.length_le ok.len⟩
  obtain ⟨h1, rfl⟩ := List.getElem?_eq_some_iff.mp e1
  obtain ⟨h2, rfl⟩ := List.getElem?_eq_some_iff.mp e2
  exact List.pairwise_iff_getElem.mp pw i (i + 1) h1 h2 (by omega)
theorem FsOk.rk {n : Int} {fs : List Fd} {r : Nat} (ok : FsOk n fs) (r1 : 1 ≤ r) (r64 : r ≤ 64) (h : fs.length ≤ r) : RkOk (r : Int) n (fs.map Fd.m) := by
  have e0 : (fs.map fun f => mk2 f.m) = (fs.map Fd.m).map mk2 := by rw [List.map_map]; rfl
  have m := mks_right ok
  have m : (decide (0 ≤ n) && ((fs.map fun f => mk2 f.m).all (mkB n) && (stB ((fs.map fun f => mk2 f.m).map mkO)).all id)) = true := m
  rw [e0, map_mkO, Bool.and_eq_true, Bool.and_eq_true] at m
  refine ⟨by omega, by omega, ok.n0, fun k hk => ?_, m.2.2, by rw [List.length_map]; omega⟩
  have := (mks_is m.2.1).2
  rw [map_mkO] at this
  exact this k hk
theorem good_0 {n g : Int} : ∀ {S : List Fd} {L : Int}, good n g L S → (∀ f ∈ S, f.y ≤ n) → L ≤ n → 0 ≤ g
  | [], L, h, _, hL => by
    have h : n - L ≤ g := h
    omega
  | s :: S, L, h, hb, _ => good_0 (S := S) h.2 (fun f hf => hb f (List.mem_cons_of_mem _ hf)) (hb s List.mem_cons_self)
theorem good_gaps {n g : Int} : ∀ {S : List Fd} {L : Int}, good n g L S ↔ ∀ y ∈ gapsM L (S.map Fd.m) n, y ≤ g
  | [], L => by
    show n - L ≤ g ↔ ∀ y ∈ [n - L], y ≤ g
    rw [List.forall_mem_singleton]
  | s :: S, L => by
    show (s.x - L ≤ g ∧ good n g s.y S) ↔ ∀ y ∈ (s.x - L) :: gapsM s.y (S.map Fd.m) n, y ≤ g
    rw [List.forall_mem_cons, good_gaps]
theorem open_gaps {n : Int} {r : List Fd} {m : Int} (ok : FsOk n r) (hm : m ∈ gapsM 0 (r.map Fd.m) n) (hx : ∀ y ∈ gapsM 0 (r.map Fd.m) n, y ≤ m) : m = opn n 0 0 r := by
  have h1 := (opn_le.mp (Int.le_refl (opn n 0 0 r))).2
  have h2 := good_gaps.mp h1 m hm
  have g := good_gaps.mpr hx
  have h3 := opn_le.mpr ⟨good_0 g (fun f hf => (ok.bd f hf).cn) ok.n0, g⟩
  omega

theorem paired_getr {α β : Type} {F : α → β → Prop} : ∀ {xs : List α} {ys : List β} {i : Nat} {y : β}, Paired F xs ys → ys[i]? = some y → ∃ x, xs[i]? = some x ∧ F x y
  | _, _, _, _, .nil, h => by cases h
  | _, _, 0, _, .cons r _, h => by cases h; exact ⟨_, rfl, r⟩
  | _, _, i + 1, _, .cons _ t, h => paired_getr (i := i) t h
/-! the run of marks that one step can reach -/
abbrev nearB (g L : Int) (f : Fd) : Bool := decide (L < f.y) && decide (f.x - L ≤ g)
theorem near_tail {g L : Int} : ∀ {ms : List Fd}, Up ms → (∀ m ∈ ms, L < m.y) → ms.filter (nearB g L) = ms.takeWhile fun f => decide (f.x - L ≤ g)
  | [], _, _ => rfl
  | m :: ms, up, hy => by
    obtain ⟨h1, h2⟩ := List.pairwise_cons.mp up
    rw [List.filter_cons, List.takeWhile_cons]
    have my := hy m List.mem_cons_self
    by_cases c : m.x - L ≤ g
    · rw [if_pos (by show (decide _ && decide _) = true; rw [decide_eq_true my, decide_eq_true c]; rfl), decide_eq_true c]
      show m :: _ = m :: _
      rw [near_tail h2 fun x hx => hy x (List.mem_cons_of_mem _ hx)]
    · rw [if_neg (by show ¬ (decide _ && decide _) = true; rw [decide_eq_false c, Bool.and_false]; exact Bool.false_ne_true), decide_eq_false c]
      show _ = []
      refine List.filter_eq_nil_iff.mpr fun x hx => ?_
      have := (h1 x hx).1
      show ¬ (decide _ && decide _) = true
      rw [decide_eq_false (show ¬ x.x - L ≤ g by omega), Bool.and_false]
      exact Bool.false_ne_true
theorem near_pre {g L : Int} {ms : List Fd} (hy : ∀ m ∈ ms, m.y ≤ L) : ms.filter (nearB g L) = [] := by
  refine List.filter_eq_nil_iff.mpr fun x hx => ?_
  have := hy x hx
  show ¬ (decide _ && decide _) = true
  rw [decide_eq_false (show ¬ L < x.y by omega), Bool.false_and]
  exact Bool.false_ne_true
/-- the run is gone, its last mark is held -/
theorem run_stp {n g L : Int} (c : ¬ n - L ≤ g) : ∀ (ms : List Fd) (o : Option Fd), stp n g L o ms = stp n g L ((ms.takeWhile fun f => decide (f.x - L ≤ g)).getLast?.or o) (ms.drop (ms.takeWhile fun f => decide (f.x - L ≤ g)).length)
  | [], o => by
    show stp n g L o [] = stp n g L (Option.or none o) []
    cases o <;> rfl
  | m :: ms, o => by
    rw [List.takeWhile_cons]
    by_cases cm : m.x - L ≤ g
    · rw [decide_eq_true cm]
      rw [stp_go c cm, run_stp c ms (some m)]
      show _ = stp n g L (((m :: ms.takeWhile fun f => decide (f.x - L ≤ g)).getLast?).or o) (List.drop ((ms.takeWhile fun f => decide (f.x - L ≤ g)).length + 1) (m :: ms))
      rw [List.drop_succ_cons, List.getLast?_cons]
      cases (ms.takeWhile fun f => decide (f.x - L ≤ g)).getLast? <;> rfl
    · rw [decide_eq_false cm]
      show stp n g L o (m :: ms) = stp n g L (Option.or none o) (m :: ms)
      cases o <;> rfl
theorem run_next {g L : Int} : ∀ (ms : List Fd) (m : Fd) (r : List Fd), ms.drop (ms.takeWhile fun f => decide (f.x - L ≤ g)).length = m :: r → ¬ m.x - L ≤ g
  | [], _, _, h => by cases h
  | a :: ms, m, r, h => by
    rw [List.takeWhile_cons] at h
    by_cases c : a.x - L ≤ g
    · rw [decide_eq_true c] at h
      exact run_next ms m r h
    · rw [decide_eq_false c] at h
      have h : a :: ms = m :: r := h
      cases h
      exact c
theorem stp_nil {n g L : Int} {ms : List Fd} (e : stp n g L none ms = some []) : n - L ≤ g := (stp_good ms L none [] (fun _ h => nomatch h) e).1
theorem FsOk.ylt {n : Int} {fs : List Fd} (ok : FsOk n fs) {i j : Nat} {f h : Fd} (h1 : fs[i]? = some f) (h2 : fs[j]? = some h) (lt : i < j) : f.y < h.y := by
  obtain ⟨l1, e1⟩ := List.getElem?_eq_some_iff.mp h1
  obtain ⟨l2, e2⟩ := List.getElem?_eq_some_iff.mp h2
  have a := List.pairwise_iff_getElem.mp ok.pw i j l1 l2 lt
  rw [e1, e2] at a
  have b : h.w < h.y := (ok.bd h (List.mem_of_getElem? h2)).ac
  omega
section
variable {P : Program} {w : World} {K : PySem.W.Frag} {mg : Str → Option Value} {base : Heap}
def spReached : Sp := fun vs H Q _ => ∃ (room : Nat) (n g : Int) (l : Addr) (us : List V) (fs : List Fd), vs = [.int (room : Int), .int n, .ref l, .int g] ∧ H l = some (.lst us) ∧ Paired (FdAt H) us fs ∧ FsOk n fs ∧ room ≤ 64 ∧
  (∀ r, stp n g 0 none fs = some r → r.length ≤ room → ∀ H' p ws, Same H H' → H p = none → H' p = some (.lst ws) → Paired (FdAt H') ws r → Q (.ref p) H') ∧ (¬ canT n room fs g → ∀ H', Same H H' → Q .non H')
end
end Kb

namespace Kb
open PySem PySem.Spec PyProof.Rows L2 RZ
abbrev Nfar : List Str := ["_law_ranks", "_law_part"]
abbrev Nplaces_right : List Str := ["_law_ranks", "_law_keys_here", "_law_unlike", "_law_exact_here", "_law_key", "_law_below", "_law_up", "_law_dues", "_law_place", "_law_due", "_law_told", "_law_other"]
/-! what the marks tell of a place, by keys -/
theorem ls_key {k v : Int} : lsB (frT v scl) (frN v scl) (frT k scl) (frN k scl) = decide (v < k) := by
  unfold lsB
  rw [Bool.eq_iff_iff, decide_eq_true_eq, decide_eq_true_eq]
  have s : scl = 2688840 := rfl
  have := fr_lt (n := v) (m := k) (S := scl) (S' := scl) (by decide) (by decide)
  rw [this, s]
  omega
/-- the true number of items there -/
def cntAt (ks : List Int) (v sd : Int) : Int := if sd = 1 then upt ks v else bel ks v
theorem cntAt_le (ks : List Int) (v sd : Int) : bel ks v ≤ cntAt ks v sd ∧ cntAt ks v sd ≤ upt ks v := by
  unfold cntAt
  have := bel_le_upt ks v
  split <;> omega
theorem endsM_cons {low n sd v : Int} {f : Fd} {S : List Fd} : endsM low ((f :: S).map Fd.m) n (frT v scl) (frN v scl) sd = if f.k = v then (if sd = 1 then (f.y, f.z) else (f.w, f.x)) else if v < f.k then (low, f.x) else endsM f.y (S.map Fd.m) n (frT v scl) (frN v scl) sd := by
  show (if frT f.k scl = frT v scl ∧ frN f.k scl = frN v scl then (if sd = 1 then (f.y, f.z) else (f.w, f.x)) else if lsB (frT v scl) (frN v scl) (frT f.k scl) (frN f.k scl) = true then (low, f.x) else endsM f.y (S.map Fd.m) n (frT v scl) (frN v scl) sd) = _
  rw [ls_key]
  by_cases e : f.k = v
  · rw [if_pos e, if_pos ⟨by rw [e], by rw [e]⟩]
  · rw [if_neg e, if_neg fun z => e (key_of_fr z.1 z.2)]
    by_cases l : v < f.k
    · rw [if_pos l, if_pos (decide_eq_true l)]
    · rw [if_neg l, if_neg (by rw [decide_eq_true_eq]; exact l)]
theorem ends_hold {ks : List Int} {v sd : Int} : ∀ (S : List Fd) (low : Int), (∀ f ∈ S, f = exM ks f.k) → S.Pairwise (fun f g => f.k < g.k) → low ≤ bel ks v →
    (endsM low (S.map Fd.m) (ks.length : Nat) (frT v scl) (frN v scl) sd).1 ≤ cntAt ks v sd ∧ cntAt ks v sd ≤ (endsM low (S.map Fd.m) (ks.length : Nat) (frT v scl) (frN v scl) sd).2
  | [], low, _, _, hl => by
    obtain ⟨a, b⟩ := cntAt_le ks v sd
    have := upt_le ks v
    exact ⟨show low ≤ _ by omega, show _ ≤ ((ks.length : Nat) : Int) by omega⟩
  | f :: S, low, hx, up, hl => by
    obtain ⟨a, b⟩ := cntAt_le ks v sd
    obtain ⟨u1, u2⟩ := List.pairwise_cons.mp up
    have ef := hx f List.mem_cons_self
    rw [endsM_cons]
    by_cases e : f.k = v
    · rw [if_pos e]
      subst e
      unfold cntAt
      split
      · have e1 : f.y = upt ks f.k := by rw [ef]; rfl
        have e2 : f.z = upt ks f.k := by rw [ef]; rfl
        exact ⟨by show f.y ≤ _; omega, by show _ ≤ f.z; omega⟩
      · have e1 : f.w = bel ks f.k := by rw [ef]; rfl
        have e2 : f.x = bel ks f.k := by rw [ef]; rfl
        exact ⟨by show f.w ≤ _; omega, by show _ ≤ f.x; omega⟩
    · rw [if_neg e]
      by_cases l : v < f.k
      · rw [if_pos l]
        have e2 : f.x = bel ks f.k := by rw [ef]; rfl
        have := upt_le_bel (ks := ks) l
        exact ⟨by show low ≤ _; omega, by show _ ≤ f.x; omega⟩
      · rw [if_neg l]
        have e1 : f.y = upt ks f.k := by rw [ef]; rfl
        have := upt_le_bel (ks := ks) (show f.k < v by omega)
        exact ends_hold S f.y (fun g hg => hx g (List.mem_cons_of_mem _ hg)) u2 (by omega)
/-- where all are marks -/
theorem ends_all {ks ys : List Int} (s : Srt ks ys) {v sd : Int} : ∀ (c i : Nat), i + c = ys.length → (∀ j (y : Int), j < i → ys[j]? = some y → y < v) →
    endsM (belAt ks ys i) ((exF ks (ys.drop i)).map Fd.m) (ks.length : Nat) (frT v scl) (frN v scl) sd = (cntAt ks v sd, cntAt ks v sd)
  | 0, i, hc, hb => by
    have e : i = ys.length := by omega
    subst e
    rw [List.drop_length, belAt_end]
    show (((ks.length : Nat) : Int), ((ks.length : Nat) : Int)) = _
    have lt : ∀ k ∈ ks, k < v := fun k hk => by
      obtain ⟨j, hj⟩ := s.idx hk
      exact hb j k (List.getElem?_eq_some_iff.mp hj).1 hj
    have e1 : bel ks v = (ks.length : Nat) := by unfold bel; rw [filt_all fun k hk => decide_eq_true (lt k hk)]
    have e2 : upt ks v = (ks.length : Nat) := by unfold upt; rw [filt_all fun k hk => decide_eq_true (Int.le_of_lt (lt k hk))]
    unfold cntAt
    split
    · rw [e2]
    · rw [e1]
  | c + 1, i, hc, hb => by
    obtain ⟨y, hy⟩ : ∃ y, ys[i]? = some y := ⟨_, List.getElem?_eq_getElem (by omega)⟩
    have hd : ys.drop i = y :: ys.drop (i + 1) := by
      obtain ⟨hlt, e⟩ := List.getElem?_eq_some_iff.mp hy
      rw [List.drop_eq_getElem_cons hlt, e]
    rw [hd]
    show endsM (belAt ks ys i) ((exM ks y :: exF ks (ys.drop (i + 1))).map Fd.m) _ _ _ _ = _
    rw [endsM_cons]
    by_cases e : y = v
    · rw [if_pos (show (exM ks y).k = v from e)]
      subst e
      unfold cntAt
      split <;> rfl
    · rw [if_neg (show ¬ (exM ks y).k = v from e)]
      by_cases l : v < y
      · rw [if_pos (show v < (exM ks y).k from l)]
        have key : ∀ k ∈ ks, (k < y ↔ k < v) := fun k hk => by
          obtain ⟨j, hj⟩ := s.idx hk
          by_cases c : j < i
          · have := hb j k c hj
            have := s.lt hj hy c
            omega
          · have : y ≤ k := by
              rcases Nat.lt_or_eq_of_le (show i ≤ j by omega) with c | c
              · exact Int.le_of_lt (s.lt hy hj c)
              · subst c
                rw [hy] at hj
                cases hj
                exact Int.le_refl _
            omega
        have e1 : bel ks y = bel ks v := by
          unfold bel
          rw [filt_congr (p := fun k => decide (k < y)) (q := fun k => decide (k < v)) fun k hk => by rw [Bool.eq_iff_iff, decide_eq_true_eq, decide_eq_true_eq]; exact key k hk]
        have e2 : bel ks y = upt ks v := bel_eq_upt fun k hk => by
          have := key k hk
          constructor
          · intro h
            have := this.mp h
            omega
          · intro h
            by_cases z : k = v
            · subst z
              obtain ⟨j, hj⟩ := s.idx hk
              by_cases c : j < i
              · exact absurd (hb j k c hj) (by omega)
              · omega
            · exact this.mpr (by omega)
        rw [belAt_some hy]
        show (bel ks y, bel ks y) = _
        unfold cntAt
        split
        · rw [e2]
        · rw [e1]
      · rw [if_neg (show ¬ v < (exM ks y).k from l)]
        have := ends_all s (v := v) (sd := sd) c (i + 1) (by omega) (fun j z hj hz => by
          by_cases e' : j = i
          · subst e'
            rw [hy] at hz
            cases hz
            omega
          · exact hb j z (by omega) hz)
        rw [belAt_succ s hy] at this
        exact this
/-- beyond all -/
def lastY : Int → List Fd → Int
  | low, [] => low
  | _, f :: S => lastY f.y S
theorem ends_far {n T : Int} (T0 : 0 < T) : ∀ (S : List Fd) (low : Int), (∀ f ∈ S, frT f.k scl < T) → endsM low (S.map Fd.m) n T 1 0 = (lastY low S, n)
  | [], _, _ => rfl
  | f :: S, low, h => by
    have hf := h f List.mem_cons_self
    show (if frT f.k scl = T ∧ frN f.k scl = 1 then (if (0 : Int) = 1 then (f.y, f.z) else (f.w, f.x)) else if lsB T 1 (frT f.k scl) (frN f.k scl) = true then (low, f.x) else endsM f.y (S.map Fd.m) n T 1 0) = _
    rw [if_neg (fun z => by have := z.1; omega), if_neg]
    · exact ends_far T0 S f.y fun g hg => h g (List.mem_cons_of_mem _ hg)
    · unfold lsB
      rw [decide_eq_true_eq]
      have p1 : 1 ≤ frN f.k scl := frN_pos (by decide)
      have := Int.mul_le_mul_of_nonneg_left p1 (Int.le_of_lt T0)
      rw [Int.mul_one] at this
      rw [Int.mul_one]
      omega
theorem ends_in {n t b sd : Int} : ∀ (S : List Fd) (low : Int), (∀ f ∈ S, 0 ≤ f.w ∧ 0 ≤ f.y ∧ f.x ≤ n ∧ f.z ≤ n) → 0 ≤ low → 0 ≤ (endsM low (S.map Fd.m) n t b sd).1 ∧ (endsM low (S.map Fd.m) n t b sd).2 ≤ n
  | [], low, _, h => ⟨h, Int.le_refl _⟩
  | f :: S, low, hf, h => by
    obtain ⟨a1, a2, a3, a4⟩ := hf f List.mem_cons_self
    show 0 ≤ (if frT f.k scl = t ∧ frN f.k scl = b then (if sd = 1 then (f.y, f.z) else (f.w, f.x)) else if lsB t b (frT f.k scl) (frN f.k scl) = true then (low, f.x) else endsM f.y (S.map Fd.m) n t b sd).1 ∧ (if frT f.k scl = t ∧ frN f.k scl = b then (if sd = 1 then (f.y, f.z) else (f.w, f.x)) else if lsB t b (frT f.k scl) (frN f.k scl) = true then (low, f.x) else endsM f.y (S.map Fd.m) n t b sd).2 ≤ n
    split
    · split
      · exact ⟨a2, a4⟩
      · exact ⟨a1, a3⟩
    · split
      · exact ⟨h, a3⟩
      · exact ends_in S f.y (fun g hg => hf g (List.mem_cons_of_mem _ hg)) a2
theorem lastY_in {n : Int} : ∀ (S : List Fd) (low : Int), (∀ f ∈ S, 0 ≤ f.y ∧ f.y ≤ n) → 0 ≤ low → low ≤ n → 0 ≤ lastY low S ∧ lastY low S ≤ n
  | [], _, _, h1, h2 => ⟨h1, h2⟩
  | f :: S, _, hf, _, _ => lastY_in S f.y (fun g hg => hf g (List.mem_cons_of_mem _ hg)) (hf f List.mem_cons_self).1 (hf f List.mem_cons_self).2
theorem lastY_at {low : Int} : ∀ (S : List Fd) {f : Fd}, S[S.length - 1]? = some f → lastY low S = f.y
  | [], _, h => by cases h
  | [g], _, h => by cases h; rfl
  | g :: g' :: S, f, h => by
    show lastY g.y (g' :: S) = f.y
    refine lastY_at (g' :: S) ?_
    have e : (g :: g' :: S).length - 1 = (g' :: S).length - 1 + 1 := by simp
    rw [e, List.getElem?_cons_succ] at h
    exact h
section
variable {P : Program} {w : World} {K : PySem.W.Frag} {mg : Str → Option Value} {base : Heap}
/-! _law_far, of the part 3 -/
def spFar (K : PySem.W.Frag) : Sp := fun vs H Q _ => ∃ (v : V) (r n : Int) (fs : List Fd), vs = [v, .int 3] ∧ DtAt K H v (rk2 r n (fs.map Fd.m)) ∧ Q (.int (lastY 0 fs)) H
/-! _law_places_right -/
/-- a place by its key, with the number that is due -/
def DueAt (H : Hp) (v : V) (k sd due : Int) : Prop := ∃ t pl f, v = .ref t ∧ Ptp H t [.ref pl, .int due] ∧ Ptp H pl [.ref f, .int sd] ∧ Ptp H f [.int (frT k scl), .int (frN k scl)]
theorem DueAt.keep {H H' : Hp} {v : V} {k sd due : Int} (h : DueAt H v k sd due) (t : ∀ p xs, Ptp H p xs → Ptp H' p xs) : DueAt H' v k sd due := let ⟨a, b, c, e, h1, h2, h3⟩ := h; ⟨a, b, c, e, t _ _ h1, t _ _ h2, t _ _ h3⟩
theorem DueAt.same {H H' : Hp} {v : V} {k sd due : Int} (h : DueAt H v k sd due) (s : Same H H') : DueAt H' v k sd due := h.keep fun _ _ h => h.same s
def spPlaces (K : PySem.W.Frag) : Sp := fun vs H Q _ => ∃ (R A U : Addr) (ex : Bool) (room : Nat) (ks ys uns : List Int) (r : List Fd), vs = [.ref R, .ref A, .ref U, .bl ex] ∧ DtAt K H (.ref R) (rk2 (room : Int) (ks.length : Nat) (r.map Fd.m)) ∧ RkOk (room : Int) (ks.length : Nat) (r.map Fd.m) ∧ H A = some (.lst (ks.map V.int)) ∧ ks.length ≤ 3000 ∧ H U = some (.lst (uns.map V.int)) ∧ Srt ks ys ∧ r.Sublist (exF ks ys) ∧ (ex = true → r = exF ks ys) ∧ (∀ k ∈ ks, k.natAbs ≤ 2 ^ 89) ∧ (∀ k ∈ uns, k.natAbs ≤ 2 ^ 89) ∧ ∀ H', Same H H' → Q (.bl true) H'
end
end Kb

namespace Kb
open PySem PySem.Spec PyProof.Rows L2 RZ
abbrev sP_item_ends : Stmt := topS 43
abbrev NP_item_ends : List Str := ["ranks", "index", "_", "many", "marks", "lows", "highs", "mark"]
theorem scP_item_ends : FnScope ["ranks", "index", "_", "many", "marks", "lows", "highs", "mark"] ["ranks", "index"] (defScope sP_item_ends) := ⟨rfl, rfl, rfl, by decide +kernel, rfl, by decide +kernel, by decide +kernel⟩
abbrev DnItemEnds (K : PySem.W.Frag) (mg : Str → Option Value) := Dn K mg "item_ends" sP_item_ends ["ranks", "index"]
abbrev Nitems_right : List Str := ["_law_hat_here", "_law_ranks", "_law_keys_here", "_law_marks", "_law_exact_here", "_law_ordered", "_law_turn", "_law_index", "_law_low", "_law_high", "_law_due", "_law_mark"]
/-! items by their index -/
theorem sort_low {ks os : List Int} (p : os.Perm ks) (up : os.Pairwise (· ≤ ·)) {i : Nat} {x k : Int} (hx : os[i]? = some x) (h : bel ks k ≤ (i : Nat)) : k ≤ x := by
  by_cases c : k ≤ x
  · exact c
  · exfalso
    have e : bel ks k = ((os.filter fun j => decide (j < k)).length : Nat) := by unfold bel; rw [(p.filter _).length_eq]
    have il := (List.getElem?_eq_some_iff.mp hx).1
    have a : ((os.take (i + 1)).filter fun j => decide (j < k)) = os.take (i + 1) := List.filter_eq_self.mpr fun j hj => by
      obtain ⟨m, hm⟩ := List.getElem?_of_mem hj
      rw [List.getElem?_take] at hm
      split at hm
      · rename_i lt
        have : j ≤ x := by
          rcases Nat.lt_or_eq_of_le (Nat.lt_succ_iff.mp lt) with lt | e
          · obtain ⟨l1, e1⟩ := List.getElem?_eq_some_iff.mp hm
            obtain ⟨l2, e2⟩ := List.getElem?_eq_some_iff.mp hx
            rw [← e1, ← e2]
            exact List.pairwise_iff_getElem.mp up m i l1 l2 lt
          · subst e
            rw [hx] at hm
            cases hm
            exact Int.le_refl _
        exact decide_eq_true (by omega)
      · cases hm
    have b : (os.take (i + 1)).length ≤ (os.filter fun j => decide (j < k)).length := by
      rw [← a]
      exact List.Sublist.length_le ((List.take_sublist _ _).filter _)
    rw [List.length_take] at b
    omega
theorem sort_high {ks os : List Int} (p : os.Perm ks) (up : os.Pairwise (· ≤ ·)) {i : Nat} {x k : Int} (hx : os[i]? = some x) (h : ((i : Nat) : Int) < upt ks k) : x ≤ k := by
  by_cases c : x ≤ k
  · exact c
  · exfalso
    have e : upt ks k = ((os.filter fun j => decide (j ≤ k)).length : Nat) := by unfold upt; rw [(p.filter _).length_eq]
    have a : ((os.drop i).filter fun j => decide (j ≤ k)) = [] := List.filter_eq_nil_iff.mpr fun j hj => by
      obtain ⟨m, hm⟩ := List.getElem?_of_mem hj
      rw [List.getElem?_drop] at hm
      have : x ≤ j := by
        rcases Nat.eq_zero_or_pos m with e | lt
        · subst e
          rw [Nat.add_zero, hx] at hm
          cases hm
          exact Int.le_refl _
        · obtain ⟨l1, e1⟩ := List.getElem?_eq_some_iff.mp hm
          obtain ⟨l2, e2⟩ := List.getElem?_eq_some_iff.mp hx
          rw [← e1, ← e2]
          exact List.pairwise_iff_getElem.mp up i (i + m) l2 l1 (by omega)
      rw [decide_eq_true_eq]
      omega
    have b : (os.filter fun j => decide (j ≤ k)).length = ((os.take i).filter fun j => decide (j ≤ k)).length := by
      conv => lhs; rw [← List.take_append_drop i os]
      rw [List.filter_append, a, List.append_nil]
    have d := List.length_filter_le (fun j => decide (j ≤ k)) (os.take i)
    rw [List.length_take] at d
    omega
theorem last_ge : ∀ {l : List Fd} {a g : Fd}, l.Pairwise (fun f g => f.k < g.k) → l.getLast? = some g → a ∈ l → a.k ≤ g.k := by
  intro l a g up hg ha
  obtain ⟨i, hi⟩ := List.getElem?_of_mem ha
  rw [List.getLast?_eq_getElem?] at hg
  have il := (List.getElem?_eq_some_iff.mp hi).1
  rcases Nat.lt_or_eq_of_le (show i ≤ l.length - 1 by omega) with lt | e
  · obtain ⟨l1, e1⟩ := List.getElem?_eq_some_iff.mp hi
    obtain ⟨l2, e2⟩ := List.getElem?_eq_some_iff.mp hg
    have := List.pairwise_iff_getElem.mp up i (l.length - 1) l1 l2 lt
    rw [e1, e2] at this
    omega
  · rw [e, hg] at hi
    cases hi
    exact Int.le_refl _
theorem head_le' : ∀ {l : List Fd} {a g : Fd}, l.Pairwise (fun f g => f.k < g.k) → l.head? = some g → a ∈ l → g.k ≤ a.k := by
  intro l a g up hg ha
  cases l with
  | nil => cases ha
  | cons x l =>
    cases hg
    rcases List.mem_cons.mp ha with rfl | ha
    · exact Int.le_refl _
    · have := (List.pairwise_cons.mp up).1 a ha
      omega
abbrev lowF (r : List Fd) (i : Int) : List Fd := r.filter fun f => decide (f.x ≤ i)
abbrev highF (r : List Fd) (i : Int) : List Fd := r.filter fun f => decide (i < f.y)
/-- where all are marks -/
theorem low_all {ks ys os : List Int} (s : Srt ks ys) (p : os.Perm ks) (up : os.Pairwise (· ≤ ·)) {i : Nat} {x : Int} (hx : os[i]? = some x) : (lowF (exF ks ys) (i : Nat)).getLast? = some (exM ks x) := by
  have xk : x ∈ ks := p.mem_iff.mp (List.mem_of_getElem? hx)
  have fup : (exF ks ys).Pairwise fun f g => f.k < g.k := List.pairwise_map.mpr s.up
  have hm : exM ks x ∈ lowF (exF ks ys) (i : Nat) := by
    refine List.mem_filter.mpr ⟨List.mem_map.mpr ⟨x, (s.mem x).mpr xk, rfl⟩, decide_eq_true ?_⟩
    show bel ks x ≤ ((i : Nat) : Int)
    by_cases c : bel ks x ≤ ((i : Nat) : Int)
    · exact c
    · -- an item below x would stand at i
      exfalso
      have h : ((i : Nat) : Int) < upt ks (x - 1) := by
        have e : bel ks x = upt ks (x - 1) := bel_eq_upt fun k _ => by omega
        omega
      have := sort_high p up hx h
      omega
  cases hg : (lowF (exF ks ys) (i : Nat)).getLast? with
  | none =>
    rw [List.getLast?_eq_none_iff] at hg
    rw [hg] at hm
    cases hm
  | some g =>
    have gm : g ∈ lowF (exF ks ys) (i : Nat) := List.mem_of_getLast? hg
    have ge := last_ge (fup.sublist List.filter_sublist) hg hm
    obtain ⟨g1, g2⟩ := List.mem_filter.mp gm
    obtain ⟨y, hy, rfl⟩ := List.mem_map.mp g1
    have le : y ≤ x := sort_low p up hx (of_decide_eq_true g2)
    have ge : x ≤ y := ge
    rw [show y = x by omega]
theorem high_all {ks ys os : List Int} (s : Srt ks ys) (p : os.Perm ks) (up : os.Pairwise (· ≤ ·)) {i : Nat} {x : Int} (hx : os[i]? = some x) : (highF (exF ks ys) (i : Nat)).head? = some (exM ks x) := by
  have xk : x ∈ ks := p.mem_iff.mp (List.mem_of_getElem? hx)
  have fup : (exF ks ys).Pairwise fun f g => f.k < g.k := List.pairwise_map.mpr s.up
  have hm : exM ks x ∈ highF (exF ks ys) (i : Nat) := by
    refine List.mem_filter.mpr ⟨List.mem_map.mpr ⟨x, (s.mem x).mpr xk, rfl⟩, decide_eq_true ?_⟩
    show ((i : Nat) : Int) < upt ks x
    by_cases c : ((i : Nat) : Int) < upt ks x
    · exact c
    · exfalso
      have h : bel ks (x + 1) ≤ ((i : Nat) : Int) := by
        have e : bel ks (x + 1) = upt ks x := bel_eq_upt fun k _ => by omega
        omega
      have := sort_low p up hx h
      omega
  cases hg : (highF (exF ks ys) (i : Nat)).head? with
  | none =>
    rw [List.head?_eq_none_iff] at hg
    rw [hg] at hm
    cases hm
  | some g =>
    have gm : g ∈ highF (exF ks ys) (i : Nat) := List.mem_of_mem_head? hg
    have ge := head_le' (fup.sublist List.filter_sublist) hg hm
    obtain ⟨g1, g2⟩ := List.mem_filter.mp gm
    obtain ⟨y, hy, rfl⟩ := List.mem_map.mp g1
    have le : x ≤ y := sort_high p up hx (of_decide_eq_true g2)
    have ge : y ≤ x := ge
    rw [show y = x by omega]
/-- a mark's value, or none -/
def frO : Option Fd → Dat
  | none => .non
  | some f => .tup [.int (frT f.k scl), .int (frN f.k scl)]
def FrO (H : Hp) (v : V) : Option Fd → Prop
  | none => v = .non
  | some f => FrAt H v f.k
theorem FrO.keep {H H' : Hp} {v : V} {o : Option Fd} (h : FrO H v o) (t : ∀ p xs, Ptp H p xs → Ptp H' p xs) : FrO H' v o := by
  cases o with
  | none => exact h
  | some f => exact FrAt.keep h t
theorem FrO.d {K : PySem.W.Frag} {H : Hp} {v : V} {o : Option Fd} (h : FrO H v o) (b : ∀ f, o = some f → f.k.natAbs ≤ 2 ^ 89) : DtAt K H v (frO o) := by
  cases o with
  | none =>
    rw [show v = .non from h]
    exact .lf rfl
  | some f => exact fr_d h (b f rfl)
section
variable {P : Program} {w : World} {K : PySem.W.Frag} {mg : Str → Option Value} {base : Heap}
def spItemEnds (K : PySem.W.Frag) : Sp := fun vs H Q _ => ∃ (v : V) (i : Nat) (r n : Int) (fs : List Fd), vs = [v, .int (i : Int)] ∧ DtAt K H v (rk2 r n (fs.map Fd.m)) ∧ RkOk r n (fs.map Fd.m) ∧ (i : Int) < n ∧ i ≤ 3000 ∧ (∀ f ∈ fs, f.k.natAbs ≤ 2 ^ 89) ∧ ∀ H' p, Same H H' → DtAt K H' (.ref p) (.tup [frO (lowF fs i).getLast?, frO (highF fs i).head?]) → Q (.ref p) H'
theorem ok_item_ends (T : Blt mg) (gG : mg "gcd" = some (.builtin "math.gcd")) (cM : Cst mg "MOST_ROOM" (.int 64)) (dP_is_int : DnIsInt K mg) (dP_is_number : DnIsNumber K mg) (dP_is_room : DnIsRoom K mg) (dP_is_fraction : DnIsFraction K mg) (dP_is_less : DnIsLess K mg) (dP_is_mark : DnIsMark K mg) (dP_may_follow : DnMayFollow K mg) (dP_are_marks : DnAreMarks K mg) (dP_is_ranks : DnIsRanks K mg) (d : DnItemEnds K mg) : FnOk P w K mg base CX0 6 d.f d.fd ["ranks", "index"] (spItemEnds K) := by
  have GP_is_ranks : FnOk P w K mg base CX0 5 dP_is_ranks.f dP_is_ranks.fd ["thing"] (spIsRanks K) := ok_is_ranks T gG cM dP_is_int dP_is_number dP_is_room dP_is_fraction dP_is_less dP_is_mark dP_may_follow dP_are_marks dP_is_ranks
  have GP_is_number : FnOk P w K mg base CX0 2 dP_is_number.f dP_is_number.fd ["thing"] (spIsNumberD K) := ok_is_numberD T dP_is_int dP_is_number
  refine d.F.ok scP_item_ends (fun vs H Q E h => ?_) (fun cdv A outer s H vs Q E hr h => ?_)
  · obtain ⟨v, i, r, n, fs, rfl, _⟩ := h
    rfl
  · obtain ⟨v, i, r, n, fs, rfl, hv, rok, hin, i3, kb, q⟩ := h
    refine ⟨_, (pss_cons (ps_if (pt_not (pt_val (pe_call GP_is_ranks (hr.mono (by omega)) (by rfl) dP_is_ranks.g dP_is_ranks.F.kp dP_is_ranks.b .nil pass0 (pa_cons (pv 0) pa_nil))))
      (pss_one ps_never)
      pss_nil)
    (pss_cons (ps_asg (pv 0) (pg_tup (by rfl) (pgs_cons (pg_name (i := 2) scP_item_ends.nd rfl (Or.inl rfl)) (pgs_cons (pg_name (i := 3) scP_item_ends.nd rfl (Or.inl rfl)) (pgs_cons (pg_name (i := 4) scP_item_ends.nd rfl (Or.inl rfl)) pgs_nil)))))
    (pss_cons (ps_if (PW.pt (pw_or (pt_not (pt_val (pe_call GP_is_number (hr.mono (by omega)) (by rfl) dP_is_number.g dP_is_number.F.kp dP_is_number.b .nil pass0 (pa_cons (pv 1) pa_nil)))) (pw_or1 (pt_cmpR op_ge (pv 1) (pv 3) (nomark _)))))
      (pss_one ps_never)
      pss_nil)
    (pss_cons (ps_setLc (i := 5) (own := [("mark", 7)]) (g := gName 7) rfl scP_item_ends.nd rfl rfl (sw_true rfl rfl rfl (by decide +kernel)) (pi_tup (pv 4)) (blkOk_by (N := NP_item_ends) (sc := defScope sP_item_ends) (by decide +kernel)) (fun _ _ _ _ _ => pg_name (i := 7) scP_item_ends.nd rfl (Or.inl rfl)) (fun _ _ _ _ _ => pts_one (pt_cmpR op_le (pe_ix (r := rIxT K) ix_tup (pv 7) pe_int (fun _ _ => rfl)) (pv 1) (nomark _))) (fun _ _ _ _ _ => (pe_ix (r := rIxT K) ix_tup (pv 7) pe_int (fun _ _ => rfl))))
    (pss_cons (ps_setLc (i := 6) (own := [("mark", 7)]) (g := gName 7) rfl scP_item_ends.nd rfl rfl (sw_true rfl rfl rfl (by decide +kernel)) (pi_tup (pv 4)) (blkOk_by (N := NP_item_ends) (sc := defScope sP_item_ends) (by decide +kernel)) (fun _ _ _ _ _ => pg_name (i := 7) scP_item_ends.nd rfl (Or.inl rfl)) (fun _ _ _ _ _ => pts_one (pt_cmpR op_gt (pe_ix (r := rIxT K) ix_tup (pv 7) pe_int (fun _ _ => rfl)) (pv 1) (nomark _))) (fun _ _ _ _ _ => (pe_ix (r := rIxT K) ix_tup (pv 7) pe_int (fun _ _ => rfl))))
    (pss_one (ps_ret (pe_tupF (pa_cons (pe_ifExp (pt_truth (pv 5) (by intro _; rfl)) (pe_ix ix_list (pv 5) (pe_un un_neg pe_int) (fun _ _ => rfl)) pe_non) (pa_cons (pe_ifExp (pt_truth (pv 6) (by intro _; rfl)) (pe_ix ix_list (pv 6) pe_int (fun _ _ => rfl)) pe_non) pa_nil)))))))))), ?_⟩
    have p100 : (2 : Nat) ^ 100 = 1267650600228229401496703205376 := by decide
    refine ⟨v, rfl, v, _, rfl, hv, fun H1 s1 => ⟨true, congrArg V.bl (rkB_of rok), iteF ?_⟩⟩
    obtain ⟨p, b, ks, rfl, hp, hb, hk⟩ := rk_parts (hv.same s1)
    have kl : ks.length = fs.length := by rw [Paired.length hk, List.length_map, List.length_map]
    have fl : fs.length ≤ 64 := by
      have := rok.len
      have := rok.r64
      rw [List.length_map] at *
      omega
    refine ⟨.ref p, rfl, p, _, rfl, hp.seq, rfl, _, _, rfl, _, _, rfl, _, _, rfl, rfl, ?_⟩
    refine ⟨.int (i : Int), rfl, .int (i : Int), .int (i : Int), rfl, .lf ⟨rfl, by omega⟩, true, congrArg V.bl ?_, iteF ?_⟩
    · show decide (0 ≤ ((i : Nat) : Int)) = true
      exact decide_eq_true (Int.natCast_nonneg _)
    refine ⟨.int (i : Int), rfl, .int n, rfl, _, _, rfl, rfl, false, congrArg V.bl (decide_eq_false (by omega)), iteF ?_⟩
    -- those not above
    refine ⟨.ref b, rfl, b, rfl, ⟨_, hb.seq⟩, fun D nD => ?_⟩
    refine lc_tup (xs := ks) (fun j H3 => Same H1 H3 ∧ ∃ ws, H3 D = some (.lst ws) ∧ ws.length ≤ j ∧ Paired (fun v f => FrAt H1 v f.k) ws (lowF (fs.take j) i)) ⟨same_upd nD, [], upd_same, Nat.le_refl _, .nil⟩ (fun j H3 _ h3 => (hb.same h3.1).seq) (fun j u H3 hu g3 => ?_) (fun H3 g3 => ?_)
    · obtain ⟨s3, ws, hD, wl, pw⟩ := g3
      obtain ⟨dm, hdm, atm⟩ := paired_at hk hu
      obtain ⟨m, hm, rfl⟩ := map_at hdm
      obtain ⟨f, hf, rfl⟩ := map_at hm
      obtain ⟨u', fm, rfl, hu'⟩ := mk_at atm
      have hu3 := hu'.same s3
      have jl := (List.getElem?_eq_some_iff.mp hf).1
      have et : lowF (fs.take (j + 1)) i = lowF (fs.take j) i ++ lowF [f] i := by
        show List.filter _ _ = _
        rw [List.take_add_one, hf]
        exact List.filter_append _ _
      refine ⟨rfl, .ref u', rfl, u', _, _, _, rfl, rfl, hu3.ob.seq, atI_nat (j := 2) rfl, .int (i : Int), rfl, _, _, rfl, rfl, decide (f.x ≤ (i : Int)), rfl, ?_⟩
      by_cases c : f.x ≤ (i : Int)
      · rw [decide_eq_true c]
        have e1 : lowF [f] i = [f] := by show List.filter _ _ = _; rw [List.filter_cons, if_pos (decide_eq_true c)]; rfl
        refine iteT ⟨.ref u', rfl, u', _, _, _, rfl, rfl, hu3.ob.seq, atI_nat (j := 0) rfl, ws, hD, by rw [sizeLine_eq]; omega, Same.put s3 nD, ws ++ [.ref fm], upd_same, by rw [List.length_append, List.length_singleton]; omega, ?_⟩
        rw [et, e1]
        exact paired_app pw (.cons ⟨fm, rfl, hu'.fr⟩ .nil)
      · rw [decide_eq_false c]
        have e1 : lowF [f] i = [] := by show List.filter _ _ = _; rw [List.filter_cons, if_neg (by rw [decide_eq_true_eq]; exact c)]; rfl
        rw [e1, List.append_nil] at et
        exact iteF ⟨s3, ws, hD, by omega, by rw [et]; exact pw⟩
    obtain ⟨s3, ws, hD, wl, pw⟩ := g3
    rw [kl, List.take_length] at pw
    have hb3 := hb.same s3
    -- those above
    refine ⟨.ref b, rfl, b, rfl, ⟨_, hb3.seq⟩, fun E' nE => ?_⟩
    have hDE : D ≠ E' := ne_of_none hD nE
    refine lc_tup (xs := ks) (fun j H4 => Same H3 H4 ∧ ∃ zs, H4 E' = some (.lst zs) ∧ zs.length ≤ j ∧ Paired (fun v f => FrAt H1 v f.k) zs (highF (fs.take j) i)) ⟨same_upd nE, [], upd_same, Nat.le_refl _, .nil⟩ (fun j H4 _ h4 => (hb3.same h4.1).seq) (fun j u H4 hu g4 => ?_) (fun H4 g4 => ?_)
    · obtain ⟨s4, zs, hE, zl, pz⟩ := g4
      obtain ⟨dm, hdm, atm⟩ := paired_at hk hu
      obtain ⟨m, hm, rfl⟩ := map_at hdm
      obtain ⟨f, hf, rfl⟩ := map_at hm
      obtain ⟨u', fm, rfl, hu'⟩ := mk_at atm
      have hu3 := (hu'.same s3).same s4
      have jl := (List.getElem?_eq_some_iff.mp hf).1
      have et : highF (fs.take (j + 1)) i = highF (fs.take j) i ++ highF [f] i := by
        show List.filter _ _ = _
        rw [List.take_add_one, hf]
        exact List.filter_append _ _
      refine ⟨rfl, .ref u', rfl, u', _, _, _, rfl, rfl, hu3.ob.seq, atI_nat (j := 3) rfl, .int (i : Int), rfl, _, _, rfl, rfl, decide ((i : Int) < f.y), rfl, ?_⟩
      by_cases c : (i : Int) < f.y
      · rw [decide_eq_true c]
        have e1 : highF [f] i = [f] := by show List.filter _ _ = _; rw [List.filter_cons, if_pos (decide_eq_true c)]; rfl
        refine iteT ⟨.ref u', rfl, u', _, _, _, rfl, rfl, hu3.ob.seq, atI_nat (j := 0) rfl, zs, hE, by rw [sizeLine_eq]; omega, Same.put s4 nE, zs ++ [.ref fm], upd_same, by rw [List.length_append, List.length_singleton]; omega, ?_⟩
        rw [et, e1]
        exact paired_app pz (.cons ⟨fm, rfl, hu'.fr⟩ .nil)
      · rw [decide_eq_false c]
        have e1 : highF [f] i = [] := by show List.filter _ _ = _; rw [List.filter_cons, if_neg (by rw [decide_eq_true_eq]; exact c)]; rfl
        rw [e1, List.append_nil] at et
        exact iteF ⟨s4, zs, hE, by omega, by rw [et]; exact pz⟩
    obtain ⟨s4, zs, hE, zl, pz⟩ := g4
    rw [kl, List.take_length] at pz
    have hD4 := s4 _ _ hD
    have s14 := s3.trans s4
    have wlen := Paired.length pw
    have zlen := Paired.length pz
    have lb : ∀ f, (lowF fs i).getLast? = some f → f.k.natAbs ≤ 2 ^ 89 := fun f hf => kb f (List.mem_filter.mp (List.mem_of_getLast? hf)).1
    have hbb : ∀ f, (highF fs i).head? = some f → f.k.natAbs ≤ 2 ^ 89 := fun f hf => kb f (List.mem_filter.mp (List.mem_of_mem_head? hf)).1
    have tailH : ∀ (lv hv : V), FrO H4 lv (lowF fs i).getLast? → FrO H4 hv (highF fs i).head? → ∀ t o, H4 t = none → o.dict = none → Q (.ref t) (upd H4 t (.frz o (.tup [lv, hv]))) := fun lv hv h1 h2 t o nt ho => by
      have sT := same_upd (o := .frz o (.tup [lv, hv])) nt
      refine q _ t ((s1.trans s14).trans sT) (DtAt.mk ⟨o, upd_same, ho⟩ (by show 2 ≤ 5000; decide) (.cons ((h1.keep fun _ _ h => h.same sT).d lb) (.cons ((h2.keep fun _ _ h => h.same sT).d hbb) .nil)))
    refine ⟨.ref D, rfl, !ws.isEmpty, .inl ⟨ws, sql hD4, rfl⟩, ?_⟩
    cases hlo : (lowF fs i).getLast? with
    | none =>
      rw [hlo] at tailH
      have hw : ws = [] := List.length_eq_zero_iff.mp (by rw [List.getLast?_eq_none_iff.mp hlo] at wlen; exact wlen)
      rw [hw]
      refine iteF ?_
      cases hhi : (highF fs i).head? with
      | none =>
        rw [hhi] at tailH
        have hz : zs = [] := List.length_eq_zero_iff.mp (by rw [List.head?_eq_none_iff.mp hhi] at zlen; exact zlen)
        exact ⟨.ref E', rfl, false, .inl ⟨zs, sql hE, by rw [hz]; rfl⟩, iteF ⟨(by show 2 ≤ sizeLine; decide), fun t o nt ho => tailH .non .non rfl rfl t o nt ho⟩⟩
      | some fh =>
        rw [hhi] at tailH
        have h0 : (highF fs i)[0]? = some fh := by rw [← List.head?_eq_getElem?]; exact hhi
        obtain ⟨zv, hz, zu, rfl, hzu⟩ := paired_getr pz h0
        have hz0 : (!zs.isEmpty) = true := by
          cases zs with
          | nil => cases hz
          | cons _ _ => rfl
        exact ⟨.ref E', rfl, true, .inl ⟨zs, sql hE, hz0.symm⟩, iteT ⟨.ref E', rfl, E', _, _, _, rfl, rfl, sql hE, atI_nat (j := 0) hz, (by show 2 ≤ sizeLine; decide), fun t o nt ho => tailH .non (.ref zu) rfl ⟨zu, rfl, hzu.same s14⟩ t o nt ho⟩⟩
    | some flo =>
      rw [hlo] at tailH
      have h0 : (lowF fs i)[(lowF fs i).length - 1]? = some flo := by rw [← List.getLast?_eq_getElem?]; exact hlo
      obtain ⟨wv, hw, wu, rfl, hwu⟩ := paired_getr pw h0
      rw [← wlen] at hw
      have hw0 : (!ws.isEmpty) = true := by
        cases ws with
        | nil => cases hw
        | cons _ _ => rfl
      rw [hw0]
      refine iteT ⟨.ref D, rfl, _, rfl, D, _, _, _, rfl, rfl, sql hD4, atI_end hw, ?_⟩
      cases hhi : (highF fs i).head? with
      | none =>
        rw [hhi] at tailH
        have hz : zs = [] := List.length_eq_zero_iff.mp (by rw [List.head?_eq_none_iff.mp hhi] at zlen; exact zlen)
        exact ⟨.ref E', rfl, false, .inl ⟨zs, sql hE, by rw [hz]; rfl⟩, iteF ⟨(by show 2 ≤ sizeLine; decide), fun t o nt ho => tailH (.ref wu) .non ⟨wu, rfl, hwu.same s14⟩ rfl t o nt ho⟩⟩
      | some fh =>
        rw [hhi] at tailH
        have h0 : (highF fs i)[0]? = some fh := by rw [← List.head?_eq_getElem?]; exact hhi
        obtain ⟨zv, hz, zu, rfl, hzu⟩ := paired_getr pz h0
        have hz0 : (!zs.isEmpty) = true := by
          cases zs with
          | nil => cases hz
          | cons _ _ => rfl
        exact ⟨.ref E', rfl, true, .inl ⟨zs, sql hE, hz0.symm⟩, iteT ⟨.ref E', rfl, E', _, _, _, rfl, rfl, sql hE, atI_nat (j := 0) hz, (by show 2 ≤ sizeLine; decide), fun t o nt ho => tailH (.ref wu) (.ref zu) ⟨wu, rfl, hwu.same s14⟩ ⟨zu, rfl, hzu.same s14⟩ t o nt ho⟩⟩
end
end Kb

namespace Kb
/-! both ends at a key, and two ranks added -/
def enF (n k : Int) : Int → List Fd → Fd
  | low, [] => ⟨k, low, n, low, n⟩
  | low, f :: S => if f.k = k then f else if k < f.k then ⟨k, low, f.x, low, f.x⟩ else enF n k f.y S
theorem enF_k {n k : Int} : ∀ (S : List Fd) (low : Int), (enF n k low S).k = k
  | [], _ => rfl
  | f :: S, low => by
    unfold enF
    by_cases e : f.k = k
    · rw [if_pos e]; exact e
    · rw [if_neg e]
      by_cases l : k < f.k
      · rw [if_pos l]
      · rw [if_neg l]; exact enF_k S f.y
def sumF (a b : Fd) : Fd := ⟨a.k, a.w + b.w, a.x + b.x, a.y + b.y, a.z + b.z⟩
def addF (n m : Int) (fs gs : List Fd) (k : Int) : Fd := sumF (enF n k 0 fs) (enF m k 0 gs)
theorem addF_k {n m k : Int} {fs gs : List Fd} : (addF n m fs gs k).k = k := enF_k fs 0
theorem endsM_en {n k sd : Int} : ∀ (S : List Fd) (low : Int), endsM low (S.map Fd.m) n (frT k scl) (frN k scl) sd = if sd = 1 then ((enF n k low S).y, (enF n k low S).z) else ((enF n k low S).w, (enF n k low S).x)
  | [], low => by
    show (low, n) = if sd = 1 then (low, n) else (low, n)
    split <;> rfl
  | f :: S, low => by
    rw [endsM_cons]
    unfold enF
    by_cases e : f.k = k
    · rw [if_pos e, if_pos e]
    · rw [if_neg e, if_neg e]
      by_cases l : k < f.k
      · rw [if_pos l, if_pos l]
        split <;> rfl
      · rw [if_neg l, if_neg l]
        exact endsM_en S f.y
/-- a right list of marks behind a level -/
structure Chn (n low : Int) (S : List Fd) : Prop where
  bd : ∀ f ∈ S, BdOk n f.m
  ky : S.Pairwise fun f g => f.k < g.k
  ad : S.Pairwise fun f g => f.y ≤ g.w ∧ f.z ≤ g.x
  lo : ∀ f ∈ S, low ≤ f.w
  l0 : 0 ≤ low
  ln : low ≤ n
theorem Chn.tail {n low : Int} {f : Fd} {S : List Fd} (c : Chn n low (f :: S)) : Chn n f.y S := by
  have b := c.bd f List.mem_cons_self
  have b1 := b.a0
  have b2 := b.ac
  have b3 := b.cn
  exact ⟨fun g hg => c.bd g (List.mem_cons_of_mem _ hg), (List.pairwise_cons.mp c.ky).2, (List.pairwise_cons.mp c.ad).2, fun g hg => ((List.pairwise_cons.mp c.ad).1 g hg).1, by show 0 ≤ f.m.y; omega, b3⟩
theorem FsOk.chn {n : Int} {fs : List Fd} (ok : FsOk n fs) : Chn n 0 fs := ⟨ok.bd, ok.ky, ok.pw, fun f hf => (ok.bd f hf).a0, Int.le_refl _, ok.n0⟩
structure EnOk (n low : Int) (a : Fd) : Prop where
  a0 : low ≤ a.w
  ac : a.w ≤ a.y
  cn : a.y ≤ n
  ab : a.w ≤ a.x
  bd : a.x ≤ a.z
  dn : a.z ≤ n
  cd : a.y ≤ a.z
theorem en_ok {n k : Int} : ∀ (S : List Fd) (low : Int), Chn n low S → EnOk n low (enF n k low S)
  | [], low, c => ⟨Int.le_refl _, Int.le_refl _, c.ln, c.ln, Int.le_refl _, Int.le_refl _, c.ln⟩
  | f :: S, low, c => by
    have b := c.bd f List.mem_cons_self
    have l := c.lo f List.mem_cons_self
    obtain ⟨b1, b2, b3, b4, b5, b6, b7⟩ := b
    have ln := c.ln
    change f.w < f.y at b2
    change f.y ≤ n at b3
    change f.w ≤ f.x at b4
    change f.x < f.z at b5
    change f.z ≤ n at b6
    change f.y ≤ f.z at b7
    unfold enF
    by_cases e : f.k = k
    · rw [if_pos e]
      exact ⟨l, by omega, b3, b4, by omega, b6, b7⟩
    · rw [if_neg e]
      by_cases h : k < f.k
      · rw [if_pos h]
        exact ⟨Int.le_refl _, Int.le_refl _, ln, by show low ≤ f.x; omega, Int.le_refl _, by show f.x ≤ n; omega, by show low ≤ f.x; omega⟩
      · rw [if_neg h]
        obtain ⟨d1, d2, d3, d4, d5, d6, d7⟩ := en_ok (k := k) S f.y c.tail
        exact ⟨by omega, d2, d3, d4, d5, d6, d7⟩
theorem en_at {n k : Int} : ∀ (S : List Fd) (low : Int), S.Pairwise (fun f g => f.k < g.k) → ∀ f ∈ S, f.k = k → enF n k low S = f
  | [], _, _, _, h, _ => by cases h
  | g :: S, low, up, f, hf, e => by
    obtain ⟨u1, u2⟩ := List.pairwise_cons.mp up
    unfold enF
    rcases List.mem_cons.mp hf with rfl | hf
    · rw [if_pos e]
    · have := u1 f hf
      rw [if_neg (by omega), if_neg (by omega)]
      exact en_at S g.y u2 f hf e
theorem en_z_le {n k B : Int} : ∀ (S : List Fd) (low : Int), (∀ f ∈ S, B ≤ f.x) → B ≤ n → Chn n low S → B ≤ (enF n k low S).x
  | [], _, _, h, _ => h
  | f :: S, low, hf, h, c => by
    have b := hf f List.mem_cons_self
    unfold enF
    by_cases e : f.k = k
    · rw [if_pos e]; exact b
    · rw [if_neg e]
      by_cases l : k < f.k
      · rw [if_pos l]; exact b
      · rw [if_neg l]; exact en_z_le S f.y (fun g hg => hf g (List.mem_cons_of_mem _ hg)) h c.tail
theorem en_mono {n k k' : Int} (hk : k < k') : ∀ (S : List Fd) (low : Int), Chn n low S → (enF n k low S).y ≤ (enF n k' low S).w ∧ (enF n k low S).z ≤ (enF n k' low S).x
  | [], low, c => ⟨Int.le_refl _, Int.le_refl _⟩
  | f :: S, low, c => by
    have b := c.bd f List.mem_cons_self
    have l := c.lo f List.mem_cons_self
    obtain ⟨b1, b2, b3, b4, b5, b6, b7⟩ := b
    change f.w < f.y at b2
    change f.x < f.z at b5
    change f.z ≤ n at b6
    by_cases e' : k' ≤ f.k
    · have e1 : enF n k low (f :: S) = ⟨k, low, f.x, low, f.x⟩ := by
        unfold enF
        rw [if_neg (by omega), if_pos (by omega)]
      rw [e1]
      by_cases e2 : f.k = k'
      · rw [show enF n k' low (f :: S) = f by unfold enF; rw [if_pos e2]]
        exact ⟨l, Int.le_refl _⟩
      · rw [show enF n k' low (f :: S) = ⟨k', low, f.x, low, f.x⟩ by unfold enF; rw [if_neg e2, if_pos (by omega)]]
        exact ⟨Int.le_refl _, Int.le_refl _⟩
    · have e1 : enF n k' low (f :: S) = enF n k' f.y S := by
        show (if f.k = k' then f else if k' < f.k then (⟨k', low, f.x, low, f.x⟩ : Fd) else enF n k' f.y S) = _
        rw [if_neg (by omega), if_neg (by omega)]
      rw [e1]
      obtain ⟨d1, d2, d3, d4, d5, d6, d7⟩ := en_ok (k := k') S f.y c.tail
      have zx := en_z_le (k := k') S f.y (B := f.z) (fun g hg => ((List.pairwise_cons.mp c.ad).1 g hg).2) b6 c.tail
      by_cases e2 : f.k = k
      · rw [show enF n k low (f :: S) = f by unfold enF; rw [if_pos e2]]
        exact ⟨d1, zx⟩
      · by_cases e3 : k < f.k
        · rw [show enF n k low (f :: S) = ⟨k, low, f.x, low, f.x⟩ by unfold enF; rw [if_neg e2, if_pos e3]]
          exact ⟨by show low ≤ _; omega, by show f.x ≤ _; omega⟩
        · rw [show enF n k low (f :: S) = enF n k f.y S by
            show (if f.k = k then f else if k < f.k then (⟨k, low, f.x, low, f.x⟩ : Fd) else enF n k f.y S) = _
            rw [if_neg e2, if_neg e3]]
          exact en_mono hk S f.y c.tail
abbrev keysF (fs gs : List Fd) : List Int := (fs ++ gs).map Fd.k
theorem add_ok {n m : Int} {fs gs : List Fd} {ys : List Int} (a : FsOk n fs) (b : FsOk m gs) (s : Srt (keysF fs gs) ys) (hn : n + m ≤ 2 ^ 40) (yl : ys.length ≤ 3000) : FsOk (n + m) (ys.map (addF n m fs gs)) := by
  have n0 := a.n0
  have m0 := b.n0
  refine ⟨fun f hf => ?_, ?_, fun i f g h1 h2 => ?_, fun f hf => ?_, by omega, hn, by rw [List.length_map]; exact yl⟩
  · obtain ⟨k, hk, rfl⟩ := List.mem_map.mp hf
    have e1 := en_ok (k := k) fs 0 a.chn
    have e2 := en_ok (k := k) gs 0 b.chn
    have st : (enF n k 0 fs).w < (enF n k 0 fs).y ∧ (enF n k 0 fs).x < (enF n k 0 fs).z ∨ (enF m k 0 gs).w < (enF m k 0 gs).y ∧ (enF m k 0 gs).x < (enF m k 0 gs).z := by
      clear hf
      obtain ⟨f, hf, rfl⟩ := List.mem_map.mp ((s.mem k).mp hk)
      rcases List.mem_append.mp hf with hf | hf
      · left
        rw [en_at fs 0 a.ky f hf rfl]
        exact ⟨(a.bd f hf).ac, (a.bd f hf).bd⟩
      · right
        rw [en_at gs 0 b.ky f hf rfl]
        exact ⟨(b.bd f hf).ac, (b.bd f hf).bd⟩
    obtain ⟨a1, a2, a3, a4, a5, a6, a7⟩ := e1
    obtain ⟨c1, c2, c3, c4, c5, c6, c7⟩ := e2
    refine ⟨?_, ?_, ?_, ?_, ?_, ?_, ?_⟩
    · show 0 ≤ (enF n k 0 fs).w + (enF m k 0 gs).w; omega
    · show (enF n k 0 fs).w + (enF m k 0 gs).w < (enF n k 0 fs).y + (enF m k 0 gs).y; omega
    · show (enF n k 0 fs).y + (enF m k 0 gs).y ≤ n + m; omega
    · show (enF n k 0 fs).w + (enF m k 0 gs).w ≤ (enF n k 0 fs).x + (enF m k 0 gs).x; omega
    · show (enF n k 0 fs).x + (enF m k 0 gs).x < (enF n k 0 fs).z + (enF m k 0 gs).z; omega
    · show (enF n k 0 fs).z + (enF m k 0 gs).z ≤ n + m; omega
    · show (enF n k 0 fs).y + (enF m k 0 gs).y ≤ (enF n k 0 fs).z + (enF m k 0 gs).z; omega
  · refine List.pairwise_map.mpr (s.up.imp fun {x y} h => ?_)
    rw [addF_k, addF_k]
    exact h
  · obtain ⟨x, hx, rfl⟩ := map_at h1
    obtain ⟨y, hy, rfl⟩ := map_at h2
    have lt := s.lt hx hy (by omega)
    obtain ⟨p1, p2⟩ := en_mono lt fs 0 a.chn
    obtain ⟨q1, q2⟩ := en_mono lt gs 0 b.chn
    refine ⟨?_, ?_⟩
    · show (enF n x 0 fs).y + (enF m x 0 gs).y ≤ (enF n y 0 fs).w + (enF m y 0 gs).w; omega
    · show (enF n x 0 fs).z + (enF m x 0 gs).z ≤ (enF n y 0 fs).x + (enF m y 0 gs).x; omega
  · obtain ⟨k, hk, rfl⟩ := List.mem_map.mp hf
    rw [addF_k]
    clear hf
    obtain ⟨f, hf, rfl⟩ := List.mem_map.mp ((s.mem k).mp hk)
    rcases List.mem_append.mp hf with hf | hf
    · exact a.kb f hf
    · exact b.kb f hf
/-! marks that hold the items -/
structure HoldM (ks : List Int) (f : Fd) : Prop where
  w : f.w ≤ bel ks f.k
  x : bel ks f.k ≤ f.x
  y : f.y ≤ upt ks f.k
  z : upt ks f.k ≤ f.z
theorem hold_ex (ks : List Int) (y : Int) : HoldM ks (exM ks y) := ⟨Int.le_refl _, Int.le_refl _, Int.le_refl _, Int.le_refl _⟩
theorem en_hold {ks : List Int} {k : Int} : ∀ (S : List Fd) (low : Int), (∀ f ∈ S, HoldM ks f) → low ≤ bel ks k → HoldM ks (enF (ks.length : Nat) k low S)
  | [], low, _, hl => by
    have := upt_le ks k
    have := bel_le_upt ks k
    exact ⟨hl, by show bel ks k ≤ ((ks.length : Nat) : Int); omega, by show low ≤ upt ks k; omega, by show upt ks k ≤ ((ks.length : Nat) : Int); omega⟩
  | f :: S, low, hf, hl => by
    have hm := hf f List.mem_cons_self
    have := bel_le_upt ks k
    unfold enF
    by_cases e : f.k = k
    · rw [if_pos e]; exact hm
    · rw [if_neg e]
      by_cases l : k < f.k
      · rw [if_pos l]
        have := upt_le_bel (ks := ks) l
        have := hm.x
        exact ⟨hl, by show bel ks k ≤ f.x; omega, by show low ≤ upt ks k; omega, by show upt ks k ≤ f.x; omega⟩
      · rw [if_neg l]
        have := upt_le_bel (ks := ks) (show f.k < k by omega)
        have := hm.y
        exact en_hold S f.y (fun g hg => hf g (List.mem_cons_of_mem _ hg)) (by omega)
theorem bel_app (ks js : List Int) (v : Int) : bel (ks ++ js) v = bel ks v + bel js v := by
  unfold bel
  rw [List.filter_append, List.length_append]
  omega
theorem upt_app (ks js : List Int) (v : Int) : upt (ks ++ js) v = upt ks v + upt js v := by
  unfold upt
  rw [List.filter_append, List.length_append]
  omega
theorem add_hold {ks js : List Int} {fs gs : List Fd} (a : ∀ f ∈ fs, HoldM ks f) (b : ∀ f ∈ gs, HoldM js f) (k : Int) : HoldM (ks ++ js) (addF (ks.length : Nat) (js.length : Nat) fs gs k) := by
  have h1 := en_hold (k := k) fs 0 a (bel_nn ks k)
  have h2 := en_hold (k := k) gs 0 b (bel_nn js k)
  have e1 : (enF (ks.length : Nat) k 0 fs).k = k := enF_k fs 0
  have e2 : (enF (js.length : Nat) k 0 gs).k = k := enF_k gs 0
  obtain ⟨a1, a2, a3, a4⟩ := h1
  obtain ⟨b1, b2, b3, b4⟩ := h2
  rw [e1] at a1 a2 a3 a4
  rw [e2] at b1 b2 b3 b4
  have e : (addF (ks.length : Nat) (js.length : Nat) fs gs k).k = k := addF_k
  refine ⟨?_, ?_, ?_, ?_⟩ <;> rw [e] <;> simp only [bel_app, upt_app]
  · show (enF (ks.length : Nat) k 0 fs).w + (enF (js.length : Nat) k 0 gs).w ≤ _; omega
  · show _ ≤ (enF (ks.length : Nat) k 0 fs).x + (enF (js.length : Nat) k 0 gs).x; omega
  · show (enF (ks.length : Nat) k 0 fs).y + (enF (js.length : Nat) k 0 gs).y ≤ _; omega
  · show _ ≤ (enF (ks.length : Nat) k 0 fs).z + (enF (js.length : Nat) k 0 gs).z; omega
/-! how open -/
theorem good_idx {N g : Int} {F : Int → Fd} : ∀ (ys : List Int) (L : Int), (∀ b, ys[0]? = some b → (F b).x - L ≤ g) → (∀ (i : Nat) a b, ys[i]? = some a → ys[i + 1]? = some b → (F b).x - (F a).y ≤ g) → (∀ a, ys[ys.length - 1]? = some a → N - (F a).y ≤ g) → (ys = [] → N - L ≤ g) → good N g L (ys.map F)
  | [], L, _, _, _, h => h rfl
  | a :: ys, L, h0, h1, h2, _ => by
    refine ⟨h0 a rfl, good_idx ys (F a).y (fun b hb => h1 0 a b rfl hb) (fun i x y e1 e2 => h1 (i + 1) x y e1 e2) (fun x hx => ?_) (fun e => ?_)⟩
    · refine h2 x ?_
      cases ys with
      | nil => cases hx
      | cons y ys => exact hx
    · subst e
      exact h2 a rfl
theorem gap0 {n G k' : Int} : ∀ (S : List Fd) (low : Int), good n G low S → (∀ f ∈ S, k' ≤ f.k) → (enF n k' low S).x - low ≤ G
  | [], low, h, _ => h
  | f :: S, low, h, hf => by
    have := hf f List.mem_cons_self
    have h1 := h.1
    unfold enF
    by_cases e : f.k = k'
    · rw [if_pos e]; exact h1
    · rw [if_neg e, if_pos (by omega)]; exact h1
theorem gapB {n G k k' : Int} (hk : k < k') : ∀ (S : List Fd) (low : Int), good n G low S → S.Pairwise (fun f g => f.k < g.k) → (∀ f ∈ S, f.k ≤ k ∨ k' ≤ f.k) → (enF n k' low S).x - (enF n k low S).y ≤ G
  | [], low, h, _, _ => h
  | f :: S, low, h, up, hf => by
    obtain ⟨u1, u2⟩ := List.pairwise_cons.mp up
    rcases hf f List.mem_cons_self with c | c
    · rw [show enF n k' low (f :: S) = enF n k' f.y S by
        show (if f.k = k' then f else if k' < f.k then (⟨k', low, f.x, low, f.x⟩ : Fd) else enF n k' f.y S) = _
        rw [if_neg (by omega), if_neg (by omega)]]
      by_cases e : f.k = k
      · rw [show enF n k low (f :: S) = f by unfold enF; rw [if_pos e]]
        refine gap0 S f.y h.2 fun g hg => ?_
        have := u1 g hg
        rcases hf g (List.mem_cons_of_mem _ hg) with d | d
        · omega
        · exact d
      · rw [show enF n k low (f :: S) = enF n k f.y S by
          show (if f.k = k then f else if k < f.k then (⟨k, low, f.x, low, f.x⟩ : Fd) else enF n k f.y S) = _
          rw [if_neg e, if_neg (by omega)]]
        exact gapB hk S f.y h.2 u2 fun g hg => hf g (List.mem_cons_of_mem _ hg)
    · have h1 := h.1
      rw [show enF n k low (f :: S) = ⟨k, low, f.x, low, f.x⟩ by unfold enF; rw [if_neg (by omega), if_pos (by omega)]]
      have e1 : (enF n k' low (f :: S)).x = f.x := by
        unfold enF
        by_cases e : f.k = k'
        · rw [if_pos e]
        · rw [if_neg e, if_pos (by omega)]
      rw [e1]
      exact h1
theorem gapE {n G k : Int} : ∀ (S : List Fd) (low : Int), good n G low S → S.Pairwise (fun f g => f.k < g.k) → (∀ f ∈ S, f.k ≤ k) → n - (enF n k low S).y ≤ G
  | [], low, h, _, _ => h
  | f :: S, low, h, up, hf => by
    obtain ⟨u1, u2⟩ := List.pairwise_cons.mp up
    have c := hf f List.mem_cons_self
    by_cases e : f.k = k
    · rw [show enF n k low (f :: S) = f by unfold enF; rw [if_pos e]]
      cases S with
      | nil => exact h.2
      | cons g S =>
        have := u1 g List.mem_cons_self
        have := hf g (List.mem_cons_of_mem _ List.mem_cons_self)
        omega
    · rw [show enF n k low (f :: S) = enF n k f.y S by
        show (if f.k = k then f else if k < f.k then (⟨k, low, f.x, low, f.x⟩ : Fd) else enF n k f.y S) = _
        rw [if_neg e, if_neg (by omega)]]
      exact gapE S f.y h.2 u2 fun g hg => hf g (List.mem_cons_of_mem _ hg)
theorem opn_good {n : Int} {fs : List Fd} : good n (opn n 0 0 fs) 0 fs := (opn_le.mp (Int.le_refl _)).2
theorem add_open {n m : Int} {fs gs : List Fd} {ys : List Int} (a : FsOk n fs) (b : FsOk m gs) (s : Srt (keysF fs gs) ys) : opn (n + m) 0 0 (ys.map (addF n m fs gs)) ≤ opn n 0 0 fs + opn m 0 0 gs := by
  have g1 := opn_good (n := n) (fs := fs)
  have g2 := opn_good (n := m) (fs := gs)
  have o1 : 0 ≤ opn n 0 0 fs := opn_ge
  have o2 : 0 ≤ opn m 0 0 gs := opn_ge
  generalize opn n 0 0 fs = G at g1 o1 ⊢
  generalize opn m 0 0 gs = G' at g2 o2 ⊢
  have in1 : ∀ f ∈ fs, f.k ∈ keysF fs gs := fun f hf => List.mem_map.mpr ⟨f, List.mem_append_left _ hf, rfl⟩
  have in2 : ∀ f ∈ gs, f.k ∈ keysF fs gs := fun f hf => List.mem_map.mpr ⟨f, List.mem_append_right _ hf, rfl⟩
  refine opn_le.mpr ⟨by omega, good_idx ys 0 (fun y hy => ?_) (fun i x y hx hy => ?_) (fun x hx => ?_) (fun e => ?_)⟩
  · have h1 := gap0 fs 0 g1 fun f hf => s.first hy _ (in1 f hf)
    have h2 := gap0 gs 0 g2 fun f hf => s.first hy _ (in2 f hf)
    show (enF n y 0 fs).x + (enF m y 0 gs).x - 0 ≤ _
    omega
  · have lt := s.lt hx hy (by omega)
    have ad := s.adj hx hy
    have h1 := gapB lt fs 0 g1 a.ky fun f hf => by have := ad _ (in1 f hf); omega
    have h2 := gapB lt gs 0 g2 b.ky fun f hf => by have := ad _ (in2 f hf); omega
    show (enF n y 0 fs).x + (enF m y 0 gs).x - ((enF n x 0 fs).y + (enF m x 0 gs).y) ≤ _
    omega
  · have h1 := gapE fs 0 g1 a.ky fun f hf => s.last hx _ (in1 f hf)
    have h2 := gapE gs 0 g2 b.ky fun f hf => s.last hx _ (in2 f hf)
    show n + m - ((enF n x 0 fs).y + (enF m x 0 gs).y) ≤ _
    omega
  · subst e
    have f0 : fs = [] := by
      cases fs with
      | nil => rfl
      | cons f fs => exact absurd ((s.mem f.k).mpr (in1 f List.mem_cons_self)) (List.not_mem_nil)
    have f1 : gs = [] := by
      cases gs with
      | nil => rfl
      | cons f fs => exact absurd ((s.mem f.k).mpr (in2 f List.mem_cons_self)) (List.not_mem_nil)
    subst f0
    subst f1
    have h1 : n - 0 ≤ G := g1
    have h2 : m - 0 ≤ G' := g2
    omega
theorem ex_open {ks ys : List Int} (s : Srt ks ys) : opn (ks.length : Nat) 0 0 (exF ks ys) ≤ 0 := by
  refine opn_le.mpr ⟨Int.le_refl _, good_idx ys 0 (fun y hy => ?_) (fun i x y hx hy => ?_) (fun x hx => ?_) (fun e => ?_)⟩
  · have := belAt_zero s
    rw [belAt_some hy] at this
    show bel ks y - 0 ≤ 0
    omega
  · have := belAt_succ s hx
    rw [belAt_some hy] at this
    show bel ks y - upt ks x ≤ 0
    omega
  · have yl : ys.length - 1 < ys.length := (List.getElem?_eq_some_iff.mp hx).1
    have := belAt_succ s hx
    rw [show ys.length - 1 + 1 = ys.length by omega, belAt_end] at this
    show ((ks.length : Nat) : Int) - upt ks x ≤ 0
    omega
  · subst e
    cases ks with
    | nil => exact Int.le_refl _
    | cons k ks => exact absurd ((s.mem k).mpr List.mem_cons_self) List.not_mem_nil
/-- what thinning adds -/
def addB (n : Int) (room : Nat) : Int := mxI 0 ((n + (room : Int) - 1) / (room : Int) - 1)
theorem thin_open {room : Nat} {n B : Int} {fs r : List Fd} (ok : FsOk n fs) (r1 : 1 ≤ room) (h : ThinOut room n fs r) (hB : opn n 0 0 fs ≤ B) : (fs.length ≤ room → opn n 0 0 r ≤ B) ∧ opn n 0 0 r ≤ B + addB n room := by
  obtain ⟨m1, m2, m3⟩ := mxI_ge 0 ((n + (room : Int) - 1) / (room : Int) - 1)
  have ea : addB n room = mxI 0 ((n + (room : Int) - 1) / (room : Int) - 1) := rfl
  rcases h with ⟨h1, h2⟩ | ⟨h1, g, h2, h3⟩
  · subst h2
    exact ⟨fun _ => hB, by omega⟩
  · refine ⟨fun c => by omega, ?_⟩
    have n1 : 1 ≤ n := by
      cases fs with
      | nil => simp only [List.length_nil] at h1; omega
      | cons f fs =>
        have b := ok.bd f List.mem_cons_self
        have := b.a0
        have := b.ac
        have := b.cn
        omega
    have b := h2.bound ok.up r1 n1
    rw [(h2.eq ok.up h3).2.2]
    omega
theorem nd_len : ∀ {ys ks : List Int}, ys.Nodup → (∀ k ∈ ys, k ∈ ks) → ys.length ≤ ks.length
  | [], _, _, _ => Nat.zero_le _
  | y :: ys, ks, nd, h => by
    obtain ⟨n1, n2⟩ := List.nodup_cons.mp nd
    have hy := h y List.mem_cons_self
    have := nd_len (ks := ks.erase y) n2 fun k hk => (List.mem_erase_of_ne fun e => n1 (by rw [← e]; exact hk)).mpr (h k (List.mem_cons_of_mem _ hk))
    rw [List.length_erase_of_mem hy] at this
    have : 0 < ks.length := List.length_pos_of_mem hy
    rw [List.length_cons]
    omega
theorem mapk_len {fs gs : List Fd} {ys : List Int} (s : Srt (keysF fs gs) ys) : ys.length ≤ fs.length + gs.length := by
  have nd : ys.Nodup := s.up.imp fun {a b} h => by omega
  have e : (keysF fs gs).length = fs.length + gs.length := by rw [List.length_map, List.length_append]
  rw [← e]
  exact nd_len nd fun k hk => (s.mem k).mp hk
end Kb

/-! t[k::n] of a plain tuple -/
namespace L2
open PySem PySem.Spec PyProof.Rows HT
def plcN (len k n : Nat) : Nat := if k < len then (len - k - 1) / n + 1 else 0
def everyL {α : Type} (xs : List α) (k n : Nat) : List α := (List.range (plcN xs.length k n)).filterMap fun m => xs[k + m * n]?
theorem step_len {α : Type} (xs : List α) (k n : Nat) : (everyL xs k n).length ≤ xs.length + 1 := by
  refine Nat.le_trans (List.length_filterMap_le _ _) ?_
  rw [List.length_range]
  unfold plcN
  split
  · have := Nat.div_le_self (xs.length - k - 1) n
    omega
  · omega
theorem step_places {len k n : Nat} (hn : 1 ≤ n) : Builtin.Slice.slicePlaces (k : Int) (len : Int) (n : Int) = plcN len k n := by
  unfold Builtin.Slice.slicePlaces plcN
  rw [if_pos (show (n : Int) > 0 by omega)]
  by_cases h : k < len
  · rw [if_pos (show (k : Int) < (len : Int) by omega), if_pos h, show ((len : Int) - (k : Int) - 1) = ((len - k - 1 : Nat) : Int) by omega, ← Int.natCast_ediv]
    generalize (len - k - 1) / n = q
    omega
  · rw [if_neg (show ¬ (k : Int) < (len : Int) by omega), if_neg h]
    rfl
theorem step_adjust {len k n : Nat} (hn : 1 ≤ n) (hk : k ≤ len) : Builtin.Slice.sliceAdjust (some (k : Int)) none (n : Int) (len : Int) = ((k : Int), (len : Int)) := by
  unfold Builtin.Slice.sliceAdjust
  have h1 : ¬ ((n : Int) < 0) := by omega
  have h2 : ¬ ((k : Int) < 0) := by omega
  simp only [h1, h2, if_false]
  rw [Int.min_eq_left (by omega)]
section
variable {prog : Program} {w : World} {A : Around} {E : Value → Shared → Prop} {s : Shared}
theorem sliceApplied_step {sl : Addr} {vl vs : Value} {len k n : Nat} {Q : Int × Int × Nat → Shared → Prop} (hs : s.heap.IsSliceOf sl vl .none vs) (pl : IsPart vl (some (k : Int))) (ps : IsPart vs (some (n : Int))) (hn : 1 ≤ n) (hk : k ≤ len)
    (h : Q ((k : Int), (n : Int), plcN len k n) s) : wpAny (model prog w) A (Builtin.Slice.sliceApplied (.ref sl) (pure (len : Int))) Q E s := by
  obtain ⟨os, hos, hcs, hds⟩ := id hs
  unfold Builtin.Slice.sliceApplied Builtin.Slice.sliceFields
  refine wpAny_bind (wpAny_bind (wpAny_field hos hds (x := vl) rfl (wpAny_bind (wpAny_field hos hds (x := .none) rfl (wpAny_bind (wpAny_field hos hds (x := vs) rfl (wpAny_pure ?_)))))))
  refine wpAny_bind (slicePart_ ps ?_)
  show wpAny _ _ (if ((n : Int) == 0) = true then _ else _) _ _ s
  rw [if_neg (by simp; omega)]
  refine wpAny_bind (slicePart_ pl (wpAny_bind (slicePart_none (wpAny_bind (wpAny_pure ?_)))))
  show wpAny _ _ (match Builtin.Slice.sliceAdjust (some (k : Int)) none (n : Int) (len : Int) with | (lo, hi) => pure (lo, (n : Int), Builtin.Slice.slicePlaces lo hi (n : Int))) _ _ s
  rw [step_adjust hn hk]
  show wpAny _ _ (pure ((k : Int), (n : Int), Builtin.Slice.slicePlaces (k : Int) (len : Int) (n : Int))) _ _ s
  rw [step_places hn]
  exact wpAny_pure h
theorem step_pick (xs : Array Value) (k n p : Nat) : (List.range p).filterMap (fun (m : Nat) => xs[((k : Int) + (m : Int) * (n : Int)).toNat]?) = (List.range p).filterMap fun m => xs.toList[k + m * n]? := by
  refine fm_congr fun m _ => ?_
  rw [show ((k : Int) + (m : Int) * (n : Int)).toNat = k + m * n by rw [← Int.natCast_mul, ← Int.natCast_add, Int.toNat_natCast], Array.getElem?_toList]
theorem getItem_tuple_step {t sl : Addr} {its : Array Value} {vl vs : Value} {k n : Nat} {Q : Value → Shared → Prop} (isT : IsTup s.heap t its) (isSl : s.heap.IsSliceOf sl vl .none vs) (pl : IsPart vl (some (k : Int))) (ps : IsPart vs (some (n : Int))) (hn : 1 ≤ n) (hk : k ≤ its.size)
    (q1 : (k : Int) = 0 ∧ n = 1 → Q (.ref t) s)
    (q2 : Q (.ref s.heap.objs.size) { s with heap := s.heap.push { cls := .type "tuple", data := .seq (everyL its.toList k n).toArray } }) (small : (everyL its.toList k n).length ≤ sizeLine) : wpAny (model prog w) A (getItem (.ref t) (.ref sl)) Q E s := by
  have fits : sizeOk (.seq (everyL its.toList k n).toArray) := by
    show (everyL its.toList k n).toArray.size ≤ _
    rw [List.size_toArray]
    exact small
  have tySl : s.TypeIs (.ref sl) "slice" := let ⟨o, g, c, _⟩ := isSl; ⟨o, g, c⟩
  unfold getItem
  try with_reducible refine wpAny_holding ?_
  try refine wpAny_bind (wpAny_pure ?_)
  refine wpAny_bind (wpAny_sequenceKey isT.typeIs (by decide) (wpAny_bind (wpAny_callSpecial?_slot (name := Str.ofString "__getitem__") isT.typeIs PyProof.Rows.slot_tuple_getitem (wpAny_call_entry PyProof.Rows.slot_tuple_getitem isT.typeIs entry_tuple_getitem ?_ (args_tuple_getitem _ _)))))
  show wpAny _ _ (Builtin.Tuple.tupleItemsOf (.ref t) >>= _) _ _ s
  refine wpAny_bind (tupleItemsOf_ isT (wpAny_bind (wpAny_typeOf tySl ?_)))
  rw [if_pos (by decide)]
  refine wpAny_bind (sliceApplied_step isSl pl ps hn hk ?_)
  show wpAny _ _ (if ((k : Int) == 0 && (n : Int) == 1 && plcN its.size k n == its.size) = true then _ else _) _ _ s
  by_cases hw : ((k : Int) == 0 && (n : Int) == 1 && plcN its.size k n == its.size) = true
  · rw [if_pos hw]
    simp only [Bool.and_eq_true, beq_iff_eq] at hw
    refine wpAny_bind ?_
    show wpAny _ _ (typeOf (.ref t) >>= fun T => pure (T == .type "tuple")) _ _ s
    refine wpAny_bind (wpAny_typeOf isT.typeIs (wpAny_pure ?_))
    have h := q1 ⟨hw.1.1, by omega⟩
    first
      | rw [if_pos (by decide)]
      | simp only [beq_self_eq_true, if_true]
    first
      | exact wpAny_bind (wpAny_rule (wpAny_pure ⟨_, rfl, wpAny_pure h⟩))
      | exact wpAny_bind (wpAny_rule (wpAny_bind (wpAny_pure (wpAny_pure ⟨_, rfl, wpAny_pure h⟩))))
  · rw [if_neg hw, step_pick]
    have q := q2
    unfold everyL at q fits
    rw [Array.length_toList] at q fits
    first
      | exact wpAny_bind (m := Builtin.Tuple.tupleExact _) (wpAny_newObj_type (wpAny_pure ⟨_, rfl, wpAny_pure q⟩) fits)
      | exact wpAny_bind (wpAny_bind (m := Builtin.Tuple.tupleExact _) (wpAny_newObj_type (wpAny_pure (wpAny_pure ⟨_, rfl, wpAny_pure q⟩)) fits))
      | exact wpAny_bind (wpAny_bind (m := Builtin.Tuple.tupleExact _) (wpAny_newObj_type (wpAny_pure ⟨_, rfl, wpAny_pure q⟩) fits))
end
theorem vals_pick {xs : List V} {us : List Value} (r : Vals xs us) (f : Nat → Nat) : ∀ l : List Nat, Vals (l.filterMap fun m => xs[f m]?) (l.filterMap fun m => us[f m]?)
  | [] => .nil
  | m :: l => by
    have ih := vals_pick r f l
    cases h : xs[f m]? with
    | none => rw [List.filterMap_cons, List.filterMap_cons, h, r.none_of h]; exact ih
    | some x =>
      obtain ⟨u, hu, hr⟩ := r.get h
      rw [List.filterMap_cons, List.filterMap_cons, h, hu]
      exact .cons hr ih
theorem vals_step {xs : List V} {us : List Value} (r : Vals xs us) (k n : Nat) : Vals (everyL xs k n) (everyL us k n) := by
  unfold everyL
  rw [← r.length]
  exact vals_pick r _ _
theorem fm_all {α : Type} : ∀ xs : List α, (List.range xs.length).filterMap (fun m => xs[m]?) = xs
  | [] => rfl
  | x :: xs => by
    rw [List.length_cons, List.range_succ_eq_map, List.filterMap_cons]
    show x :: _ = _
    rw [List.filterMap_map]
    exact congrArg (x :: ·) (fm_all xs)
theorem step_whole {α : Type} (xs : List α) : everyL xs 0 1 = xs := by
  unfold everyL plcN
  have e : (if 0 < xs.length then (xs.length - 0 - 1) / 1 + 1 else 0) = xs.length := by
    rw [Nat.div_one]
    split <;> omega
  rw [e]
  refine Eq.trans (fm_congr fun m _ => ?_) (fm_all xs)
  rw [show 0 + m * 1 = m by omega]
section
variable {X : Cx}
/-- t[k::n], a plain tuple of a plain tuple -/
def tStepP (K : PySem.W.Frag) (te tl ts : TE) : TE := fun σ H Q => te σ H fun x H1 => tPart tl σ H1 fun lo H2 => tPart ts σ H2 fun st H3 => ∃ a xs k n, x = .ref a ∧ Ptp H3 a xs ∧ lo = some ((k : Nat) : Int) ∧ st = some ((n : Nat) : Int) ∧ 1 ≤ n ∧ k ≤ xs.length ∧ xs.length + 1 ≤ sizeLine ∧ ∀ p H', Same H3 H' → Ptp H' p (everyL xs k n) → Q (.ref p) H'
theorem pe_stepP {e el es : Expr} {te tl ts : TE} {p3 pos : Pos} (he : PE X e te) (hl : PE X el tl) (hs : PE X es ts) : PE X (.Subscript e (.Slice (some el) none (some es) p3) pos) (tStepP X.K te tl ts) := by
  refine ⟨fun pins s σ H Q I h => ?_⟩
  refine Subscript_ (thn (he.run pins s σ H _ I h) fun v s1 ⟨x, H1, I1, r1, q1⟩ => ?_)
  refine wpAny_Slice (thn ((po_some hl).run pins s1 σ H1 _ I1 q1) fun vl s2 ⟨l, H2, I2, pl, q2⟩ => ?_)
  refine thn (po_none.run pins s2 σ H2 (fun o H3 => o = none ∧ H3 = H2) I2 ⟨rfl, rfl⟩) fun vu s3 ⟨u, H3, I3, pu, eu, e3⟩ => ?_
  subst eu e3
  refine thn ((po_some hs).run pins s3 σ H3 _ I3 q2) fun vs s4 ⟨o, H4, I4, ps, q4⟩ => ?_
  obtain ⟨a, xs, k, n, ex, hx, el', eo, hn, hk, hsz, q⟩ := q4
  subst ex el' eo
  cases r1
  cases pu
  have I5 : Inv X pins σ H4 { s4 with heap := s4.heap.push { cls := .type "slice", data := .fields #[vl, .none, vs] } } := I4.kept (t' := s4.toks) fun b ob q => Heap.get?_push_of_some _ q
  obtain ⟨its, r, ht, hz⟩ := I5.tuple hx.seq
  have hlen : its.toArray.size = xs.length := by rw [List.size_toArray]; exact r.length.symm
  show wpAny (model X.prog X.w) X.A (subscriptTail e (.Slice (some el) none (some es) p3) (.ref a) (.ref s4.heap.objs.size)) (EP X pins σ Q) X.xe { s4 with heap := s4.heap.push { cls := .type "slice", data := .fields #[vl, .none, vs] } }
  refine tail_any (ops := [.ref a, .ref s4.heap.objs.size]) ht.typeIs (PyProof.Rows.slot_tuple_getitem.lookup) ?_ (by with_unfolding_all rfl)
  have hst := step_len xs k n
  refine getItem_tuple_step ht (Heap.IsSliceOf.new _ vl .none vs) pl ps hn (by rw [hlen]; exact hk) (fun hw => ?_) ?_ (by rw [← (vals_step r k n).length]; omega)
  · obtain ⟨h1, h2⟩ := hw
    have h1 : k = 0 := by omega
    subst h1 h2
    exact ⟨.ref a, H4, I5, rfl, q a H4 (Same.refl H4) (by rw [step_whole]; exact hx)⟩
  have hf := I5.hok.fresh (Nat.le_refl _)
  refine ⟨.ref _, _, I5.laid (t' := s4.toks) (o := .frz { cls := .type "tuple", data := .seq (everyL its k n).toArray } (.tup (everyL xs k n))) (fun b ob q => Heap.get?_push_of_some _ q) (Nat.le_refl _) ?_, rfl, q _ _ (same_fresh hf) ⟨_, upd_same, rfl⟩⟩
  exact ⟨Heap.get?_push_size _ rfl, by omega, _, vals_step r k n, ⟨_, Heap.get?_push_size _ rfl, rfl, _, rfl⟩⟩
theorem pe_stepPK {K : PySem.W.Frag} {e el es : Expr} {te tl ts : TE} {p3 pos : Pos} (hK : X.K = K) (he : PE X e te) (hl : PE X el tl) (hs : PE X es ts) : PE X (.Subscript e (.Slice (some el) none (some es) p3) pos) (tStepP K te tl ts) := by
  subst hK
  exact pe_stepP he hl hs
end
end L2
/-! two for -/
namespace L2
open PySem PySem.Spec PyProof.Rows
theorem lc2_rng {lo : Int} {n : Nat} {g1 : TG} {tt1 : TT} {te : TE} {vs1 : List Nat} {σ2 : St} {H4 : Hp} {D : Addr} {Nx : Hp → Prop} (Pv : Nat → Hp → Prop) (h0 : Pv 0 H4)
    (hs : ∀ j H, j < n → Pv j H → g1 (.int (lo + j)) (wipe σ2 vs1) H fun σ3 H5 => wipe σ3 vs1 = wipe σ2 vs1 ∧ tt1 σ3 H5 fun b H6 =>
      if b = true then te σ3 H6 fun y H7 => ∃ acc, H7 D = some (.lst acc) ∧ acc.length < sizeLine ∧ Pv (j + 1) (upd H7 D (.lst (acc ++ [y]))) else Pv (j + 1) H6) (hd : ∀ H, Pv n H → Nx H) :
    ∃ W1 : Nat → Nat → Hp → Prop, (∃ m, W1 0 m H4) ∧ ∀ j k H, W1 j k H →
      ((Itr lo n).stop j H ∧ Nx H) ∨ ((Itr lo n).go j H ∧ ∃ Nx1 : Hp → Prop, (∀ H', Nx1 H' → ∃ k', k' < k ∧ W1 (j + 1) k' H') ∧ ∀ x H', (Itr lo n).yld j H x H' → g1 x (wipe σ2 vs1) H' fun σ3 H5 => wipe σ3 vs1 = wipe σ2 vs1 ∧ tt1 σ3 H5 fun b H6 =>
        if b = true then te σ3 H6 fun y H7 => ∃ acc, H7 D = some (.lst acc) ∧ acc.length < sizeLine ∧ Nx1 (upd H7 D (.lst (acc ++ [y]))) else Nx1 H6) := by
  refine ⟨fun i m H => m = n - i ∧ i ≤ n ∧ Pv i H, ⟨n, by simp, Nat.zero_le _, h0⟩, ?_⟩
  rintro i m H ⟨rfl, hi, p⟩
  by_cases hlt : i < n
  · refine .inr ⟨hlt, Pv (i + 1), fun H' p' => ⟨n - (i + 1), by omega, rfl, hlt, p'⟩, fun x H' y => ?_⟩
    obtain ⟨e, y⟩ := y
    subst e y
    exact hs i _ hlt p
  · have e : i = n := by omega
    subst e
    exact .inl ⟨Nat.le_refl _, hd H p⟩
theorem lc2_tup {K : PySem.W.Frag} {a : Addr} {xs : List V} {g : TG} {tt : TT} {In : St → Hp → (Hp → Prop) → Prop} {vs : List Nat} {σ : St} {H1 : Hp} {D : Addr} {Qd : Hp → Prop} (Pv : Nat → Hp → Prop) (h0 : Pv 0 (upd H1 D (.lst []))) (hl : ∀ i H, i ≤ xs.length → Pv i H → SqT K H a xs)
    (hs : ∀ i x H, xs[i]? = some x → Pv i H → g x (wipe σ vs) H fun σ2 H2 => wipe σ2 vs = wipe σ vs ∧ tt σ2 H2 fun b H3 =>
      if b = true then In σ2 H3 (Pv (i + 1)) else Pv (i + 1) H3) (hd : ∀ H, Pv xs.length H → Qd H) :
    ∃ W : Nat → Nat → Hp → Prop, (∃ m, W 0 m (upd H1 D (.lst []))) ∧ ∀ i m H, W i m H →
      ((Itt K a).stop i H ∧ Qd H) ∨ ((Itt K a).go i H ∧ ∃ Nx : Hp → Prop, (∀ H', Nx H' → ∃ m', m' < m ∧ W (i + 1) m' H') ∧ ∀ x H', (Itt K a).yld i H x H' → g x (wipe σ vs) H' fun σ2 H2 => wipe σ2 vs = wipe σ vs ∧ tt σ2 H2 fun b H3 =>
        if b = true then In σ2 H3 Nx else Nx H3) := by
  refine ⟨fun i m H => m = xs.length - i ∧ i ≤ xs.length ∧ Pv i H, ⟨xs.length, by simp, Nat.zero_le _, h0⟩, ?_⟩
  rintro i m H ⟨rfl, hi, p⟩
  have q := hl i H hi p
  by_cases hlt : i < xs.length
  · refine .inr ⟨⟨xs, xs[i], q, by simp [hlt]⟩, Pv (i + 1), fun H' p' => ⟨xs.length - (i + 1), by omega, rfl, hlt, p'⟩, fun x H' y => ?_⟩
    obtain ⟨e, y⟩ := y
    subst e
    exact hs i x _ (y xs q) p
  · have e : i = xs.length := by omega
    subst e
    exact .inl ⟨⟨xs, q, Nat.le_refl _⟩, hd H p⟩
theorem lc2_list {K : PySem.W.Frag} {a : Addr} {xs : List V} {g : TG} {tt : TT} {In : St → Hp → (Hp → Prop) → Prop} {vs : List Nat} {σ : St} {H1 : Hp} {D : Addr} {Qd : Hp → Prop} (Pv : Nat → Hp → Prop) (h0 : Pv 0 (upd H1 D (.lst []))) (hl : ∀ i H, i ≤ xs.length → Pv i H → SqL K H a xs)
    (hs : ∀ i x H, xs[i]? = some x → Pv i H → g x (wipe σ vs) H fun σ2 H2 => wipe σ2 vs = wipe σ vs ∧ tt σ2 H2 fun b H3 =>
      if b = true then In σ2 H3 (Pv (i + 1)) else Pv (i + 1) H3) (hd : ∀ H, Pv xs.length H → Qd H) :
    ∃ W : Nat → Nat → Hp → Prop, (∃ m, W 0 m (upd H1 D (.lst []))) ∧ ∀ i m H, W i m H →
      ((Itl K a).stop i H ∧ Qd H) ∨ ((Itl K a).go i H ∧ ∃ Nx : Hp → Prop, (∀ H', Nx H' → ∃ m', m' < m ∧ W (i + 1) m' H') ∧ ∀ x H', (Itl K a).yld i H x H' → g x (wipe σ vs) H' fun σ2 H2 => wipe σ2 vs = wipe σ vs ∧ tt σ2 H2 fun b H3 =>
        if b = true then In σ2 H3 Nx else Nx H3) := by
  refine ⟨fun i m H => m = xs.length - i ∧ i ≤ xs.length ∧ Pv i H, ⟨xs.length, by simp, Nat.zero_le _, h0⟩, ?_⟩
  rintro i m H ⟨rfl, hi, p⟩
  have q := hl i H hi p
  by_cases hlt : i < xs.length
  · refine .inr ⟨⟨xs, xs[i], q, by simp [hlt]⟩, Pv (i + 1), fun H' p' => ⟨xs.length - (i + 1), by omega, rfl, hlt, p'⟩, fun x H' y => ?_⟩
    obtain ⟨e, y⟩ := y
    subst e
    exact hs i x _ (y xs q) p
  · have e : i = xs.length := by omega
    subst e
    exact .inl ⟨⟨xs, q, Nat.le_refl _⟩, hd H p⟩
/-! dicts -/
section
variable {X : Cx}
def valsIn {κ : Type} [DecidableEq κ] (A B : List (κ × V)) : Prop := A.length = B.length ∧ ∀ e ∈ A, ∃ i : Int, e.2 = .int i ∧ valV B e.1 = some (.int i)
/-- d != e where they are alike, of whole numbers -/
def rNeDk : R2 := fun x y H Q => ∃ a b A B, x = .ref a ∧ y = .ref b ∧ H a = some (.dK A) ∧ H b = some (.dK B) ∧ valsIn A B ∧ Q (.bl false) H
theorem keq_hits {A : Around} {s : Shared} {kb : List (Key × Value)} {Bz : List (Key × V)} (rb : KV Bz kb) : ∀ {Az : List (Key × V)} {ka : List (Key × Value)}, KV Az ka → (∀ e ∈ Az, ∃ i : Int, e.2 = .int i ∧ valV Bz e.1 = some (.int i)) → PySem.W.KeqHits A s kb ka true
  | _, _, .nil, _ => .nil
  | _, _, .cons (a := p) (b := q) h t, hv => by
    obtain ⟨i, e1, e2⟩ := hv p List.mem_cons_self
    obtain ⟨h1, h2⟩ := h
    have ih := keq_hits (A := A) (s := s) rb t fun e he => hv e (List.mem_cons_of_mem _ he)
    have h3 := rb.val p.1
    rw [e2] at h3
    rw [e1] at h2
    obtain ⟨k, v⟩ := q
    obtain ⟨tk, hu⟩ : ∃ tk, v = .int i tk := h2
    cases hu
    cases hy : valueAt kb p.1 with
    | none => rw [hy] at h3; exact h3.elim
    | some y =>
      rw [hy] at h3
      obtain ⟨tk2, hy2⟩ : ∃ tk, y = .int i tk := h3
      cases hy2
      have hk : k = p.1 := h1.symm
      subst hk
      have hq := PySem.W.keq_flat (A := A) (s := s) (PyProof.V.Flat.int i tk) (PyProof.V.Flat.int i tk2)
      have ht : PyData.eqv (.int i) (.int i) = true := by simp [PyData.eqv]
      rw [ht] at hq
      exact .hit hy hq ih
theorem op_neDk (hu : X.A.units + 64 < cLine) : OpR X (compareOp .NotEq) rNeDk := by
  intro pins s σ H x y v u Q I rx ry h
  obtain ⟨a, b, A, B, rfl, rfl, ha, hb, ⟨hl, hv⟩, q⟩ := h
  cases rx
  cases ry
  obtain ⟨_, ma, va, ra, da⟩ := dk_of I.hok ha
  obtain ⟨_, mb, vb, rb, db⟩ := dk_of I.hok hb
  have la := Paired.length ra
  have lb := Paired.length rb
  refine PySem.W.keq_ne ma mb da db (by omega) (fun _ => keq_hits rb ra hv) ?_
  rw [show (va.length == vb.length && true) = true by simp; omega]
  exact ⟨.bl false, H, I, rfl, q⟩
end
end L2

namespace Kb
open PySem PySem.Spec PyProof.Rows L2 RZ
abbrev sP_is_tree_of : Stmt := topS 16
abbrev NP_is_tree_of : List Str := ["thing", "word", "is_right", "many", "height", "step"]
theorem scP_is_tree_of : FnScope ["thing", "word", "is_right", "many", "height", "step"] ["thing", "word", "is_right"] (defScope sP_is_tree_of) := ⟨rfl, rfl, rfl, by decide +kernel, rfl, by decide +kernel, by decide +kernel⟩
abbrev DnIsTreeOf (K : PySem.W.Frag) (mg : Str → Option Value) := Dn K mg "is_tree_of" sP_is_tree_of ["thing", "word", "is_right"]
abbrev sP_is_put : Stmt := topS 17
abbrev NP_is_put : List Str := ["step", "word"]
theorem scP_is_put : FnScope ["step", "word"] ["step", "word"] (defScope sP_is_put) := ⟨rfl, rfl, rfl, by decide +kernel, rfl, by decide +kernel, by decide +kernel⟩
abbrev DnIsPut (K : PySem.W.Frag) (mg : Str → Option Value) := Dn K mg "_is_put" sP_is_put ["step", "word"]
abbrev sP_is_pour : Stmt := topS 18
abbrev NP_is_pour : List Str := ["step"]
theorem scP_is_pour : FnScope ["step"] ["step"] (defScope sP_is_pour) := ⟨rfl, rfl, rfl, by decide +kernel, rfl, by decide +kernel, by decide +kernel⟩
abbrev DnIsPour (K : PySem.W.Frag) (mg : Str → Option Value) := Dn K mg "_is_pour" sP_is_pour ["step"]
abbrev sP_is_number_tree : Stmt := topS 24
abbrev NP_is_number_tree : List Str := ["thing"]
theorem scP_is_number_tree : FnScope ["thing"] ["thing"] (defScope sP_is_number_tree) := ⟨rfl, rfl, rfl, by decide +kernel, rfl, by decide +kernel, by decide +kernel⟩
abbrev DnIsNumberTree (K : PySem.W.Frag) (mg : Str → Option Value) := Dn K mg "is_number_tree" sP_is_number_tree ["thing"]
abbrev sP_items_of : Stmt := topS 25
abbrev NP_items_of : List Str := ["tree", "step", "item"]
theorem scP_items_of : FnScope ["tree", "step", "item"] ["tree"] (defScope sP_items_of) := ⟨rfl, rfl, rfl, by decide +kernel, rfl, by decide +kernel, by decide +kernel⟩
abbrev DnItemsOf (K : PySem.W.Frag) (mg : Str → Option Value) := Dn K mg "items_of" sP_items_of ["tree"]
abbrev sP_is_at : Stmt := topS 28
abbrev NP_is_at : List Str := ["fraction", "place"]
theorem scP_is_at : FnScope ["fraction", "place"] ["fraction", "place"] (defScope sP_is_at) := ⟨rfl, rfl, rfl, by decide +kernel, rfl, by decide +kernel, by decide +kernel⟩
abbrev DnIsAt (K : PySem.W.Frag) (mg : Str → Option Value) := Dn K mg "is_at" sP_is_at ["fraction", "place"]
abbrev sP_rank_at : Stmt := topS 44
abbrev NP_rank_at : List Str := ["tree", "place", "item"]
theorem scP_rank_at : FnScope ["tree", "place", "item"] ["tree", "place"] (defScope sP_rank_at) := ⟨rfl, rfl, rfl, by decide +kernel, rfl, by decide +kernel, by decide +kernel⟩
abbrev DnRankAt (K : PySem.W.Frag) (mg : Str → Option Value) := Dn K mg "rank_at" sP_rank_at ["tree", "place"]
/-! trees of numbers -/
abbrev Stp := Option (List Int)
def StpAt (H : Hp) (v : V) : Stp → Prop
  | some ks => ∃ a b us, v = .ref a ∧ Ptp H a [.str (Str.ofString "numbers"), .ref b] ∧ Ptp H b us ∧ Paired (FrAt H) us ks
  | none => ∃ a, v = .ref a ∧ Ptp H a [.str (Str.ofString "pour")]
theorem StpAt.same {H H' : Hp} {v : V} {t : Stp} (h : StpAt H v t) (s : Same H H') : StpAt H' v t := by
  cases t with
  | some ks =>
    obtain ⟨a, b, us, e, h1, h2, r⟩ := h
    exact ⟨a, b, us, e, h1.same s, h2.same s, frs_same r s⟩
  | none =>
    obtain ⟨a, e, h1⟩ := h
    exact ⟨a, e, h1.same s⟩
def hS (h : Int) : Stp → Int
  | some _ => h + 1
  | none => h - 1
def cS (m : Int) : Stp → Int
  | some ks => m + (ks.length : Nat)
  | none => m
def hgt (l : List Stp) : Int := l.foldl hS 0
def mny (l : List Stp) : Int := l.foldl cS 0
def itS : Stp → List Int
  | some ks => ks
  | none => []
def itm (l : List Stp) : List Int := l.flatMap itS
structure Tree (l : List Stp) : Prop where
  two : ∀ i, l[i]? = some none → 2 ≤ hgt (l.take i)
  one : hgt l = 1
  few : (itm l).length ≤ 3000
  kb : ∀ k ∈ itm l, k.natAbs ≤ 2 ^ 89
  len : l.length ≤ 3000
theorem hgt_snoc {l : List Stp} {i : Nat} {t : Stp} (h : l[i]? = some t) : hgt (l.take (i + 1)) = hS (hgt (l.take i)) t := by
  unfold hgt
  rw [List.take_add_one, h, List.foldl_append]
  rfl
theorem mny_snoc {l : List Stp} {i : Nat} {t : Stp} (h : l[i]? = some t) : mny (l.take (i + 1)) = cS (mny (l.take i)) t := by
  unfold mny
  rw [List.take_add_one, h, List.foldl_append]
  rfl
theorem mny_itm : ∀ (l : List Stp) (m : Int), l.foldl cS m = m + ((itm l).length : Nat)
  | [], m => by show m = m + 0; omega
  | some ks :: l, m => by
    show l.foldl cS (m + (ks.length : Nat)) = m + (((ks ++ itm l).length : Nat) : Int)
    rw [mny_itm l, List.length_append]
    omega
  | none :: l, m => mny_itm l m
theorem itm_snoc {l : List Stp} {i : Nat} {t : Stp} (h : l[i]? = some t) : itm (l.take (i + 1)) = itm (l.take i) ++ itS t := by
  unfold itm
  rw [List.take_add_one, h, List.flatMap_append]
  show _ ++ List.flatMap itS [t] = _
  rw [List.flatMap_cons, List.flatMap_nil, List.append_nil]
theorem itm_at {l : List Stp} {i : Nat} {ks : List Int} (h : l[i]? = some (some ks)) : ∀ k ∈ ks, k ∈ itm l := fun k hk => List.mem_flatMap.mpr ⟨some ks, List.mem_of_getElem? h, hk⟩
theorem itm_len : ∀ {l : List Stp} {i : Nat} {ks : List Int}, l[i]? = some (some ks) → ks.length ≤ (itm l).length
  | t :: l, 0, ks, h => by
    cases h
    show ks.length ≤ (ks ++ itm l).length
    rw [List.length_append]
    omega
  | t :: l, i + 1, ks, h => by
    have := itm_len (l := l) (i := i) h
    show ks.length ≤ (itS t ++ itm l).length
    rw [List.length_append]
    omega
theorem itm_take {l : List Stp} {i : Nat} : (itm (l.take i)).length ≤ (itm l).length := by
  have e : itm l = itm (l.take i) ++ itm (l.drop i) := by
    unfold itm
    rw [← List.flatMap_append, List.take_append_drop]
  rw [e, List.length_append]
  omega
def TreeAt (H : Hp) (a : Addr) (l : List Stp) : Prop := ∃ vs, Ptp H a vs ∧ Paired (StpAt H) vs l
theorem paired_same {H H' : Hp} (s : Same H H') {vs : List V} {l : List Stp} (h : Paired (StpAt H) vs l) : Paired (StpAt H') vs l := paired_imp (fun _ _ h => h.same s) h
theorem TreeAt.same {H H' : Hp} {a : Addr} {l : List Stp} (h : TreeAt H a l) (s : Same H H') : TreeAt H' a l := by
  obtain ⟨vs, h1, h2⟩ := h
  exact ⟨vs, h1.same s, paired_same s h2⟩
theorem pour_ne : ¬ (V.str (Str.ofString "pour") = V.str (Str.ofString "numbers")) := by decide +kernel
theorem lc2_tupI {K : PySem.W.Frag} {b : Addr} {xs : List V} {g1 : TG} {tt1 : TT} {te : TE} {vs1 : List Nat} {σ2 : L2.St} {H4 : Hp} {D : Addr} {Nx : Hp → Prop} (Pv : Nat → Hp → Prop) (h0 : Pv 0 H4) (hl : ∀ i H, i ≤ xs.length → Pv i H → SqT K H b xs)
    (hs : ∀ (j : Nat) (x : V) H, xs[j]? = some x → Pv j H → g1 x (wipe σ2 vs1) H fun σ3 H5 => wipe σ3 vs1 = wipe σ2 vs1 ∧ tt1 σ3 H5 fun b H6 =>
      if b = true then te σ3 H6 fun y H7 => ∃ acc, H7 D = some (.lst acc) ∧ acc.length < sizeLine ∧ Pv (j + 1) (upd H7 D (.lst (acc ++ [y]))) else Pv (j + 1) H6) (hd : ∀ H, Pv xs.length H → Nx H) :
    ∃ W1 : Nat → Nat → Hp → Prop, (∃ m, W1 0 m H4) ∧ ∀ j k H, W1 j k H →
      ((Itt K b).stop j H ∧ Nx H) ∨ ((Itt K b).go j H ∧ ∃ Nx1 : Hp → Prop, (∀ H', Nx1 H' → ∃ k', k' < k ∧ W1 (j + 1) k' H') ∧ ∀ x H', (Itt K b).yld j H x H' → g1 x (wipe σ2 vs1) H' fun σ3 H5 => wipe σ3 vs1 = wipe σ2 vs1 ∧ tt1 σ3 H5 fun b H6 =>
        if b = true then te σ3 H6 fun y H7 => ∃ acc, H7 D = some (.lst acc) ∧ acc.length < sizeLine ∧ Nx1 (upd H7 D (.lst (acc ++ [y]))) else Nx1 H6) := by
  refine ⟨fun i m H => m = xs.length - i ∧ i ≤ xs.length ∧ Pv i H, ⟨xs.length, by simp, Nat.zero_le _, h0⟩, ?_⟩
  rintro i m H ⟨rfl, hi, p⟩
  have q := hl i H hi p
  by_cases hlt : i < xs.length
  · refine .inr ⟨⟨xs, xs[i], q, by simp [hlt]⟩, Pv (i + 1), fun H' p' => ⟨xs.length - (i + 1), by omega, rfl, hlt, p'⟩, fun x H' y => ?_⟩
    obtain ⟨e, y⟩ := y
    subst e
    exact hs i x _ (y xs q) p
  · have e : i = xs.length := by omega
    subst e
    exact .inl ⟨⟨xs, q, Nat.le_refl _⟩, hd H p⟩
section
variable {P : Program} {w : World} {K : PySem.W.Frag} {mg : Str → Option Value} {base : Heap}
/-! _is_put, _is_pour -/
def spIsPut (K : PySem.W.Frag) : Sp := fun vs H Q _ => ∃ (v : V) (t : Stp), vs = [v, .str (Str.ofString "numbers")] ∧ StpAt H v t ∧ Q (.bl t.isSome) H
theorem ok_is_put (T : Blt mg) (d : DnIsPut K mg) : FnOk P w K mg base CX0 1 d.f d.fd ["step", "word"] (spIsPut K) := by
  refine d.F.ok scP_is_put (fun vs H Q E h => ?_) (fun cdv A outer s H vs Q E hr h => ?_)
  · obtain ⟨v, t, rfl, _⟩ := h
    rfl
  · obtain ⟨v, t, rfl, ht, q⟩ := h
    refine ⟨_, (pss_one (ps_ret (pe_and (pe_callB call_isi (by rfl) T.n_isinstance (by decide +kernel) (pa_cons (pv 0) (pa_cons (pe_bltn (v := .ty "tuple") (by rfl) T.n_tuple (by decide +kernel) rfl) pa_nil))) (pe_and (pe_cmpR op_eq (pe_callB call_len_seq (by rfl) T.n_len (by decide +kernel) (pa_cons (pv 0) pa_nil)) pe_int (nomark _)) (pe_one (pe_cmpR op_eq (pe_ix ix_tup (pv 0) pe_int (fun _ _ => rfl)) (pv 1) (nomark _))))))), ?_⟩
    cases t with
    | some ks =>
      obtain ⟨a, b, us, rfl, h1, h2, h3⟩ := ht
      refine ⟨.ref a, rfl, .ref a, _, _, _, true, rfl, .ty "tuple", tyT h1.seq, kit_ty (by decide +kernel), true, rfl, iteT ?_⟩
      refine ⟨.ref a, rfl, a, _, rfl, .inr h1.seq, rfl, true, congrArg V.bl (decide_eq_true rfl), iteT ?_⟩
      refine ⟨.ref a, rfl, a, _, _, _, rfl, rfl, h1.seq, atI_nat (j := 0) rfl, .str (Str.ofString "numbers"), rfl, rfl, ?_⟩
      rw [decide_eq_true rfl]
      exact q
    | none =>
      obtain ⟨a, rfl, h1⟩ := ht
      refine ⟨.ref a, rfl, .ref a, _, _, _, true, rfl, .ty "tuple", tyT h1.seq, kit_ty (by decide +kernel), true, rfl, iteT ?_⟩
      exact ⟨.ref a, rfl, a, _, rfl, .inr h1.seq, rfl, false, congrArg V.bl (decide_eq_false (by decide)), iteF q⟩
def spIsPour (K : PySem.W.Frag) : Sp := fun vs H Q _ => ∃ v : V, vs = [v] ∧ StpAt H v none ∧ Q (.bl true) H
theorem ok_is_pour (T : Blt mg) (d : DnIsPour K mg) : FnOk P w K mg base CX0 1 d.f d.fd ["step"] (spIsPour K) := by
  refine d.F.ok scP_is_pour (fun vs H Q E h => ?_) (fun cdv A outer s H vs Q E hr h => ?_)
  · obtain ⟨v, rfl, _⟩ := h
    rfl
  · obtain ⟨v, rfl, ⟨a, rfl, h1⟩, q⟩ := h
    refine ⟨_, (pss_one (ps_ret (pe_and (pe_callB call_isi (by rfl) T.n_isinstance (by decide +kernel) (pa_cons (pv 0) (pa_cons (pe_bltn (v := .ty "tuple") (by rfl) T.n_tuple (by decide +kernel) rfl) pa_nil))) (pe_and (pe_cmpR op_eq (pe_callB call_len_seq (by rfl) T.n_len (by decide +kernel) (pa_cons (pv 0) pa_nil)) pe_int (nomark _)) (pe_one (pe_cmpR op_eq (pe_ix ix_tup (pv 0) pe_int (fun _ _ => rfl)) pe_str (nomark _))))))), ?_⟩
    refine ⟨.ref a, rfl, .ref a, _, _, _, true, rfl, .ty "tuple", tyT h1.seq, kit_ty (by decide +kernel), true, rfl, iteT ?_⟩
    refine ⟨.ref a, rfl, a, _, rfl, .inr h1.seq, rfl, true, congrArg V.bl (decide_eq_true rfl), iteT ?_⟩
    refine ⟨.ref a, rfl, a, _, _, _, rfl, rfl, h1.seq, atI_nat (j := 0) rfl, rfl, ?_⟩
    rw [decide_eq_true rfl]
    exact q
/-! is_tree_of, is_number_tree -/
def spIsTreeOf (K : PySem.W.Frag) (g : Addr) : Sp := fun vs H Q _ => ∃ (a : Addr) (l : List Stp), vs = [.ref a, .str (Str.ofString "numbers"), .ref g] ∧ TreeAt H a l ∧ Tree l ∧ ∀ H', Same H H' → Q (.bl true) H'
theorem ok_is_tree_of (T : Blt mg) (gG : mg "gcd" = some (.builtin "math.gcd")) (cS' : Cst mg "MOST_STEPS" (.int 5000)) (cI : Cst mg "MOST_ITEMS" (.int 50000)) (dP_is_int : DnIsInt K mg) (dP_is_fraction : DnIsFraction K mg) (dP_are_numbers : DnAreNumbers K mg) (dP_is_put : DnIsPut K mg) (dP_is_pour : DnIsPour K mg) (d : DnIsTreeOf K mg) :
    FnOk P w K mg base CX0 4 d.f d.fd ["thing", "word", "is_right"] (spIsTreeOf K dP_are_numbers.f) := by
  have GP_are_numbers : FnOk P w K mg base CX0 3 dP_are_numbers.f dP_are_numbers.fd ["thing"] spAreNumbers := ok_are_numbers T gG dP_is_int dP_is_fraction dP_are_numbers
  have GP_is_put : FnOk P w K mg base CX0 1 dP_is_put.f dP_is_put.fd ["step", "word"] (spIsPut K) := ok_is_put T dP_is_put
  have GP_is_pour : FnOk P w K mg base CX0 1 dP_is_pour.f dP_is_pour.fd ["step"] (spIsPour K) := ok_is_pour T dP_is_pour
  refine d.F.ok scP_is_tree_of (fun vs H Q E h => ?_) (fun cdv A outer s H vs Q E hr h => ?_)
  · obtain ⟨a, l, rfl, _⟩ := h
    rfl
  · obtain ⟨a, l, rfl, ⟨vs, hS, hp⟩, tr, q⟩ := h
    refine ⟨_, (pss_cons (ps_if (PW.pt (pw_or (pt_not (pt_val (pe_callB call_isi (by rfl) T.n_isinstance (by decide +kernel) (pa_cons (pv 0) (pa_cons (pe_bltn (v := .ty "tuple") (by rfl) T.n_tuple (by decide +kernel) rfl) pa_nil))))) (pw_or1 (pt_cmpR op_gt (pe_callB call_len_seq (by rfl) T.n_len (by decide +kernel) (pa_cons (pv 0) pa_nil)) (pe_glob rfl cS'.g cS'.r) (nomark _)))))
      (pss_one (ps_ret pe_bl))
      pss_nil)
    (pss_cons (ps_set (i := 3) scP_is_tree_of.nd rfl (Or.inl rfl) pe_int)
    (pss_cons (ps_set (i := 4) scP_is_tree_of.nd rfl (Or.inl rfl) pe_int)
    (pss_cons (ps_for PassesOwn.never rfl (pi_tup (pv 0)) (pg_name (i := 5) scP_is_tree_of.nd rfl (Or.inl rfl))
      (pss_one (ps_if (PW.pt (pw_and (pt_val (pe_call GP_is_put (hr.mono (by omega)) (by rfl) dP_is_put.g dP_is_put.F.kp dP_is_put.b .nil pass0 (pa_cons (pv 5) (pa_cons (pv 1) pa_nil)))) (pw_and1 (pt_val (pe_callL (i := 2) GP_are_numbers (hr.mono (by omega)) rfl (.inl rfl) dP_are_numbers.F.kp dP_are_numbers.b .nil pass0 (pa_cons (pe_ix ix_tup (pv 5) pe_int (fun _ _ => rfl)) pa_nil))))))
        (pss_cons (ps_aug (i := 4) scP_is_tree_of.nd rfl (Or.inl rfl) pe_int ip_add)
        (pss_one (ps_aug (i := 3) scP_is_tree_of.nd rfl (Or.inl rfl) (pe_callB call_len_seq (by rfl) T.n_len (by decide +kernel) (pa_cons (pe_ix ix_tup (pv 5) pe_int (fun _ _ => rfl)) pa_nil)) ip_add)))
        (pss_one (ps_if (PW.pt (pw_and (pt_val (pe_call GP_is_pour (hr.mono (by omega)) (by rfl) dP_is_pour.g dP_is_pour.F.kp dP_is_pour.b .nil pass0 (pa_cons (pv 5) pa_nil))) (pw_and1 (pt_cmpR op_ge (pv 4) pe_int (nomark _)))))
          (pss_one (ps_aug (i := 4) scP_is_tree_of.nd rfl (Or.inl rfl) pe_int ip_sub))
          (pss_one (ps_ret pe_bl)))))))
    (pss_one (ps_ret (pe_and (pe_cmpR op_eq (pv 4) pe_int (nomark _)) (pe_one (pe_cmpR op_le (pv 3) (pe_glob rfl cI.g cI.r) (nomark _))))))))))
, ?_⟩
    have hl : vs.length = l.length := Paired.length hp
    refine ⟨.ref a, rfl, .ref a, _, _, _, true, rfl, .ty "tuple", tyT hS.seq, kit_ty (by decide +kernel), true, rfl, iteF ?_⟩
    refine ⟨.ref a, rfl, a, _, rfl, .inr hS.seq, _, _, rfl, rfl, false, congrArg V.bl (decide_eq_false (by have := tr.len; omega)), iteF ?_⟩
    refine ⟨.ref a, rfl, a, rfl, ⟨_, hS.seq⟩, for_tup (xs := vs) (fun i σ H3 => ∃ x, σ = [some (.ref a), some (.str (Str.ofString "numbers")), some (.ref dP_are_numbers.f), some (.int (mny (l.take i))), some (.int (hgt (l.take i))), x] ∧ Same H H3) ⟨none, rfl, Same.refl H⟩ (fun i σ H3 _ ⟨_, _, s3⟩ => (hS.same s3).seq) ?_ ?_⟩
    · rintro i v σ H3 hi ⟨x, rfl, s3⟩
      obtain ⟨t, ht, hat⟩ := paired_at hp hi
      have hat3 := hat.same s3
      refine ⟨v, rfl, _, rfl, v, t, rfl, hat3, t.isSome, rfl, ?_⟩
      have hh := hgt_snoc ht
      have hm := mny_snoc ht
      cases t with
      | some ks =>
        refine iteT ?_
        obtain ⟨b, c, us, rfl, h1, h2, h3⟩ := hat3
        have kl : us.length = ks.length := Paired.length h3
        have := itm_len ht
        have := tr.few
        refine ⟨rfl, .ref b, rfl, b, _, _, _, rfl, rfl, h1.seq, atI_nat (j := 1) rfl, c, us, ks, rfl, h2, h3, by omega, fun k hk => tr.kb k (itm_at ht k hk), fun H4 s4 => ⟨true, rfl, iteT ?_⟩⟩
        refine ⟨.int (hgt (l.take i)), rfl, _, _, rfl, rfl, ?_⟩
        refine ⟨.int (mny (l.take i)), rfl, .ref b, rfl, b, _, _, _, rfl, rfl, (h1.same s4).seq, atI_nat (j := 1) rfl, c, _, rfl, .inr (h2.same s4).seq, _, _, rfl, rfl, ?_⟩
        refine ⟨some (.ref b), ?_, s3.trans s4⟩
        rw [hh, hm, kl]
        rfl
      | none =>
        refine iteF ?_
        have h2 := tr.two i ht
        refine ⟨v, rfl, v, rfl, hat3, true, rfl, iteT ⟨.int (hgt (l.take i)), rfl, _, _, rfl, rfl, true, congrArg V.bl (decide_eq_true (by omega)), iteT ?_⟩⟩
        refine ⟨.int (hgt (l.take i)), rfl, _, _, rfl, rfl, some v, ?_, s3⟩
        rw [hh, hm]
        rfl
    · rintro σ H3 ⟨x, rfl, s3⟩
      have e1 : l.take vs.length = l := by rw [hl, List.take_length]
      rw [e1]
      refine ⟨.int (hgt l), rfl, rfl, true, congrArg V.bl (decide_eq_true (by rw [tr.one])), iteT ⟨.int (mny l), rfl, _, _, rfl, rfl, ?_⟩⟩
      show Q (.bl (decide (mny l ≤ 50000))) H3
      have em : mny l = 0 + ((itm l).length : Nat) := mny_itm l 0
      rw [decide_eq_true (by have := tr.few; omega)]
      exact q H3 s3
def spIsNumberTree : Sp := fun vs H Q _ => ∃ (a : Addr) (l : List Stp), vs = [.ref a] ∧ TreeAt H a l ∧ Tree l ∧ ∀ H', Same H H' → Q (.bl true) H'
theorem ok_is_number_tree (T : Blt mg) (gG : mg "gcd" = some (.builtin "math.gcd")) (cS' : Cst mg "MOST_STEPS" (.int 5000)) (cI : Cst mg "MOST_ITEMS" (.int 50000)) (dP_is_int : DnIsInt K mg) (dP_is_fraction : DnIsFraction K mg) (dP_are_numbers : DnAreNumbers K mg) (dP_is_put : DnIsPut K mg) (dP_is_pour : DnIsPour K mg) (dP_is_tree_of : DnIsTreeOf K mg) (d : DnIsNumberTree K mg) :
    FnOk P w K mg base CX0 5 d.f d.fd ["thing"] spIsNumberTree := by
  have GP_is_tree_of : FnOk P w K mg base CX0 4 dP_is_tree_of.f dP_is_tree_of.fd ["thing", "word", "is_right"] (spIsTreeOf K dP_are_numbers.f) := ok_is_tree_of T gG cS' cI dP_is_int dP_is_fraction dP_are_numbers dP_is_put dP_is_pour dP_is_tree_of
  refine d.F.ok scP_is_number_tree (fun vs H Q E h => ?_) (fun cdv A outer s H vs Q E hr h => ?_)
  · obtain ⟨a, l, rfl, _⟩ := h
    rfl
  · obtain ⟨a, l, rfl, hT, tr, q⟩ := h
    refine ⟨_, (pss_one (ps_ret (pe_call GP_is_tree_of (hr.mono (by omega)) (by rfl) dP_is_tree_of.g dP_is_tree_of.F.kp dP_is_tree_of.b .nil pass0 (pa_cons (pv 0) (pa_cons pe_str (pa_cons (pe_glob (v := .ref dP_are_numbers.f) rfl dP_are_numbers.g rfl) pa_nil))))))
, ?_⟩
    exact ⟨.ref a, rfl, a, l, rfl, hT, tr, q⟩
/-! items_of -/
def spItemsOf (K : PySem.W.Frag) : Sp := fun vs H Q _ => ∃ (a : Addr) (l : List Stp), vs = [.ref a] ∧ TreeAt H a l ∧ Tree l ∧ ∀ H' p us, Same H H' → H' p = some (.lst us) → Paired (FrAt H') us (itm l) → Q (.ref p) H'
theorem ok_items_of (d : DnItemsOf K mg) : FnOk P w K mg base CX0 1 d.f d.fd ["tree"] (spItemsOf K) := by
  refine d.F.ok scP_items_of (fun vs H Q E h => ?_) (fun cdv A outer s H vs Q E hr h => ?_)
  · obtain ⟨a, l, rfl, _⟩ := h
    rfl
  · obtain ⟨a, l, rfl, ⟨vs, hS, hp⟩, tr, q⟩ := h
    refine ⟨_, (pss_one (ps_ret (pe_lc2 (own := [("step", 1), ("item", 2)]) (vs1 := [2]) (g := gName 1) (g1 := gName 2) (tt1 := tYes) rfl scP_items_of.nd (pi_tup (pv 0)) (blkOk_by (N := NP_items_of) (sc := defScope sP_items_of) (by decide +kernel)) (by decide) (fun _ _ _ _ _ => pg_name (i := 1) scP_items_of.nd rfl (Or.inl rfl)) (fun _ _ _ _ _ => pts_one (pt_cmpR op_eq (pe_ix (r := rIxT K) ix_tup (pv 1) pe_int (fun _ _ => rfl)) pe_str (nomark _))) (fun _ _ _ _ _ => (pi_tupK (K := K) rfl (pe_ix (r := rIxT K) ix_tup (pv 1) pe_int (fun _ _ => rfl)))) (fun _ _ _ _ _ => pg_name (i := 2) scP_items_of.nd rfl (Or.inl rfl)) (fun _ _ _ _ _ => pts_nil) (fun _ _ _ _ _ => (pv 2)))))
, ?_⟩
    have hl : vs.length = l.length := Paired.length hp
    refine ⟨.ref a, rfl, a, rfl, ⟨_, hS.seq⟩, fun D nD => ?_⟩
    refine lc2_tup (K := K) (a := a) (xs := vs) (fun i H3 => Same H H3 ∧ ∃ us, H3 D = some (.lst us) ∧ Paired (FrAt H3) us (itm (l.take i))) ⟨same_upd nD, [], upd_same, .nil⟩ (fun i H3 _ h3 => (hS.same h3.1).seq) (fun i u H3 hi h3 => ?_) (fun H3 h3 => ?_)
    · obtain ⟨t, ht, hat⟩ := paired_at hp hi
      obtain ⟨s3, us, hD3, pu⟩ := h3
      have hat3 := hat.same s3
      cases t with
      | some ks =>
        obtain ⟨b, c, ws, rfl, hb, hc, pc⟩ := hat
        have wl : ws.length = ks.length := Paired.length pc
        have h1 := hb.same s3
        have h2 := hc.same s3
        refine ⟨rfl, .ref b, rfl, b, _, _, _, rfl, rfl, h1.seq, atI_nat (j := 0) rfl, rfl, true, congrArg V.bl (decide_eq_true rfl), iteT ?_⟩
        refine ⟨.ref b, rfl, b, _, _, _, rfl, rfl, h1.seq, atI_nat (j := 1) rfl, c, rfl, ⟨_, h2.seq⟩, ?_⟩
        refine lc2_tupI (K := K) (b := c) (xs := ws) (fun j H4 => Same H H4 ∧ ∃ xs, H4 D = some (.lst xs) ∧ Paired (FrAt H4) xs (itm (l.take i) ++ ks.take j)) ⟨s3, us, hD3, by rw [List.take_zero, List.append_nil]; exact pu⟩ (fun j H4 _ h4 => (hc.same h4.1).seq) (fun j x H4 hj h4 => ?_) (fun H4 h4 => ?_)
        · obtain ⟨s4, xs, hD4, px⟩ := h4
          obtain ⟨k, hk, fx⟩ := paired_at pc hj
          have il := itm_take (l := l) (i := i + 1)
          rw [itm_snoc ht, List.length_append] at il
          have xl : xs.length = (itm (l.take i) ++ ks.take j).length := Paired.length px
          rw [List.length_append, List.length_take] at xl
          have := tr.few
          change (itm (l.take i)).length + ks.length ≤ _ at il
          refine ⟨rfl, x, rfl, xs, hD4, by rw [sizeLine_eq]; omega, Same.put s4 nD, xs ++ [x], upd_same, ?_⟩
          rw [List.take_add_one, hk, ← List.append_assoc]
          have kp := kpD_list (ys := xs ++ [x]) hD4
          exact paired_app (paired_imp (fun _ _ h => h.keep kp.t) px) (.cons ((fx.same s4).keep kp.t) .nil)
        · obtain ⟨s4, xs, hD4, px⟩ := h4
          rw [wl, List.take_length] at px
          refine ⟨s4, xs, hD4, ?_⟩
          rw [itm_snoc ht]
          exact px
      | none =>
        obtain ⟨b, rfl, h1⟩ := hat3
        refine ⟨rfl, .ref b, rfl, b, _, _, _, rfl, rfl, h1.seq, atI_nat (j := 0) rfl, rfl, false, congrArg V.bl (decide_eq_false pour_ne), iteF ?_⟩
        refine ⟨s3, us, hD3, ?_⟩
        rw [itm_snoc ht]
        show Paired _ us (itm (l.take i) ++ [])
        rw [List.append_nil]
        exact pu
    · obtain ⟨s3, us, hD3, pu⟩ := h3
      rw [hl, List.take_length] at pu
      exact q H3 D us s3 hD3 pu
end
end Kb

namespace Kb
open PySem PySem.Spec PyProof.Rows L2 RZ
abbrev atB (k v sd : Int) : Bool := decide (k < v) || (decide (sd = 1) && decide (k = v))
theorem atB_cnt (ks : List Int) (v sd : Int) : ((ks.filter fun k => atB k v sd).length : Nat) = cntAt ks v sd := by
  unfold cntAt
  by_cases c : sd = 1
  · rw [if_pos c]
    unfold upt
    have e : (fun k => atB k v sd) = fun k => decide (k ≤ v) := by
      funext k
      unfold atB
      rw [decide_eq_true c, Bool.true_and, Bool.eq_iff_iff, Bool.or_eq_true, decide_eq_true_eq, decide_eq_true_eq, decide_eq_true_eq]
      omega
    rw [e]
  · rw [if_neg c]
    unfold bel
    have e : (fun k => atB k v sd) = fun k => decide (k < v) := by
      funext k
      unfold atB
      rw [decide_eq_false c, Bool.false_and, Bool.or_false]
    rw [e]
section
variable {P : Program} {w : World} {K : PySem.W.Frag} {mg : Str → Option Value} {base : Heap}
theorem eq_frk {k v : Int} : decide (frT k scl = frT v scl ∧ frN k scl = frN v scl) = decide (k = v) := by
  rw [Bool.eq_iff_iff, decide_eq_true_eq, decide_eq_true_eq]
  exact ⟨fun z => key_of_fr z.1 z.2, fun e => by rw [e]; exact ⟨rfl, rfl⟩⟩
def spIsAt : Sp := fun vs H Q _ => ∃ (x : V) (pl f : Addr) (k v sd : Int), vs = [x, .ref pl] ∧ FrAt H x k ∧ Ptp H pl [.ref f, .int sd] ∧ Ptp H f [.int (frT v scl), .int (frN v scl)] ∧ k.natAbs ≤ 2 ^ 89 ∧ v.natAbs ≤ 2 ^ 90 ∧ Q (.bl (atB k v sd)) H
theorem fr_sz90 {k : Int} (h : k.natAbs ≤ 2 ^ 90) : (frT k scl).natAbs ≤ 2 ^ 100 ∧ (frN k scl).natAbs ≤ 2 ^ 100 := by
  obtain ⟨a, b⟩ := fr_le (n := k) (S := scl) (by decide)
  have e : scl.natAbs = 2688840 := rfl
  have p : (2 : Nat) ^ 100 = 1267650600228229401496703205376 := by decide
  exact ⟨Nat.le_trans a (Nat.le_trans h (by decide)), by omega⟩
theorem ok_is_at (dP_is_less : DnIsLess K mg) (d : DnIsAt K mg) : FnOk P w K mg base CX0 2 d.f d.fd ["fraction", "place"] spIsAt := by
  have GP_is_less : FnOk P w K mg base CX0 1 dP_is_less.f dP_is_less.fd ["one", "other"] (spIsLess K) := ok_is_less dP_is_less
  refine d.F.ok scP_is_at (fun vs H Q E h => ?_) (fun cdv A outer s H vs Q E hr h => ?_)
  · obtain ⟨x, pl, f, k, v, sd, rfl, _⟩ := h
    rfl
  · obtain ⟨x, pl, f, k, v, sd, rfl, ⟨a, rfl, ha⟩, hpl, hf, kb, vb, q⟩ := h
    refine ⟨_, (pss_one (ps_ret (pe_or (pe_call GP_is_less (hr.mono (by omega)) (by rfl) dP_is_less.g dP_is_less.F.kp dP_is_less.b .nil pass0 (pa_cons (pv 0) (pa_cons (pe_ix ix_tup (pv 1) pe_int (fun _ _ => rfl)) pa_nil))) (pe_one (pe_and (pe_cmpR op_eq (pe_ix ix_tup (pv 1) pe_int (fun _ _ => rfl)) pe_int (nomark _)) (pe_one (pe_cmpR (op_eqD hr.units) (pv 0) (pe_ix ix_tup (pv 1) pe_int (fun _ _ => rfl)) (nomark _))))))))
, ?_⟩
    refine ⟨.ref a, rfl, .ref pl, rfl, pl, _, _, _, rfl, rfl, hpl.seq, atI_nat (j := 0) rfl, a, f, _, _, _, _, rfl, ha, hf, fr_sz kb, fr_sz90 vb, _, rfl, ?_⟩
    rw [ls_key]
    by_cases c : k < v
    · have e : atB k v sd = true := by unfold atB; rw [decide_eq_true c, Bool.true_or]
      rw [decide_eq_true c]
      rw [e] at q
      exact iteT q
    · rw [decide_eq_false c]
      have e : atB k v sd = (decide (sd = 1) && decide (k = v)) := by unfold atB; rw [decide_eq_false c, Bool.false_or]
      rw [e] at q
      refine iteF ⟨.ref pl, rfl, pl, _, _, _, rfl, rfl, hpl.seq, atI_nat (j := 1) rfl, rfl, decide (sd = 1), by rw [dec_int]; rfl, ?_⟩
      by_cases c2 : sd = 1
      · rw [decide_eq_true c2, Bool.true_and] at q
        rw [decide_eq_true c2]
        refine iteT ⟨.ref a, rfl, .ref pl, rfl, pl, _, _, _, rfl, rfl, hpl.seq, atI_nat (j := 0) rfl, .tuple [.int (frT k scl), .int (frN k scl)], .tuple [.int (frT v scl), .int (frN v scl)], .tup ha.seq (.cons (.int _) (.cons (.int _) .nil)), .tup hf.seq (.cons (.int _) (.cons (.int _) .nil)), rfl, rfl, ?_⟩
        rw [eq_fr, eq_frk]
        exact q
      · rw [decide_eq_false c2, Bool.false_and] at q
        rw [decide_eq_false c2]
        exact iteF q
/-! rank_at -/
def spRankAt : Sp := fun vs H Q _ => ∃ (a pl f : Addr) (l : List Stp) (v sd : Int), vs = [.ref a, .ref pl] ∧ TreeAt H a l ∧ Tree l ∧ Ptp H pl [.ref f, .int sd] ∧ Ptp H f [.int (frT v scl), .int (frN v scl)] ∧ v.natAbs ≤ 2 ^ 90 ∧ 0 ≤ sd ∧ sd ≤ 1 ∧ ∀ H', Same H H' → Q (.int (cntAt (itm l) v sd)) H'
theorem ok_rank_at (T : Blt mg) (gG : mg "gcd" = some (.builtin "math.gcd")) (cS' : Cst mg "MOST_STEPS" (.int 5000)) (cI : Cst mg "MOST_ITEMS" (.int 50000)) (dP_is_int : DnIsInt K mg) (dP_is_fraction : DnIsFraction K mg) (dP_is_less : DnIsLess K mg) (dP_is_side : DnIsSide K mg) (dP_is_place : DnIsPlace K mg) (dP_are_numbers : DnAreNumbers K mg) (dP_is_put : DnIsPut K mg) (dP_is_pour : DnIsPour K mg) (dP_is_tree_of : DnIsTreeOf K mg) (dP_is_number_tree : DnIsNumberTree K mg) (dP_items_of : DnItemsOf K mg) (dP_is_at : DnIsAt K mg) (d : DnRankAt K mg) :
    FnOk P w K mg base CX0 6 d.f d.fd ["tree", "place"] spRankAt := by
  have GP_is_number_tree : FnOk P w K mg base CX0 5 dP_is_number_tree.f dP_is_number_tree.fd ["thing"] spIsNumberTree := ok_is_number_tree T gG cS' cI dP_is_int dP_is_fraction dP_are_numbers dP_is_put dP_is_pour dP_is_tree_of dP_is_number_tree
  have GP_is_place : FnOk P w K mg base CX0 3 dP_is_place.f dP_is_place.fd ["thing"] (spIsPlace K) := ok_is_place T gG dP_is_int dP_is_fraction dP_is_side dP_is_place
  have GP_items_of : FnOk P w K mg base CX0 1 dP_items_of.f dP_items_of.fd ["tree"] (spItemsOf K) := ok_items_of dP_items_of
  have GP_is_at : FnOk P w K mg base CX0 2 dP_is_at.f dP_is_at.fd ["fraction", "place"] spIsAt := ok_is_at dP_is_less dP_is_at
  refine d.F.ok scP_rank_at (fun vs H Q E h => ?_) (fun cdv A outer s H vs Q E hr h => ?_)
  · obtain ⟨a, pl, f, l, v, sd, rfl, _⟩ := h
    rfl
  · obtain ⟨a, pl, f, l, v, sd, rfl, hT, tr, hpl, hf, vb, s0, s1, q⟩ := h
    refine ⟨_, (pss_cons (ps_if (pt_not (pt_val (pe_call GP_is_number_tree (hr.mono (by omega)) (by rfl) dP_is_number_tree.g dP_is_number_tree.F.kp dP_is_number_tree.b .nil pass0 (pa_cons (pv 0) pa_nil))))
      (pss_one ps_never)
      pss_nil)
    (pss_cons (ps_if (pt_not (pt_val (pe_call GP_is_place (hr.mono (by omega)) (by rfl) dP_is_place.g dP_is_place.F.kp dP_is_place.b .nil pass0 (pa_cons (pv 1) pa_nil))))
      (pss_one ps_never)
      pss_nil)
    (pss_one (ps_ret (pe_callB call_len_seq (by rfl) T.n_len (by decide +kernel) (pa_cons (pe_lc (own := [("item", 2)]) (g := gName 2) rfl scP_rank_at.nd (pi_list (pe_call GP_items_of (hr.mono (by omega)) (by rfl) dP_items_of.g dP_items_of.F.kp dP_items_of.b .nil pass0 (pa_cons (pv 0) pa_nil))) (blkOk_by (N := NP_rank_at) (sc := defScope sP_rank_at) (by decide +kernel)) (fun _ _ _ _ _ => pg_name (i := 2) scP_rank_at.nd rfl (Or.inl rfl)) (fun _ _ _ _ _ => pts_one (pt_val (pe_call GP_is_at (hr.mono (by omega)) (by rfl) dP_is_at.g dP_is_at.F.kp dP_is_at.b .nil pass0 (pa_cons (pv 2) (pa_cons (pv 1) pa_nil))))) (fun _ _ _ _ _ => (pv 2))) pa_nil))))))
, ?_⟩
    refine ⟨.ref a, rfl, a, l, rfl, hT, tr, fun H1 s01 => ⟨true, rfl, iteF ?_⟩⟩
    have hpl1 := hpl.same s01
    have hf1 := hf.same s01
    refine ⟨.ref pl, rfl, pl, f, _, _, sd, rfl, hpl1, hf1, fr_sz90 vb, fr_ok (by decide), s0, s1, true, rfl, iteF ?_⟩
    refine ⟨.ref a, rfl, a, l, rfl, hT.same s01, tr, fun H2 p us s2 hp pu => ?_⟩
    have ul : us.length = (itm l).length := Paired.length pu
    have := tr.few
    refine ⟨p, rfl, ⟨us, sql hp⟩, fun L nL => ?_⟩
    refine lc_list (xs := us) (fun i H3 => Same H2 H3 ∧ ∃ ws, H3 L = some (.lst ws) ∧ ws.length = ((itm l).take i |>.filter fun k => atB k v sd).length) ⟨same_upd nL, [], upd_same, rfl⟩ (fun i H3 _ h3 => sql (h3.1 _ _ hp)) (fun i x H3 hx h3 => ?_) (fun H3 h3 => ?_)
    · obtain ⟨s3, ws, hL3, wl⟩ := h3
      obtain ⟨k, hk, fx⟩ := paired_at pu hx
      have kb := tr.kb k (List.mem_of_getElem? hk)
      have il : (itm l).length ≤ 3000 := tr.few
      have fl := List.length_filter_le (fun k => atB k v sd) ((itm l).take i)
      rw [List.length_take] at fl
      have sT := (s01.trans s2).trans s3
      refine ⟨rfl, x, rfl, .ref pl, rfl, x, pl, f, k, v, sd, rfl, fx.same s3, hpl.same sT, hf.same sT, kb, vb, atB k v sd, rfl, ?_⟩
      have e : (itm l).take (i + 1) = (itm l).take i ++ [k] := by rw [List.take_add_one, hk]; rfl
      cases c : atB k v sd with
      | true =>
        refine iteT ⟨x, rfl, ws, hL3, by rw [sizeLine_eq]; omega, Same.put s3 nL, ws ++ [x], upd_same, ?_⟩
        rw [e, List.filter_append, List.length_append, List.length_append, wl, List.filter_cons_of_pos (by exact c)]
        rfl
      | false =>
        refine iteF ⟨s3, ws, hL3, ?_⟩
        rw [e, List.filter_append, List.length_append, wl, List.filter_cons_of_neg (by rw [c]; exact Bool.noConfusion)]
        rfl
    · obtain ⟨s3, ws, hL3, wl⟩ := h3
      rw [ul, List.take_length] at wl
      refine ⟨L, ws, rfl, .inl (sql hL3), ?_⟩
      rw [wl, atB_cnt]
      exact q H3 ((s01.trans s2).trans s3)
end
end Kb

namespace Kb
open PySem PySem.Spec PyProof.Rows L2 RZ
abbrev sP_bounds_at : Stmt := topS 38
abbrev NP_bounds_at : List Str := ["ranks", "values", "_", "many", "marks", "told", "at", "low", "value", "high"]
theorem scP_bounds_at : FnScope ["ranks", "values", "_", "many", "marks", "told", "at", "low", "value", "high"] ["ranks", "values"] (defScope sP_bounds_at) := ⟨rfl, rfl, rfl, by decide +kernel, rfl, by decide +kernel, by decide +kernel⟩
abbrev DnBoundsAt (K : PySem.W.Frag) (mg : Str → Option Value) := Dn K mg "_bounds_at" sP_bounds_at ["ranks", "values"]
/-- both ends at a key, as they are told -/
def BdAt (H : Hp) (v : V) (f : Fd) : Prop := ∃ u, v = .ref u ∧ Ptp H u [.int f.w, .int f.x, .int f.y, .int f.z]
theorem BdAt.keep {H H' : Hp} {v : V} {f : Fd} (h : BdAt H v f) (k : KpD H H') : BdAt H' v f := let ⟨u, e, p⟩ := h; ⟨u, e, k.t _ _ p⟩
theorem BdAt.same {H H' : Hp} {v : V} {f : Fd} (h : BdAt H v f) (s : Same H H') : BdAt H' v f := h.keep (kpD_same s)
section
variable {P : Program} {w : World} {K : PySem.W.Frag} {mg : Str → Option Value} {base : Heap}
def spBoundsAt (K : PySem.W.Frag) : Sp := fun vs H Q _ => ∃ (R : V) (L : Addr) (us : List V) (ys : List Int) (r n : Int) (fs : List Fd), vs = [R, .ref L] ∧ DtAt K H R (rk2 r n (fs.map Fd.m)) ∧ FsOk n fs ∧ H L = some (.lst us) ∧ Paired (FrAt H) us ys ∧ ys.Pairwise (· < ·) ∧ us.length ≤ 90000 ∧ (∀ f ∈ fs, f.k ∈ ys) ∧
  ∀ H' p ws, Same H H' → H p = none → H' p = some (.lst ws) → Paired (BdAt H') ws (ys.map fun k => enF n k 0 fs) → Q (.ref p) H'
theorem ok_bounds_at (T : Blt mg) (d : DnBoundsAt K mg) : FnOk P w K mg base CX0 1 d.f d.fd ["ranks", "values"] (spBoundsAt K) := by
  refine d.F.ok scP_bounds_at (fun vs H Q E h => ?_) (fun cdv A outer s H vs Q E hr h => ?_)
  · obtain ⟨R, L, us, ys, r, n, fs, rfl, _⟩ := h
    rfl
  · obtain ⟨R, L, us, ys, r, n, fs, rfl, hR, ok, hL, pu, up, ul, kin, q⟩ := h
    refine ⟨_, (pss_cons (ps_asg (pv 0) (pg_tup (by rfl) (pgs_cons (pg_name (i := 2) scP_bounds_at.nd rfl (Or.inl rfl)) (pgs_cons (pg_name (i := 3) scP_bounds_at.nd rfl (Or.inl rfl)) (pgs_cons (pg_name (i := 4) scP_bounds_at.nd rfl (Or.inl rfl)) pgs_nil)))))
    (pss_cons (ps_set (i := 5) scP_bounds_at.nd rfl (Or.inl rfl) (pe_lst pa_nil))
    (pss_cons (ps_set (i := 6) scP_bounds_at.nd rfl (Or.inl rfl) pe_int)
    (pss_cons (ps_set (i := 7) scP_bounds_at.nd rfl (Or.inl rfl) pe_int)
    (pss_cons (ps_for PassesOwn.never rfl (pi_list (pv 1)) (pg_name (i := 8) scP_bounds_at.nd rfl (Or.inl rfl))
      (pss_one (ps_if (PW.pt (pw_and (pt_cmpR op_lt (pv 6) (pe_callB call_len_seq (by rfl) T.n_len (by decide +kernel) (pa_cons (pv 4) pa_nil)) (nomark _)) (pw_and1 (pt_cmpR (op_eqD hr.units) (pe_ix ix_tup (pe_ix ix_tup (pv 4) (pv 6) (fun _ _ => rfl)) pe_int (fun _ _ => rfl)) (pv 8) (nomark _)))))
        (pss_cons (ps_expr (pe_bm PySem.F.plainAttrs_list PySem.F.slot_list_append PySem.F.type_list_append mt_append (pv 5) (pa_cons (pe_slice sl_tupP (pe_ix ix_tup (pv 4) (pv 6) (fun _ _ => rfl)) (po_some pe_int) po_none) pa_nil)))
        (pss_cons (ps_set (i := 7) scP_bounds_at.nd rfl (Or.inl rfl) (pe_ix ix_tup (pe_ix ix_tup (pv 4) (pv 6) (fun _ _ => rfl)) pe_int (fun _ _ => rfl)))
        (pss_one (ps_aug (i := 6) scP_bounds_at.nd rfl (Or.inl rfl) pe_int ip_add))))
        (pss_cons (ps_set (i := 9) scP_bounds_at.nd rfl (Or.inl rfl) (pe_ifExp (pt_cmpR op_lt (pv 6) (pe_callB call_len_seq (by rfl) T.n_len (by decide +kernel) (pa_cons (pv 4) pa_nil)) (nomark _)) (pe_ix ix_tup (pe_ix ix_tup (pv 4) (pv 6) (fun _ _ => rfl)) pe_int (fun _ _ => rfl)) (pv 3)))
        (pss_one (ps_expr (pe_bm PySem.F.plainAttrs_list PySem.F.slot_list_append PySem.F.type_list_append mt_append (pv 5) (pa_cons (pe_tupF (pa_cons (pv 7) (pa_cons (pv 9) (pa_cons (pv 7) (pa_cons (pv 9) pa_nil))))) pa_nil))))))))
    (pss_one (ps_ret (pv 5))))))))
, ?_⟩
    obtain ⟨p, b, ks, rfl, hp, hb, hk⟩ := rk_parts hR
    have yl : us.length = ys.length := Paired.length pu
    have kl : ks.length = fs.length := by rw [Paired.length hk, List.length_map, List.length_map]
    refine ⟨.ref p, rfl, p, _, rfl, hp.seq, rfl, _, _, rfl, _, _, rfl, _, _, rfl, rfl, ?_⟩
    refine ⟨(by show 0 ≤ sizeLine; decide), fun M nM => ?_⟩
    have s1 := same_upd (o := .lst []) nM
    have hM1 : (upd H M (.lst [])) M = some (.lst []) := upd_same
    generalize upd H M (.lst []) = H1 at s1 hM1 ⊢
    refine ⟨.ref L, rfl, L, rfl, ⟨_, sql (s1 _ _ hL)⟩, ?_⟩
    refine for_list (xs := us) (fun i σ H2 => ∃ (j : Nat) (low : Int) (y8 y9 : Option V) (ws : List V), σ = [some (.ref p), some (.ref L), some (.int r), some (.int n), some (.ref b), some (.ref M), some (.int (j : Int)), some (.int low), y8, y9] ∧ Same H H2 ∧ H2 M = some (.lst ws) ∧ Paired (BdAt H2) ws ((ys.take i).map fun k => enF n k 0 fs) ∧ j ≤ fs.length ∧ (∀ k ∈ ys.drop i, enF n k 0 fs = enF n k low (fs.drop j)) ∧ (∀ f ∈ fs.drop j, f.k ∈ ys.drop i))
      ⟨0, 0, none, none, [], rfl, s1, hM1, .nil, Nat.zero_le _, fun _ _ => rfl, kin⟩ (fun i σ H2 _ ⟨_, _, _, _, _, _, s, _⟩ => sql (s _ _ hL)) ?_ ?_
    · rintro i v σ H2 hv ⟨j, low, y8, y9, ws, rfl, s2, hM2, pw, jl, hen, hin⟩
      obtain ⟨k, hk', fx⟩ := paired_at pu hv
      obtain ⟨u, rfl, hu⟩ := fx.same s2
      have il := (List.getElem?_eq_some_iff.mp hk').1
      have wl : ws.length ≤ i := by rw [Paired.length pw, List.length_map, List.length_take]; omega
      have hb2 := hb.same s2
      have et : ys.take (i + 1) = ys.take i ++ [k] := by rw [List.take_add_one, hk']; rfl
      have ed : ys.drop i = k :: ys.drop (i + 1) := by
        obtain ⟨hlt, e⟩ := List.getElem?_eq_some_iff.mp hk'
        rw [List.drop_eq_getElem_cons hlt, e]
      have gt : ∀ k' ∈ ys.drop (i + 1), k < k' := by
        have h := up.sublist (List.drop_sublist i ys)
        rw [ed] at h
        exact (List.pairwise_cons.mp h).1
      have ek := hen k (by rw [ed]; exact List.mem_cons_self)
      refine ⟨.int (j : Int), rfl, .ref b, rfl, b, _, rfl, .inr hb2.seq, _, _, rfl, rfl, decide (((j : Nat) : Int) < ((ks.length : Nat) : Int)), rfl, ?_⟩
      by_cases c : j < ks.length
      · rw [decide_eq_true (by omega)]
        have jf : j < fs.length := by omega
        obtain ⟨f, hf⟩ : ∃ f, fs[j]? = some f := ⟨fs[j], by simp [jf]⟩
        obtain ⟨z, hz⟩ : ∃ z, ks[j]? = some z := ⟨ks[j], by simp [c]⟩
        have dz : DtAt K H2 z (mk2 f.m) := (paired_getl hk hz (by rw [List.getElem?_map, List.getElem?_map, hf]; rfl)).same s2
        obtain ⟨mu, mf, rfl, hmu⟩ := mk_at dz
        have hdr : fs.drop j = f :: fs.drop (j + 1) := by
          obtain ⟨hlt, e⟩ := List.getElem?_eq_some_iff.mp hf
          rw [List.drop_eq_getElem_cons hlt, e]
        have fin := hin f (by rw [hdr]; exact List.mem_cons_self)
        have upf := (ok.ky.sublist (List.drop_sublist j fs))
        rw [hdr] at upf
        have upf1 := (List.pairwise_cons.mp upf).1
        refine iteT ⟨.ref b, rfl, .int (j : Int), rfl, b, _, _, _, rfl, rfl, hb2.seq, atI_nat (j := j) hz, mu, _, _, _, rfl, rfl, hmu.ob.seq, atI_nat (j := 0) rfl, .ref u, rfl, .tuple [.int (frT f.k scl), .int (frN f.k scl)], .tuple [.int (frT k scl), .int (frN k scl)], .tup hmu.fr.seq (.cons (.int _) (.cons (.int _) .nil)), .tup hu.seq (.cons (.int _) (.cons (.int _) .nil)), rfl, rfl, decide (f.k = k), congrArg V.bl (eq_fr.trans eq_frk), ?_⟩
        by_cases e : f.k = k
        · rw [decide_eq_true e]
          rw [hdr, show enF n k low (f :: fs.drop (j + 1)) = f by unfold enF; rw [if_pos e]] at ek
          refine iteT ⟨.ref M, rfl, .inl ⟨rfl, _, sql hM2⟩, .ref b, rfl, .int (j : Int), rfl, b, _, _, _, rfl, rfl, hb2.seq, atI_nat (j := j) hz, 1, rfl, mu, _, rfl, hmu.ob, fun t H3 s3 ht => ?_⟩
          have hM3 := s3 _ _ hM2
          have kp : KpD H3 (upd H3 M (.lst (ws ++ [.ref t]))) := kpD_list hM3
          have hb4 := (hb2.same s3)
          refine ⟨M, ws, .ref t, rfl, rfl, hM3, by rw [sizeLine_eq]; omega, .ref b, rfl, .int (j : Int), rfl, b, _, _, _, rfl, rfl, (kp.t _ _ hb4).seq, atI_nat (j := j) hz, mu, _, _, _, rfl, rfl, (kp.t _ _ (hmu.ob.same s3)).seq, atI_nat (j := 3) rfl, .int (j : Int), rfl, _, _, rfl, rfl, ?_⟩
          refine ⟨j + 1, f.y, _, _, _, rfl, Same.put (s2.trans s3) nM, upd_same, ?_, jf, fun k' hk2 => ?_, fun g hg => ?_⟩
          · rw [et, List.map_append]
            refine paired_app (paired_imp (fun _ _ h => (h.same s3).keep kp) pw) (.cons ⟨t, rfl, ?_⟩ .nil)
            dsimp only
            rw [ek]
            exact kp.t _ _ ht
          · have lt := gt k' hk2
            rw [hen k' (by rw [ed]; exact List.mem_cons_of_mem _ hk2), hdr]
            show (if f.k = k' then f else if k' < f.k then (⟨k', low, f.x, low, f.x⟩ : Fd) else enF n k' f.y (fs.drop (j + 1))) = _
            rw [if_neg (by omega), if_neg (by omega)]
          · have hg' := hin g (by rw [hdr]; exact List.mem_cons_of_mem _ hg)
            have lt := upf1 g hg
            rw [ed] at hg'
            rcases List.mem_cons.mp hg' with h | h
            · omega
            · exact h
        · rw [decide_eq_false e]
          refine iteF ?_
          have hkn : k < f.k := by
            rw [ed] at fin
            rcases List.mem_cons.mp fin with h | h
            · exact absurd h e
            · exact gt _ h
          rw [hdr, show enF n k low (f :: fs.drop (j + 1)) = ⟨k, low, f.x, low, f.x⟩ by unfold enF; rw [if_neg e, if_pos hkn]] at ek
          refine ⟨.int (j : Int), rfl, .ref b, rfl, b, _, rfl, .inr hb2.seq, _, _, rfl, rfl, decide (((j : Nat) : Int) < ((ks.length : Nat) : Int)), rfl, ?_⟩
          rw [decide_eq_true (by omega)]
          refine iteT ⟨.ref b, rfl, .int (j : Int), rfl, b, _, _, _, rfl, rfl, hb2.seq, atI_nat (j := j) hz, mu, _, _, _, rfl, rfl, hmu.ob.seq, atI_nat (j := 2) rfl, ?_⟩
          refine ⟨.ref M, rfl, .inl ⟨rfl, _, sql hM2⟩, .int low, rfl, .int f.x, rfl, .int low, rfl, .int f.x, rfl, (by show 4 ≤ sizeLine; decide), fun t o nt ho => ?_⟩
          have rest : ∀ g ∈ fs.drop j, g.k ∈ ys.drop (i + 1) := fun g hg => by
            have hg' := hin g hg
            rw [ed] at hg'
            rcases List.mem_cons.mp hg' with h | h
            · rw [hdr] at hg
              rcases List.mem_cons.mp hg with h2 | h2
              · exact absurd (h2 ▸ h) e
              · have := upf1 g h2
                omega
            · exact h
          have sT := same_upd (o := .frz o (.tup [.int low, .int f.x, .int low, .int f.x])) nt
          have hT : Ptp (upd H2 t (.frz o (.tup [.int low, .int f.x, .int low, .int f.x]))) t [.int low, .int f.x, .int low, .int f.x] := ⟨o, upd_same, ho⟩
          generalize upd H2 t (.frz o (.tup [.int low, .int f.x, .int low, .int f.x])) = H3 at sT hT ⊢
          have hM3 := sT _ _ hM2
          have kp : KpD H3 (upd H3 M (.lst (ws ++ [.ref t]))) := kpD_list hM3
          refine ⟨M, ws, .ref t, rfl, rfl, hM3, by rw [sizeLine_eq]; omega, j, low, _, _, _, rfl, Same.put (s2.trans sT) nM, upd_same, ?_, jl, fun k' hk2 => hen k' (by rw [ed]; exact List.mem_cons_of_mem _ hk2), rest⟩
          rw [et, List.map_append]
          refine paired_app (paired_imp (fun _ _ h => (h.same sT).keep kp) pw) (.cons ⟨t, rfl, ?_⟩ .nil)
          dsimp only
          rw [ek]
          exact kp.t _ _ hT
      · rw [decide_eq_false (by omega)]
        have j0 : fs.drop j = [] := List.drop_eq_nil_of_le (by omega)
        refine iteF ?_
        rw [j0] at ek
        refine ⟨.int (j : Int), rfl, .ref b, rfl, b, _, rfl, .inr hb2.seq, _, _, rfl, rfl, decide (((j : Nat) : Int) < ((ks.length : Nat) : Int)), rfl, ?_⟩
        rw [decide_eq_false (by omega)]
        refine iteF ⟨.int n, rfl, ?_⟩
        refine ⟨.ref M, rfl, .inl ⟨rfl, _, sql hM2⟩, .int low, rfl, .int n, rfl, .int low, rfl, .int n, rfl, (by show 4 ≤ sizeLine; decide), fun t o nt ho => ?_⟩
        have rest : ∀ g ∈ fs.drop j, g.k ∈ ys.drop (i + 1) := fun g hg => by rw [j0] at hg; cases hg
        have sT := same_upd (o := .frz o (.tup [.int low, .int n, .int low, .int n])) nt
        have hT : Ptp (upd H2 t (.frz o (.tup [.int low, .int n, .int low, .int n]))) t [.int low, .int n, .int low, .int n] := ⟨o, upd_same, ho⟩
        generalize upd H2 t (.frz o (.tup [.int low, .int n, .int low, .int n])) = H3 at sT hT ⊢
        have hM3 := sT _ _ hM2
        have kp : KpD H3 (upd H3 M (.lst (ws ++ [.ref t]))) := kpD_list hM3
        refine ⟨M, ws, .ref t, rfl, rfl, hM3, by rw [sizeLine_eq]; omega, j, low, _, _, _, rfl, Same.put (s2.trans sT) nM, upd_same, ?_, jl, fun k' hk2 => hen k' (by rw [ed]; exact List.mem_cons_of_mem _ hk2), rest⟩
        rw [et, List.map_append]
        refine paired_app (paired_imp (fun _ _ h => (h.same sT).keep kp) pw) (.cons ⟨t, rfl, ?_⟩ .nil)
        dsimp only
        rw [ek]
        exact kp.t _ _ hT
    · rintro σ H2 ⟨j, low, y8, y9, ws, rfl, s2, hM2, pw, _⟩
      rw [yl, List.take_length] at pw
      exact ⟨.ref M, rfl, q H2 M ws s2 nM hM2 pw⟩
end
end Kb

/-! zip of three lists -/
namespace RZ
open PySem PySem.Spec PyProof.Rows L2
/-- the lists at a, b, c as they stand at each turn, the items in new tuples -/
def Itz3 (K : PySem.W.Frag) (a b c : Addr) : It :=
  ⟨fun i H => ∃ (xs ys zs : List V) (x y z : V), SqL K H a xs ∧ SqL K H b ys ∧ SqL K H c zs ∧ xs[i]? = some x ∧ ys[i]? = some y ∧ zs[i]? = some z,
    fun i H v H' => ∃ T x y z, v = .ref T ∧ H T = none ∧ H' = upd H T (.tup [x, y, z]) ∧ (∀ xs, SqL K H a xs → xs[i]? = some x) ∧ (∀ ys, SqL K H b ys → ys[i]? = some y) ∧ ∀ zs, SqL K H c zs → zs[i]? = some z,
    fun i H => ∃ xs ys zs : List V, SqL K H a xs ∧ SqL K H b ys ∧ SqL K H c zs ∧ i ≤ xs.length ∧ i ≤ ys.length ∧ i ≤ zs.length ∧ (i = xs.length ∨ i = ys.length ∨ i = zs.length)⟩
theorem turn_zip3 {P : Program} {w : World} {K : PySem.W.Frag} {elts : List Expr} {kk : Nat} {tpos : Pos} {a b c z TI TO i1 i2 i3 : Addr} (D : ZipSep3 z TI TO i1 i2 i3 [i1, a] [i2, b] [i3, c]) (na : a ≠ i1) (nb : b ≠ i2) (nc : c ≠ i3) :
    Turn P w K (.Tuple elts kk tpos) (Itz3 K a b c) [z, TI, TO, i1, i2, i3] z (fun i h => IsZip h z TI TO .none ∧ IsTupOf3 h TI (.ref i1) (.ref i2) (.ref i3) ∧ (∃ x y u, IsTupOf3 h TO x y u) ∧ h.IsListIter i1 a i ∧ h.IsListIter i2 b i ∧ h.IsListIter i3 c i) where
  mem := by simp
  obj := fun i h st d hd => by
    obtain ⟨hz, hTI, ⟨x, y, u, hTO⟩, ⟨o1, e1, _, d1⟩, ⟨o2, e2, _, d2⟩, ⟨o3, e3, _, d3⟩⟩ := st
    have e' : d = z ∨ d = TI ∨ d = TO ∨ d = i1 ∨ d = i2 ∨ d = i3 := by simpa using hd
    rcases e' with q | q | q | q | q | q
    · rw [q]; exact ⟨_, hz, fun v q => nomatch q⟩
    · rw [q]; exact ⟨_, hTI, fun v q => nomatch q⟩
    · rw [q]; exact ⟨_, hTO, fun v q => nomatch q⟩
    · rw [q]; exact ⟨o1, e1, fun v q => by rw [d1] at q; cases q⟩
    · rw [q]; exact ⟨o2, e2, fun v q => by rw [d2] at q; cases q⟩
    · rw [q]; exact ⟨o3, e3, fun v q => by rw [d3] at q; cases q⟩
  keep := fun i h h' st k => by
    obtain ⟨hz, hTI, ⟨x, y, u, hTO⟩, h1, h2, h3⟩ := st
    exact ⟨k z (by simp) _ hz, k TI (by simp) _ hTI, ⟨x, y, u, k TO (by simp) _ hTO⟩, h1.at fun o q => k i1 (by simp) o q, h2.at fun o q => k i2 (by simp) o q, h3.at fun o q => k i3 (by simp) o q⟩
  item := by
    intro X hP hw hK hc i pins s σ H E I hf st hg
    subst hP hw hK
    obtain ⟨hz, hTI, ⟨x0, y0, u0, hTO⟩, h1, h2, h3⟩ := st
    obtain ⟨xs, ys, zs, x, y, v, hqx, hqy, hqz, hx, hy, hv⟩ := hg
    obtain ⟨its, rv, p, _⟩ := I.list hqx
    obtain ⟨its2, rv2, p2, _⟩ := I.list hqy
    obtain ⟨its3, rv3, p3, _⟩ := I.list hqz
    obtain ⟨u, hu, ru⟩ := rv.get hx
    obtain ⟨u2, hu2, ru2⟩ := rv2.get hy
    obtain ⟨u3, hu3, ru3⟩ := rv3.get hv
    have l1 : i < its.toArray.size := by have := (List.getElem?_eq_some_iff.mp hu).1; simpa using this
    have l2 : i < its2.toArray.size := by have := (List.getElem?_eq_some_iff.mp hu2).1; simpa using this
    have l3 : i < its3.toArray.size := by have := (List.getElem?_eq_some_iff.mp hu3).1; simpa using this
    have hzl : z < s.heap.objs.size := Heap.lt_size hz
    have hh : X.A.in1.handled = none := I.ok.hd hc
    refine wpAny_pyNext_zipD3_item D (Draws.list hh i1 a na its.toArray) (Draws.list hh i2 b nb its2.toArray) (Draws.list hh i3 c nc its3.toArray) hz hTI hTO ⟨h1, p.isList⟩ ⟨h2, p2.isList⟩ ⟨h3, p3.isList⟩ l1 l2 l3 fun w1 w2 w3 h' tk y1 y2 y3 z' TO' st1' st2' st3' hT hsz hk => ?_
    obtain rfl : w1 = u := by have := y1.symm.trans (show its.toArray[i]? = some u by simpa using hu); cases this; rfl
    obtain rfl : w2 = u2 := by have := y2.symm.trans (show its2.toArray[i]? = some u2 by simpa using hu2); cases this; rfl
    obtain rfl : w3 = u3 := by have := y3.symm.trans (show its3.toArray[i]? = some u3 by simpa using hu3); cases this; rfl
    refine ⟨_, rfl, wpAny_letOwnedTupleGo_zip (s := { s with heap := h', toks := tk }) z' fun h'' z'' sb => ?_⟩
    have hT2 : h''.get? s.heap.objs.size = some { cls := .type "tuple", data := .seq #[w1, w2, w3] } := (sb.2 _ (Nat.ne_of_gt hzl)).trans hT
    have new : ObjOk X.prog X.w (upd H s.heap.objs.size (.tup [x, y, v])) h'' s.heap.objs.size (.tup [x, y, v]) :=
      ⟨by show 3 ≤ sizeLine; decide, [w1, w2, w3], .cons ru (.cons ru2 (.cons ru3 .nil)), ⟨_, hT2, rfl, _, rfl⟩⟩
    have I1 : Inv X pins σ (upd H s.heap.objs.size (.tup [x, y, v])) { s with heap := h'', toks := tk } :=
      I.turnedNew (t' := tk) (ch := [z, TI, TO, i1, i2, i3]) (fun c o hb q => (sb.2 c (fun q' => hb (by simp [q']))).trans (hk c o (fun q' => hb (by simp [q'])) (fun q' => hb (by simp [q'])) (fun q' => hb (by simp [q'])) (fun q' => hb (by simp [q'])) (fun q' => hb (by simp [q'])) q)) hf (Nat.le_refl _) new
    have zi1 : i1 ≠ z := fun e => D.zf1 (by rw [← e]; exact D.mem1)
    have zi2 : i2 ≠ z := fun e => D.zf2 (by rw [← e]; exact D.mem2)
    have zi3 : i3 ≠ z := fun e => D.zf3 (by rw [← e]; exact D.mem3)
    refine ⟨.ref s.heap.objs.size, _, I1, rfl, ⟨_, x, y, v, rfl, I.hok.fresh (Nat.le_refl _), rfl, fun l hl => by rw [I.list_inj hl hqx]; exact hx, fun l hl => by rw [I.list_inj hl hqy]; exact hy, fun l hl => by rw [I.list_inj hl hqz]; exact hv⟩, ⟨z'', ?_, ⟨w1, w2, w3, ?_⟩, ?_, ?_, ?_⟩, fun d hdm => ?_⟩
    · exact (sb.2 _ D.TIz).trans (hk _ _ D.TIz D.TITO D.TIi1 D.TIi2 D.TIi3 hTI)
    · exact (sb.2 _ D.TOz).trans TO'
    · exact st1'.1.at fun o q => (sb.2 _ zi1).trans q
    · exact st2'.1.at fun o q => (sb.2 _ zi2).trans q
    · exact st3'.1.at fun o q => (sb.2 _ zi3).trans q
    · have hlt : d < s.heap.objs.size := by
        have e' : d = z ∨ d = TI ∨ d = TO ∨ d = i1 ∨ d = i2 ∨ d = i3 := by simpa using hdm
        rcases e' with q | q | q | q | q | q
        · rw [q]; exact hzl
        · rw [q]; exact Heap.lt_size hTI
        · rw [q]; exact Heap.lt_size hTO
        · rw [q]; obtain ⟨_, e1, _⟩ := h1; exact Heap.lt_size e1
        · rw [q]; obtain ⟨_, e2, _⟩ := h2; exact Heap.lt_size e2
        · rw [q]; obtain ⟨_, e3, _⟩ := h3; exact Heap.lt_size e3
      rw [upd_ne (Nat.ne_of_lt hlt)]
      exact (hf d hdm).1
  done := by
    intro X hP hw hK hc i pins s σ H E I hf st hg
    subst hP hw hK
    obtain ⟨hz, hTI, ⟨x0, y0, u0, hTO⟩, h1, h2, h3⟩ := st
    obtain ⟨xs, ys, zs, hqx, hqy, hqz, g1, g2, g3, hend⟩ := hg
    obtain ⟨its, rv, p, _⟩ := I.list hqx
    obtain ⟨its2, rv2, p2, _⟩ := I.list hqy
    obtain ⟨its3, rv3, p3, _⟩ := I.list hqz
    have l1 := rv.length
    have l2 := rv2.length
    have l3 := rv3.length
    have hh : X.A.in1.handled = none := I.ok.hd hc
    have z1 : its.toArray.size = its.length := by simp
    have z2 : its2.toArray.size = its2.length := by simp
    have z3 : its3.toArray.size = its3.length := by simp
    exact wpAny_pyNext_zipD3_end D (Draws.list hh i1 a na its.toArray) (Draws.list hh i2 b nb its2.toArray) (Draws.list hh i3 c nc its3.toArray) hz hTI hTO ⟨h1, p.isList⟩ ⟨h2, p2.isList⟩ ⟨h3, p3.isList⟩ (by omega) (by omega) (by omega) (by omega) fun h' tk hk => ⟨rfl, I.turnedL (t' := tk) (ch := [z, TI, TO, i1, i2, i3]) (fun c o hb q =>
      hk c o (fun q' => hb (by simp [q'])) (fun q' => hb (by simp [q'])) (fun q' => hb (by simp [q'])) (fun q' => hb (by simp [q'])) (fun q' => hb (by simp [q'])) q) hf⟩
  self := fun A i s Q E st h => wpAny_pyIter_zip st.1 h
def iZip3 (K : PySem.W.Frag) (ta : TA) : TI := fun σ H R => ta σ H fun vs H1 => ∃ a b c xs ys zs, vs = [.ref a, .ref b, .ref c] ∧ SqL K H1 a xs ∧ SqL K H1 b ys ∧ SqL K H1 c zs ∧ R (Itz3 K a b c) H1
theorem pi_zip3 {X : Cx} {e e2 e3 : Expr} {ta : TA} {p pos tpos : Pos} {elts : List Expr} {kk : Nat} (hg : Gl X "zip") (hm : X.mg "zip" = none) (ha : PA X [e, e2, e3] ta)
    (hs : starEach [e, e2, e3] X.env = (false, eval e X.env) :: starEach [e2, e3] X.env := by rfl) (hpl : (backTo pos (starEach [e2, e3] X.env)).any (·.1) = false := by rfl) :
    PI X (.Tuple elts kk tpos) (.Call (.Name "zip" p) [e, e2, e3] [] pos) (iZip3 X.K ta) := by
  refine ⟨fun pins s σ H R I h => ?_⟩
  refine Call_ (ld_blt I hg hm PyProof.Rows.boot_zip (PyProof.Rows.callWith_type1 (thn (ha.run pos pins s σ H _ I h) fun us s1 ⟨vs, H1, I1, r1, q1⟩ => ?_) hs hpl))
  obtain ⟨a, b, c, xs, ys, zs, ex, hqx, hqy, hqz, q⟩ := q1
  subst ex
  cases r1 with
  | cons r rr =>
    cases rr with
    | cons r' rr =>
      cases rr with
      | cons r'' rr =>
        cases rr
        cases r
        cases r'
        cases r''
        obtain ⟨its, rv, p1, _⟩ := I1.list hqx
        obtain ⟨its2, rv2, p2, _⟩ := I1.list hqy
        obtain ⟨its3, rv3, p3, _⟩ := I1.list hqz
        have la : @LT.lt Nat _ a s1.heap.objs.size := p1.lt
        have lb : @LT.lt Nat _ b s1.heap.objs.size := p2.lt
        have lc : @LT.lt Nat _ c s1.heap.objs.size := p3.lt
        refine zip_begins3 (begins_list a its.toArray) (begins_list b its2.toArray) (begins_list c its3.toArray) p1.isList p2.isList p3.isList fun h' hz hTI hTO h1 h2 h3 hsz hk => wpAny_pyIter_zip hz ?_
        have I2 : Inv X pins σ H1 { s1 with heap := h' } := I1.kept (t' := s1.toks) hk
        have D : ZipSep3 (s1.heap.objs.size + 5) (s1.heap.objs.size + 3) (s1.heap.objs.size + 4) s1.heap.objs.size (s1.heap.objs.size + 1) (s1.heap.objs.size + 2) [s1.heap.objs.size, a] [s1.heap.objs.size + 1, b] [s1.heap.objs.size + 2, c] := by
          constructor <;> first
            | exact List.mem_cons_self
            | exact fun e => absurd (show (_ : Nat) = _ from e) (by omega)
            | (intro e
               rcases List.mem_cons.mp e with e | e
               · exact absurd (show (_ : Nat) = _ from e) (by omega)
               · rcases List.mem_cons.mp e with e | e
                 · exact absurd (show (_ : Nat) = _ from e) (by omega)
                 · cases e)
        refine ⟨s1.heap.objs.size + 5, [s1.heap.objs.size + 5, s1.heap.objs.size + 3, s1.heap.objs.size + 4, s1.heap.objs.size, s1.heap.objs.size + 1, s1.heap.objs.size + 2], _, _, H1, rfl, I2, turn_zip3 D (Nat.ne_of_lt la) (Nat.ne_of_lt (Nat.lt_succ_of_lt lb)) (Nat.ne_of_lt (Nat.lt_succ_of_lt (Nat.lt_succ_of_lt lc))), ⟨hz, hTI, ⟨_, _, _, hTO⟩, ⟨_, h1, rfl, rfl⟩, ⟨_, h2, rfl, rfl⟩, ⟨_, h3, rfl, rfl⟩⟩, fun d hdm => ?_, q⟩
        have e' : d = s1.heap.objs.size + 5 ∨ d = s1.heap.objs.size + 3 ∨ d = s1.heap.objs.size + 4 ∨ d = s1.heap.objs.size ∨ d = s1.heap.objs.size + 1 ∨ d = s1.heap.objs.size + 2 := by simpa using hdm
        have hle : s1.heap.objs.size ≤ d := by rcases e' with q | q | q | q | q | q <;> rw [q] <;> first | exact Nat.le_refl _ | exact Nat.le_add_right _ _
        exact I1.fpOk hle (I1.hok.fresh hle)
/-- turn by turn -/
theorem walk_zip3 {K : PySem.W.Frag} {a b c : Addr} {xs ys zs : List V} (h1 : ys.length = xs.length) (h2 : zs.length = xs.length) : Walk (Itz3 K a b c) xs.length (fun H => SqL K H a xs ∧ SqL K H b ys ∧ SqL K H c zs)
    (fun i H v H' => ∃ T x y z, v = .ref T ∧ H T = none ∧ H' = upd H T (.tup [x, y, z]) ∧ xs[i]? = some x ∧ ys[i]? = some y ∧ zs[i]? = some z) := by
  refine ⟨fun i _ hi q => ?_, fun _ q => ⟨xs, ys, zs, q.1, q.2.1, q.2.2, by omega, by omega, by omega, by omega⟩, fun i H v H' _ q y => ?_⟩
  · have l1 : i < ys.length := by omega
    have l2 : i < zs.length := by omega
    exact ⟨xs, ys, zs, xs[i], ys[i], zs[i], q.1, q.2.1, q.2.2, by simp [hi], by simp [l1], by simp [l2]⟩
  · obtain ⟨T, x, y', z, e1, e2, e3, e4, e5, e6⟩ := y
    exact ⟨T, x, y', z, e1, e2, e3, e4 xs q.1, e5 ys q.2.1, e6 zs q.2.2⟩
end RZ

namespace Kb
open PySem PySem.Spec PyProof.Rows L2 RZ
abbrev sP_pour : Stmt := topS 37
abbrev NP_pour : List Str := ["one", "other", "room", "many", "marks", "values", "sums", "value", "bounds", "others", "mark", "bound", "beside"]
theorem scP_pour : FnScope ["one", "other", "room", "many", "marks", "values", "sums", "value", "bounds", "others", "mark", "bound", "beside"] ["one", "other"] (defScope sP_pour) := ⟨rfl, rfl, rfl, by decide +kernel, rfl, by decide +kernel, by decide +kernel⟩
abbrev DnPour (K : PySem.W.Frag) (mg : Str → Option Value) := Dn K mg "_pour" sP_pour ["one", "other"]
def l4 (f : Fd) : List Int := [f.w, f.x, f.y, f.z]
theorem l4_sum {a b : Fd} {j : Nat} {x y : Int} (h1 : (l4 a)[j]? = some x) (h2 : (l4 b)[j]? = some y) : (l4 (sumF a b))[j]? = some (x + y) := by
  match j, h1, h2 with
  | 0, h1, h2 => cases h1; cases h2; rfl
  | 1, h1, h2 => cases h1; cases h2; rfl
  | 2, h1, h2 => cases h1; cases h2; rfl
  | 3, h1, h2 => cases h1; cases h2; rfl
theorem kpD_same' {H H' : Hp} {p : Addr} {xs : List V} (k : KpD H H') (h : Ptp H p xs) : Ptp H' p xs := k.t _ _ h
section
variable {P : Program} {w : World} {K : PySem.W.Frag} {mg : Str → Option Value} {base : Heap}
def spPour (K : PySem.W.Frag) : Sp := fun vs H Q _ => ∃ (A B : V) (room : Nat) (r2 n m : Int) (fs gs : List Fd), vs = [A, B] ∧ DtAt K H A (rk2 (room : Int) n (fs.map Fd.m)) ∧ DtAt K H B (rk2 r2 m (gs.map Fd.m)) ∧ FsOk n fs ∧ FsOk m gs ∧ n + m ≤ 2 ^ 40 ∧ fs.length ≤ 64 ∧ gs.length ≤ 64 ∧ 1 ≤ room ∧ room ≤ 64 ∧
  ∀ ys r, Srt (keysF fs gs) ys → ThinOut room (n + m) (ys.map (addF n m fs gs)) r → ∀ H' p', Same H H' → DtAt K H' (.ref p') (rk2 room (n + m) (r.map Fd.m)) → Q (.ref p') H'
theorem ok_pour (T : Blt mg) (dP_ascending : DnAscending K mg) (dP_chosen : DnChosen K mg) (dP_thin : DnThin K mg) (dP_bounds_at : DnBoundsAt K mg) (d : DnPour K mg) : FnOk P w K mg base CX0 3 d.f d.fd ["one", "other"] (spPour K) := by
  have GP_ascending : FnOk P w K mg base CX0 1 dP_ascending.f dP_ascending.fd ["fractions"] spAscending := ok_ascending T dP_ascending
  have GP_thin : FnOk P w K mg base CX0 2 dP_thin.f dP_thin.fd ["room", "many", "marks"] (spThin K) := ok_thin T dP_chosen dP_thin
  have GP_bounds_at : FnOk P w K mg base CX0 1 dP_bounds_at.f dP_bounds_at.fd ["ranks", "values"] (spBoundsAt K) := ok_bounds_at T dP_bounds_at
  refine d.F.ok scP_pour (fun vs H Q E h => ?_) (fun cdv A outer s H vs Q E hr h => ?_)
  · obtain ⟨A, B, room, r2, n, m, fs, gs, rfl, _⟩ := h
    rfl
  · obtain ⟨A1, B1, room, r2, n, m, fs, gs, rfl, hA, hB, ok, ok', nm, fl, gl, r1, r64, q⟩ := h
    refine ⟨_, (pss_cons (ps_asg (pv 0) (pg_tup (by rfl) (pgs_cons (pg_name (i := 2) scP_pour.nd rfl (Or.inl rfl)) (pgs_cons (pg_name (i := 3) scP_pour.nd rfl (Or.inl rfl)) (pgs_cons (pg_name (i := 4) scP_pour.nd rfl (Or.inl rfl)) pgs_nil)))))
    (pss_cons (ps_set (i := 5) scP_pour.nd rfl (Or.inl rfl) (pe_call GP_ascending (hr.mono (by omega)) (by rfl) dP_ascending.g dP_ascending.F.kp dP_ascending.b .nil pass0 (pa_cons (pe_lc (own := [("mark", 10)]) (g := gName 10) (tt := tYes) rfl scP_pour.nd (pi_tup (pe_op op_catP (pv 4) (pe_ix ix_tup (pv 1) pe_int (fun _ _ => rfl)))) (blkOk_by (N := NP_pour) (sc := defScope sP_pour) (by decide +kernel)) (fun _ _ _ _ _ => pg_name (i := 10) scP_pour.nd rfl (Or.inl rfl)) (fun _ _ _ _ _ => pts_nil) (fun _ _ _ _ _ => (pe_ix (r := rIxT K) ix_tup (pv 10) pe_int (fun _ _ => rfl)))) pa_nil)))
    (pss_cons (ps_set (i := 6) scP_pour.nd rfl (Or.inl rfl) (pe_lst pa_nil))
    (pss_cons (ps_for PassesOwn.never rfl (pi_zip3 (by rfl) T.n_zip (pa_cons (pv 5) (pa_cons (pe_call GP_bounds_at (hr.mono (by omega)) (by rfl) dP_bounds_at.g dP_bounds_at.F.kp dP_bounds_at.b .nil pass0 (pa_cons (pv 0) (pa_cons (pv 5) pa_nil))) (pa_cons (pe_call GP_bounds_at (hr.mono (by omega)) (by rfl) dP_bounds_at.g dP_bounds_at.F.kp dP_bounds_at.b .nil pass0 (pa_cons (pv 1) (pa_cons (pv 5) pa_nil))) pa_nil)))) (pg_tup (by rfl) (pgs_cons (pg_name (i := 7) scP_pour.nd rfl (Or.inl rfl)) (pgs_cons (pg_name (i := 8) scP_pour.nd rfl (Or.inl rfl)) (pgs_cons (pg_name (i := 9) scP_pour.nd rfl (Or.inl rfl)) pgs_nil))))
      (pss_one (ps_expr (pe_bm PySem.F.plainAttrs_list PySem.F.slot_list_append PySem.F.type_list_append mt_append (pv 6) (pa_cons (pe_tupF (pa_cons (pv 7) (StX.pa_star (pe_lc (own := [("bound", 11), ("beside", 12)]) (g := gTup K 2 (gCons (gName 11) (gCons (gName 12) gNil))) (tt := tYes) rfl scP_pour.nd (pi_zipA (by rfl) T.n_zip (pa_cons (pv 8) (pa_cons (pv 9) pa_nil))) (blkOk_by (N := NP_pour) (sc := defScope sP_pour) (by decide +kernel)) (fun _ _ _ _ _ => pg_tup (by rfl) (pgs_cons (pg_name (i := 11) scP_pour.nd rfl (Or.inl rfl)) (pgs_cons (pg_name (i := 12) scP_pour.nd rfl (Or.inl rfl)) pgs_nil))) (fun _ _ _ _ _ => pts_nil) (fun _ _ _ _ _ => (pe_op op_add (pv 11) (pv 12)))) pa_nil))) pa_nil)))))
    (pss_one (ps_ret (pe_call GP_thin (hr.mono (by omega)) (by rfl) dP_thin.g dP_thin.F.kp dP_thin.b .nil pass0 (pa_cons (pv 2) (pa_cons (pe_op op_add (pv 3) (pe_ix ix_tup (pv 1) pe_int (fun _ _ => rfl))) (pa_cons (pv 6) pa_nil)))))))))), ?_⟩
    obtain ⟨p, b, ks, rfl, hp, hb, hk⟩ := rk_parts hA
    obtain ⟨p', b', js, rfl, hp', hb', hj⟩ := rk_parts hB
    have kl : ks.length = fs.length := by rw [Paired.length hk, List.length_map, List.length_map]
    have jl : js.length = gs.length := by rw [Paired.length hj, List.length_map, List.length_map]
    refine ⟨.ref p, rfl, p, _, rfl, hp.seq, rfl, _, _, rfl, _, _, rfl, _, _, rfl, rfl, ?_⟩
    refine ⟨.ref b, rfl, .ref p', rfl, p', _, _, _, rfl, rfl, hp'.seq, atI_nat (j := 2) rfl, b, b', ks, js, rfl, rfl, hb, hb', by rw [sizeLine_eq]; omega, fun c H1 s1 hc => ?_⟩
    have pkj : Paired (DtAt K H) (ks ++ js) ((fs ++ gs).map fun f => mk2 f.m) := by
      rw [List.map_append]
      rw [List.map_map] at hk hj
      exact paired_app hk hj
    -- the keys
    refine ⟨c, rfl, ⟨_, hc.seq⟩, fun L nL => ?_⟩
    refine lc_tup (xs := ks ++ js) (fun i H2 => Same H1 H2 ∧ ∃ ws, H2 L = some (.lst ws) ∧ Paired (FrAt H2) ws (((fs ++ gs).take i).map Fd.k)) ⟨same_upd nL, [], upd_same, .nil⟩ (fun i H2 _ h2 => (hc.same h2.1).seq) (fun i v H2 hv h2 => ?_) (fun H2 h2 => ?_)
    · obtain ⟨s2, ws, hL, pw⟩ := h2
      obtain ⟨dm, hdm, atm⟩ := paired_at pkj hv
      obtain ⟨f, hf, rfl⟩ := map_at hdm
      obtain ⟨u, uf, rfl, hu⟩ := mk_at (atm.same (s1.trans s2))
      have il := (List.getElem?_eq_some_iff.mp hf).1
      rw [List.length_append] at il
      have wl : ws.length ≤ i := by rw [Paired.length pw, List.length_map, List.length_take]; omega
      refine ⟨rfl, .ref u, rfl, u, _, _, _, rfl, rfl, hu.ob.seq, atI_nat (j := 0) rfl, ws, hL, by rw [sizeLine_eq]; omega, Same.put s2 nL, ws ++ [.ref uf], upd_same, ?_⟩
      have kp : KpD H2 (upd H2 L (.lst (ws ++ [.ref uf]))) := kpD_list hL
      rw [List.take_add_one, hf, List.map_append]
      exact paired_app (paired_imp (fun _ _ h => h.keep kp.t) pw) (.cons ⟨uf, rfl, kp.t _ _ hu.fr⟩ .nil)
    obtain ⟨s2, ws, hL, pw⟩ := h2
    have el : (ks ++ js).length = (fs ++ gs).length := by rw [List.length_append, List.length_append, kl, jl]
    rw [el, List.take_length] at pw
    have wl : ws.length = fs.length + gs.length := by rw [Paired.length pw, List.length_map, List.length_append]
    refine ⟨L, ws, keysF fs gs, rfl, hL, pw, by omega, fun k hk => ?_, fun H3 V3 us ys s3 nV hV pu up mem yl => ?_⟩
    · obtain ⟨f, hf, rfl⟩ := List.mem_map.mp hk
      rcases List.mem_append.mp hf with h | h
      · exact ok.kb f h
      · exact ok'.kb f h
    have srt : Srt (keysF fs gs) ys := ⟨up, mem⟩
    have ul : us.length = ys.length := Paired.length pu
    have s03 := (s1.trans s2).trans s3
    have fok := add_ok ok ok' srt nm (by omega)
    have in1 : ∀ f ∈ fs, f.k ∈ ys := fun f hf => (mem f.k).mpr (List.mem_map.mpr ⟨f, List.mem_append_left _ hf, rfl⟩)
    have in2 : ∀ f ∈ gs, f.k ∈ ys := fun f hf => (mem f.k).mpr (List.mem_map.mpr ⟨f, List.mem_append_right _ hf, rfl⟩)
    -- the sums
    refine ⟨(by show 0 ≤ sizeLine; decide), fun M nM => ?_⟩
    have s34 := same_upd (o := .lst []) nM
    have hM4 : (upd H3 M (.lst [])) M = some (.lst []) := upd_same
    have nM0 := same_gone s03 nM
    have hV4 := s34 _ _ hV
    have neV : V3 ≠ M := fun e => by rw [e, nM] at hV; cases hV
    have s04 := s03.trans s34
    have pu4 := frs_same pu s34
    generalize upd H3 M (.lst []) = H4 at s34 hM4 hV4 s04 pu4 ⊢
    refine ⟨.ref V3, rfl, .ref p, rfl, .ref V3, rfl, .ref p, V3, us, ys, (room : Int), n, fs, rfl, hA.same s04, ok, hV4, pu4, up, by omega, in1, fun H5 X1 xs1 s5 nX1 hX1 px1 => ?_⟩
    have hM5 := s5 _ _ hM4
    have neX1 : X1 ≠ M := fun e => by rw [e, hM4] at nX1; cases nX1
    refine ⟨.ref p', rfl, .ref V3, rfl, .ref p', V3, us, ys, r2, m, gs, rfl, (hB.same s04).same s5, ok', s5 _ _ hV4, frs_same pu4 s5, up, by omega, in2, fun H6 X2 xs2 s6 nX2 hX2 px2 => ?_⟩
    have hM6 := s6 _ _ hM5
    have neX2 : X2 ≠ M := fun e => by rw [e, hM5] at nX2; cases nX2
    have s46 := s5.trans s6
    have s06 := s04.trans s46
    have hX16 := s6 _ _ hX1
    have px16 : Paired (BdAt H6) xs1 (ys.map fun k => enF n k 0 fs) := paired_imp (fun _ _ h => h.same s6) px1
    have hV6 := s46 _ _ hV4
    have pu6 := frs_same pu4 s46
    have l1 : xs1.length = us.length := by rw [Paired.length px1, List.length_map, ul]
    have l2 : xs2.length = us.length := by rw [Paired.length px2, List.length_map, ul]
    refine ⟨V3, X1, X2, us, xs1, xs2, rfl, sql hV6, sql hX16, sql hX2, ?_⟩
    refine for_it (walk_zip3 (K := K) l1 l2) (fun i σ H7 => ∃ (y7 y8 y9 : Option V) (ws : List V), σ = [some (.ref p), some (.ref p'), some (.int (room : Int)), some (.int n), some (.ref b), some (.ref V3), some (.ref M), y7, y8, y9, none, none, none] ∧ Same H H7 ∧ H7 V3 = some (.lst us) ∧ H7 X1 = some (.lst xs1) ∧ H7 X2 = some (.lst xs2) ∧ Paired (FrAt H7) us ys ∧ Paired (BdAt H7) xs1 (ys.map fun k => enF n k 0 fs) ∧ Paired (BdAt H7) xs2 (ys.map fun k => enF m k 0 gs) ∧ H7 M = some (.lst ws) ∧ Paired (DtAt K H7) ws ((ys.take i).map fun k => mk2 (addF n m fs gs k).m))
      ⟨none, none, none, [], rfl, s06, hV6, hX16, hX2, pu6, px16, px2, hM6, .nil⟩ (fun i σ H7 _ ⟨_, _, _, _, _, _, a, b, c, _⟩ => ⟨sql a, sql b, sql c⟩) ?_ ?_
    · rintro i v σ H7 H8 hi ⟨y7, y8, y9, ws, rfl, s7, hV7, hX17, hX27, pu7, px17, px27, hM7, pw7⟩ ⟨TT, x, y, z, rfl, nT, rfl, hx, hy, hz⟩
      obtain ⟨k, hk, u, rfl, hu⟩ := paired_at pu7 hx
      obtain ⟨fa, hfa, u1, rfl, hu1⟩ := paired_at px17 hy
      obtain ⟨fb, hfb, u2, rfl, hu2⟩ := paired_at px27 hz
      rw [List.getElem?_map, hk] at hfa hfb
      cases hfa
      cases hfb
      have sT := same_upd (o := .tup [.ref u, .ref u1, .ref u2]) nT
      have hT8 : (upd H7 TT (.tup [.ref u, .ref u1, .ref u2])) TT = some (.tup [.ref u, .ref u1, .ref u2]) := upd_same
      generalize upd H7 TT (.tup [.ref u, .ref u1, .ref u2]) = H8 at sT hT8 ⊢
      have hM8 := sT _ _ hM7
      have hu8 := hu.same sT
      have ha8 : Ptp H8 u1 ((l4 (enF n k 0 fs)).map V.int) := hu1.same sT
      have hb8 : Ptp H8 u2 ((l4 (enF m k 0 gs)).map V.int) := hu2.same sT
      have kb : k.natAbs ≤ 2 ^ 89 := by
        have := fok.kb (addF n m fs gs k) (List.mem_map.mpr ⟨k, List.mem_of_getElem? hk, rfl⟩)
        rw [addF_k] at this
        exact this
      have bd := fok.bd (addF n m fs gs k) (List.mem_map.mpr ⟨k, List.mem_of_getElem? hk, rfl⟩)
      have il : ws.length ≤ i := by rw [Paired.length pw7, List.length_map, List.length_take]; omega
      have yl3 := fok.len
      rw [List.length_map] at yl3
      refine ⟨TT, _, rfl, .inl (.inl hT8), rfl, _, _, rfl, _, _, rfl, _, _, rfl, rfl, ?_⟩
      refine ⟨.ref M, rfl, .inl ⟨rfl, _, sql hM8⟩, .ref u, rfl, .ref u1, rfl, .ref u2, rfl, u1, u2, _, _, rfl, .inr ⟨ha8.seq, hb8.seq, fun D nD => ?_⟩⟩
      refine lc_it (walk_zipTg (K := K) (xs := (l4 (enF n k 0 fs)).map V.int) (ys := (l4 (enF m k 0 gs)).map V.int) rfl) (fun j H9 => Same H8 H9 ∧ H9 D = some (.lst (((l4 (addF n m fs gs k)).take j).map V.int))) ⟨same_upd nD, upd_same⟩ (fun j H9 _ h9 => ⟨(ha8.same h9.1).seq, (hb8.same h9.1).seq⟩) (fun j v H9 H10 hj h9 y => ?_) (fun H9 h9 => ?_)
      · obtain ⟨s9, hD9⟩ := h9
        obtain ⟨T2, x1, x2, rfl, nT2, rfl, hx1, hx2⟩ := y
        obtain ⟨i1, hi1, rfl⟩ := map_at hx1
        obtain ⟨i2, hi2, rfl⟩ := map_at hx2
        have h12 := l4_sum hi1 hi2
        have DT : D ≠ T2 := ne_of_none hD9 nT2
        refine ⟨T2, _, rfl, .inl (.inl upd_same), rfl, _, _, rfl, _, _, rfl, rfl, rfl, .int i1, rfl, .int i2, rfl, _, _, rfl, rfl, _, by rw [upd_ne DT]; exact hD9, ?_, Same.put (Same.new s9 nT2) nD, ?_⟩
        · rw [List.length_map, List.length_take, sizeLine_eq]
          show min j 4 < _
          omega
        · rw [upd_same, List.take_add_one, show (l4 (addF n m fs gs k))[j]? = some (i1 + i2) from h12, List.map_append]
          rfl
      · obtain ⟨s9, hD9⟩ := h9
        have hD9 : H9 D = some (.lst ((l4 (addF n m fs gs k)).map V.int)) := hD9
        refine ⟨D, _, rfl, .inr (sql hD9), (by show 5 ≤ sizeLine; decide), fun t o nt ho => ?_⟩
        rw [List.append_nil]
        have sT9 := same_upd (o := .frz o (.tup (.ref u :: (l4 (addF n m fs gs k)).map V.int))) nt
        have hT9 : Ptp (upd H9 t (.frz o (.tup (.ref u :: (l4 (addF n m fs gs k)).map V.int)))) t (.ref u :: (l4 (addF n m fs gs k)).map V.int) := ⟨o, upd_same, ho⟩
        generalize upd H9 t (.frz o (.tup (.ref u :: (l4 (addF n m fs gs k)).map V.int))) = H10 at sT9 hT9 ⊢
        have s810 := s9.trans sT9
        have s710 := sT.trans s810
        have p100 : (2 : Nat) ^ 100 = 1267650600228229401496703205376 := by decide
        have p40 : (2 : Int) ^ 40 = 1099511627776 := by decide
        have dm : DtAt K H10 (.ref t) (mk2 (addF n m fs gs k).m) := by
          obtain ⟨b1, b2, b3, b4, b5, b6, b7⟩ := bd
          have c1 : (addF n m fs gs k).m.w.natAbs ≤ 2 ^ 100 := by omega
          have c2 : (addF n m fs gs k).m.x.natAbs ≤ 2 ^ 100 := by omega
          have c3 : (addF n m fs gs k).m.y.natAbs ≤ 2 ^ 100 := by omega
          have c4 : (addF n m fs gs k).m.z.natAbs ≤ 2 ^ 100 := by omega
          have ef : frD (addF n m fs gs k).m = .tup [.int (frT k scl), .int (frN k scl)] := by
            show Dat.tup [.int (frT (addF n m fs gs k).k scl), .int (frN (addF n m fs gs k).k scl)] = _
            rw [addF_k]
          refine DtAt.mk hT9 (by show 5 ≤ 5000; decide) (.cons ?_ (.cons (.lf ⟨rfl, c1⟩) (.cons (.lf ⟨rfl, c2⟩) (.cons (.lf ⟨rfl, c3⟩) (.cons (.lf ⟨rfl, c4⟩) .nil)))))
          rw [ef]
          exact fr_d ⟨u, rfl, hu8.same s810⟩ kb
        have hM10 := s710 _ _ hM7
        have kp : KpD H10 (upd H10 M (.lst (ws ++ [.ref t]))) := kpD_list hM10
        refine ⟨M, ws, .ref t, rfl, rfl, hM10, by rw [sizeLine_eq]; omega, _, _, _, ws ++ [.ref t], rfl, Same.put (s7.trans s710) nM0, by rw [upd_ne neV]; exact s710 _ _ hV7, by rw [upd_ne neX1]; exact s710 _ _ hX17, by rw [upd_ne neX2]; exact s710 _ _ hX27, paired_imp (fun _ _ h => (h.same s710).keep kp.t) pu7, paired_imp (fun _ _ h => (h.same s710).keep kp) px17, paired_imp (fun _ _ h => (h.same s710).keep kp) px27, upd_same, ?_⟩
        rw [List.take_add_one, hk, List.map_append]
        exact paired_app (paired_imp (fun _ _ h => (h.same s710).keep kp) pw7) (.cons (dm.keep kp) .nil)
    · rintro σ H7 ⟨y7, y8, y9, ws7, rfl, s7, hV7, hX17, hX27, pu7, px17, px27, hM7, pw7⟩
      rw [ul, List.take_length] at pw7
      have n1 := fok.n1
      have p40 : (2 : Int) ^ 40 = 1099511627776 := by decide
      have p41 : (2 : Int) ^ 41 = 2199023255552 := by decide
      refine ⟨.int (room : Int), rfl, .int n, rfl, .ref p', rfl, p', _, _, _, rfl, rfl, (hp'.same s7).seq, atI_nat (j := 1) rfl, _, _, rfl, rfl, .ref M, rfl, room, n + m, M, ws7, ys.map (addF n m fs gs), rfl, hM7, by rw [List.map_map]; exact pw7, fok.len, r64, fok.n0, by omega, fok.up, fun c H8 p8 s8 d8 => ?_, fun g r c ih er H8 p8 s8 d8 => ?_⟩
      · exact q ys _ srt (.inl ⟨c, rfl⟩) H8 p8 (s7.trans s8) d8
      · exact q ys r srt (.inr ⟨c, g, ih, er⟩) H8 p8 (s7.trans s8) d8
end
end Kb

namespace Kb
/-! the pile of a tree, step by step -/
structure Ent where
  n : Int
  fs : List Fd
  ks : List Int
  B : Int
  nm : List Int
def jnN (a b : List Int) : List Int := b.foldl insL a
def putE (room : Nat) (ks : List Int) (r : List Fd) : Ent := ⟨(ks.length : Nat), r, ks, if (unl ks).length ≤ room then 0 else addB (ks.length : Nat) room, unl ks⟩
def pourE (room : Nat) (a b : Ent) (r : List Fd) : Ent := ⟨a.n + b.n, r, a.ks ++ b.ks, a.B + b.B + (if (jnN a.nm b.nm).length ≤ room then 0 else addB (a.n + b.n) room), jnN a.nm b.nm⟩
def StepR (room : Nat) : Stp → List Ent → List Ent → Prop
  | some ks, p, p' => ∃ ys r, Srt ks ys ∧ ThinOut room (ks.length : Nat) (exF ks ys) r ∧ p' = p ++ [putE room ks r]
  | none, p, p' => ∃ q a b ys r, p = q ++ [a, b] ∧ Srt (keysF a.fs b.fs) ys ∧ ThinOut room (a.n + b.n) (ys.map (addF a.n b.n a.fs b.fs)) r ∧ p' = q ++ [pourE room a b r]
def RunR (room : Nat) : List Stp → List Ent → List Ent → Prop
  | [], p, p' => p' = p
  | t :: l, p, p' => ∃ q, StepR room t p q ∧ RunR room l q p'
theorem RunR.snoc {room : Nat} : ∀ {l : List Stp} {t : Stp} {p q p' : List Ent}, RunR room l p q → StepR room t q p' → RunR room (l ++ [t]) p p'
  | [], t, p, q, p', h, h2 => by
    have e : q = p := h
    subst e
    exact ⟨p', h2, rfl⟩
  | u :: l, t, p, q, p', ⟨o, h1, h⟩, h2 => ⟨o, h1, RunR.snoc h h2⟩
theorem RunR.step {room : Nat} {l : List Stp} {i : Nat} {t : Stp} {q p' : List Ent} (ht : l[i]? = some t) (h : RunR room (l.take i) [] q) (h2 : StepR room t q p') : RunR room (l.take (i + 1)) [] p' := by
  rw [List.take_add_one, ht]
  exact h.snoc h2
theorem two_last {α : Type} {q q' : List α} {a b a' b' : α} (h : q ++ [a, b] = q' ++ [a', b']) : q = q' ∧ a = a' ∧ b = b' := by
  have e := List.append_inj' h rfl
  obtain ⟨e1, e2⟩ := e
  cases e2
  exact ⟨e1, rfl, rfl⟩
theorem StepR.one {room : Nat} {t : Stp} {p p1 p2 : List Ent} (h1 : StepR room t p p1) (h2 : StepR room t p p2) : p1 = p2 := by
  cases t with
  | some ks =>
    obtain ⟨ys, r, a1, a2, rfl⟩ := h1
    obtain ⟨ys', r', b1, b2, rfl⟩ := h2
    obtain rfl := srt_one a1 b1
    rw [a2.one b2]
  | none =>
    obtain ⟨q, a, b, ys, r, e, a1, a2, rfl⟩ := h1
    obtain ⟨q', a', b', ys', r', e', b1, b2, rfl⟩ := h2
    obtain ⟨rfl, rfl, rfl⟩ := two_last (e.symm.trans e')
    obtain rfl := srt_one a1 b1
    rw [a2.one b2]
theorem RunR.one {room : Nat} : ∀ {l : List Stp} {p p1 p2 : List Ent}, RunR room l p p1 → RunR room l p p2 → p1 = p2
  | [], p, p1, p2, h1, h2 => by rw [show p1 = p from h1, show p2 = p from h2]
  | t :: l, p, p1, p2, ⟨q1, a1, a2⟩, ⟨q2, b1, b2⟩ => by
    obtain rfl := a1.one b1
    exact a2.one b2
theorem StepR.len {room : Nat} {t : Stp} {p p1 : List Ent} (h1 : StepR room t p p1) : ((p1.length : Nat) : Int) = hS (p.length : Nat) t := by
  cases t with
  | some ks =>
    obtain ⟨ys, r, a1, a2, rfl⟩ := h1
    rw [List.length_append]
    show ((p.length + 1 : Nat) : Int) = (p.length : Nat) + 1
    omega
  | none =>
    obtain ⟨q, a, b, ys, r, rfl, a1, a2, rfl⟩ := h1
    rw [List.length_append, List.length_append]
    show ((q.length + 1 : Nat) : Int) = ((q.length + 2 : Nat) : Int) - 1
    omega
theorem RunR.len {room : Nat} : ∀ {l : List Stp} {p p1 : List Ent}, RunR room l p p1 → ((p1.length : Nat) : Int) = l.foldl hS ((p.length : Nat) : Int)
  | [], p, p1, h => by rw [show p1 = p from h]; rfl
  | t :: l, p, p1, ⟨q, h1, h2⟩ => by
    rw [h2.len, h1.len]
    rfl
theorem split2 {α : Type} : ∀ {p : List α}, 2 ≤ p.length → ∃ q a b, p = q ++ [a, b]
  | [], h => by simp at h
  | [_], h => by simp at h
  | [a, b], _ => ⟨[], a, b, rfl⟩
  | a :: b :: c :: p, _ => by
    obtain ⟨q, x, y, e⟩ := split2 (p := b :: c :: p) (by simp)
    exact ⟨a :: q, x, y, by rw [e]; rfl⟩
theorem one_of {α : Type} {p : List α} (h : p.length = 1) : ∃ a, p = [a] := match p, h with | [a], _ => ⟨a, rfl⟩
structure EntOk (room : Nat) (e : Ent) : Prop where
  n : e.n = (e.ks.length : Nat)
  fok : FsOk e.n e.fs
  hold : ∀ f ∈ e.fs, HoldM e.ks f
  op : opn e.n 0 0 e.fs ≤ e.B
  nk : ∀ f ∈ e.fs, f.k ∈ e.nm
  len : e.fs.length ≤ room
  nmk : ∀ k ∈ e.nm, k ∈ e.ks
  nml : e.nm.length ≤ e.ks.length
theorem thin_len {room : Nat} {n : Int} {fs r : List Fd} (ok : FsOk n fs) (h : ThinOut room n fs r) : r.Sublist fs ∧ r.length ≤ room := h.sub ok.up
theorem jnN_mem : ∀ {b a : List Int} {k : Int}, k ∈ jnN a b ↔ k ∈ a ∨ k ∈ b
  | [], a, k => by
    show k ∈ a ↔ _
    simp
  | c :: b, a, k => by
    show k ∈ jnN (insL a c) b ↔ _
    rw [jnN_mem, mem_insL, List.mem_cons, or_assoc]
theorem jnN_len : ∀ {b a : List Int}, (jnN a b).length ≤ a.length + b.length
  | [], a => Nat.le_refl _
  | c :: b, a => by
    have h1 : (jnN a (c :: b)).length = (jnN (insL a c) b).length := rfl
    have h2 := jnN_len (b := b) (a := insL a c)
    have h3 := insL_len (ds := a) (k := c)
    rw [h1, List.length_cons]
    omega
theorem addB_nn (n : Int) (room : Nat) : 0 ≤ addB n room := (mxI_ge 0 _).1
theorem put_ok {room : Nat} {ks ys : List Int} {r : List Fd} (r1 : 1 ≤ room) (kl : ks.length ≤ 3000) (kb : ∀ k ∈ ks, k.natAbs ≤ 2 ^ 89) (s : Srt ks ys) (h : ThinOut room (ks.length : Nat) (exF ks ys) r) : EntOk room (putE room ks r) := by
  have nd : ys.Nodup := s.up.imp fun {a b} h => by omega
  have yl : ys.length ≤ ks.length := nd_len nd fun k hk => (s.mem k).mp hk
  have fok := exF_ok s kb (by have : (2 : Nat) ^ 30 = 1073741824 := by decide
                              omega) (by omega)
  obtain ⟨sub, rl⟩ := thin_len fok h
  obtain ⟨o1, o2⟩ := thin_open fok r1 h (ex_open s)
  obtain ⟨u1, u2, u3⟩ := unl_all ks
  refine ⟨rfl, fok.sub sub, fun f hf => ?_, ?_, fun f hf => ?_, rl, fun k hk => (u2 k).mp hk, u3⟩
  · obtain ⟨y, hy, rfl⟩ := List.mem_map.mp (sub.subset hf)
    exact hold_ex ks y
  · show opn (ks.length : Nat) 0 0 r ≤ if (unl ks).length ≤ room then 0 else addB (ks.length : Nat) room
    by_cases c : (unl ks).length ≤ room
    · rw [if_pos c]
      refine o1 ?_
      have : ys.length ≤ (unl ks).length := nd_len nd fun k hk => (u2 k).mpr ((s.mem k).mp hk)
      rw [exF_len]
      omega
    · rw [if_neg c]
      omega
  · obtain ⟨y, hy, rfl⟩ := List.mem_map.mp (sub.subset hf)
    exact (u2 y).mpr ((s.mem y).mp hy)
theorem pour_ok {room : Nat} {a b : Ent} {ys : List Int} {r : List Fd} (r1 : 1 ≤ room) (r64 : room ≤ 64) (A : EntOk room a) (B : EntOk room b) (kl : (a.ks ++ b.ks).length ≤ 3000) (s : Srt (keysF a.fs b.fs) ys) (h : ThinOut room (a.n + b.n) (ys.map (addF a.n b.n a.fs b.fs)) r) : EntOk room (pourE room a b r) := by
  have nd : ys.Nodup := s.up.imp fun {a b} h => by omega
  have yl := mapk_len s
  have al := A.len
  have bl := B.len
  have p40 : (2 : Int) ^ 40 = 1099511627776 := by decide
  have an := A.n
  have bn := B.n
  rw [List.length_append] at kl
  have fok := add_ok A.fok B.fok s (by omega) (by omega)
  obtain ⟨sub, rl⟩ := thin_len fok h
  have ao := add_open A.fok B.fok s
  have aop := A.op
  have bop := B.op
  obtain ⟨o1, o2⟩ := thin_open (B := a.B + b.B) fok r1 h (by omega)
  have kin : ∀ y ∈ ys, y ∈ jnN a.nm b.nm := fun y hy => by
    obtain ⟨f, hf, rfl⟩ := List.mem_map.mp ((s.mem y).mp hy)
    rcases List.mem_append.mp hf with h | h
    · exact jnN_mem.mpr (.inl (A.nk f h))
    · exact jnN_mem.mpr (.inr (B.nk f h))
  refine ⟨?_, fok.sub sub, fun f hf => ?_, ?_, fun f hf => ?_, rl, fun k hk => ?_, ?_⟩
  · show a.n + b.n = (((a.ks ++ b.ks).length : Nat) : Int)
    rw [List.length_append]
    omega
  · obtain ⟨y, hy, rfl⟩ := List.mem_map.mp (sub.subset hf)
    rw [an, bn]
    exact add_hold A.hold B.hold y
  · show opn (a.n + b.n) 0 0 r ≤ a.B + b.B + if (jnN a.nm b.nm).length ≤ room then 0 else addB (a.n + b.n) room
    by_cases c : (jnN a.nm b.nm).length ≤ room
    · rw [if_pos c, Int.add_zero]
      refine o1 ?_
      have : ys.length ≤ (jnN a.nm b.nm).length := nd_len nd kin
      rw [List.length_map]
      omega
    · rw [if_neg c]
      exact o2
  · obtain ⟨y, hy, rfl⟩ := List.mem_map.mp (sub.subset hf)
    rw [addF_k]
    exact kin y hy
  · rcases jnN_mem.mp hk with h | h
    · exact List.mem_append_left _ (A.nmk k h)
    · exact List.mem_append_right _ (B.nmk k h)
  · have h1 := jnN_len (b := b.nm) (a := a.nm)
    have h2 := A.nml
    have h3 := B.nml
    show (jnN a.nm b.nm).length ≤ (a.ks ++ b.ks).length
    rw [List.length_append]
    omega
theorem itm_cons (t : Stp) (l : List Stp) : itm (t :: l) = itS t ++ itm l := rfl
theorem run_ok {room : Nat} (r1 : 1 ≤ room) (r64 : room ≤ 64) : ∀ (l : List Stp) (p p' : List Ent), RunR room l p p' → (∀ e ∈ p, EntOk room e) → (p.flatMap Ent.ks ++ itm l).length ≤ 3000 → (∀ k ∈ itm l, k.natAbs ≤ 2 ^ 89) → (∀ e ∈ p', EntOk room e) ∧ p'.flatMap Ent.ks = p.flatMap Ent.ks ++ itm l
  | [], p, p', h, ok, _, _ => by
    have e : p' = p := h
    subst e
    exact ⟨ok, (List.append_nil _).symm⟩
  | t :: l, p, p', ⟨q, h1, h2⟩, ok, kl, kb => by
    have key : (∀ e ∈ q, EntOk room e) ∧ q.flatMap Ent.ks = p.flatMap Ent.ks ++ itS t := by
      rw [itm_cons, List.length_append, List.length_append] at kl
      cases t with
      | some ks =>
        obtain ⟨ys, r, a1, a2, rfl⟩ := h1
        change _ + (ks.length + _) ≤ 3000 at kl
        refine ⟨fun e he => ?_, ?_⟩
        · rcases List.mem_append.mp he with h | h
          · exact ok e h
          · rw [List.mem_singleton.mp h]
            exact put_ok r1 (by omega) (fun k hk => kb k (by rw [itm_cons]; exact List.mem_append_left _ hk)) a1 a2
        · rw [List.flatMap_append]
          show _ ++ (ks ++ []) = _ ++ ks
          rw [List.append_nil]
      | none =>
        obtain ⟨q', a, b, ys, r, rfl, a1, a2, rfl⟩ := h1
        rw [List.flatMap_append, List.length_append] at kl
        have e2 : [a, b].flatMap Ent.ks = a.ks ++ b.ks := by simp
        rw [e2] at kl
        refine ⟨fun e he => ?_, ?_⟩
        · rcases List.mem_append.mp he with h | h
          · exact ok e (List.mem_append_left _ h)
          · rw [List.mem_singleton.mp h]
            exact pour_ok r1 r64 (ok a (by simp)) (ok b (by simp)) (by omega) a1 a2
        · rw [List.flatMap_append, List.flatMap_append, e2]
          show _ ++ ((a.ks ++ b.ks) ++ []) = _ ++ (a.ks ++ b.ks) ++ []
          rw [List.append_nil, List.append_nil]
    obtain ⟨k1, k2⟩ := key
    obtain ⟨m1, m2⟩ := run_ok r1 r64 l q p' h2 k1 (by rw [k2, List.append_assoc, ← itm_cons]; exact kl) fun k hk => kb k (by rw [itm_cons]; exact List.mem_append_right _ hk)
    exact ⟨m1, by rw [m2, k2, List.append_assoc, ← itm_cons]⟩
theorem Tree.run {room : Nat} (r1 : 1 ≤ room) (r64 : room ≤ 64) {l : List Stp} (tr : Tree l) {i : Nat} {p : List Ent} (h : RunR room (l.take i) [] p) : (∀ e ∈ p, EntOk room e) ∧ p.flatMap Ent.ks = itm (l.take i) := by
  have il := itm_take (l := l) (i := i)
  have := tr.few
  obtain ⟨a, b⟩ := run_ok r1 r64 (l.take i) [] p h (fun _ h => nomatch h) (by show (itm (l.take i)).length ≤ _; omega) fun k hk => tr.kb k (by
    obtain ⟨t, ht, hk⟩ := List.mem_flatMap.mp hk
    exact List.mem_flatMap.mpr ⟨t, List.mem_of_mem_take ht, hk⟩)
  exact ⟨a, b⟩
theorem Tree.end_ {room : Nat} (r1 : 1 ≤ room) (r64 : room ≤ 64) {l : List Stp} (tr : Tree l) {p : List Ent} (h : RunR room l [] p) : ∃ e, p = [e] ∧ EntOk room e ∧ e.ks = itm l := by
  have hl := h.len
  have h1 := tr.one
  unfold hgt at h1
  change ((p.length : Nat) : Int) = l.foldl hS 0 at hl
  rw [h1] at hl
  obtain ⟨e, rfl⟩ := one_of (p := p) (by omega)
  rw [← List.take_length (l := l)] at h
  obtain ⟨a, b⟩ := tr.run r1 r64 h
  rw [List.take_length] at b
  refine ⟨e, rfl, a e List.mem_cons_self, ?_⟩
  rw [← b, List.flatMap_cons, List.flatMap_nil, List.append_nil]
theorem Tree.pile {room : Nat} {l : List Stp} (tr : Tree l) {i : Nat} (hi : l[i]? = some none) {p : List Ent} (h : RunR room (l.take i) [] p) : ∃ q a b, p = q ++ [a, b] := by
  have hl := h.len
  have h2 := tr.two i hi
  unfold hgt at h2
  change ((p.length : Nat) : Int) = (l.take i).foldl hS 0 at hl
  exact split2 (by omega)
theorem run_short {room : Nat} : ∀ {l : List Stp} {p p' : List Ent}, RunR room l p p' → p'.length ≤ p.length + l.length
  | [], p, p', h => by rw [show p' = p from h]; omega
  | t :: l, p, p', ⟨q, h1, h2⟩ => by
    have a := run_short h2
    have b := h1.len
    rw [List.length_cons]
    cases t with
    | some ks =>
      change ((q.length : Nat) : Int) = (p.length : Nat) + 1 at b
      omega
    | none =>
      change ((q.length : Nat) : Int) = (p.length : Nat) - 1 at b
      omega
end Kb

/-! enumerate(a tuple) -/
namespace RZ
open PySem PySem.Spec PyProof.Rows L2
set_option maxHeartbeats 1000000 in
theorem meets_enum1 {v : Value} {o : Obj} {H : Heap → Prop} (B : Begins v o H) :
    Meets (Builtin.«enumerate.__new__» ⟨[.type "enumerate", v], []⟩) (fun _ R s => H s.heap ∧
      R (.ok (.ret (.ref (s.heap.push o).objs.size))) { s with heap := (s.heap.push o).push { cls := .type "enumerate", data := .fields #[.none, .bool false, .ref s.heap.objs.size, rawInt 0, .none, .none] } }) :=
  .of_wp fun prog w A R s h => by
    obtain ⟨hp, g, d, tk, os⟩ := s
    obtain ⟨h1, h⟩ := h
    have hsub := sub_enumerate
    have q1 : ∀ {A' : Around} {E : Value → Shared → Prop} {Q : Value → Shared → Prop}, Q (.ref hp.objs.size) ⟨hp.push o, g, d, tk, os⟩ → wpAny (model prog w) A' (pyIter v) Q E ⟨hp, g, d, tk, os⟩ :=
      fun q => B.iter prog w _ _ ⟨hp, g, d, tk, os⟩ _ h1 q
    wp_walk using q1
    refine wpAny_stack_any fun st => wpAny_pure ?_
    split
    · rename_i c _ _ _ _ _
      cases (c == Value.type "enumerate")
      · wp_walk using q1
        exact ⟨_, rfl, h⟩
      · wp_walk using q1
        exact ⟨_, rfl, h⟩
    · wp_walk using q1
      exact ⟨_, rfl, h⟩
theorem enum1_begins {prog : Program} {w : World} {A : Around} {E : Value → Shared → Prop} {s : Shared} {v : Value} {o : Obj} {H : Heap → Prop} {Q : Value → Shared → Prop} (B : Begins v o H) (h1 : H s.heap)
    (h : ∀ h', IsEnum h' (s.heap.objs.size + 1) s.heap.objs.size 0 .none → h'.get? s.heap.objs.size = some o → (∀ b o, s.heap.get? b = some o → h'.get? b = some o) → Q (.ref (s.heap.objs.size + 1)) { s with heap := h' }) :
    wpAny (model prog w) A (call (.type "enumerate") [v]) Q E s := by
  refine callType_new F.called_enumerate (by decide) (F.typeCall_enumerate_1 _) (F.newCall_enumerate_1 _) (fun obj => F.args_object_init_2 obj _) F.entry_enumerate_new (meets_enum1 B) ⟨h1, ?_⟩
  have hz : (s.heap.push o).objs.size = s.heap.objs.size + 1 := Heap.size_push ..
  show _ ∧ _
  rw [hz]
  have he : IsEnum ((s.heap.push o).push { cls := .type "enumerate", data := .fields #[.none, .bool false, .ref s.heap.objs.size, rawInt 0, .none, .none] }) (s.heap.objs.size + 1) s.heap.objs.size 0 .none := by
    have := Heap.get?_push_size (s.heap.push o) (o := { cls := .type "enumerate", data := .fields #[.none, .bool false, .ref s.heap.objs.size, rawInt 0, .none, .none] }) rfl
    rw [hz] at this
    exact this
  exact ⟨⟨_, he, rfl⟩, h _ he (Heap.get?_push_of_some _ (Heap.get?_push_size _ B.free)) fun b o x => Heap.get?_push_of_some _ (Heap.get?_push_of_some _ x)⟩
/-- the tuple at a, each item in a new pair -/
def ItTe (K : PySem.W.Frag) (a : Addr) : It :=
  ⟨fun i H => ∃ (xs : List V) (x : V), SqT K H a xs ∧ xs[i]? = some x, fun i H v H' => ∃ T x, v = .ref T ∧ H T = none ∧ H' = upd H T (.tup [.int (i : Nat), x]) ∧ ∀ xs, SqT K H a xs → xs[i]? = some x, fun i H => ∃ xs : List V, SqT K H a xs ∧ i = xs.length⟩
theorem turn_enumTp {P : Program} {w : World} {K : PySem.W.Frag} {elts : List Expr} {kk : Nat} {tpos : Pos} (a e it : Addr) (na : a ≠ it) (ne : a ≠ e) :
    Turn P w K (.Tuple elts kk tpos) (ItTe K a) [e, it] e (fun i h => (∃ old, IsEnum h e it ((i : Nat) : Int) old) ∧ h.IsTupleIter it a i ∧ e ≠ it) where
  mem := by simp
  obj := fun i h st b hb => by
    obtain ⟨⟨old, he⟩, ⟨o, ho, hc, hd⟩, _⟩ := st
    have e' : b = e ∨ b = it := by simpa using hb
    rcases e' with z | z
    · rw [z]; exact ⟨_, he, fun v q => nomatch q⟩
    · rw [z]; exact ⟨o, ho, fun v q => by rw [hd] at q; cases q⟩
  keep := fun i h h' st k => let ⟨⟨old, he⟩, hi, hne⟩ := st; ⟨⟨old, k e (by simp) _ he⟩, hi.at fun o q => k it (by simp) o q, hne⟩
  item := by
    intro X hP hw hK hc i pins s σ H E I hf st hg
    subst hP hw hK
    obtain ⟨⟨old, he⟩, hit, hne⟩ := st
    obtain ⟨xs, x, hq, hx⟩ := hg
    obtain ⟨its, rv, p, hz⟩ := I.tuple hq
    obtain ⟨u, hu, ru⟩ := rv.get hx
    have hel : e < s.heap.objs.size := Heap.lt_size he
    have hil : it < s.heap.objs.size := by obtain ⟨_, q, _⟩ := hit; exact Heap.lt_size q
    have hh : X.A.in1.handled = none := I.ok.hd hc
    have l1 : i < its.toArray.size := by have := (List.getElem?_eq_some_iff.mp hu).1; simpa using this
    refine wpAny_pyNext_enum_itemD (Draws.tuple hh it a na its.toArray) he ⟨hit, p⟩ l1 hne (by simp only [List.mem_cons, List.not_mem_nil, or_false]; rintro (z | z); exact hne z; exact ne z.symm) fun w1 h' tk y1 ho st' hT hsz hk => ?_
    obtain rfl : w1 = u := by have := y1.symm.trans (show its.toArray[i]? = some u by simpa using hu); cases this; rfl
    refine ⟨_, rfl, wpAny_letOwnedTupleGo_enum (s := { s with heap := h', toks := tk + 1 }) ho fun h'' he' sb => ?_⟩
    have hT2 : h''.get? s.heap.objs.size = some { cls := .type "tuple", data := .seq #[.int i tk, w1] } := (sb.2 _ (Nat.ne_of_gt hel)).trans hT
    have new : ObjOk X.prog X.w (upd H s.heap.objs.size (.tup [.int (i : Nat), x])) h'' s.heap.objs.size (.tup [.int (i : Nat), x]) :=
      ⟨by show 2 ≤ sizeLine; decide, [.int i tk, w1], .cons ⟨_, rfl⟩ (.cons ru .nil), ⟨_, hT2, rfl, _, rfl⟩⟩
    have I1 : Inv X pins σ (upd H s.heap.objs.size (.tup [.int (i : Nat), x])) { s with heap := h'', toks := tk + 1 } :=
      I.turnedNew (ch := [e, it]) (fun b ob hb q => (sb.2 b (fun z => hb (by simp [z]))).trans (hk b ob (fun z => hb (by simp [z])) (fun z => hb (by simp [z])) q)) hf (Nat.le_refl _) new
    refine ⟨.ref s.heap.objs.size, _, I1, rfl, ⟨_, x, rfl, I.hok.fresh (Nat.le_refl _), rfl, fun ys hy => by rw [I.tuple_inj hy hq]; exact hx⟩, ⟨⟨w1, ?_⟩, st'.1.at fun o q => (sb.2 it (Ne.symm hne)).trans q, hne⟩, fun b hb => ?_⟩
    · have e1 : ((i + 1 : Nat) : Int) = (i : Int) + 1 := by omega
      rw [e1]
      exact he'
    · have hb' : b < s.heap.objs.size := by
        have e' : b = e ∨ b = it := by simpa using hb
        rcases e' with z | z
        · rw [z]; exact hel
        · rw [z]; exact hil
      rw [upd_ne (Nat.ne_of_lt hb')]
      exact (hf b hb).1
  done := by
    intro X hP hw hK hc i pins s σ H E I hf st hg
    subst hP hw hK
    obtain ⟨⟨old, he⟩, hit, hne⟩ := st
    obtain ⟨xs, hq, hx⟩ := hg
    obtain ⟨its, rv, p, hz⟩ := I.tuple hq
    obtain ⟨f0, f1, f2, f3, f4, f5⟩ := hf it (by simp)
    have hl := rv.length
    have hh : X.A.in1.handled = none := I.ok.hd hc
    have e1 : i = its.toArray.size := by simp; omega
    exact wpAny_pyNext_enum_endD (Draws.tuple hh it a na its.toArray) he ⟨by rw [← e1]; exact hit, p⟩ fun h' eb => ⟨rfl, I.turned (t' := s.toks) (fun b o hb q => eb b o hb q) f0 f1 f3 f4 f5⟩
  self := fun A i s Q E st h => let ⟨⟨_, he⟩, _⟩ := st; wpAny_pyIter_enum he h
def iEnumTp (K : PySem.W.Frag) (ta : TA) : TI := fun σ H R => ta σ H fun vs H1 => ∃ a xs, vs = [.ref a] ∧ SqT K H1 a xs ∧ R (ItTe K a) H1
theorem pi_enumTp {X : Cx} {e : Expr} {ta : TA} {p pos tpos : Pos} {elts : List Expr} {kk : Nat} (hg : Gl X "enumerate") (hm : X.mg "enumerate" = none) (ha : PA X [e] ta) (hs : starEach [e] X.env = [(false, eval e X.env)] := by rfl) :
    PI X (.Tuple elts kk tpos) (.Call (.Name "enumerate" p) [e] [] pos) (iEnumTp X.K ta) := by
  refine ⟨fun pins s σ H R I h => ?_⟩
  refine Call_ (ld_blt I hg hm boot_enumerate (PyProof.Rows.callWith_type1 (thn (ha.run pos pins s σ H _ I h) fun us s1 ⟨vs, H1, I1, r1, q1⟩ => ?_) hs rfl))
  obtain ⟨a, xs, ex, hq, q⟩ := q1
  subst ex
  cases r1 with
  | cons r rr =>
    cases rr
    cases r
    obtain ⟨its, rv, p', hz⟩ := I1.tuple hq
    have p' : s1.heap.IsTuple a its.toArray := p'
    obtain ⟨oa, hoa, _⟩ := id p'
    have la : @LT.lt Nat _ a s1.heap.objs.size := Heap.lt_size hoa
    refine enum1_begins (begins_tuple a its.toArray) p' fun h' he hit hk => wpAny_pyIter_enum he ?_
    have I2 : Inv X pins σ H1 { s1 with heap := h' } := I1.kept (t' := s1.toks) hk
    refine ⟨s1.heap.objs.size + 1, [s1.heap.objs.size + 1, s1.heap.objs.size], _, _, H1, rfl, I2, turn_enumTp a (s1.heap.objs.size + 1) s1.heap.objs.size (Nat.ne_of_lt la) (Nat.ne_of_lt (Nat.lt_succ_of_lt la)), ⟨⟨.none, he⟩, ⟨_, hit, rfl, rfl⟩, Nat.succ_ne_self _⟩, fun b hb => ?_, q⟩
    have e' : b = s1.heap.objs.size + 1 ∨ b = s1.heap.objs.size := by simpa using hb
    have hle : s1.heap.objs.size ≤ b := by
      rcases e' with z | z
      · rw [z]; exact Nat.le_add_right _ _
      · rw [z]; exact Nat.le_refl _
    exact I1.fpOk hle (I1.hok.fresh hle)
theorem walk_enumTp {K : PySem.W.Frag} {a : Addr} {xs : List V} : Walk (ItTe K a) xs.length (fun H => SqT K H a xs) (YPair (fun i => some (.int (i : Nat))) (fun i => xs[i]?)) := by
  refine ⟨fun i _ hi q => ⟨xs, xs[i], q, by simp [hi]⟩, fun _ q => ⟨xs, q, rfl⟩, fun i H v H' _ q y => ?_⟩
  obtain ⟨T, x, h1, h2, h3, h4⟩ := y
  exact ⟨T, .int (i : Nat), x, h1, h2, h3, rfl, h4 xs q⟩
end RZ

namespace Kb
open PySem PySem.Spec PyProof.Rows L2 RZ
abbrev sP_nodes_of : Stmt := topS 39
abbrev NP_nodes_of : List Str := ["room", "tree", "nodes", "pile", "at", "step", "above", "under"]
theorem scP_nodes_of : FnScope ["room", "tree", "nodes", "pile", "at", "step", "above", "under"] ["room", "tree"] (defScope sP_nodes_of) := ⟨rfl, rfl, rfl, by decide +kernel, rfl, by decide +kernel, by decide +kernel⟩
abbrev DnNodesOf (K : PySem.W.Frag) (mg : Str → Option Value) := Dn K mg "nodes_of" sP_nodes_of ["room", "tree"]
abbrev sP_ranks_tree : Stmt := topS 40
abbrev NP_ranks_tree : List Str := ["room", "tree"]
theorem scP_ranks_tree : FnScope ["room", "tree"] ["room", "tree"] (defScope sP_ranks_tree) := ⟨rfl, rfl, rfl, by decide +kernel, rfl, by decide +kernel, by decide +kernel⟩
abbrev DnRanksTree (K : PySem.W.Frag) (mg : Str → Option Value) := Dn K mg "ranks_tree" sP_ranks_tree ["room", "tree"]
abbrev sP_openness : Stmt := topS 42
theorem scP_openness : FnScope ["ranks", "_", "many", "marks", "lows", "highs", "mark", "low", "high"] ["ranks"] (defScope sP_openness) := ⟨rfl, rfl, rfl, by decide +kernel, rfl, by decide +kernel, by decide +kernel⟩
abbrev DnOpenness (K : PySem.W.Frag) (mg : Str → Option Value) := Dn K mg "openness" sP_openness ["ranks"]
theorem paired_two {α β : Type} {F : α → β → Prop} : ∀ {xs : List α} {ys zs : List β}, Paired F xs (ys ++ zs) → ∃ as bs, xs = as ++ bs ∧ Paired F as ys ∧ Paired F bs zs
  | xs, [], zs, h => ⟨[], xs, rfl, .nil, h⟩
  | _, y :: ys, zs, .cons r t => by
    obtain ⟨as, bs, rfl, h1, h2⟩ := paired_two t
    exact ⟨_ :: as, bs, rfl, .cons r h1, h2⟩
def iV (j : Nat) : V := .int (j : Int)
def NdAt (K : PySem.W.Frag) (H : Hp) (ns : List V) (room : Nat) (j : Nat) (e : Ent) : Prop := ∃ t v c, ns[j]? = some (.ref t) ∧ Ptp H t [v, c] ∧ DtAt K H v (rk2 (room : Int) e.n (e.fs.map Fd.m))
theorem NdAt.keep {K : PySem.W.Frag} {H H' : Hp} {ns : List V} {room j : Nat} {e : Ent} (h : NdAt K H ns room j e) (k : KpD H H') : NdAt K H' ns room j e := let ⟨t, v, c, a, b, d⟩ := h; ⟨t, v, c, a, k.t _ _ b, d.keep k⟩
theorem NdAt.more {K : PySem.W.Frag} {H : Hp} {ns : List V} {room j : Nat} {e : Ent} (h : NdAt K H ns room j e) (x : V) : NdAt K H (ns ++ [x]) room j e := let ⟨t, v, c, a, b, d⟩ := h; ⟨t, v, c, by rw [List.getElem?_append_left (List.getElem?_eq_some_iff.mp a).1]; exact a, b, d⟩
section
variable {P : Program} {w : World} {K : PySem.W.Frag} {mg : Str → Option Value} {base : Heap}
def spNodesOf (K : PySem.W.Frag) : Sp := fun vs H Q _ => ∃ (room : Nat) (a : Addr) (l : List Stp), vs = [.int (room : Int), .ref a] ∧ TreeAt H a l ∧ Tree l ∧ 1 ≤ room ∧ room ≤ 64 ∧
  ∀ e, RunR room l [] [e] → ∀ H' p ns t v c, Same H H' → H' p = some (.lst ns) → 0 < ns.length → ns[ns.length - 1]? = some (.ref t) → Ptp H' t [v, c] → DtAt K H' v (rk2 (room : Int) e.n (e.fs.map Fd.m)) → Q (.ref p) H'
theorem ok_nodes_of (T : Blt mg) (dP_ascending : DnAscending K mg) (dP_chosen : DnChosen K mg) (dP_thin : DnThin K mg) (dP__ranks_of : Dn_RanksOf K mg) (dP_bounds_at : DnBoundsAt K mg) (dP_pour : DnPour K mg) (d : DnNodesOf K mg) : FnOk P w K mg base CX0 4 d.f d.fd ["room", "tree"] (spNodesOf K) := by
  have GP__ranks_of : FnOk P w K mg base CX0 3 dP__ranks_of.f dP__ranks_of.fd ["room", "numbers"] (spRanksOf K) := ok__ranks_of T dP_ascending dP_chosen dP_thin dP__ranks_of
  have GP_pour : FnOk P w K mg base CX0 3 dP_pour.f dP_pour.fd ["one", "other"] (spPour K) := ok_pour T dP_ascending dP_chosen dP_thin dP_bounds_at dP_pour
  refine d.F.ok scP_nodes_of (fun vs H Q E h => ?_) (fun cdv A outer s H vs Q E hr h => ?_)
  · obtain ⟨room, a, l, rfl, _⟩ := h
    rfl
  · obtain ⟨room, a, l, rfl, ⟨vs, hS, hp⟩, tr, r1, r64, q⟩ := h
    refine ⟨_, (pss_cons (ps_set (i := 2) scP_nodes_of.nd rfl (Or.inl rfl) (pe_lst pa_nil))
    (pss_cons (ps_set (i := 3) scP_nodes_of.nd rfl (Or.inl rfl) (pe_lst pa_nil))
    (pss_cons (ps_for PassesOwn.never rfl (pi_enumTp (by rfl) T.n_enumerate (pa_cons (pv 1) pa_nil)) (pg_tup (by rfl) (pgs_cons (pg_name (i := 4) scP_nodes_of.nd rfl (Or.inl rfl)) (pgs_cons (pg_name (i := 5) scP_nodes_of.nd rfl (Or.inl rfl)) pgs_nil)))
      (C8.pss_cut (ps_if (pt_cmpR op_eq (pe_ix ix_tup (pv 5) pe_int (fun _ _ => rfl)) pe_str (nomark _))
        (pss_one (ps_expr (pe_bm PySem.F.plainAttrs_list PySem.F.slot_list_append PySem.F.type_list_append mt_append (pv 2) (pa_cons (pe_tupF (pa_cons (pe_call GP__ranks_of (hr.mono (by omega)) (by rfl) dP__ranks_of.g dP__ranks_of.F.kp dP__ranks_of.b .nil pass0 (pa_cons (pv 0) (pa_cons (pe_ix ix_tup (pv 5) pe_int (fun _ _ => rfl)) pa_nil))) (pa_cons (pe_tupF pa_nil) pa_nil))) pa_nil))))
        (pss_cons (ps_set (i := 6) scP_nodes_of.nd rfl (Or.inl rfl) (pe_bm0 PySem.F.plainAttrs_list PySem.F.slot_list_pop PySem.F.type_list_pop mt_pop (pv 3)))
        (pss_cons (ps_set (i := 7) scP_nodes_of.nd rfl (Or.inl rfl) (pe_bm0 PySem.F.plainAttrs_list PySem.F.slot_list_pop PySem.F.type_list_pop mt_pop (pv 3)))
        (pss_one (ps_expr (pe_bm PySem.F.plainAttrs_list PySem.F.slot_list_append PySem.F.type_list_append mt_append (pv 2) (pa_cons (pe_tupF (pa_cons (pe_call GP_pour (hr.mono (by omega)) (by rfl) dP_pour.g dP_pour.F.kp dP_pour.b .nil pass0 (pa_cons (pe_ix ix_tup (pe_ix ix_list (pv 2) (pv 7) (fun _ _ => rfl)) pe_int (fun _ _ => rfl)) (pa_cons (pe_ix ix_tup (pe_ix ix_list (pv 2) (pv 6) (fun _ _ => rfl)) pe_int (fun _ _ => rfl)) pa_nil))) (pa_cons (pe_tupF (pa_cons (pv 7) (pa_cons (pv 6) pa_nil))) pa_nil))) pa_nil)))))))
      (pss_one (ps_expr (pe_bm PySem.F.plainAttrs_list PySem.F.slot_list_append PySem.F.type_list_append mt_append (pv 3) (pa_cons (pv 4) pa_nil))))))
    (pss_one (ps_ret (pv 2)))))), ?_⟩
    have hl : vs.length = l.length := Paired.length hp
    have ll := tr.len
    refine ⟨(by show 0 ≤ sizeLine; decide), fun N nN => ?_⟩
    have s1 := same_upd (o := .lst []) nN
    have hN1 : (upd H N (.lst [])) N = some (.lst []) := upd_same
    generalize upd H N (.lst []) = H1 at s1 hN1 ⊢
    refine ⟨(by show 0 ≤ sizeLine; decide), fun L nL => ?_⟩
    have s2 := same_upd (o := .lst []) nL
    have hL2 : (upd H1 L (.lst [])) L = some (.lst []) := upd_same
    have nL0 := same_gone s1 nL
    have hN2 := s2 _ _ hN1
    have neNL : N ≠ L := fun e => by rw [e, nL] at hN1; cases hN1
    have s02 := s1.trans s2
    generalize upd H1 L (.lst []) = H2 at s02 hL2 hN2 ⊢
    refine ⟨.ref a, rfl, a, _, rfl, (hS.same s02).seq, ?_⟩
    refine for_it (walk_enumTp (K := K) (xs := vs)) (fun i σ H3 => ∃ (y4 y5 y6 y7 : Option V) (ns : List V) (ix : List Nat) (p : List Ent), σ = [some (.int (room : Int)), some (.ref a), some (.ref N), some (.ref L), y4, y5, y6, y7] ∧ Same H H3 ∧ H3 N = some (.lst ns) ∧ H3 L = some (.lst (ix.map iV)) ∧ ns.length = i ∧ RunR room (l.take i) [] p ∧ Paired (NdAt K H3 ns room) ix p ∧ (∀ j, i = j + 1 → ∃ ix0, ix = ix0 ++ [j]))
      ⟨none, none, none, none, [], [], [], rfl, s02, hN2, hL2, rfl, rfl, .nil, fun _ h => by omega⟩ (fun i σ H3 _ ⟨_, _, _, _, _, _, _, _, s, _⟩ => (hS.same s).seq) ?_ ?_
    · rintro i v σ H3 H4 hi ⟨y4, y5, y6, y7, ns, ix, p, rfl, s3, hN3, hL3, nl, run, pn, lst⟩ ⟨TT, x1, x2, rfl, nT, rfl, hx1, hx2⟩
      cases hx1
      obtain ⟨t, ht, hat⟩ := paired_at hp hx2
      have sT := same_upd (o := .tup [.int (i : Nat), x2]) nT
      have hT4 : (upd H3 TT (.tup [.int (i : Nat), x2])) TT = some (.tup [.int (i : Nat), x2]) := upd_same
      generalize upd H3 TT (.tup [.int (i : Nat), x2]) = H4 at sT hT4 ⊢
      have s4 := s3.trans sT
      have hN4 := sT _ _ hN3
      have hL4 := sT _ _ hL3
      have pn4 : Paired (NdAt K H4 ns room) ix p := paired_imp (fun _ _ h => h.keep (kpD_same sT)) pn
      have hat4 := hat.same s4
      refine ⟨TT, _, rfl, .inl (.inl hT4), rfl, _, _, rfl, _, _, rfl, rfl, ?_⟩
      refine ⟨fun σ H5 => ∃ (y6 y7 : Option V) (x : V) (ix' : List Nat) (q' : List Ent) (e : Ent), σ = [some (.int (room : Int)), some (.ref a), some (.ref N), some (.ref L), some (.int (i : Nat)), some x2, y6, y7] ∧ Same H H5 ∧ H5 N = some (.lst (ns ++ [x])) ∧ H5 L = some (.lst (ix'.map iV)) ∧ Paired (NdAt K H5 (ns ++ [x]) room) ix' q' ∧ NdAt K H5 (ns ++ [x]) room i e ∧ RunR room (l.take (i + 1)) [] (q' ++ [e]), ?_, ?_⟩
      · cases t with
        | some ks =>
          obtain ⟨b, c, us, rfl, hb, hc, pc⟩ := hat4
          have kl : us.length = ks.length := Paired.length pc
          have := itm_len ht
          have := tr.few
          refine ⟨.ref b, rfl, b, _, _, _, rfl, rfl, hb.seq, atI_nat (j := 0) rfl, rfl, true, congrArg V.bl (decide_eq_true rfl), iteT ?_⟩
          refine ⟨.ref N, rfl, .inl ⟨rfl, _, sql hN4⟩, .int (room : Int), rfl, .ref b, rfl, b, _, _, _, rfl, rfl, hb.seq, atI_nat (j := 1) rfl, room, c, us, ks, rfl, hc, pc, by omega, fun k hk => tr.kb k (itm_at ht k hk), r1, r64, fun ys r srt thin H5 p5 s5 d5 => ?_⟩
          refine ⟨(by show 0 ≤ sizeLine; decide), fun t0 o0 nt0 ho0 => ?_⟩
          have s6 := same_upd (o := .frz o0 (.tup [])) nt0
          generalize upd H5 t0 (.frz o0 (.tup [])) = H6 at s6 ⊢
          refine ⟨(by show 2 ≤ sizeLine; decide), fun t1 o1 nt1 ho1 => ?_⟩
          have s7 := same_upd (o := .frz o1 (.tup [.ref p5, .ref t0])) nt1
          have h7 : Ptp (upd H6 t1 (.frz o1 (.tup [.ref p5, .ref t0]))) t1 [.ref p5, .ref t0] := ⟨o1, upd_same, ho1⟩
          generalize upd H6 t1 (.frz o1 (.tup [.ref p5, .ref t0])) = H7 at s7 h7 ⊢
          have s47 := (s5.trans s6).trans s7
          have hN7 := s47 _ _ hN4
          have hL7 := s47 _ _ hL4
          have kp : KpD H7 (upd H7 N (.lst (ns ++ [.ref t1]))) := kpD_list hN7
          refine ⟨N, ns, .ref t1, rfl, rfl, hN7, by rw [sizeLine_eq]; omega, _, _, .ref t1, ix, p, putE room ks r, rfl, Same.put (s4.trans s47) nN, upd_same, by rw [upd_ne neNL.symm]; exact hL7, paired_imp (fun _ _ h => (h.more _).keep ((kpD_same s47).trans kp)) pn4, ⟨t1, .ref p5, .ref t0, by rw [List.getElem?_append_right (by omega), nl, Nat.sub_self]; rfl, kp.t _ _ h7, (d5.same (s6.trans s7)).keep kp⟩, run.step ht ⟨ys, r, srt, thin, rfl⟩⟩
        | none =>
          obtain ⟨b, rfl, hb⟩ := hat4
          refine ⟨.ref b, rfl, b, _, _, _, rfl, rfl, hb.seq, atI_nat (j := 0) rfl, rfl, false, congrArg V.bl (decide_eq_false pour_ne), iteF ?_⟩
          obtain ⟨q', ea, eb, rfl⟩ := tr.pile ht run
          obtain ⟨oks, _⟩ := tr.run r1 r64 run
          have A := oks ea (by simp)
          have B := oks eb (by simp)
          obtain ⟨iq, iab, rfl, pq, pab⟩ := paired_two pn4
          obtain ⟨ja, jb, rfl⟩ := two (show iab.length = 2 from Paired.length pab)
          obtain ⟨na, nb⟩ := paired2 pab
          have e1 : (iq ++ [ja, jb]).map iV = (iq.map iV ++ [iV ja]) ++ [iV jb] := by rw [List.map_append, List.append_assoc]; rfl
          rw [e1] at hL4
          refine ⟨.ref L, rfl, .inl ⟨rfl, _, sql hL4⟩, L, _, iV jb, rfl, rfl, hL4, by simp, ?_⟩
          rw [List.dropLast_concat]
          have hL5 : (upd H4 L (.lst (iq.map iV ++ [iV ja]))) L = some (.lst (iq.map iV ++ [iV ja])) := upd_same
          have k5 : KpD H4 (upd H4 L (.lst (iq.map iV ++ [iV ja]))) := kpD_list hL4
          have s5 : Same H (upd H4 L (.lst (iq.map iV ++ [iV ja]))) := Same.put s4 nL0
          have hN5 : (upd H4 L (.lst (iq.map iV ++ [iV ja]))) N = some (.lst ns) := by rw [upd_ne neNL]; exact hN4
          generalize upd H4 L (.lst (iq.map iV ++ [iV ja])) = H5 at hL5 k5 s5 hN5 ⊢
          refine ⟨.ref L, rfl, .inl ⟨rfl, _, sql hL5⟩, L, _, iV ja, rfl, rfl, hL5, by simp, ?_⟩
          rw [List.dropLast_concat]
          have hL6 : (upd H5 L (.lst (iq.map iV))) L = some (.lst (iq.map iV)) := upd_same
          have k6 : KpD H5 (upd H5 L (.lst (iq.map iV))) := kpD_list hL5
          have s6 : Same H (upd H5 L (.lst (iq.map iV))) := Same.put s5 nL0
          have hN6 : (upd H5 L (.lst (iq.map iV))) N = some (.lst ns) := by rw [upd_ne neNL]; exact hN5
          have k46 := k5.trans k6
          generalize upd H5 L (.lst (iq.map iV)) = H6 at hL6 k6 s6 hN6 k46 ⊢
          obtain ⟨ta, va, ca, a1, a2, a3⟩ := na.keep k46
          obtain ⟨tb, vb, cb, b1, b2, b3⟩ := nb.keep k46
          have an := A.n
          have bn := B.n
          have al := A.len
          have bl := B.len
          have p40 : (2 : Int) ^ 40 = 1099511627776 := by decide
          have nm : ea.n + eb.n ≤ 2 ^ 40 := by
            have h1 := A.fok.n1
            obtain ⟨oks, fl⟩ := tr.run r1 r64 run
            have h2 : (ea.ks ++ eb.ks).length ≤ (itm (l.take i)).length := by
              rw [← fl, List.flatMap_append, List.length_append]
              simp
            have h3 := itm_take (l := l) (i := i)
            have h4 := tr.few
            rw [List.length_append] at h2
            omega
          refine ⟨.ref N, rfl, .inl ⟨rfl, _, sql hN6⟩, .ref N, rfl, iV ja, rfl, N, ns, _, _, rfl, rfl, sql hN6, atI_nat (j := ja) a1, ta, _, _, _, rfl, rfl, a2.seq, atI_nat (j := 0) rfl, .ref N, rfl, iV jb, rfl, N, ns, _, _, rfl, rfl, sql hN6, atI_nat (j := jb) b1, tb, _, _, _, rfl, rfl, b2.seq, atI_nat (j := 0) rfl, va, vb, room, _, _, _, _, _, rfl, a3, b3, A.fok, B.fok, nm, by omega, by omega, r1, r64, fun ys r srt thin H7 p7 s7 d7 => ?_⟩
          refine ⟨iV ja, rfl, iV jb, rfl, (by show 2 ≤ sizeLine; decide), fun t0 o0 nt0 ho0 => ?_⟩
          have s8 := same_upd (o := .frz o0 (.tup [iV ja, iV jb])) nt0
          generalize upd H7 t0 (.frz o0 (.tup [iV ja, iV jb])) = H8 at s8 ⊢
          refine ⟨(by show 2 ≤ sizeLine; decide), fun t1 o1 nt1 ho1 => ?_⟩
          have s9 := same_upd (o := .frz o1 (.tup [.ref p7, .ref t0])) nt1
          have h9 : Ptp (upd H8 t1 (.frz o1 (.tup [.ref p7, .ref t0]))) t1 [.ref p7, .ref t0] := ⟨o1, upd_same, ho1⟩
          generalize upd H8 t1 (.frz o1 (.tup [.ref p7, .ref t0])) = H9 at s9 h9 ⊢
          have s69 := (s7.trans s8).trans s9
          have hN9 := s69 _ _ hN6
          have hL9 := s69 _ _ hL6
          have kp : KpD H9 (upd H9 N (.lst (ns ++ [.ref t1]))) := kpD_list hN9
          refine ⟨N, ns, .ref t1, rfl, rfl, hN9, by rw [sizeLine_eq]; omega, _, _, .ref t1, iq, q', pourE room ea eb r, rfl, Same.put (s6.trans s69) nN, upd_same, by rw [upd_ne neNL.symm]; exact hL9, paired_imp (fun _ _ h => (h.more _).keep (k46.trans ((kpD_same s69).trans kp))) pq, ⟨t1, .ref p7, .ref t0, by rw [List.getElem?_append_right (by omega), nl, Nat.sub_self]; rfl, kp.t _ _ h9, (d7.same (s8.trans s9)).keep kp⟩, run.step ht ⟨q', ea, eb, ys, r, rfl, srt, thin, rfl⟩⟩
      · rintro σ H5 ⟨y6, y7, x, ix', q', e, rfl, s5, hN5, hL5, pq, ne, run'⟩
        have xl : ix'.length ≤ 3000 := by
          have h1 := run_short run'
          have h2 := Paired.length pq
          rw [List.length_append, List.length_take] at h1
          change q'.length + 1 ≤ 0 + _ at h1
          omega
        have kp : KpD H5 (upd H5 L (.lst (ix'.map iV ++ [.int (i : Nat)]))) := kpD_list hL5
        refine ⟨.ref L, rfl, .inl ⟨rfl, _, sql hL5⟩, .int (i : Nat), rfl, L, _, _, rfl, rfl, hL5, by rw [sizeLine_eq, List.length_map]; omega, _, _, _, _, ns ++ [x], ix' ++ [i], q' ++ [e], rfl, Same.put s5 nL0, by rw [upd_ne neNL]; exact hN5, by rw [upd_same, List.map_append]; rfl, by rw [List.length_append, nl]; rfl, run', paired_app (paired_imp (fun _ _ h => h.keep kp) pq) (.cons (ne.keep kp) .nil), fun j hj => ⟨ix', by cases hj; rfl⟩⟩
    · rintro σ H3 ⟨y4, y5, y6, y7, ns, ix, p, rfl, s3, hN3, hL3, nl, run, pn, lst⟩
      rw [hl, List.take_length] at run
      obtain ⟨e, rfl, eok, _⟩ := tr.end_ r1 r64 run
      have l0 : l.length ≠ 0 := fun z => by
        have h1 := tr.one
        rw [List.eq_nil_of_length_eq_zero z] at h1
        exact absurd h1 (by decide)
      obtain ⟨ix0, rfl⟩ := lst (vs.length - 1) (by omega)
      have z0 : ix0.length = 0 := by
        have := Paired.length pn
        rw [List.length_append] at this
        change ix0.length + 1 = 0 + 1 at this
        omega
      obtain rfl := List.eq_nil_of_length_eq_zero z0
      cases pn with
      | cons nd _ =>
        obtain ⟨t, v, c, n1, n2, n3⟩ := nd
        exact ⟨.ref N, rfl, q e run H3 N ns t v c s3 hN3 (by omega) (by rw [nl]; exact n1) n2 n3⟩
def spRanksTree (K : PySem.W.Frag) : Sp := fun vs H Q _ => ∃ (room : Nat) (a : Addr) (l : List Stp), vs = [.int (room : Int), .ref a] ∧ TreeAt H a l ∧ Tree l ∧ 1 ≤ room ∧ room ≤ 64 ∧
  ∀ e, RunR room l [] [e] → ∀ H' v, Same H H' → DtAt K H' v (rk2 (room : Int) e.n (e.fs.map Fd.m)) → Q v H'
theorem ok_ranks_tree (T : Blt mg) (gG : mg "gcd" = some (.builtin "math.gcd")) (cM : Cst mg "MOST_ROOM" (.int 64)) (cS' : Cst mg "MOST_STEPS" (.int 5000)) (cI : Cst mg "MOST_ITEMS" (.int 50000)) (dP_is_int : DnIsInt K mg) (dP_is_room : DnIsRoom K mg) (dP_is_fraction : DnIsFraction K mg) (dP_are_numbers : DnAreNumbers K mg) (dP_is_put : DnIsPut K mg) (dP_is_pour : DnIsPour K mg) (dP_is_tree_of : DnIsTreeOf K mg) (dP_is_number_tree : DnIsNumberTree K mg) (dP_ascending : DnAscending K mg) (dP_chosen : DnChosen K mg) (dP_thin : DnThin K mg) (dP__ranks_of : Dn_RanksOf K mg) (dP_bounds_at : DnBoundsAt K mg) (dP_pour : DnPour K mg) (dP_nodes_of : DnNodesOf K mg) (d : DnRanksTree K mg) : FnOk P w K mg base CX0 6 d.f d.fd ["room", "tree"] (spRanksTree K) := by
  have GP_is_room : FnOk P w K mg base CX0 2 dP_is_room.f dP_is_room.fd ["thing"] (spIsRoomD K) := ok_is_roomD T cM dP_is_int dP_is_room
  have GP_is_number_tree : FnOk P w K mg base CX0 5 dP_is_number_tree.f dP_is_number_tree.fd ["thing"] spIsNumberTree := ok_is_number_tree T gG cS' cI dP_is_int dP_is_fraction dP_are_numbers dP_is_put dP_is_pour dP_is_tree_of dP_is_number_tree
  have GP_nodes_of : FnOk P w K mg base CX0 4 dP_nodes_of.f dP_nodes_of.fd ["room", "tree"] (spNodesOf K) := ok_nodes_of T dP_ascending dP_chosen dP_thin dP__ranks_of dP_bounds_at dP_pour dP_nodes_of
  refine d.F.ok scP_ranks_tree (fun vs H Q E h => ?_) (fun cdv A outer s H vs Q E hr h => ?_)
  · obtain ⟨room, a, l, rfl, _⟩ := h
    rfl
  · obtain ⟨room, a, l, rfl, hT, tr, r1, r64, q⟩ := h
    refine ⟨_, (pss_cons (ps_if (pt_not (pt_val (pe_call GP_is_room (hr.mono (by omega)) (by rfl) dP_is_room.g dP_is_room.F.kp dP_is_room.b .nil pass0 (pa_cons (pv 0) pa_nil))))
      (pss_one ps_never)
      pss_nil)
    (pss_cons (ps_if (pt_not (pt_val (pe_call GP_is_number_tree (hr.mono (by omega)) (by rfl) dP_is_number_tree.g dP_is_number_tree.F.kp dP_is_number_tree.b .nil pass0 (pa_cons (pv 1) pa_nil))))
      (pss_one ps_never)
      pss_nil)
    (pss_one (ps_ret (pe_ix ix_tup (pe_ix ix_list (pe_call GP_nodes_of (hr.mono (by omega)) (by rfl) dP_nodes_of.g dP_nodes_of.F.kp dP_nodes_of.b .nil pass0 (pa_cons (pv 0) (pa_cons (pv 1) pa_nil))) (pe_un un_neg pe_int) (fun _ _ => rfl)) pe_int (fun _ _ => rfl)))))), ?_⟩
    have rb : isRB (intD (.int (room : Int))) = true := by
      show (decide (1 ≤ (room : Int)) && decide ((room : Int) ≤ 64)) = true
      rw [decide_eq_true (by omega), decide_eq_true (by omega)]
      rfl
    have p100 : (2 : Nat) ^ 100 = 1267650600228229401496703205376 := by decide
    have rsz : (room : Int).natAbs ≤ 2 ^ 100 := by omega
    refine ⟨.int (room : Int), rfl, _, .int (room : Int), rfl, .lf ⟨rfl, rsz⟩, true, congrArg V.bl rb, iteF ?_⟩
    refine ⟨.ref a, rfl, a, l, rfl, hT, tr, fun H1 s1 => ⟨true, rfl, iteF ?_⟩⟩
    refine ⟨.int (room : Int), rfl, .ref a, rfl, room, a, l, rfl, hT.same s1, tr, r1, r64, fun e run H2 p ns t v c s2 hp n0 hn ht hd => ?_⟩
    refine ⟨_, rfl, p, ns, _, _, rfl, rfl, sql hp, atI_end hn, t, _, _, _, rfl, rfl, ht.seq, atI_nat (j := 0) rfl, ?_⟩
    exact q e run H2 v (s1.trans s2) hd
/-! openness -/
theorem ok_openness (T : Blt mg) (gG : mg "gcd" = some (.builtin "math.gcd")) (EK : TxE K mg "NoRanks") (cM : Cst mg "MOST_ROOM" (.int 64)) (dP_is_int : DnIsInt K mg) (dP_is_number : DnIsNumber K mg) (dP_is_room : DnIsRoom K mg) (dP_is_fraction : DnIsFraction K mg) (dP_is_less : DnIsLess K mg) (dP_is_mark : DnIsMark K mg) (dP_may_follow : DnMayFollow K mg) (dP_are_marks : DnAreMarks K mg) (dP_is_ranks : DnIsRanks K mg) (d : DnOpenness K mg) :
    FnOk P w K mg base (L2.CX P w) 6 d.f d.fd ["ranks"] (spOpenness K EK.C) := by
  have GP_is_ranks : FnOk P w K mg base CX0 5 dP_is_ranks.f dP_is_ranks.fd ["thing"] (spIsRanks K) := ok_is_ranks T gG cM dP_is_int dP_is_number dP_is_room dP_is_fraction dP_is_less dP_is_mark dP_may_follow dP_are_marks dP_is_ranks
  refine d.F.okX scP_openness (fun vs H Q E h => ?_) (fun cdv A outer s H vs Q E hr h => ?_)
  · obtain ⟨v, dd, rfl, _⟩ := h
    rfl
  · obtain ⟨v, dd, rfl, hv, q1, q2⟩ := h
    refine ⟨_, (pss_cons (ps_if (pt_not (pt_val (pe_call GP_is_ranks (hr.mono (by omega)) (by rfl) dP_is_ranks.g dP_is_ranks.F.kp dP_is_ranks.b .nil pass0 (pa_cons (pv 0) pa_nil))))
      (pss_one (ps_raise rfl (takes_of rfl rfl rfl rfl) (pmk_bare PySem.F.excBase_ValueError EK.exc EK.gC EK.kp (raises_own EK.sub EK.ty) rfl)))
      pss_nil)
    (pss_cons (ps_asg (pv 0) (pg_tup (by rfl) (pgs_cons (pg_name (i := 1) scP_openness.nd rfl (Or.inl rfl)) (pgs_cons (pg_name (i := 2) scP_openness.nd rfl (Or.inl rfl)) (pgs_cons (pg_name (i := 3) scP_openness.nd rfl (Or.inl rfl)) pgs_nil)))))
    (pss_cons (ps_set (i := 4) scP_openness.nd rfl (Or.inl rfl) (pe_op op_cat (pe_lst (pa_cons pe_int pa_nil)) (pe_lc (own := [("mark", 6)]) (g := gName 6) (tt := tYes) rfl scP_openness.nd (pi_tup (pv 3)) (blkOk_by (N := NP_openness) (sc := defScope sP_openness) (by decide +kernel)) (fun _ _ _ _ _ => pg_name (i := 6) scP_openness.nd rfl (Or.inl rfl)) (fun _ _ _ _ _ => pts_nil) (fun _ _ _ _ _ => (pe_ix (r := rIxT K) ix_tup (pv 6) pe_int (fun _ _ => rfl))))))
    (pss_cons (ps_set (i := 5) scP_openness.nd rfl (Or.inl rfl) (pe_op op_cat (pe_lc (own := [("mark", 6)]) (g := gName 6) (tt := tYes) rfl scP_openness.nd (pi_tup (pv 3)) (blkOk_by (N := NP_openness) (sc := defScope sP_openness) (by decide +kernel)) (fun _ _ _ _ _ => pg_name (i := 6) scP_openness.nd rfl (Or.inl rfl)) (fun _ _ _ _ _ => pts_nil) (fun _ _ _ _ _ => (pe_ix (r := rIxT K) ix_tup (pv 6) pe_int (fun _ _ => rfl)))) (pe_lst (pa_cons (pv 2) pa_nil))))
    (pss_one (ps_ret (pe_callB (cr_max rfl) (by rfl) T.n_max (by decide +kernel) (pa_cons (pe_lc (own := [("low", 7), ("high", 8)]) (g := gTup K 2 (gCons (gName 7) (gCons (gName 8) gNil))) (tt := tYes) rfl scP_openness.nd (pi_zipA (by rfl) T.n_zip (pa_cons (pv 4) (pa_cons (pv 5) pa_nil))) (blkOk_by (N := NP_openness) (sc := defScope sP_openness) (by decide +kernel)) (fun _ _ _ _ _ => pg_tup (by rfl) (pgs_cons (pg_name (i := 7) scP_openness.nd rfl (Or.inl rfl)) (pgs_cons (pg_name (i := 8) scP_openness.nd rfl (Or.inl rfl)) pgs_nil))) (fun _ _ _ _ _ => pts_nil) (fun _ _ _ _ _ => (pe_op op_sub (pv 8) (pv 7)))) pa_nil)))))))), ?_⟩
    refine ⟨v, rfl, v, dd, rfl, hv, fun H1 s01 => ⟨rkB dd, rfl, ?_⟩⟩
    cases cd : rkB dd with
    | false => exact iteT (q1 cd H1 s01)
    | true =>
      obtain ⟨r, n, ms, rfl, ok⟩ := rkB_is cd
      have q := q2 r n ms rfl ok
      obtain ⟨p, bb, ks, rfl, hp, hb, hk⟩ := rk_parts (hv.same s01)
      have kl : ks.length = ms.length := by rw [Paired.length hk, List.length_map]
      have ml := ok.len
      have r64 := ok.r64
      refine iteF ⟨.ref p, rfl, p, _, rfl, hp.seq, rfl, _, _, rfl, _, _, rfl, _, _, rfl, rfl, ?_⟩
      -- lows
      refine ⟨(by show 1 ≤ sizeLine; decide), fun l1 nl1 => ?_⟩
      have s1 := same_upd (o := .lst [.int 0]) nl1
      have hl1 : (upd H1 l1 (.lst [.int 0])) l1 = some (.lst [.int 0]) := upd_same
      generalize upd H1 l1 (.lst [.int 0]) = H2 at s1 hl1 ⊢
      refine ⟨.ref bb, rfl, bb, rfl, ⟨_, (hb.same s1).seq⟩, fun D nD => ?_⟩
      refine lc_tup (xs := ks) (fun i H3 => Same H2 H3 ∧ H3 D = some (.lst (((ms.take i).map Mk.y).map V.int))) ⟨same_upd nD, upd_same⟩ (fun i H3 _ h3 => ((hb.same s1).same h3.1).seq) (fun i x H3 hi g3 => ?_) (fun H3 g3 => ?_)
      · obtain ⟨s3, hD⟩ := g3
        obtain ⟨dm, hdm, atm⟩ := paired_at hk hi
        obtain ⟨m, hm, rfl⟩ := map_at hdm
        obtain ⟨u, fm, rfl, hu⟩ := mk_at ((atm.same s1).same s3)
        refine ⟨rfl, .ref u, rfl, u, _, _, _, rfl, rfl, hu.ob.seq, atI_nat (j := 3) rfl, _, hD, ?_, Same.put s3 nD, ?_⟩
        · rw [List.length_map, List.length_map, List.length_take, sizeLine_eq]
          omega
        · rw [upd_same, List.take_add_one, hm, List.map_append, List.map_append]
          rfl
      obtain ⟨s3, hD⟩ := g3
      rw [kl, List.take_length] at hD
      refine ⟨l1, D, _, _, rfl, rfl, s3 _ _ hl1, hD, by rw [sizeLine_eq, List.length_map, List.length_map]; show 1 + ms.length ≤ _; omega, fun l4 nl4 => ?_⟩
      have s4 := same_upd (o := .lst ([.int 0] ++ (ms.map Mk.y).map V.int)) nl4
      have hl4 : (upd H3 l4 (.lst ([.int 0] ++ (ms.map Mk.y).map V.int))) l4 = some (.lst (((0 : Int) :: ms.map Mk.y).map V.int)) := upd_same
      have s14 := (s1.trans s3).trans s4
      generalize upd H3 l4 (.lst ([.int 0] ++ (ms.map Mk.y).map V.int)) = H4 at hl4 s14 ⊢
      -- highs
      refine ⟨.ref bb, rfl, bb, rfl, ⟨_, (hb.same s14).seq⟩, fun D2 nD2 => ?_⟩
      refine lc_tup (xs := ks) (fun i H5 => Same H4 H5 ∧ H5 D2 = some (.lst (((ms.take i).map Mk.x).map V.int))) ⟨same_upd nD2, upd_same⟩ (fun i H5 _ h5 => ((hb.same s14).same h5.1).seq) (fun i x H5 hi g5 => ?_) (fun H5 g5 => ?_)
      · obtain ⟨s5, hD2⟩ := g5
        obtain ⟨dm, hdm, atm⟩ := paired_at hk hi
        obtain ⟨m, hm, rfl⟩ := map_at hdm
        obtain ⟨u, fm, rfl, hu⟩ := mk_at ((atm.same s14).same s5)
        refine ⟨rfl, .ref u, rfl, u, _, _, _, rfl, rfl, hu.ob.seq, atI_nat (j := 2) rfl, _, hD2, ?_, Same.put s5 nD2, ?_⟩
        · rw [List.length_map, List.length_map, List.length_take, sizeLine_eq]
          omega
        · rw [upd_same, List.take_add_one, hm, List.map_append, List.map_append]
          rfl
      obtain ⟨s5, hD2⟩ := g5
      rw [kl, List.take_length] at hD2
      refine ⟨.int n, rfl, (by show 1 ≤ sizeLine; decide), fun l6 nl6 => ?_⟩
      have s6 := same_upd (o := .lst [.int n]) nl6
      have hl6 : (upd H5 l6 (.lst [.int n])) l6 = some (.lst [.int n]) := upd_same
      generalize upd H5 l6 (.lst [.int n]) = H6 at s6 hl6 ⊢
      refine ⟨D2, l6, _, _, rfl, rfl, s6 _ _ hD2, hl6, by rw [sizeLine_eq, List.length_map, List.length_map]; show ms.length + 1 ≤ _; omega, fun l7 nl7 => ?_⟩
      have s7 := same_upd (o := .lst ((ms.map Mk.x).map V.int ++ [.int n])) nl7
      have hl7 : (upd H6 l7 (.lst ((ms.map Mk.x).map V.int ++ [.int n]))) l7 = some (.lst ((ms.map Mk.x ++ [n]).map V.int)) := by rw [upd_same, List.map_append]; rfl
      have s47 := (s5.trans s6).trans s7
      have hl47 := s47 _ _ hl4
      have s17 := s14.trans s47
      generalize upd H6 l7 (.lst ((ms.map Mk.x).map V.int ++ [.int n])) = H7 at hl7 hl47 s17 ⊢
      -- the widest
      refine ⟨.ref l4, rfl, .ref l7, rfl, l4, l7, _, _, rfl, .inl ⟨sql hl47, sql hl7, fun D3 nD3 => ?_⟩⟩
      have n4 : l4 ≠ D3 := ne_of_none hl47 nD3
      have n7 : l7 ≠ D3 := ne_of_none hl7 nD3
      refine lc_it (walk_zip (K := K) (xs := ((0 : Int) :: ms.map Mk.y).map V.int) (ys := (ms.map Mk.x ++ [n]).map V.int) rfl) (fun i H8 => Same H7 H8 ∧ H8 D3 = some (.lst (((gapsM 0 ms n).take i).map V.int))) ⟨same_upd nD3, upd_same⟩ (fun i H8 _ h8 => ⟨sql (h8.1 _ _ hl47), sql (h8.1 _ _ hl7)⟩) (fun i v H8 H9 hi h8 y => ?_) (fun H8 h8 => ?_)
      · obtain ⟨s8, hD3⟩ := h8
        obtain ⟨TT, u1, u2, rfl, nT, rfl, hx1, hx2⟩ := y
        obtain ⟨lo, hlo, rfl⟩ := map_at hx1
        obtain ⟨hi', hhi, rfl⟩ := map_at hx2
        have DT : D3 ≠ TT := ne_of_none hD3 nT
        have hg := gaps_at hlo hhi
        refine ⟨TT, _, rfl, .inl (.inl upd_same), rfl, _, _, rfl, _, _, rfl, rfl, rfl, .int hi', rfl, .int lo, rfl, _, _, rfl, rfl, _, by rw [upd_ne DT]; exact hD3, ?_, Same.put (Same.new s8 nT) nD3, ?_⟩
        · have := gaps_len 0 ms n
          rw [List.length_map, List.length_take, sizeLine_eq]
          omega
        · rw [upd_same, List.take_add_one, hg, List.map_append]
          rfl
      · obtain ⟨s8, hD3⟩ := h8
        have gl := gaps_len 0 ms n
        have el : min (((0 : Int) :: ms.map Mk.y).map V.int).length ((ms.map Mk.x ++ [n]).map V.int).length = (gapsM 0 ms n).length := by
          rw [gl, List.length_map, List.length_map, List.length_cons, List.length_append, List.length_map, List.length_map, List.length_singleton]
          omega
        rw [el, List.take_length] at hD3
        exact ⟨D3, gapsM 0 ms n, rfl, sql hD3, by omega, fun m hm hmx => q H8 m ((s01.trans s17).trans s8) hm hmx⟩
end
end Kb

namespace Kb
open PySem PySem.Spec PyProof.Rows L2 RZ
abbrev sends : Stmt := topS 53
abbrev Nends : List Str := ["_law_marks", "_law_many", "_law_key", "_law_side", "_law_low", "_law_mark"]
theorem scends : FnScope ["_law_marks", "_law_many", "_law_key", "_law_side", "_law_low", "_law_mark"] ["_law_marks", "_law_many", "_law_key", "_law_side"] (defScope sends) := ⟨rfl, rfl, rfl, by decide +kernel, rfl, by decide +kernel, by decide +kernel⟩
abbrev Dnends (K : PySem.W.Frag) (mg : Str → Option Value) := Dn K mg "_law_ends" sends ["_law_marks", "_law_many", "_law_key", "_law_side"]
abbrev sadded : Stmt := topS 57
abbrev Nadded : List Str := ["_law_one_here", "_law_other", "_law_keys", "_law_mark", "_law_found", "_law_key", "_law_side", "_law_first", "_law_second"]
theorem scadded : FnScope ["_law_one_here", "_law_other", "_law_keys", "_law_mark", "_law_found", "_law_key", "_law_side", "_law_first", "_law_second"] ["_law_one_here", "_law_other"] (defScope sadded) := ⟨rfl, rfl, rfl, by decide +kernel, rfl, by decide +kernel, by decide +kernel⟩
abbrev Dnadded (K : PySem.W.Frag) (mg : Str → Option Value) := Dn K mg "_law_added" sadded ["_law_one_here", "_law_other"]
section
variable {P : Program} {w : World} {K : PySem.W.Frag} {mg : Str → Option Value} {base : Heap}
def spEnds : Sp := fun vs H Q _ => ∃ (l : Addr) (n k sd : Int) (us : List V) (fs : List Fd), vs = [.ref l, .int n, .int k, .int sd] ∧ H l = some (.lst us) ∧ Paired (FdAt H) us fs ∧ (sd = 0 ∨ sd = 1) ∧
  ∀ H' p, Same H H' → Ptp H' p (if sd = 1 then [.int (enF n k 0 fs).y, .int (enF n k 0 fs).z] else [.int (enF n k 0 fs).w, .int (enF n k 0 fs).x]) → Q (.ref p) H'
theorem ok_ends (T : Blt mg) (d : Dnends K mg) : FnOk P w K mg base CX0 1 d.f d.fd ["_law_marks", "_law_many", "_law_key", "_law_side"] spEnds := by
  refine d.F.ok scends (fun vs H Q E h => ?_) (fun cdv A outer s H vs Q E hr h => ?_)
  · obtain ⟨l, n, k, sd, us, fs, rfl, _⟩ := h
    rfl
  · obtain ⟨l, n, k, sd, us, fs, rfl, hl, pu, sd01, q⟩ := h
    refine ⟨_, (pss_cons (ps_set (i := 4) scends.nd rfl (Or.inl rfl) pe_int)
    (pss_cons (ps_for PassesOwn.never rfl (pi_list (pv 0)) (pg_name (i := 5) scends.nd rfl (Or.inl rfl))
      (pss_cons (ps_if (pt_cmpR op_eq (pe_ix ix_tup (pv 5) pe_int (fun _ _ => rfl)) (pv 2) (nomark _))
        (pss_one (ps_ret (pe_tupF (pa_cons (pe_ix ix_tup (pv 5) (pe_op op_add pe_int (pe_op op_mul pe_int (pv 3))) (fun _ _ => rfl)) (pa_cons (pe_ix ix_tup (pv 5) (pe_op op_add pe_int (pe_op op_mul pe_int (pv 3))) (fun _ _ => rfl)) pa_nil)))))
        pss_nil)
      (pss_cons (ps_if (pt_cmpR op_gt (pe_ix ix_tup (pv 5) pe_int (fun _ _ => rfl)) (pv 2) (nomark _))
        (pss_one (ps_ret (pe_tupF (pa_cons (pv 4) (pa_cons (pe_ix ix_tup (pv 5) pe_int (fun _ _ => rfl)) pa_nil)))))
        pss_nil)
      (pss_one (ps_set (i := 4) scends.nd rfl (Or.inl rfl) (pe_ix ix_tup (pv 5) pe_int (fun _ _ => rfl)))))))
    (pss_one (ps_ret (pe_tupF (pa_cons (pv 4) (pa_cons (pv 1) pa_nil))))))), ?_⟩
    have ul : us.length = fs.length := Paired.length pu
    refine ⟨.ref l, rfl, l, rfl, ⟨_, sql hl⟩, ?_⟩
    refine for_list (xs := us) (fun i σ H2 => ∃ (low : Int) (y5 : Option V), σ = [some (.ref l), some (.int n), some (.int k), some (.int sd), some (.int low), y5] ∧ Same H H2 ∧ enF n k 0 fs = enF n k low (fs.drop i)) ⟨0, none, rfl, Same.refl H, rfl⟩ (fun i σ H2 _ ⟨_, _, _, s, _⟩ => sql (s _ _ hl)) ?_ ?_
    · rintro i v σ H2 hv ⟨low, y5, rfl, s2, he⟩
      obtain ⟨f, hf, u, rfl, hu⟩ := paired_at pu hv
      have hu2 := hu.same s2
      have hdr : fs.drop i = f :: fs.drop (i + 1) := by
        obtain ⟨hlt, e⟩ := List.getElem?_eq_some_iff.mp hf
        rw [List.drop_eq_getElem_cons hlt, e]
      rw [hdr] at he
      have he : enF n k 0 fs = (if f.k = k then f else if k < f.k then (⟨k, low, f.x, low, f.x⟩ : Fd) else enF n k f.y (fs.drop (i + 1))) := he
      refine ⟨.ref u, rfl, u, _, _, _, rfl, rfl, hu2.seq, atI_nat (j := 0) rfl, .int k, rfl, rfl, decide (f.k = k), by rw [dec_int]; rfl, ?_⟩
      by_cases e : f.k = k
      · rw [decide_eq_true e]
        rw [if_pos e] at he
        rcases sd01 with rfl | rfl
        · refine iteT ⟨.ref u, rfl, .int 0, rfl, _, _, rfl, rfl, cmulL (by decide) (by decide), _, _, rfl, rfl, u, _, _, _, rfl, rfl, hu2.seq, atI_nat (j := 1) rfl, .ref u, rfl, .int 0, rfl, _, _, rfl, rfl, cmulL (by decide) (by decide), _, _, rfl, rfl, u, _, _, _, rfl, rfl, hu2.seq, atI_nat (j := 2) rfl, (by show 2 ≤ sizeLine; decide), fun t o nt ho => ?_⟩
          refine q _ t (s2.trans (same_upd nt)) ?_
          rw [if_neg (by decide), he]
          exact ⟨o, upd_same, ho⟩
        · refine iteT ⟨.ref u, rfl, .int 1, rfl, _, _, rfl, rfl, cmulL (by decide) (by decide), _, _, rfl, rfl, u, _, _, _, rfl, rfl, hu2.seq, atI_nat (j := 3) rfl, .ref u, rfl, .int 1, rfl, _, _, rfl, rfl, cmulL (by decide) (by decide), _, _, rfl, rfl, u, _, _, _, rfl, rfl, hu2.seq, atI_nat (j := 4) rfl, (by show 2 ≤ sizeLine; decide), fun t o nt ho => ?_⟩
          refine q _ t (s2.trans (same_upd nt)) ?_
          rw [if_pos rfl, he]
          exact ⟨o, upd_same, ho⟩
      · rw [decide_eq_false e]
        rw [if_neg e] at he
        refine iteF ⟨.ref u, rfl, u, _, _, _, rfl, rfl, hu2.seq, atI_nat (j := 0) rfl, .int k, rfl, _, _, rfl, rfl, decide (k < f.k), rfl, ?_⟩
        by_cases c : k < f.k
        · rw [decide_eq_true c]
          rw [if_pos c] at he
          refine iteT ⟨.int low, rfl, .ref u, rfl, u, _, _, _, rfl, rfl, hu2.seq, atI_nat (j := 2) rfl, (by show 2 ≤ sizeLine; decide), fun t o nt ho => ?_⟩
          refine q _ t (s2.trans (same_upd nt)) ?_
          rw [he]
          have : Ptp (upd H2 t (.frz o (.tup [.int low, .int f.x]))) t [.int low, .int f.x] := ⟨o, upd_same, ho⟩
          split <;> exact this
        · rw [decide_eq_false c]
          rw [if_neg c] at he
          exact iteF ⟨.ref u, rfl, u, _, _, _, rfl, rfl, hu2.seq, atI_nat (j := 3) rfl, f.y, _, rfl, s2, he⟩
    · rintro σ H2 ⟨low, y5, rfl, s2, he⟩
      rw [ul, List.drop_length] at he
      have he : enF n k 0 fs = ⟨k, low, n, low, n⟩ := he
      refine ⟨.int low, rfl, .int n, rfl, (by show 2 ≤ sizeLine; decide), fun t o nt ho => ?_⟩
      refine q _ t (s2.trans (same_upd nt)) ?_
      rw [he]
      have : Ptp (upd H2 t (.frz o (.tup [.int low, .int n]))) t [.int low, .int n] := ⟨o, upd_same, ho⟩
      split <;> exact this
/-! _law_added -/
def PrAt (H : Hp) (a : Addr) (n : Int) (fs : List Fd) : Prop := ∃ l us, Ptp H a [.int n, .ref l] ∧ H l = some (.lst us) ∧ Paired (FdAt H) us fs
def spAdded : Sp := fun vs H Q _ => ∃ (A B : Addr) (n m : Int) (fs gs : List Fd), vs = [.ref A, .ref B] ∧ PrAt H A n fs ∧ PrAt H B m gs ∧ FsOk n fs ∧ FsOk m gs ∧ fs.length ≤ 64 ∧ gs.length ≤ 64 ∧
  ∀ ys, Srt (keysF fs gs) ys → ∀ H' p us, Same H H' → H p = none → H' p = some (.lst us) → Paired (FdAt H') us (ys.map (addF n m fs gs)) → Q (.ref p) H'
theorem fds_same {H H' : Hp} {us : List V} {fs : List Fd} (h : Paired (FdAt H) us fs) (s : Same H H') : Paired (FdAt H') us fs := paired_imp (fun _ _ h => h.keep (kpD_same s)) h
theorem ok_added (T : Blt mg) (dends : Dnends K mg) (d : Dnadded K mg) : FnOk P w K mg base CX0 2 d.f d.fd ["_law_one_here", "_law_other"] spAdded := by
  have Gends : FnOk P w K mg base CX0 1 dends.f dends.fd ["_law_marks", "_law_many", "_law_key", "_law_side"] spEnds := ok_ends T dends
  refine d.F.ok scadded (fun vs H Q E h => ?_) (fun cdv A outer s H vs Q E hr h => ?_)
  · obtain ⟨A, B, n, m, fs, gs, rfl, _⟩ := h
    rfl
  · obtain ⟨A, B, n, m, fs, gs, rfl, ⟨la, us, hA, hla, pu⟩, ⟨lb, vs, hB, hlb, pv'⟩, ok, ok', fl, gl, q⟩ := h
    have hu := hu_of hr
    refine ⟨_, (pss_cons (ps_set (i := 2) scadded.nd rfl (Or.inl rfl) pe_dnewK)
    (pss_cons (ps_for PassesOwn.never rfl (pi_list (pe_op op_cat (pe_ix ix_tup (pv 0) pe_int (fun _ _ => rfl)) (pe_ix ix_tup (pv 1) pe_int (fun _ _ => rfl)))) (pg_name (i := 3) scadded.nd rfl (Or.inl rfl))
      (pss_one (ps_dput hu (pv 2) (pe_ix ix_tup (pv 3) pe_int (fun _ _ => rfl)) pe_bl rfl)))
    (pss_cons (ps_set (i := 4) scadded.nd rfl (Or.inl rfl) (pe_lst pa_nil))
    (pss_cons (ps_for PassesOwn.never rfl (pi_list (pe_callB (cr_sortedDIL rfl) (by rfl) T.n_sorted (by decide +kernel) (pa_cons (pv 2) pa_nil))) (pg_name (i := 5) scadded.nd rfl (Or.inl rfl))
      (pss_cons (ps_set (i := 3) scadded.nd rfl (Or.inl rfl) (pe_lst (pa_cons (pv 5) pa_nil)))
      (pss_cons (ps_for PassesOwn.never rfl (pi_tup (pe_tupF (pa_cons pe_int (pa_cons pe_int pa_nil)))) (pg_name (i := 6) scadded.nd rfl (Or.inl rfl))
        (pss_cons (ps_set (i := 7) scadded.nd rfl (Or.inl rfl) (pe_call Gends (hr.mono (by omega)) (by rfl) dends.g dends.F.kp dends.b .nil pass0 (pa_cons (pe_ix ix_tup (pv 0) pe_int (fun _ _ => rfl)) (pa_cons (pe_ix ix_tup (pv 0) pe_int (fun _ _ => rfl)) (pa_cons (pv 5) (pa_cons (pv 6) pa_nil))))))
        (pss_cons (ps_set (i := 8) scadded.nd rfl (Or.inl rfl) (pe_call Gends (hr.mono (by omega)) (by rfl) dends.g dends.F.kp dends.b .nil pass0 (pa_cons (pe_ix ix_tup (pv 1) pe_int (fun _ _ => rfl)) (pa_cons (pe_ix ix_tup (pv 1) pe_int (fun _ _ => rfl)) (pa_cons (pv 5) (pa_cons (pv 6) pa_nil))))))
        (pss_one (ps_expr (pe_bm PySem.F.plainAttrs_list PySem.F.slot_list_extend PySem.F.type_list_extend mt_extend (pv 3) (pa_cons (pe_lst (pa_cons (pe_op op_add (pe_ix ix_tup (pv 7) pe_int (fun _ _ => rfl)) (pe_ix ix_tup (pv 8) pe_int (fun _ _ => rfl))) (pa_cons (pe_op op_add (pe_ix ix_tup (pv 7) pe_int (fun _ _ => rfl)) (pe_ix ix_tup (pv 8) pe_int (fun _ _ => rfl))) pa_nil))) pa_nil)))))))
      (pss_one (ps_expr (pe_bm PySem.F.plainAttrs_list PySem.F.slot_list_append PySem.F.type_list_append mt_append (pv 4) (pa_cons (pe_callTy call_tupleF (by rfl) T.n_tuple (by decide +kernel) (pa_cons (pv 3) pa_nil)) pa_nil)))))))
    (pss_one (ps_ret (pv 4))))))), ?_⟩
    have ul : us.length = fs.length := Paired.length pu
    have vl : vs.length = gs.length := Paired.length pv'
    intro D nD
    have sD := same_upd (o := .dK []) nD
    have d1 : (upd H D (.dK [])) D = some (.dK (kvI [] fun _ => .bl true)) := upd_same
    generalize upd H D (.dK []) = H1 at sD d1 ⊢
    refine ⟨.ref A, rfl, A, _, _, _, rfl, rfl, (hA.same sD).seq, atI_nat (j := 1) rfl, .ref B, rfl, B, _, _, _, rfl, rfl, (hB.same sD).seq, atI_nat (j := 1) rfl, la, lb, us, vs, rfl, rfl, sD _ _ hla, sD _ _ hlb, by rw [sizeLine_eq]; omega, fun L nL => ?_⟩
    have s2 := same_upd (o := .lst (us ++ vs)) nL
    have hL2 : (upd H1 L (.lst (us ++ vs))) L = some (.lst (us ++ vs)) := upd_same
    have d2 := s2 _ _ d1
    have s02 := sD.trans s2
    have neLD : L ≠ D := (ne_of_none d1 nL).symm
    generalize upd H1 L (.lst (us ++ vs)) = H2 at s02 hL2 d2 ⊢
    have puv : Paired (FdAt H) (us ++ vs) (fs ++ gs) := paired_app pu pv'
    refine ⟨L, rfl, ⟨_, sql hL2⟩, ?_⟩
    refine for_list (xs := us ++ vs) (fun i σ H3 => ∃ y3 : Option V, σ = [some (.ref A), some (.ref B), some (.ref D), y3, none, none, none, none, none] ∧ Same H H3 ∧ H3 L = some (.lst (us ++ vs)) ∧ H3 D = some (.dK (kvI (unl (((fs ++ gs).take i).map Fd.k)) fun _ => .bl true))) ⟨none, rfl, s02, hL2, d2⟩ (fun i σ H3 _ ⟨_, _, _, e, _⟩ => sql e) ?_ ?_
    · rintro i v σ H3 hv ⟨y3, rfl, s3, hL3, d3⟩
      obtain ⟨f, hf, u, rfl, hu'⟩ := paired_at puv hv
      have il := (List.getElem?_eq_some_iff.mp hf).1
      rw [List.length_append] at il
      have lt := (unl_all (((fs ++ gs).take i).map Fd.k)).2.2
      rw [List.length_map, List.length_take] at lt
      refine ⟨.ref D, rfl, .ref u, rfl, u, _, _, _, rfl, rfl, (hu'.same s3).seq, atI_nat (j := 0) rfl, D, _, rfl, DPut.k (k := Sum.inl f.k) d3 (by show (List.map _ _).length < sizeLine; rw [List.length_map, sizeLine_eq]; omega), _, rfl, Same.put s3 nD, by rw [upd_ne neLD]; exact hL3, ?_⟩
      rw [upd_same, put_kvI, List.take_add_one, hf, List.map_append]
      show some (HO.dK (kvI _ _)) = some (HO.dK (kvI (unl (_ ++ [f.k])) _))
      rw [unl_snoc]
      have ef : (fun j => if j = f.k then V.bl true else V.bl true) = fun _ => V.bl true := by
        funext j
        split <;> rfl
      rw [ef]
    rintro σ H3 ⟨y3, rfl, s3, hL3, d3⟩
    have el : (us ++ vs).length = (fs ++ gs).length := by rw [List.length_append, List.length_append, ul, vl]
    rw [el, List.take_length] at d3
    have d3 : H3 D = some (.dK (kvI (unl (keysF fs gs)) fun _ => .bl true)) := d3
    obtain ⟨und, umem, ulen⟩ := unl_all (keysF fs gs)
    generalize unl (keysF fs gs) = ds at d3 und umem ulen
    have kfl : (keysF fs gs).length = fs.length + gs.length := by rw [List.length_map, List.length_append]
    refine ⟨(by show 0 ≤ sizeLine; decide), fun F nF => ?_⟩
    have s4 := same_upd (o := .lst []) nF
    have hF4 : (upd H3 F (.lst [])) F = some (.lst []) := upd_same
    have nF0 := same_gone s3 nF
    have d4 := s4 _ _ d3
    have s04 := s3.trans s4
    generalize upd H3 F (.lst []) = H4 at s4 hF4 d4 s04 ⊢
    refine ⟨.ref D, rfl, D, _, ds, rfl, d4, kvI_keys, fun ys Y perm srt0 nY => ?_⟩
    have srt : Srt (keysF fs gs) ys := by
      refine ⟨?_, fun k => perm.mem_iff.trans (umem k)⟩
      have hnd : ys.Nodup := perm.nodup_iff.mpr und
      exact (List.Pairwise.and srt0 hnd).imp fun {x y} h => by
        have h1 := h.1
        have h2 : x ≠ y := h.2
        omega
    have sY := same_upd (o := .lst (ys.map V.int)) nY
    have hY5 : (upd H4 Y (.lst (ys.map V.int))) Y = some (.lst (ys.map V.int)) := upd_same
    have hF5 := sY _ _ hF4
    have s05 := s04.trans sY
    have neF : Y ≠ F := (ne_of_none hF4 nY).symm
    generalize upd H4 Y (.lst (ys.map V.int)) = H5 at hY5 hF5 s05 ⊢
    have yll : ys.length ≤ 128 := by rw [perm.length_eq]; omega
    refine ⟨Y, rfl, ⟨_, sql hY5⟩, ?_⟩
    refine for_list (xs := ys.map V.int) (fun i σ H6 => ∃ (y3 y5 y6 y7 y8 : Option V) (ws : List V), σ = [some (.ref A), some (.ref B), some (.ref D), y3, some (.ref F), y5, y6, y7, y8] ∧ Same H H6 ∧ H6 Y = some (.lst (ys.map V.int)) ∧ H6 F = some (.lst ws) ∧ Paired (FdAt H6) ws ((ys.take i).map (addF n m fs gs))) ⟨_, _, _, _, _, [], rfl, s05, hY5, hF5, .nil⟩ (fun i σ H6 _ ⟨_, _, _, _, _, _, _, _, e, _⟩ => sql e) ?_ ?_
    · rintro i v σ H6 hv ⟨y3, y5, y6, y7, y8, ws, rfl, s6, hY6, hF6, pw⟩
      obtain ⟨k, hk, rfl⟩ := map_at hv
      have il := (List.getElem?_eq_some_iff.mp hk).1
      have wl : ws.length ≤ i := by rw [Paired.length pw, List.length_map, List.length_take]; omega
      refine ⟨.int k, rfl, (by show 1 ≤ sizeLine; decide), fun M nM => ?_⟩
      have s7 := same_upd (o := .lst [.int k]) nM
      have hM7 : (upd H6 M (.lst [.int k])) M = some (.lst [.int k]) := upd_same
      have hY7 := s7 _ _ hY6
      have hF7 := s7 _ _ hF6
      have nM0 := same_gone s6 nM
      have s07 := s6.trans s7
      have neMY : Y ≠ M := ne_of_none hY6 nM
      have neMF : F ≠ M := ne_of_none hF6 nM
      have pw7 : Paired (FdAt (upd H6 M (.lst [.int k]))) ws ((ys.take i).map (addF n m fs gs)) := fds_same pw s7
      generalize upd H6 M (.lst [.int k]) = H7 at s07 hM7 hY7 hF7 pw7 ⊢
      refine ⟨(by show 2 ≤ sizeLine; decide), fun t o nt ho => ?_⟩
      have s8 := same_upd (o := .frz o (.tup [.int 0, .int 1])) nt
      have h8 : Ptp (upd H7 t (.frz o (.tup [.int 0, .int 1]))) t [.int 0, .int 1] := ⟨o, upd_same, ho⟩
      have hM8 := s8 _ _ hM7
      have hY8 := s8 _ _ hY7
      have hF8 := s8 _ _ hF7
      have s08 := s07.trans s8
      have pw8 := fds_same pw7 s8
      generalize upd H7 t (.frz o (.tup [.int 0, .int 1])) = H8 at s08 h8 hM8 hY8 hF8 pw8 ⊢
      refine ⟨t, rfl, ⟨_, h8.seq⟩, ?_⟩
      refine for_tup (xs := [.int 0, .int 1]) (fun j σ H9 => ∃ (y6 y7 y8 : Option V), σ = [some (.ref A), some (.ref B), some (.ref D), some (.ref M), some (.ref F), some (.int k), y6, y7, y8] ∧ Same H H9 ∧ H9 Y = some (.lst (ys.map V.int)) ∧ H9 F = some (.lst ws) ∧ Paired (FdAt H9) ws ((ys.take i).map (addF n m fs gs)) ∧ Ptp H9 t [.int 0, .int 1] ∧ H9 M = some (.lst ((k :: (l4 (addF n m fs gs k)).take (2 * j)).map V.int)))
        ⟨_, _, _, rfl, s08, hY8, hF8, pw8, h8, hM8⟩ (fun j σ H9 _ ⟨_, _, _, _, _, _, _, _, e, _⟩ => e.seq) ?_ ?_
      · rintro j v σ H9 hj ⟨y6, y7, y8, rfl, s9, hY9, hF9, pw9, ht9, hM9⟩
        obtain ⟨sd, rfl, sd01, hsd⟩ : ∃ sd : Int, v = .int sd ∧ (sd = 0 ∨ sd = 1) ∧ sd = (j : Nat) := by
          match j, hj with
          | 0, hj => cases hj; exact ⟨0, rfl, .inl rfl, rfl⟩
          | 1, hj => cases hj; exact ⟨1, rfl, .inr rfl, rfl⟩
        have A9 := hA.same s9
        have B9 := hB.same s9
        refine ⟨.ref A, rfl, A, _, _, _, rfl, rfl, A9.seq, atI_nat (j := 1) rfl, .ref A, rfl, A, _, _, _, rfl, rfl, A9.seq, atI_nat (j := 0) rfl, .int k, rfl, .int sd, rfl, la, n, k, sd, us, fs, rfl, s9 _ _ hla, fds_same pu s9, sd01, fun H10 p1 s10 hp1 => ?_⟩
        refine ⟨.ref B, rfl, B, _, _, _, rfl, rfl, (B9.same s10).seq, atI_nat (j := 1) rfl, .ref B, rfl, B, _, _, _, rfl, rfl, (B9.same s10).seq, atI_nat (j := 0) rfl, .int k, rfl, .int sd, rfl, lb, m, k, sd, vs, gs, rfl, s10 _ _ (s9 _ _ hlb), fds_same (fds_same pv' s9) s10, sd01, fun H11 p2 s11 hp2 => ?_⟩
        have hp1 := hp1.same s11
        have s911 := s10.trans s11
        have hM11 := s911 _ _ hM9
        have hY11 := s911 _ _ hY9
        have hF11 := s911 _ _ hF9
        obtain ⟨a1, a2, b1, b2, e1, e2, e3⟩ : ∃ a1 a2 b1 b2 : Int, Ptp H11 p1 [.int a1, .int a2] ∧ Ptp H11 p2 [.int b1, .int b2] ∧ (k :: (l4 (addF n m fs gs k)).take (2 * (j + 1))).map V.int = (k :: (l4 (addF n m fs gs k)).take (2 * j)).map V.int ++ [.int (a1 + b1), .int (a2 + b2)] := by
          rcases sd01 with rfl | rfl
          · have : j = 0 := by omega
            subst this
            exact ⟨_, _, _, _, hp1, hp2, rfl⟩
          · have : j = 1 := by omega
            subst this
            exact ⟨_, _, _, _, hp1, hp2, rfl⟩
        refine ⟨.ref M, rfl, .inl ⟨rfl, _, sql hM11⟩, .ref p1, rfl, p1, _, _, _, rfl, rfl, e1.seq, atI_nat (j := 0) rfl, .ref p2, rfl, p2, _, _, _, rfl, rfl, e2.seq, atI_nat (j := 0) rfl, _, _, rfl, rfl, .ref p1, rfl, p1, _, _, _, rfl, rfl, e1.seq, atI_nat (j := 1) rfl, .ref p2, rfl, p2, _, _, _, rfl, rfl, e2.seq, atI_nat (j := 1) rfl, _, _, rfl, rfl, (by show 2 ≤ sizeLine; decide), fun L2' nL2 => ?_⟩
        have s12 := same_upd (o := .lst [.int (a1 + b1), .int (a2 + b2)]) nL2
        have h12 : (upd H11 L2' (.lst [.int (a1 + b1), .int (a2 + b2)])) L2' = some (.lst [.int (a1 + b1), .int (a2 + b2)]) := upd_same
        generalize upd H11 L2' (.lst [.int (a1 + b1), .int (a2 + b2)]) = H12 at s12 h12 ⊢
        have hM12 := s12 _ _ hM11
        have kp : KpD H12 (upd H12 M (.lst ((k :: (l4 (addF n m fs gs k)).take (2 * j)).map V.int ++ [.int (a1 + b1), .int (a2 + b2)]))) := kpD_list hM12
        have s912 := s911.trans s12
        refine ⟨M, L2', _, _, rfl, rfl, hM12, h12, ?_, _, _, _, rfl, Same.put (s9.trans s912) nM0, by rw [upd_ne neMY]; exact s12 _ _ hY11, by rw [upd_ne neMF]; exact s12 _ _ hF11, paired_imp (fun _ _ h => h.keep ((kpD_same s912).trans kp)) pw9, kp.t _ _ (ht9.same s912), ?_⟩
        · rw [List.length_map, List.length_cons, List.length_take, sizeLine_eq]
          show min _ 4 + 1 + 2 ≤ _
          omega
        · rw [upd_same, e3]
      · rintro σ H9 ⟨y6, y7, y8, rfl, s9, hY9, hF9, pw9, ht9, hM9⟩
        have hM9 : H9 M = some (.lst ([.int k, .int (addF n m fs gs k).w, .int (addF n m fs gs k).x, .int (addF n m fs gs k).y, .int (addF n m fs gs k).z])) := hM9
        refine ⟨.ref F, rfl, .inl ⟨rfl, _, sql hF9⟩, .ref M, rfl, M, _, rfl, sql hM9, fun t2 o2 nt2 ho2 => ?_⟩
        have s10 := same_upd (o := .frz o2 (.tup [.int k, .int (addF n m fs gs k).w, .int (addF n m fs gs k).x, .int (addF n m fs gs k).y, .int (addF n m fs gs k).z])) nt2
        have h10 : Ptp (upd H9 t2 (.frz o2 (.tup [.int k, .int (addF n m fs gs k).w, .int (addF n m fs gs k).x, .int (addF n m fs gs k).y, .int (addF n m fs gs k).z]))) t2 [.int (addF n m fs gs k).k, .int (addF n m fs gs k).w, .int (addF n m fs gs k).x, .int (addF n m fs gs k).y, .int (addF n m fs gs k).z] := by
          rw [addF_k]
          exact ⟨o2, upd_same, ho2⟩
        generalize upd H9 t2 (.frz o2 (.tup [.int k, .int (addF n m fs gs k).w, .int (addF n m fs gs k).x, .int (addF n m fs gs k).y, .int (addF n m fs gs k).z])) = H10 at s10 h10 ⊢
        have hF10 := s10 _ _ hF9
        have kp : KpD H10 (upd H10 F (.lst (ws ++ [.ref t2]))) := kpD_list hF10
        refine ⟨F, ws, .ref t2, rfl, rfl, hF10, by rw [sizeLine_eq]; omega, _, _, _, _, _, ws ++ [.ref t2], rfl, Same.put (s9.trans s10) nF0, by rw [upd_ne neF]; exact s10 _ _ hY9, upd_same, ?_⟩
        rw [List.take_add_one, hk, List.map_append]
        exact paired_app (paired_imp (fun _ _ h => h.keep ((kpD_same s10).trans kp)) pw9) (.cons ⟨t2, rfl, kp.t _ _ h10⟩ .nil)
    · rintro σ H6 ⟨y3, y5, y6, y7, y8, ws, rfl, s6, hY6, hF6, pw⟩
      rw [List.length_map, List.take_length] at pw
      exact ⟨.ref F, rfl, q ys srt H6 F ws s6 nF0 hF6 pw⟩
end
end Kb

namespace Kb
open PySem PySem.Spec PyProof.Rows L2 RZ
abbrev stree : Stmt := topS 59
abbrev Ntree : List Str := ["_law_hat_here", "_law_streams", "_law_most", "_law_pool", "_law_steps_here", "_law_pile", "_law_keys", "_law_turn", "_law_k"]
theorem sctree : FnScope ["_law_hat_here", "_law_streams", "_law_most", "_law_pool", "_law_steps_here", "_law_pile", "_law_keys", "_law_turn", "_law_k"] ["_law_hat_here", "_law_streams", "_law_most"] (defScope stree) := ⟨rfl, rfl, rfl, by decide +kernel, rfl, by decide +kernel, by decide +kernel⟩
abbrev Dntree (K : PySem.W.Frag) (mg : Str → Option Value) := Dn K mg "_law_tree" stree ["_law_hat_here", "_law_streams", "_law_most"]
abbrev shanded : Stmt := topS 60
abbrev Nhanded : List Str := ["_law_steps_here", "_law_found", "_law_keys", "_law_key"]
theorem schanded : FnScope ["_law_steps_here", "_law_found", "_law_keys", "_law_key"] ["_law_steps_here"] (defScope shanded) := ⟨rfl, rfl, rfl, by decide +kernel, rfl, by decide +kernel, by decide +kernel⟩
abbrev Dnhanded (K : PySem.W.Frag) (mg : Str → Option Value) := Dn K mg "_law_handed" shanded ["_law_steps_here"]
/-! the law's own steps -/
def LsAt (a S : Addr) (H : Hp) (v : V) : Stp → Prop
  | some ks => ∃ b, v = .ref b ∧ b ≠ a ∧ b ≠ S ∧ H b = some (.lst (ks.map V.int))
  | none => v = .non
theorem LsAt.exw {a S : Addr} {H H' : Hp} {v : V} {t : Stp} (h : LsAt a S H v t) (x : Exw a H H') : LsAt a S H' v t := by
  cases t with
  | some ks => obtain ⟨b, e, n1, n2, h⟩ := h; exact ⟨b, e, n1, n2, x _ _ n1 h⟩
  | none => exact h
theorem LsAt.up {a S : Addr} {H : Hp} {v : V} {t : Stp} {o : HO} (h : LsAt a S H v t) : LsAt a S (upd H S o) v t := by
  cases t with
  | some ks => obtain ⟨b, e, n1, n2, h⟩ := h; exact ⟨b, e, n1, n2, by rw [upd_ne n2]; exact h⟩
  | none => exact h
structure TrUp (c M : Nat) (l : List Stp) : Prop where
  two : ∀ i, l[i]? = some none → 2 ≤ hgt (l.take i)
  sum : ((l.length : Nat) : Int) + hgt l = 2 * (c : Nat)
  few : (itm l).length ≤ c * M
  kb : ∀ k ∈ itm l, k.natAbs ≤ 2 ^ 89
theorem hgt_app (l : List Stp) (t : Stp) : hgt (l ++ [t]) = hS (hgt l) t := by
  unfold hgt
  rw [List.foldl_append]
  rfl
theorem itm_app (l : List Stp) (t : Stp) : itm (l ++ [t]) = itm l ++ itS t := by
  unfold itm
  rw [List.flatMap_append]
  show _ ++ List.flatMap itS [t] = _
  rw [List.flatMap_cons, List.flatMap_nil, List.append_nil]
theorem two_app {l : List Stp} {t : Stp} (h : ∀ i, l[i]? = some none → 2 ≤ hgt (l.take i)) (ht : t = none → 2 ≤ hgt l) (i : Nat) (hi : (l ++ [t])[i]? = some none) : 2 ≤ hgt ((l ++ [t]).take i) := by
  by_cases c : i < l.length
  · rw [List.getElem?_append_left c] at hi
    rw [List.take_append_of_le_length (by omega)]
    exact h i hi
  · have il := (List.getElem?_eq_some_iff.mp hi).1
    rw [List.length_append] at il
    change i < l.length + 1 at il
    have e : i = l.length := by omega
    subst e
    rw [List.getElem?_append_right (Nat.le_refl _), Nat.sub_self] at hi
    change some t = some none at hi
    cases hi
    rw [List.take_append_of_le_length (Nat.le_refl _), List.take_length]
    exact ht rfl
theorem TrUp.put {c M : Nat} {l : List Stp} (h : TrUp c M l) {ks : List Int} (kl : ks.length ≤ M) (kb : ∀ k ∈ ks, k.natAbs ≤ 2 ^ 89) : TrUp (c + 1) M (l ++ [some ks]) := by
  refine ⟨two_app h.two (fun e => nomatch e), ?_, ?_, fun k hk => ?_⟩
  · rw [hgt_app, List.length_append]
    have := h.sum
    show (((l.length + 1 : Nat)) : Int) + (hgt l + 1) = _
    omega
  · rw [itm_app, List.length_append, Nat.add_mul]
    have := h.few
    show _ + ks.length ≤ _
    omega
  · rw [itm_app] at hk
    rcases List.mem_append.mp hk with h' | h'
    · exact h.kb k h'
    · exact kb k h'
theorem TrUp.pour {c M : Nat} {l : List Stp} (h : TrUp c M l) (h2 : 2 ≤ hgt l) : TrUp c M (l ++ [none]) := by
  refine ⟨two_app h.two (fun _ => h2), ?_, ?_, fun k hk => ?_⟩
  · rw [hgt_app, List.length_append]
    have := h.sum
    show (((l.length + 1 : Nat)) : Int) + (hgt l - 1) = _
    omega
  · rw [itm_app, List.length_append]
    have := h.few
    show _ + 0 ≤ _
    omega
  · rw [itm_app] at hk
    rcases List.mem_append.mp hk with h' | h'
    · exact h.kb k h'
    · cases h'
section
variable {P : Program} {w : World} {K : PySem.W.Frag} {mg : Str → Option Value} {base : Heap}
def spTree : Sp := fun vs H Q _ => ∃ (a : Addr) (st mo : Nat), vs = [.ref a, .int (st : Int), .int (mo : Int)] ∧ Ht a H ∧ 1 ≤ st ∧ st ≤ 30 ∧ mo ≤ 30 ∧
  ∀ H' S us l, Exw a H H' → Ht a H' → S ≠ a → H' S = some (.lst us) → Paired (LsAt a S H') us l → Tree l → Q (.ref S) H'
theorem ok_tree (T : Blt mg) (ddraw : Dndraw K mg) (dany : Dnany K mg) (dnumber : Dnnumber K mg) (d : Dntree K mg) : FnOk P w K mg base CX0 4 d.f d.fd ["_law_hat_here", "_law_streams", "_law_most"] spTree := by
  have Gdraw : FnOk P w K mg base CX0 1 ddraw.f ddraw.fd ["_law_hat_here", "_law_many"] spDraw := ok_draw T ddraw
  have Gany : FnOk P w K mg base CX0 2 dany.f dany.fd ["_law_hat_here", "_law_things"] spAny := ok_any T ddraw dany
  have Gnumber : FnOk P w K mg base CX0 3 dnumber.f dnumber.fd ["_law_hat_here"] spNumber := ok_number T ddraw dany dnumber
  refine d.F.ok sctree (fun vs H Q E h => ?_) (fun cdv A outer s H vs Q E hr h => ?_)
  · obtain ⟨a, st, mo, rfl, _⟩ := h
    rfl
  · obtain ⟨a, st, mo, rfl, w0, st1, st30, mo30, q⟩ := h
    refine ⟨_, (pss_cons (ps_setLc (i := 3) (own := [("_law_k", 8)]) (g := gName 8) (tt := tYes) rfl sctree.nd rfl rfl (sw_true rfl rfl rfl (by decide +kernel)) (pi_range1 (by rfl) T.n_range (pa_cons (pe_call Gany (hr.mono (by omega)) (by rfl) dany.g dany.F.kp dany.b .nil pass0 (pa_cons (pv 0) (pa_cons (pe_lst (pa_cons pe_int (pa_cons pe_int (pa_cons pe_int (pa_cons pe_int (pa_cons pe_int pa_nil)))))) pa_nil))) pa_nil)) (blkOk_by (N := Ntree) (sc := defScope stree) (by decide +kernel)) (fun _ _ _ _ _ => pg_name (i := 8) sctree.nd rfl (Or.inl rfl)) (fun _ _ _ _ _ => pts_nil) (fun _ _ _ _ _ => (pe_call Gnumber (hr.mono (by omega)) (by rfl) dnumber.g dnumber.F.kp dnumber.b .nil pass0 (pa_cons (pv 0) pa_nil))))
    (pss_cons (ps_set (i := 4) sctree.nd rfl (Or.inl rfl) (pe_lst pa_nil))
    (pss_cons (ps_set (i := 5) sctree.nd rfl (Or.inl rfl) pe_int)
    (pss_cons (ps_for PassesOwn.never rfl (pi_range1 (by rfl) T.n_range (pa_cons (pe_op op_add pe_int (pe_call Gdraw (hr.mono (by omega)) (by rfl) ddraw.g ddraw.F.kp ddraw.b .nil pass0 (pa_cons (pv 0) (pa_cons (pv 1) pa_nil)))) pa_nil)) (pg_name (i := 8) sctree.nd rfl (Or.inl rfl))
      (pss_cons (ps_set (i := 6) sctree.nd rfl (Or.inl rfl) (pe_lst pa_nil))
      (pss_cons (ps_for PassesOwn.never rfl (pi_range1 (by rfl) T.n_range (pa_cons (pe_call Gdraw (hr.mono (by omega)) (by rfl) ddraw.g ddraw.F.kp ddraw.b .nil pass0 (pa_cons (pv 0) (pa_cons (pe_op op_add (pv 2) pe_int) pa_nil))) pa_nil)) (pg_name (i := 7) sctree.nd rfl (Or.inl rfl))
        (pss_one (ps_if (pt_cmpR op_eq (pe_call Gdraw (hr.mono (by omega)) (by rfl) ddraw.g ddraw.F.kp ddraw.b .nil pass0 (pa_cons (pv 0) (pa_cons pe_int pa_nil))) pe_int (nomark _))
          (pss_one (ps_expr (pe_bm PySem.F.plainAttrs_list PySem.F.slot_list_append PySem.F.type_list_append mt_append (pv 6) (pa_cons (pe_call Gnumber (hr.mono (by omega)) (by rfl) dnumber.g dnumber.F.kp dnumber.b .nil pass0 (pa_cons (pv 0) pa_nil)) pa_nil))))
          (pss_one (ps_expr (pe_bm PySem.F.plainAttrs_list PySem.F.slot_list_append PySem.F.type_list_append mt_append (pv 6) (pa_cons (pe_call Gany (hr.mono (by omega)) (by rfl) dany.g dany.F.kp dany.b .nil pass0 (pa_cons (pv 0) (pa_cons (pv 3) pa_nil))) pa_nil)))))))
      (pss_cons (ps_expr (pe_bm PySem.F.plainAttrs_list PySem.F.slot_list_append PySem.F.type_list_append mt_append (pv 4) (pa_cons (pv 6) pa_nil)))
      (pss_cons (ps_set (i := 5) sctree.nd rfl (Or.inl rfl) (pe_op op_add (pv 5) pe_int))
      (pss_one (ps_for PassesOwn.never rfl (pi_range1 (by rfl) T.n_range (pa_cons (pe_call Gdraw (hr.mono (by omega)) (by rfl) ddraw.g ddraw.F.kp ddraw.b .nil pass0 (pa_cons (pv 0) (pa_cons pe_int pa_nil))) pa_nil)) (pg_name (i := 7) sctree.nd rfl (Or.inl rfl))
        (pss_one (ps_if (pt_cmpR op_gt (pv 5) pe_int (nomark _))
          (pss_cons (ps_expr (pe_bm PySem.F.plainAttrs_list PySem.F.slot_list_append PySem.F.type_list_append mt_append (pv 4) (pa_cons pe_non pa_nil)))
          (pss_one (ps_set (i := 5) sctree.nd rfl (Or.inl rfl) (pe_op op_sub (pv 5) pe_int))))
          pss_nil)))))))))
    (pss_cons (ps_for PassesOwn.never rfl (pi_range1 (by rfl) T.n_range (pa_cons (pe_op op_sub (pv 5) pe_int) pa_nil)) (pg_name (i := 8) sctree.nd rfl (Or.inl rfl))
      (pss_one (ps_expr (pe_bm PySem.F.plainAttrs_list PySem.F.slot_list_append PySem.F.type_list_append mt_append (pv 4) (pa_cons pe_non pa_nil)))))
    (pss_one (ps_ret (pv 4)))))))), ?_⟩
    have p5 : (2 : Nat) ^ 5 = 32 := by decide
    -- the pool
    refine ⟨.ref a, rfl, (by show 5 ≤ sizeLine; decide), fun l1 nl1 => ?_⟩
    have s1 := same_upd (o := .lst [.int 1, .int 2, .int 4, .int 8, .int 20]) nl1
    refine ⟨a, l1, _, rfl, w0.same s1, w0.nea nl1, upd_same, (by show 0 < 5; decide), (by show 5 ≤ 100000; decide), fun H1 v x1 w1 hv => ?_⟩
    obtain ⟨c, rfl, c1, c9⟩ : ∃ k : Nat, v = .int (k : Int) ∧ 1 ≤ k ∧ k ≤ 20 := by
      simp only [List.mem_cons, List.not_mem_nil, or_false] at hv
      rcases hv with rfl | rfl | rfl | rfl | rfl
      · exact ⟨1, rfl, by decide, by decide⟩
      · exact ⟨2, rfl, by decide, by decide⟩
      · exact ⟨4, rfl, by decide, by decide⟩
      · exact ⟨8, rfl, by decide, by decide⟩
      · exact ⟨20, rfl, by decide, by decide⟩
    clear hv
    have x01 := (Same.exw (a := a) s1).trans x1
    refine ⟨c, rfl, by omega, by omega, ?_⟩
    rw [Int.toNat_natCast]
    intro Pl nD
    have nPl := w1.nea nD
    refine lc_range (lo := 0) (n := c) (fun j H3 => Exw a H1 H3 ∧ Ht a H3 ∧ ∃ zs : List Int, H3 Pl = some (.lst (zs.map V.int)) ∧ zs.length = j ∧ ∀ k ∈ zs, k.natAbs ≤ 2 ^ 89) ⟨Same.exw (same_upd nD), w1.same (same_upd nD), [], upd_same, rfl, fun _ h => nomatch h⟩ (fun j H3 hj g3 => ?_) (fun H3 g3 => ?_)
    · obtain ⟨x3, w3, zs, hD, zl, zb⟩ := g3
      refine ⟨rfl, .ref a, rfl, a, rfl, w3, fun H4 k x4 w4 hk => ?_⟩
      have hD4 := x4 _ _ nPl hD
      refine ⟨zs.map V.int, hD4, by rw [List.length_map, sizeLine_eq]; omega, (x3.trans x4).put nD, w4.put nPl, zs ++ [k], by rw [upd_same, List.map_append]; rfl, by rw [List.length_append, List.length_singleton]; omega, fun k' hk' => ?_⟩
      rcases List.mem_append.mp hk' with h | h
      · exact zb k' h
      · rw [List.mem_singleton.mp h]
        exact hk
    obtain ⟨x3, w3, zs, hP3, zl, zb⟩ := g3
    have x03 := x01.trans x3
    have pl : (zs.map V.int).length = zs.length := List.length_map _
    refine ⟨(by show 0 ≤ sizeLine; decide), fun S nS => ?_⟩
    have sS := same_upd (o := .lst []) nS
    have hS4 : (upd H3 S (.lst [])) S = some (.lst []) := upd_same
    have wS := w3.nea nS
    have x04 := x03.same sS
    have nS0 : H S = none := x03.gone wS nS
    have w4 := w3.same sS
    have hP4 := sS _ _ hP3
    have nPS : Pl ≠ S := ne_of_none hP3 nS
    generalize upd H3 S (.lst []) = H4 at hS4 x04 w4 hP4 ⊢
    -- the streams
    refine ⟨.ref a, rfl, .int (st : Int), rfl, a, (st : Int), rfl, w4, by omega, by have := lgP (n := (st : Int).natAbs) (k := 5) (by omega); omega, fun H5 m x5 w5 m0 m1 => ⟨_, _, rfl, rfl, ?_⟩⟩
    obtain ⟨n, hn⟩ := Int.eq_ofNat_of_zero_le (show (0 : Int) ≤ 1 + m by omega)
    refine ⟨n, congrArg (fun z => [V.int z]) hn, by omega, by omega, ?_⟩
    rw [Int.toNat_natCast]
    refine for_range (lo := 0) (n := n) (fun i σ H6 => ∃ (y6 y7 y8 : Option V) (us : List V) (l : List Stp), σ = [some (.ref a), some (.int (st : Int)), some (.int (mo : Int)), some (.ref Pl), some (.ref S), some (.int (hgt l)), y6, y7, y8] ∧ Exw a H H6 ∧ Ht a H6 ∧ H6 Pl = some (.lst (zs.map V.int)) ∧ H6 S = some (.lst us) ∧ Paired (LsAt a S H6) us l ∧ TrUp i mo l ∧ (1 ≤ i → 1 ≤ hgt l) ∧ 0 ≤ hgt l)
      ⟨none, none, none, [], [], rfl, x04.trans x5, w5, x5 _ _ nPl hP4, x5 _ _ wS hS4, .nil, ⟨fun i h => by simp at h, rfl, Nat.zero_le _, fun _ h => nomatch h⟩, fun h => by omega, by decide⟩ ?_ ?_
    · rintro i σ H6 hi ⟨y6, y7, y8, us, l, rfl, x6, w6, hP6, hS6, pu, tu, _, hg0⟩
      have ulen : us.length = l.length := Paired.length pu
      have lsum := tu.sum
      refine ⟨(by show 0 ≤ sizeLine; decide), fun F nF => ?_⟩
      have sF := same_upd (o := .lst []) nF
      have hF7 : (upd H6 F (.lst [])) F = some (.lst (([] : List Int).map V.int)) := upd_same
      have wF := w6.nea nF
      have x67 : Exw a H6 (upd H6 F (.lst [])) := Same.exw sF
      have nF0 : H F = none := x6.gone wF nF
      have w7 := w6.same sF
      have nFP : Pl ≠ F := ne_of_none hP6 nF
      have nFS : F ≠ S := (ne_of_none hS6 nF).symm
      generalize upd H6 F (.lst []) = H7 at hF7 x67 w7 ⊢
      refine ⟨.ref a, rfl, .int (mo : Int), rfl, _, _, rfl, rfl, a, (mo : Int) + 1, rfl, w7, by omega, by have := lgP (n := ((mo : Int) + 1).natAbs) (k := 5) (by omega); omega, fun H8 g x8 w8 g0 g1 => ?_⟩
      obtain ⟨g, rfl⟩ := Int.eq_ofNat_of_zero_le g0
      refine ⟨g, rfl, by omega, by omega, ?_⟩
      rw [Int.toNat_natCast]
      refine for_range (lo := 0) (n := g) (fun j σ H9 => ∃ (y7 : Option V) (fs : List Int), σ = [some (.ref a), some (.int (st : Int)), some (.int (mo : Int)), some (.ref Pl), some (.ref S), some (.int (hgt l)), some (.ref F), y7, some (.int (0 + (i : Int)))] ∧ Exw a H6 H9 ∧ Ht a H9 ∧ H9 F = some (.lst (fs.map V.int)) ∧ fs.length = j ∧ ∀ k ∈ fs, k.natAbs ≤ 2 ^ 89)
        ⟨y7, [], rfl, x67.trans x8, w8, x8 _ _ wF hF7, rfl, fun _ h => nomatch h⟩ ?_ ?_
      · rintro j σ H9 hj ⟨y7, fs, rfl, x9, w9, hF9, fl, fb⟩
        have addf : ∀ (H10 : Hp) (k : Int), Exw a H6 H10 → Ht a H10 → k.natAbs ≤ 2 ^ 89 → Exw a H6 (upd H10 F (.lst (fs.map V.int ++ [.int k]))) ∧ Ht a (upd H10 F (.lst (fs.map V.int ++ [.int k]))) ∧ (upd H10 F (.lst (fs.map V.int ++ [.int k]))) F = some (.lst ((fs ++ [k]).map V.int)) ∧ (fs ++ [k]).length = j + 1 ∧ ∀ k' ∈ fs ++ [k], k'.natAbs ≤ 2 ^ 89 := by
          intro H10 k x w hk
          refine ⟨x.put nF, w.put wF, by rw [upd_same, List.map_append]; rfl, by rw [List.length_append, List.length_singleton]; omega, fun k' hk' => ?_⟩
          rcases List.mem_append.mp hk' with h | h
          · exact fb k' h
          · rw [List.mem_singleton.mp h]
            exact hk
        have fl2 : (fs.map V.int).length < sizeLine := by rw [List.length_map, sizeLine_eq]; omega
        refine ⟨.ref a, rfl, a, 3, rfl, w9, by decide, by decide, fun H10 r x10 w10 _ _ => ⟨rfl, decide (r = 0), by rw [dec_int]; rfl, ?_⟩⟩
        have hF10 := x10 _ _ wF hF9
        have x610 := x9.trans x10
        cases decide (r = 0) with
        | true =>
          refine iteT ⟨.ref F, rfl, .inl ⟨rfl, _, sql hF10⟩, .ref a, rfl, a, rfl, w10, fun H11 k x11 w11 hk => ?_⟩
          have hF11 := x11 _ _ wF hF10
          obtain ⟨e1, e2, e3, e4, e5⟩ := addf H11 k (x610.trans x11) w11 hk
          exact ⟨F, _, .int k, rfl, rfl, hF11, fl2, _, fs ++ [k], rfl, e1, e2, e3, e4, e5⟩
        | false =>
          refine iteF ⟨.ref F, rfl, .inl ⟨rfl, _, sql hF10⟩, .ref a, rfl, .ref Pl, rfl, a, Pl, _, rfl, w10, nPl, x610 _ _ nPl hP6, by omega, by omega, fun H11 v x11 w11 hv => ?_⟩
          obtain ⟨k, hk, rfl⟩ := List.mem_map.mp hv
          have hF11 := x11 _ _ wF hF10
          obtain ⟨e1, e2, e3, e4, e5⟩ := addf H11 k (x610.trans x11) w11 (zb k hk)
          exact ⟨F, _, .int k, rfl, rfl, hF11, fl2, _, fs ++ [k], rfl, e1, e2, e3, e4, e5⟩
      · rintro σ H9 ⟨y7, fs, rfl, x9, w9, hF9, fl, fb⟩
        have hS9 := x9 _ _ wS hS6
        have hP9 := x9 _ _ nPl hP6
        have x09 := x6.trans x9
        have pu9 : Paired (LsAt a S H9) us l := paired_imp (fun _ _ h => h.exw x9) pu
        have tu2 := tu.put (ks := fs) (by omega) fb
        have ul2 : us.length < sizeLine := by rw [sizeLine_eq]; omega
        refine ⟨.ref S, rfl, .inl ⟨rfl, _, sql hS9⟩, .ref F, rfl, S, _, _, rfl, rfl, hS9, ul2, ?_⟩
        have hS10 : (upd H9 S (.lst (us ++ [.ref F]))) S = some (.lst (us ++ [.ref F])) := upd_same
        have x010 : Exw a H (upd H9 S (.lst (us ++ [.ref F]))) := x09.put nS0
        have w10 : Ht a (upd H9 S (.lst (us ++ [.ref F]))) := w9.put wS
        have hP10 : (upd H9 S (.lst (us ++ [.ref F]))) Pl = some (.lst (zs.map V.int)) := by rw [upd_ne nPS]; exact hP9
        have pu10 : Paired (LsAt a S (upd H9 S (.lst (us ++ [.ref F])))) (us ++ [.ref F]) (l ++ [some fs]) := paired_app (paired_imp (fun _ _ h => h.up) pu9) (.cons ⟨F, rfl, wF, nFS, by rw [upd_ne nFS]; exact hF9⟩ .nil)
        have hh : hgt (l ++ [some fs]) = hgt l + 1 := hgt_app l _
        generalize upd H9 S (.lst (us ++ [.ref F])) = H10 at hS10 x010 w10 hP10 pu10 ⊢
        refine ⟨.int (hgt l), rfl, _, _, rfl, rfl, ?_⟩
        refine ⟨.ref a, rfl, a, 3, rfl, w10, by decide, by decide, fun H11 g x11 w11 g0 g1 => ?_⟩
        obtain ⟨g, rfl⟩ := Int.eq_ofNat_of_zero_le g0
        refine ⟨g, rfl, by omega, by omega, ?_⟩
        rw [Int.toNat_natCast]
        refine for_range (lo := 0) (n := g) (fun j σ H9 => ∃ (y7 : Option V) (us : List V) (l : List Stp), σ = [some (.ref a), some (.int (st : Int)), some (.int (mo : Int)), some (.ref Pl), some (.ref S), some (.int (hgt l)), some (.ref F), y7, some (.int (0 + (i : Int)))] ∧ Exw a H H9 ∧ Ht a H9 ∧ H9 Pl = some (.lst (zs.map V.int)) ∧ H9 S = some (.lst us) ∧ Paired (LsAt a S H9) us l ∧ TrUp (i + 1) mo l ∧ 1 ≤ hgt l)
          ⟨y7, us ++ [.ref F], l ++ [some fs], by rw [hh]; rfl, x010.trans x11, w11, x11 _ _ nPl hP10, x11 _ _ wS hS10, paired_imp (fun _ _ h => h.exw x11) pu10, tu2, by omega⟩ ?_ ?_
        · rintro j σ H9 hj ⟨y7, us, l, rfl, x9, w9, hP9, hS9, pu, tu, h1⟩
          have ulen : us.length = l.length := Paired.length pu
          have lsum := tu.sum
          refine ⟨.int (hgt l), rfl, _, _, rfl, rfl, decide (1 < hgt l), rfl, ?_⟩
          by_cases c : 1 < hgt l
          · rw [decide_eq_true c]
            have hh : hgt (l ++ [none]) = hgt l - 1 := hgt_app l _
            refine iteT ⟨.ref S, rfl, .inl ⟨rfl, _, sql hS9⟩, S, _, _, rfl, rfl, hS9, by rw [sizeLine_eq]; omega, .int (hgt l), rfl, _, _, rfl, rfl, some (.int (0 + (j : Int))), us ++ [.non], l ++ [none], by rw [hh]; rfl, x9.put nS0, w9.put wS, by rw [upd_ne nPS]; exact hP9, upd_same, paired_app (paired_imp (fun _ _ h => h.up) pu) (.cons (show LsAt a S _ V.non none from rfl) .nil), tu.pour (by omega), by omega⟩
          · rw [decide_eq_false c]
            exact iteF ⟨_, us, l, rfl, x9, w9, hP9, hS9, pu, tu, h1⟩
        · rintro σ H9 ⟨y7, us, l, rfl, x9, w9, hP9, hS9, pu, tu, h1⟩
          exact ⟨_, _, _, us, l, rfl, x9, w9, hP9, hS9, pu, tu, fun _ => h1, by omega⟩
    · rintro σ H6 ⟨y6, y7, y8, us, l, rfl, x6, w6, hP6, hS6, pu, tu, hg1, hg0⟩
      have h1 := hg1 (by omega)
      have lsum := tu.sum
      obtain ⟨g, hg⟩ := Int.eq_ofNat_of_zero_le (show (0 : Int) ≤ hgt l - 1 by omega)
      refine ⟨.int (hgt l), rfl, _, _, rfl, rfl, ?_⟩
      refine ⟨g, congrArg (fun z => [V.int z]) hg, by omega, by omega, ?_⟩
      rw [Int.toNat_natCast]
      refine for_range (lo := 0) (n := g) (fun j σ H9 => ∃ (y5 y6 y7 y8 : Option V) (us : List V) (l' : List Stp), σ = [some (.ref a), some (.int (st : Int)), some (.int (mo : Int)), some (.ref Pl), some (.ref S), y5, y6, y7, y8] ∧ Exw a H H9 ∧ Ht a H9 ∧ H9 S = some (.lst us) ∧ Paired (LsAt a S H9) us l' ∧ TrUp n mo l' ∧ hgt l' = hgt l - (j : Nat))
        ⟨_, _, _, _, us, l, rfl, x6, w6, hS6, pu, tu, by omega⟩ ?_ ?_
      · rintro j σ H9 hj ⟨y5, y6, y7, y8, us, l', rfl, x9, w9, hS9, pu, tu, h2⟩
        have ulen : us.length = l'.length := Paired.length pu
        have lsum := tu.sum
        have hh : hgt (l' ++ [none]) = hgt l' - 1 := hgt_app l' _
        exact ⟨.ref S, rfl, .inl ⟨rfl, _, sql hS9⟩, S, _, _, rfl, rfl, hS9, by rw [sizeLine_eq]; omega, _, _, _, _, us ++ [.non], l' ++ [none], rfl, x9.put nS0, w9.put wS, upd_same, paired_app (paired_imp (fun _ _ h => h.up) pu) (.cons (show LsAt a S _ V.non none from rfl) .nil), tu.pour (by omega), by omega⟩
      · rintro σ H9 ⟨y5, y6, y7, y8, us, l', rfl, x9, w9, hS9, pu, tu, h2⟩
        have lsum := tu.sum
        have fw := tu.few
        have nm : n * mo ≤ 30 * 30 := Nat.mul_le_mul (by omega) mo30
        exact ⟨.ref S, rfl, q H9 S us l' x9 w9 wS hS9 pu ⟨tu.two, by omega, by omega, tu.kb, by omega⟩⟩
/-! _law_handed -/
def spHanded : Sp := fun vs H Q _ => ∃ (a S : Addr) (us : List V) (l : List Stp), vs = [.ref S] ∧ H S = some (.lst us) ∧ Paired (LsAt a S H) us l ∧ Tree l ∧ ∀ H' p, Same H H' → TreeAt H' p l → Q (.ref p) H'
theorem ok_handed (T : Blt mg) (dgcd : Dngcd K mg) (dvalue : Dnvalue K mg) (d : Dnhanded K mg) : FnOk P w K mg base CX0 3 d.f d.fd ["_law_steps_here"] spHanded := by
  have Gvalue : FnOk P w K mg base CX0 2 dvalue.f dvalue.fd ["_law_key"] spValue := ok_value T dgcd dvalue
  refine d.F.ok schanded (fun vs H Q E h => ?_) (fun cdv A outer s H vs Q E hr h => ?_)
  · obtain ⟨a, S, us, l, rfl, _⟩ := h
    rfl
  · obtain ⟨a, S, us, l, rfl, hS, pu, tr, q⟩ := h
    refine ⟨_, (pss_cons (ps_set (i := 1) schanded.nd rfl (Or.inl rfl) (pe_lst pa_nil))
    (pss_cons (ps_for PassesOwn.never rfl (pi_list (pv 0)) (pg_name (i := 2) schanded.nd rfl (Or.inl rfl))
      (pss_one (ps_if (pt_cmpR op_isN (pv 2) pe_non (nomark _))
        (pss_one (ps_expr (pe_bm PySem.F.plainAttrs_list PySem.F.slot_list_append PySem.F.type_list_append mt_append (pv 1) (pa_cons (pe_tupF (pa_cons pe_str pa_nil)) pa_nil))))
        (pss_one (ps_expr (pe_bm PySem.F.plainAttrs_list PySem.F.slot_list_append PySem.F.type_list_append mt_append (pv 1) (pa_cons (pe_tupF (pa_cons pe_str (pa_cons (pe_callTy call_tupleF (by rfl) T.n_tuple (by decide +kernel) (pa_cons (pe_lc (own := [("_law_key", 3)]) (g := gName 3) (tt := tYes) rfl schanded.nd (pi_list (pv 2)) (blkOk_by (N := Nhanded) (sc := defScope shanded) (by decide +kernel)) (fun _ _ _ _ _ => pg_name (i := 3) schanded.nd rfl (Or.inl rfl)) (fun _ _ _ _ _ => pts_nil) (fun _ _ _ _ _ => (pe_call Gvalue (hr.mono (by omega)) (by rfl) dvalue.g dvalue.F.kp dvalue.b .nil pass0 (pa_cons (pv 3) pa_nil)))) pa_nil)) pa_nil))) pa_nil)))))))
    (pss_one (ps_ret (pe_callTy call_tupleF (by rfl) T.n_tuple (by decide +kernel) (pa_cons (pv 1) pa_nil)))))), ?_⟩
    have ul : us.length = l.length := Paired.length pu
    have ll := tr.len
    refine ⟨(by show 0 ≤ sizeLine; decide), fun F nF => ?_⟩
    have s1 := same_upd (o := .lst []) nF
    refine ⟨.ref S, rfl, S, rfl, ⟨_, sql (s1 _ _ hS)⟩, ?_⟩
    refine for_list (xs := us) (fun i σ H2 => ∃ (y2 : Option V) (ws : List V), σ = [some (.ref S), some (.ref F), y2, none] ∧ Same H H2 ∧ H2 F = some (.lst ws) ∧ Paired (StpAt H2) ws (l.take i)) ⟨none, [], rfl, s1, upd_same, .nil⟩ (fun i σ H2 _ ⟨_, _, _, s, _⟩ => sql (s _ _ hS)) ?_ ?_
    · rintro i v σ H2 hv ⟨y2, ws, rfl, s2, hF2, pw⟩
      obtain ⟨t, ht, hat⟩ := paired_at pu hv
      have il := (List.getElem?_eq_some_iff.mp ht).1
      have wl : ws.length ≤ i := by rw [Paired.length pw, List.length_take]; omega
      have et : l.take (i + 1) = l.take i ++ [t] := by rw [List.take_add_one, ht]; rfl
      have keepS : ∀ {H3 : Hp} {y : V}, Same H2 H3 → Paired (StpAt (upd H3 F (.lst (ws ++ [y])))) ws (l.take i) := fun {H3 y} s3 => paired_imp (fun v t h => by
        have kp : KpD H3 (upd H3 F (.lst (ws ++ [y]))) := kpD_list (s3 _ _ hF2)
        have h := h.same s3
        cases t with
        | some ks =>
          obtain ⟨a, b, us, e, h1, h2, r⟩ := h
          exact ⟨a, b, us, e, kp.t _ _ h1, kp.t _ _ h2, paired_imp (fun _ _ h => h.keep kp.t) r⟩
        | none =>
          obtain ⟨a, e, h1⟩ := h
          exact ⟨a, e, kp.t _ _ h1⟩) pw
      cases t with
      | none =>
        obtain rfl : v = .non := hat
        refine ⟨.non, rfl, rfl, true, rfl, iteT ⟨.ref F, rfl, .inl ⟨rfl, _, sql hF2⟩, (by show 1 ≤ sizeLine; decide), fun t o nt ho => ?_⟩⟩
        have sT := same_upd (o := .frz o (.tup [.str (Str.ofString "pour")])) nt
        have hT : Ptp (upd H2 t (.frz o (.tup [.str (Str.ofString "pour")]))) t [.str (Str.ofString "pour")] := ⟨o, upd_same, ho⟩
        generalize upd H2 t (.frz o (.tup [.str (Str.ofString "pour")])) = H3 at sT hT ⊢
        have hF3 := sT _ _ hF2
        have kp : KpD H3 (upd H3 F (.lst (ws ++ [.ref t]))) := kpD_list hF3
        refine ⟨F, ws, .ref t, rfl, rfl, hF3, by rw [sizeLine_eq]; omega, _, ws ++ [.ref t], rfl, Same.put (s2.trans sT) nF, upd_same, ?_⟩
        rw [et]
        exact paired_app (keepS sT) (.cons ⟨t, rfl, kp.t _ _ hT⟩ .nil)
      | some ks =>
        obtain ⟨b, rfl, nba, nbS, hb⟩ := hat
        have hb2 := s2 _ _ hb
        have kl := itm_len ht
        have few := tr.few
        refine ⟨.ref b, rfl, rfl, false, rfl, iteF ⟨.ref F, rfl, .inl ⟨rfl, _, sql hF2⟩, .ref b, rfl, b, rfl, ⟨_, sql hb2⟩, fun D nD => ?_⟩⟩
        refine lc_list (xs := ks.map V.int) (fun j H3 => Same H2 H3 ∧ ∃ xs, H3 D = some (.lst xs) ∧ Paired (FrAt H3) xs (ks.take j)) ⟨same_upd nD, [], upd_same, .nil⟩ (fun j H3 _ h3 => sql (h3.1 _ _ hb2)) (fun j x H3 hx h3 => ?_) (fun H3 h3 => ?_)
        · obtain ⟨s3, xs, hD3, px⟩ := h3
          obtain ⟨k, hk, rfl⟩ := map_at hx
          have jl := (List.getElem?_eq_some_iff.mp hk).1
          have xl : xs.length ≤ j := by rw [Paired.length px, List.length_take]; omega
          have kb := tr.kb k (itm_at ht k (List.mem_of_getElem? hk))
          refine ⟨rfl, .int k, rfl, k, rfl, Nat.le_trans kb (by decide), fun H4 p4 s4 hp4 => ?_⟩
          have hD4 := s4 _ _ hD3
          have kp : KpD H4 (upd H4 D (.lst (xs ++ [.ref p4]))) := kpD_list hD4
          refine ⟨xs, hD4, by rw [sizeLine_eq]; omega, Same.put (s3.trans s4) nD, xs ++ [.ref p4], upd_same, ?_⟩
          rw [List.take_add_one, hk]
          exact paired_app (paired_imp (fun _ _ h => (h.same s4).keep kp.t) px) (.cons ⟨p4, rfl, kp.t _ _ hp4⟩ .nil)
        · obtain ⟨s3, xs, hD3, px⟩ := h3
          rw [List.length_map, List.take_length] at px
          refine ⟨D, xs, rfl, sql hD3, fun t o nt ho => ?_⟩
          have sT := same_upd (o := .frz o (.tup xs)) nt
          have hT : Ptp (upd H3 t (.frz o (.tup xs))) t xs := ⟨o, upd_same, ho⟩
          have px4 := frs_same px sT
          generalize upd H3 t (.frz o (.tup xs)) = H4 at sT hT px4 ⊢
          refine ⟨(by show 2 ≤ sizeLine; decide), fun t2 o2 nt2 ho2 => ?_⟩
          have sU := same_upd (o := .frz o2 (.tup [.str (Str.ofString "numbers"), .ref t])) nt2
          have hU : Ptp (upd H4 t2 (.frz o2 (.tup [.str (Str.ofString "numbers"), .ref t]))) t2 [.str (Str.ofString "numbers"), .ref t] := ⟨o2, upd_same, ho2⟩
          generalize upd H4 t2 (.frz o2 (.tup [.str (Str.ofString "numbers"), .ref t])) = H5 at sU hU ⊢
          have s25 := (s3.trans sT).trans sU
          have hF5 := s25 _ _ hF2
          have kp : KpD H5 (upd H5 F (.lst (ws ++ [.ref t2]))) := kpD_list hF5
          refine ⟨F, ws, .ref t2, rfl, rfl, hF5, by rw [sizeLine_eq]; omega, _, ws ++ [.ref t2], rfl, Same.put (s2.trans s25) nF, upd_same, ?_⟩
          rw [et]
          exact paired_app (keepS s25) (.cons ⟨t2, t, xs, rfl, kp.t _ _ hU, kp.t _ _ (hT.same sU), paired_imp (fun _ _ h => (h.same sU).keep kp.t) px4⟩ .nil)
    · rintro σ H2 ⟨y2, ws, rfl, s2, hF2, pw⟩
      rw [ul, List.take_length] at pw
      refine ⟨.ref F, rfl, F, ws, rfl, sql hF2, fun t o nt ho => ?_⟩
      have sT := same_upd (o := .frz o (.tup ws)) nt
      exact q _ t (s2.trans sT) ⟨ws, ⟨o, upd_same, ho⟩, paired_same sT pw⟩
end
end Kb

/-! d.update(d2), of ints and texts as keys -/
namespace RZ
open PySem PySem.Spec PyProof.Rows L2
section
variable {X : Cx}
def rUpdK : V → List V → Hp → VK → Prop := fun x vs H Q => ∃ (d o : Addr) (kvs more : List (L2.Key × V)), x = .ref d ∧ vs = [.ref o] ∧ d ≠ o ∧ H d = some (.dK kvs) ∧ H o = some (.dK more) ∧ kvs.length + more.length ≤ sizeLine ∧ Q .non (upd H d (.dK (mergeK kvs more)))
theorem mt_updK : MtM X "dict.update" rUpdK := by
  intro pins s σ H x vs v us Q I rx rv h
  obtain ⟨d, o, kvs, more, rfl, rfl, ne, hd, ho, hz, q⟩ := h
  cases rx
  obtain ⟨u, rfl, ru⟩ := rv.one
  cases ru
  obtain ⟨z1, y1, vs1, r1, d1⟩ := dk_of I.hok hd
  obtain ⟨z2, y2, vs2, r2, d2⟩ := dk_of I.hok ho
  have l1 := r1.length
  have l2 := r2.length
  refine call_meetsIn PySem.F.slot_dict_update d1.typeIs PySem.F.entry_dict_update (PySem.F.args_dict_update_2 _ _) (meets_dict_update (mixKind X.prog X.w) d o ne y2) ⟨vs1, vs2, d1, d2, by omega, fun h' d1' d2' hs => ?_⟩
  have lz : (mergeK kvs more).length ≤ sizeLine := Nat.le_trans (length_mergeK more kvs) hz
  have new : ObjOk X.prog X.w (upd H d (.dK (mergeK kvs more))) h' d (.dK (mergeK kvs more)) := ⟨lz, y1, merged vs1 vs2, KV.merge r2 r1, d1'⟩
  obtain ⟨o1, es, ep, e1, _⟩ := id d1'
  refine ⟨.non, _, I.write (x := d) (e := d) (t' := s.toks) (by rw [hd]; exact trivial) (.inl rfl) (fun b q hb z => (hs.2 b hb).trans z) ⟨o1, e1⟩ new, rfl, q⟩
end
end RZ

namespace Kb
open PySem PySem.Spec PyProof.Rows L2 RZ
abbrev sled : Stmt := topS 61
abbrev Nled : List Str := ["_law_room", "_law_steps_here", "_law_pile", "_law_keys", "_law_other", "_law_one_here", "_law_many"]
theorem scled : FnScope ["_law_room", "_law_steps_here", "_law_pile", "_law_keys", "_law_other", "_law_one_here", "_law_many"] ["_law_room", "_law_steps_here"] (defScope sled) := ⟨rfl, rfl, rfl, by decide +kernel, rfl, by decide +kernel, by decide +kernel⟩
abbrev Dnled (K : PySem.W.Frag) (mg : Str → Option Value) := Dn K mg "_law_led" sled ["_law_room", "_law_steps_here"]
section
variable {P : Program} {w : World} {K : PySem.W.Frag} {mg : Str → Option Value} {base : Heap}
theorem fn_imp {CX : CXT} {k : Nat} {f : Addr} {fd : FuncData} {ps : List Str} {s1 s2 : Sp} (F1 : FnOk P w K mg base CX k f fd ps s1) (h : ∀ vs H Q E, s2 vs H Q E → s1 vs H Q E) : FnOk P w K mg base CX k f fd ps s2 :=
  ⟨fun vs H Q E x => F1.len vs H Q E (h vs H Q E x), fun A outer s H args us vs Q E hr e0 hb r x => F1.run A outer s H args us vs Q E hr e0 hb r (h vs H Q E x)⟩
theorem fn_or {CX : CXT} {k : Nat} {f : Addr} {fd : FuncData} {ps : List Str} {s1 s2 : Sp} (F1 : FnOk P w K mg base CX k f fd ps s1) (F2 : FnOk P w K mg base CX k f fd ps s2) : FnOk P w K mg base CX k f fd ps (fun vs H Q E => s1 vs H Q E ∨ s2 vs H Q E) :=
  ⟨fun vs H Q E h => h.elim (F1.len vs H Q E) (F2.len vs H Q E), fun A outer s H args us vs Q E hr e0 hb r h => h.elim (F1.run A outer s H args us vs Q E hr e0 hb r) (F2.run A outer s H args us vs Q E hr e0 hb r)⟩
/-- of as many marks as there is room for, or fewer -/
def spThinnedS : Sp := fun vs H Q _ => ∃ (room : Nat) (n : Int) (l : Addr) (us : List V) (fs : List Fd), vs = [.int (room : Int), .int n, .ref l] ∧ H l = some (.lst us) ∧ Paired (FdAt H) us fs ∧ fs.length ≤ room ∧
  ∀ H' p ws, Same H H' → H p = none → H' p = some (.lst ws) → Paired (FdAt H') ws fs → Q (.ref p) H'
theorem ok_thinnedS (T : Blt mg) (dsteps : Dnsteps K mg) (d : Dnthinned K mg) : FnOk P w K mg base CX0 2 d.f d.fd ["_law_room", "_law_many", "_law_marks"] spThinnedS := by
  have Gsteps : FnOk P w K mg base CX0 1 dsteps.f dsteps.fd ["_law_marks", "_law_many", "_law_most"] (spSteps K) := ok_steps T dsteps
  refine d.F.ok scthinned (fun vs H Q E h => ?_) (fun cdv A outer s H vs Q E hr h => ?_)
  · obtain ⟨room, n, l, us, fs, rfl, _⟩ := h
    rfl
  · obtain ⟨room, n, l, us, fs, rfl, hl, pr, fl, q⟩ := h
    refine ⟨_, (pss_cons (ps_if (pt_cmpR op_le (pe_callB call_len_seq (by rfl) T.n_len (by decide +kernel) (pa_cons (pv 2) pa_nil)) (pv 0) (nomark _))
      (pss_one (ps_ret (pe_callTy call_list_of (by rfl) T.n_list (by decide +kernel) (pa_cons (pv 2) pa_nil))))
      pss_nil)
    (pss_cons (ps_set (i := 3) scthinned.nd rfl (Or.inl rfl) (pe_un un_neg pe_int))
    (pss_cons (ps_set (i := 4) scthinned.nd rfl (Or.inl rfl) (pv 1))
    (pss_cons (ps_for PassesOwn.never rfl (pi_range1 (by rfl) T.n_range (pa_cons pe_int pa_nil)) (pg_name (i := 5) scthinned.nd rfl (Or.inl rfl))
      (pss_one (ps_if (pt_cmpR op_gt (pe_op op_sub (pv 4) (pv 3)) pe_int (nomark _))
        (pss_cons (ps_set (i := 6) scthinned.nd rfl (Or.inl rfl) (pe_op op_fdiv (pe_op op_add (pv 3) (pv 4)) pe_int))
        (pss_cons (ps_set (i := 7) scthinned.nd rfl (Or.inl rfl) (pe_call Gsteps (hr.mono (by omega)) (by rfl) dsteps.g dsteps.F.kp dsteps.b .nil pass0 (pa_cons (pv 2) (pa_cons (pv 1) (pa_cons (pv 6) pa_nil)))))
        (pss_one (ps_if (PW.pt (pw_and (pt_cmpR op_notN (pv 7) pe_non (nomark _)) (pw_and1 (pt_cmpR op_le (pe_callB call_len_seq (by rfl) T.n_len (by decide +kernel) (pa_cons (pv 7) pa_nil)) (pv 0) (nomark _)))))
          (pss_one (ps_set (i := 4) scthinned.nd rfl (Or.inl rfl) (pv 6)))
          (pss_one (ps_set (i := 3) scthinned.nd rfl (Or.inl rfl) (pv 6)))))))
        pss_nil)))
    (pss_one (ps_ret (pe_call Gsteps (hr.mono (by omega)) (by rfl) dsteps.g dsteps.F.kp dsteps.b .nil pass0 (pa_cons (pv 2) (pa_cons (pv 1) (pa_cons (pv 4) pa_nil)))))))))), ?_⟩
    have ul : us.length = fs.length := Paired.length pr
    refine ⟨.ref l, rfl, l, _, rfl, .inl (sql hl), .int (room : Int), rfl, _, _, rfl, rfl, true, congrArg V.bl (decide_eq_true (by omega)), iteT ?_⟩
    exact ⟨.ref l, rfl, l, us, rfl, .inl (sql hl), fun p np => q _ p us (same_upd np) np upd_same (fds_same pr (same_upd np))⟩
def spThinnedA : Sp := fun vs H Q _ => ∃ (room : Nat) (n : Int) (l : Addr) (us : List V) (fs : List Fd), vs = [.int (room : Int), .int n, .ref l] ∧ H l = some (.lst us) ∧ Paired (FdAt H) us fs ∧ FsOk n fs ∧
  ∀ r, ThinOut room n fs r → ∀ H' p ws, Same H H' → H p = none → H' p = some (.lst ws) → Paired (FdAt H') ws r → Q (.ref p) H'
theorem ok_thinnedA (T : Blt mg) (dsteps : Dnsteps K mg) (d : Dnthinned K mg) : FnOk P w K mg base CX0 2 d.f d.fd ["_law_room", "_law_many", "_law_marks"] spThinnedA := by
  refine fn_imp (fn_or (ok_thinnedS T dsteps d) (ok_thinnedL T dsteps d)) fun vs H Q E h => ?_
  obtain ⟨room, n, l, us, fs, rfl, hl, pr, ok, q⟩ := h
  by_cases c : fs.length ≤ room
  · exact .inl ⟨room, n, l, us, fs, rfl, hl, pr, c, fun H' p ws s np hp pw => q fs (.inl ⟨c, rfl⟩) H' p ws s np hp pw⟩
  · have n1 := ok.n1
    have p40 : (2 : Int) ^ 40 = 1099511627776 := by decide
    have p41 : (2 : Int) ^ 41 = 2199023255552 := by decide
    exact .inr ⟨room, n, l, us, fs, rfl, hl, pr, ok.len, by omega, ok.n0, by omega, ok.up, fun g r ih er H' p ws s np hp pw => q r (.inr ⟨by omega, g, ih, er⟩) H' p ws s np hp pw⟩
/-! _law_led -/
def EnAt (L : Addr) (H : Hp) (v : V) (e : Ent) : Prop := ∃ p l us, v = .ref p ∧ Ptp H p [.int e.n, .ref l] ∧ l ≠ L ∧ H l = some (.lst us) ∧ Paired (FdAt H) us e.fs
theorem EnAt.same {L : Addr} {H H' : Hp} {v : V} {e : Ent} (h : EnAt L H v e) (s : Same H H') : EnAt L H' v e := let ⟨p, l, us, e, a, n, b, c⟩ := h; ⟨p, l, us, e, a.same s, n, s _ _ b, fds_same c s⟩
theorem EnAt.up {L : Addr} {H : Hp} {v : V} {e : Ent} {xs ys : List V} (h : EnAt L H v e) (hL : H L = some (.lst xs)) : EnAt L (upd H L (.lst ys)) v e := by
  obtain ⟨p, l, us, e, a, n, b, c⟩ := h
  have kp : KpD H (upd H L (.lst ys)) := kpD_list hL
  exact ⟨p, l, us, e, kp.t _ _ a, n, by rw [upd_ne n]; exact b, paired_imp (fun _ _ h => h.keep kp) c⟩
theorem EnAt.pr {L : Addr} {H : Hp} {p : Addr} {e : Ent} (h : EnAt L H (.ref p) e) : PrAt H p e.n e.fs := by
  obtain ⟨p', l, us, e', a, n, b, c⟩ := h
  cases e'
  exact ⟨l, us, a, b, c⟩
def spLed : Sp := fun vs H Q _ => ∃ (room : Nat) (a S : Addr) (us : List V) (l : List Stp), vs = [.int (room : Int), .ref S] ∧ H S = some (.lst us) ∧ Paired (LsAt a S H) us l ∧ Tree l ∧ 1 ≤ room ∧ room ≤ 64 ∧
  ∀ e, RunR room l [] [e] → ∀ H' p, Same H H' → PrAt H' p e.n e.fs → Q (.ref p) H'
theorem ls_same {a S : Addr} {H H' : Hp} {us : List V} {l : List Stp} (h : Paired (LsAt a S H) us l) (s : Same H H') : Paired (LsAt a S H') us l := paired_imp (fun _ _ h => h.exw (Same.exw s)) h
theorem ok_led (T : Blt mg) (dends : Dnends K mg) (dexact : Dnexact K mg) (dsteps : Dnsteps K mg) (dthinned : Dnthinned K mg) (dadded : Dnadded K mg) (d : Dnled K mg) : FnOk P w K mg base CX0 3 d.f d.fd ["_law_room", "_law_steps_here"] spLed := by
  have Gexact : FnOk P w K mg base CX0 1 dexact.f dexact.fd ["_law_keys"] spExact := ok_exact T dexact
  have Gthinned : FnOk P w K mg base CX0 2 dthinned.f dthinned.fd ["_law_room", "_law_many", "_law_marks"] spThinnedA := ok_thinnedA T dsteps dthinned
  have Gadded : FnOk P w K mg base CX0 2 dadded.f dadded.fd ["_law_one_here", "_law_other"] spAdded := ok_added T dends dadded
  refine d.F.ok scled (fun vs H Q E h => ?_) (fun cdv A outer s H vs Q E hr h => ?_)
  · obtain ⟨room, a, S, us, l, rfl, _⟩ := h
    rfl
  · obtain ⟨room, a, S, us, l, rfl, hS, pu, tr, r1, r64, q⟩ := h
    refine ⟨_, (pss_cons (ps_set (i := 2) scled.nd rfl (Or.inl rfl) (pe_lst pa_nil))
    (pss_cons (ps_for PassesOwn.never rfl (pi_list (pv 1)) (pg_name (i := 3) scled.nd rfl (Or.inl rfl))
      (pss_one (ps_if (pt_cmpR op_isN (pv 3) pe_non (nomark _))
        (pss_cons (ps_set (i := 4) scled.nd rfl (Or.inl rfl) (pe_bm0 PySem.F.plainAttrs_list PySem.F.slot_list_pop PySem.F.type_list_pop mt_pop (pv 2)))
        (pss_cons (ps_set (i := 5) scled.nd rfl (Or.inl rfl) (pe_bm0 PySem.F.plainAttrs_list PySem.F.slot_list_pop PySem.F.type_list_pop mt_pop (pv 2)))
        (pss_cons (ps_set (i := 6) scled.nd rfl (Or.inl rfl) (pe_op op_add (pe_ix ix_tup (pv 5) pe_int (fun _ _ => rfl)) (pe_ix ix_tup (pv 4) pe_int (fun _ _ => rfl))))
        (pss_one (ps_expr (pe_bm PySem.F.plainAttrs_list PySem.F.slot_list_append PySem.F.type_list_append mt_append (pv 2) (pa_cons (pe_tupF (pa_cons (pv 6) (pa_cons (pe_call Gthinned (hr.mono (by omega)) (by rfl) dthinned.g dthinned.F.kp dthinned.b .nil pass0 (pa_cons (pv 0) (pa_cons (pv 6) (pa_cons (pe_call Gadded (hr.mono (by omega)) (by rfl) dadded.g dadded.F.kp dadded.b .nil pass0 (pa_cons (pv 5) (pa_cons (pv 4) pa_nil))) pa_nil)))) pa_nil))) pa_nil)))))))
        (pss_one (ps_expr (pe_bm PySem.F.plainAttrs_list PySem.F.slot_list_append PySem.F.type_list_append mt_append (pv 2) (pa_cons (pe_tupF (pa_cons (pe_callB call_len_seq (by rfl) T.n_len (by decide +kernel) (pa_cons (pv 3) pa_nil)) (pa_cons (pe_call Gthinned (hr.mono (by omega)) (by rfl) dthinned.g dthinned.F.kp dthinned.b .nil pass0 (pa_cons (pv 0) (pa_cons (pe_callB call_len_seq (by rfl) T.n_len (by decide +kernel) (pa_cons (pv 3) pa_nil)) (pa_cons (pe_call Gexact (hr.mono (by omega)) (by rfl) dexact.g dexact.F.kp dexact.b .nil pass0 (pa_cons (pv 3) pa_nil)) pa_nil)))) pa_nil))) pa_nil)))))))
    (pss_one (ps_ret (pe_ix ix_list (pv 2) pe_int (fun _ _ => rfl)))))), ?_⟩
    have ul : us.length = l.length := Paired.length pu
    have ll := tr.len
    refine ⟨(by show 0 ≤ sizeLine; decide), fun L nL => ?_⟩
    have s1 := same_upd (o := .lst []) nL
    refine ⟨.ref S, rfl, S, rfl, ⟨_, sql (s1 _ _ hS)⟩, ?_⟩
    refine for_list (xs := us) (fun i σ H2 => ∃ (y3 y4 y5 y6 : Option V) (ps : List V) (p : List Ent), σ = [some (.int (room : Int)), some (.ref S), some (.ref L), y3, y4, y5, y6] ∧ Same H H2 ∧ H2 L = some (.lst ps) ∧ Paired (EnAt L H2) ps p ∧ RunR room (l.take i) [] p) ⟨none, none, none, none, [], [], rfl, s1, upd_same, .nil, rfl⟩ (fun i σ H2 _ ⟨_, _, _, _, _, _, _, s, _⟩ => sql (s _ _ hS)) ?_ ?_
    · rintro i v σ H2 hv ⟨y3, y4, y5, y6, ps, p, rfl, s2, hL2, pp, run⟩
      obtain ⟨t, ht, hat⟩ := paired_at pu hv
      have il := (List.getElem?_eq_some_iff.mp ht).1
      have pl : ps.length ≤ i := by
        have h1 := run_short run
        rw [List.length_take] at h1
        change p.length ≤ 0 + _ at h1
        rw [Paired.length pp]
        omega
      cases t with
      | none =>
        obtain rfl : v = .non := hat
        obtain ⟨q', ea, eb, rfl⟩ := tr.pile ht run
        obtain ⟨oks, fl⟩ := tr.run r1 r64 run
        have A := oks ea (by simp)
        have B := oks eb (by simp)
        obtain ⟨iq, iab, rfl, pq, pab⟩ := paired_two pp
        obtain ⟨va, vb, rfl⟩ := two (show iab.length = 2 from Paired.length pab)
        obtain ⟨na, nb⟩ := paired2 pab
        have e1 : iq ++ [va, vb] = (iq ++ [va]) ++ [vb] := by rw [List.append_assoc]; rfl
        rw [e1] at hL2
        refine ⟨.non, rfl, rfl, true, rfl, iteT ⟨.ref L, rfl, .inl ⟨rfl, _, sql hL2⟩, L, _, vb, rfl, rfl, hL2, by simp, ?_⟩⟩
        rw [List.dropLast_concat]
        have hL3 : (upd H2 L (.lst (iq ++ [va]))) L = some (.lst (iq ++ [va])) := upd_same
        have s3 : Same H (upd H2 L (.lst (iq ++ [va]))) := Same.put s2 nL
        have na3 := na.up (ys := iq ++ [va]) hL2
        have nb3 := nb.up (ys := iq ++ [va]) hL2
        have pq3 : Paired (EnAt L (upd H2 L (.lst (iq ++ [va])))) iq q' := paired_imp (fun _ _ h => h.up hL2) pq
        generalize upd H2 L (.lst (iq ++ [va])) = H3 at hL3 s3 na3 nb3 pq3 ⊢
        refine ⟨.ref L, rfl, .inl ⟨rfl, _, sql hL3⟩, L, _, va, rfl, rfl, hL3, by simp, ?_⟩
        rw [List.dropLast_concat]
        have hL4 : (upd H3 L (.lst iq)) L = some (.lst iq) := upd_same
        have s4 : Same H (upd H3 L (.lst iq)) := Same.put s3 nL
        have na4 := na3.up (ys := iq) hL3
        have nb4 := nb3.up (ys := iq) hL3
        have pq4 : Paired (EnAt L (upd H3 L (.lst iq))) iq q' := paired_imp (fun _ _ h => h.up hL3) pq3
        generalize upd H3 L (.lst iq) = H4 at hL4 s4 na4 nb4 pq4 ⊢
        obtain ⟨pa, la, ua, rfl, a1, a2, a3, a4⟩ := id na4
        obtain ⟨pb, lb, ub, rfl, b1, b2, b3, b4⟩ := id nb4
        refine ⟨.ref pa, rfl, pa, _, _, _, rfl, rfl, a1.seq, atI_nat (j := 0) rfl, .ref pb, rfl, pb, _, _, _, rfl, rfl, b1.seq, atI_nat (j := 0) rfl, _, _, rfl, rfl, ?_⟩
        have an := A.n
        have bn := B.n
        have al := A.len
        have bl := B.len
        have p40 : (2 : Int) ^ 40 = 1099511627776 := by decide
        have nm : ea.n + eb.n ≤ 2 ^ 40 := by
          have h2 : (ea.ks ++ eb.ks).length ≤ (itm (l.take i)).length := by
            rw [← fl, List.flatMap_append, List.length_append]
            simp
          have h3 := itm_take (l := l) (i := i)
          have h4 := tr.few
          rw [List.length_append] at h2
          omega
        refine ⟨.ref L, rfl, .inl ⟨rfl, _, sql hL4⟩, .int (ea.n + eb.n), rfl, .int (room : Int), rfl, .int (ea.n + eb.n), rfl, .ref pa, rfl, .ref pb, rfl, pa, pb, ea.n, eb.n, ea.fs, eb.fs, rfl, na4.pr, nb4.pr, A.fok, B.fok, by omega, by omega, fun ys srt H5 p5 u5 s5 np5 hp5 pu5 => ?_⟩
        have yl := mapk_len srt
        refine ⟨room, ea.n + eb.n, p5, u5, _, rfl, hp5, pu5, add_ok A.fok B.fok srt nm (by omega), fun r thin H6 p6 w6 s6 np6 hp6 pw6 => ?_⟩
        refine ⟨(by show 2 ≤ sizeLine; decide), fun t1 o1 nt1 ho1 => ?_⟩
        have s7 := same_upd (o := .frz o1 (.tup [.int (ea.n + eb.n), .ref p6])) nt1
        have h7 : Ptp (upd H6 t1 (.frz o1 (.tup [.int (ea.n + eb.n), .ref p6]))) t1 [.int (ea.n + eb.n), .ref p6] := ⟨o1, upd_same, ho1⟩
        generalize upd H6 t1 (.frz o1 (.tup [.int (ea.n + eb.n), .ref p6])) = H7 at s7 h7 ⊢
        have s47 := (s5.trans s6).trans s7
        have hL5 := s5 _ _ hL4
        have ne6 : p6 ≠ L := fun e => by rw [e, hL5] at np6; cases np6
        have hL7 := s47 _ _ hL4
        have en : EnAt L H7 (.ref t1) (pourE room ea eb r) := ⟨t1, p6, w6, rfl, h7, ne6, s7 _ _ hp6, fds_same pw6 s7⟩
        rw [List.length_append] at pl
        refine ⟨L, iq, .ref t1, rfl, rfl, hL7, by rw [sizeLine_eq]; omega, _, _, _, _, iq ++ [.ref t1], q' ++ [pourE room ea eb r], rfl, Same.put (s4.trans s47) nL, upd_same, paired_app (paired_imp (fun _ _ h => (h.same s47).up hL7) pq4) (.cons (en.up hL7) .nil), run.step ht ⟨q', ea, eb, ys, r, rfl, srt, thin, rfl⟩⟩
      | some ks =>
        obtain ⟨b, rfl, nba, nbS, hb⟩ := hat
        have hb2 := s2 _ _ hb
        have kl := itm_len ht
        have few := tr.few
        have kbb : ∀ k ∈ ks, k.natAbs ≤ 2 ^ 89 := fun k hk => tr.kb k (itm_at ht k hk)
        have ml : (ks.map V.int).length = ks.length := List.length_map _
        refine ⟨.ref b, rfl, rfl, false, rfl, iteF ⟨.ref L, rfl, .inl ⟨rfl, _, sql hL2⟩, .ref b, rfl, b, _, rfl, .inl (sql hb2), .int (room : Int), rfl, .ref b, rfl, b, _, rfl, .inl (sql hb2), .ref b, rfl, b, ks, rfl, hb2, by omega, fun ys srt H5 p5 u5 s5 np5 hp5 pu5 => ?_⟩⟩
        have nd : ys.Nodup := srt.up.imp fun {a b} h => by omega
        have yl : ys.length ≤ ks.length := nd_len nd fun k hk => (srt.mem k).mp hk
        have fok := exF_ok srt kbb (by have : (2 : Nat) ^ 30 = 1073741824 := by decide
                                       omega) (by omega)
        rw [← ml] at fok
        refine ⟨room, (((ks.map V.int).length : Nat) : Int), p5, u5, _, rfl, hp5, pu5, fok, fun r thin H6 p6 w6 s6 np6 hp6 pw6 => ?_⟩
        rw [ml] at thin
        refine ⟨(by show 2 ≤ sizeLine; decide), fun t1 o1 nt1 ho1 => ?_⟩
        have s7 := same_upd (o := .frz o1 (.tup [.int (((ks.map V.int).length : Nat) : Int), .ref p6])) nt1
        have h7 : Ptp (upd H6 t1 (.frz o1 (.tup [.int (((ks.map V.int).length : Nat) : Int), .ref p6]))) t1 [.int ((ks.length : Nat) : Int), .ref p6] := by
          rw [ml]
          exact ⟨o1, upd_same, ho1⟩
        generalize upd H6 t1 (.frz o1 (.tup [.int (((ks.map V.int).length : Nat) : Int), .ref p6])) = H7 at s7 h7 ⊢
        have s47 := (s5.trans s6).trans s7
        have hL5 := s5 _ _ hL2
        have ne6 : p6 ≠ L := fun e => by rw [e, hL5] at np6; cases np6
        have hL7 := s47 _ _ hL2
        have en : EnAt L H7 (.ref t1) (putE room ks r) := ⟨t1, p6, w6, rfl, h7, ne6, s7 _ _ hp6, fds_same pw6 s7⟩
        refine ⟨L, ps, .ref t1, rfl, rfl, hL7, by rw [sizeLine_eq]; omega, _, _, _, _, ps ++ [.ref t1], p ++ [putE room ks r], rfl, Same.put (s2.trans s47) nL, upd_same, paired_app (paired_imp (fun _ _ h => (h.same s47).up hL7) pp) (.cons (en.up hL7) .nil), run.step ht ⟨ys, r, srt, thin, rfl⟩⟩
    · rintro σ H2 ⟨y3, y4, y5, y6, ps, p, rfl, s2, hL2, pp, run⟩
      rw [ul, List.take_length] at run
      obtain ⟨e, rfl, eok, _⟩ := tr.end_ r1 r64 run
      cases pp with
      | cons en rest =>
        cases rest
        obtain ⟨p, l2, u2, rfl, _⟩ := id en
        exact ⟨.ref L, rfl, L, _, _, _, rfl, rfl, sql hL2, atI_nat (j := 0) rfl, q e run H2 p s2 en.pr⟩
end
end Kb

namespace Kb
open PySem PySem.Spec PyProof.Rows L2 RZ
abbrev sbound : Stmt := topS 62
abbrev Nbound : List Str := ["_law_room", "_law_steps_here", "_law_pile", "_law_keys", "_law_other", "_law_one_here", "_law_many", "_law_names", "_law_add", "_law_key"]
theorem scbound : FnScope ["_law_room", "_law_steps_here", "_law_pile", "_law_keys", "_law_other", "_law_one_here", "_law_many", "_law_names", "_law_add", "_law_key"] ["_law_room", "_law_steps_here"] (defScope sbound) := ⟨rfl, rfl, rfl, by decide +kernel, rfl, by decide +kernel, by decide +kernel⟩
abbrev Dnbound (K : PySem.W.Frag) (mg : Str → Option Value) := Dn K mg "_law_bound" sbound ["_law_room", "_law_steps_here"]
abbrev yes : Int → V := fun _ => .bl true
theorem put_yes {ds : List Int} {k : Int} : putK (kvI ds yes) (Sum.inl k) (.bl true) = kvI (insL ds k) yes := by
  rw [put_kvI]
  have ef : (fun j => if j = k then V.bl true else yes j) = yes := by
    funext j
    split <;> rfl
  rw [ef]
theorem merge_yes : ∀ {b a : List Int}, mergeK (kvI a yes) (kvI b yes) = kvI (jnN a b) yes
  | [], a => rfl
  | k :: b, a => by
    show mergeK (putK (kvI a yes) (Sum.inl k) (.bl true)) (kvI b yes) = kvI (jnN (insL a k) b) yes
    rw [put_yes, merge_yes]
theorem kvI_len {ds : List Int} : (kvI ds yes).length = ds.length := List.length_map _
section
variable {P : Program} {w : World} {K : PySem.W.Frag} {mg : Str → Option Value} {base : Heap}
def BdE (L : Addr) (H : Hp) (v : V) (e : Ent) : Prop := ∃ p d, v = .ref p ∧ Ptp H p [.int e.n, .int e.B, .ref d] ∧ d ≠ L ∧ H d = some (.dK (kvI e.nm yes))
theorem BdE.same {L : Addr} {H H' : Hp} {v : V} {e : Ent} (h : BdE L H v e) (s : Same H H') : BdE L H' v e := let ⟨p, d, e, a, n, b⟩ := h; ⟨p, d, e, a.same s, n, s _ _ b⟩
theorem BdE.up {L : Addr} {H : Hp} {v : V} {e : Ent} {xs ys : List V} (h : BdE L H v e) (hL : H L = some (.lst xs)) : BdE L (upd H L (.lst ys)) v e := by
  obtain ⟨p, d, e, a, n, b⟩ := h
  have kp : KpD H (upd H L (.lst ys)) := kpD_list hL
  exact ⟨p, d, e, kp.t _ _ a, n, by rw [upd_ne n]; exact b⟩
theorem max_mx (i j : Int) : max i j = mxI i j := by
  obtain ⟨a, b, c⟩ := mxI_ge i j
  omega
def spBound : Sp := fun vs H Q _ => ∃ (room : Nat) (a S : Addr) (us : List V) (l : List Stp) (e : Ent), vs = [.int (room : Int), .ref S] ∧ H S = some (.lst us) ∧ Paired (LsAt a S H) us l ∧ Tree l ∧ 1 ≤ room ∧ room ≤ 64 ∧ RunR room l [] [e] ∧
  ∀ H', Same H H' → Q (.int e.B) H'
theorem RunR.split {room : Nat} : ∀ {l l' : List Stp} {p p' : List Ent}, RunR room (l ++ l') p p' → ∃ q, RunR room l p q ∧ RunR room l' q p'
  | [], l', p, p', h => ⟨p, rfl, h⟩
  | t :: l, l', p, p', ⟨o, h1, h⟩ => by
    obtain ⟨q, h2, h3⟩ := RunR.split h
    exact ⟨q, ⟨o, h1, h2⟩, h3⟩
theorem RunR.at_ {room : Nat} {l : List Stp} {p : List Ent} (h : RunR room l [] p) (i : Nat) : ∃ q, RunR room (l.take i) [] q ∧ RunR room (l.drop i) q p := by
  rw [← List.take_append_drop i l] at h
  exact h.split
theorem ok_bound (T : Blt mg) (nDict : mg "dict" = none) (d : Dnbound K mg) : FnOk P w K mg base CX0 1 d.f d.fd ["_law_room", "_law_steps_here"] spBound := by
  refine d.F.ok scbound (fun vs H Q E h => ?_) (fun cdv A outer s H vs Q E hr h => ?_)
  · obtain ⟨room, a, S, us, l, e, rfl, _⟩ := h
    rfl
  · obtain ⟨room, a, S, us, l, e, rfl, hS, pu, tr, r1, r64, runE, q⟩ := h
    have hu := hu_of hr
    refine ⟨_, (pss_cons (ps_set (i := 2) scbound.nd rfl (Or.inl rfl) (pe_lst pa_nil))
    (pss_cons (ps_for PassesOwn.never rfl (pi_list (pv 1)) (pg_name (i := 3) scbound.nd rfl (Or.inl rfl))
      (pss_one (ps_if (pt_cmpR op_isN (pv 3) pe_non (nomark _))
        (pss_cons (ps_set (i := 4) scbound.nd rfl (Or.inl rfl) (pe_bm0 PySem.F.plainAttrs_list PySem.F.slot_list_pop PySem.F.type_list_pop mt_pop (pv 2)))
        (pss_cons (ps_set (i := 5) scbound.nd rfl (Or.inl rfl) (pe_bm0 PySem.F.plainAttrs_list PySem.F.slot_list_pop PySem.F.type_list_pop mt_pop (pv 2)))
        (pss_cons (ps_set (i := 6) scbound.nd rfl (Or.inl rfl) (pe_op op_add (pe_ix ix_tup (pv 5) pe_int (fun _ _ => rfl)) (pe_ix ix_tup (pv 4) pe_int (fun _ _ => rfl))))
        (pss_cons (ps_set (i := 7) scbound.nd rfl (Or.inl rfl) (pe_callTy call_dictD (by rfl) nDict (by decide +kernel) (pa_cons (pe_ix ix_tup (pv 5) pe_int (fun _ _ => rfl)) pa_nil)))
        (pss_cons (ps_expr (pe_bm PySem.F.plainAttrs_dict PySem.F.slot_dict_update PySem.F.type_dict_update mt_updK (pv 7) (pa_cons (pe_ix ix_tup (pv 4) pe_int (fun _ _ => rfl)) pa_nil)))
        (pss_cons (ps_set (i := 8) scbound.nd rfl (Or.inl rfl) (pe_callB (call_max2 rfl) (by rfl) T.n_max (by decide +kernel) (pa_cons pe_int (pa_cons (pe_op op_sub (pe_op op_fdiv (pe_op op_sub (pe_op op_add (pv 6) (pv 0)) pe_int) (pv 0)) pe_int) pa_nil))))
        (C8.pss_cut (ps_if (pt_cmpR op_le (pe_callB call_lenD (by rfl) T.n_len (by decide +kernel) (pa_cons (pv 7) pa_nil)) (pv 0) (nomark _))
          (pss_one (ps_set (i := 8) scbound.nd rfl (Or.inl rfl) pe_int))
          pss_nil)
        (pss_one (ps_expr (pe_bm PySem.F.plainAttrs_list PySem.F.slot_list_append PySem.F.type_list_append mt_append (pv 2) (pa_cons (pe_tupF (pa_cons (pv 6) (pa_cons (pe_op op_add (pe_op op_add (pe_ix ix_tup (pv 5) pe_int (fun _ _ => rfl)) (pe_ix ix_tup (pv 4) pe_int (fun _ _ => rfl))) (pv 8)) (pa_cons (pv 7) pa_nil)))) pa_nil)))))))))))
        (pss_cons (ps_set (i := 7) scbound.nd rfl (Or.inl rfl) pe_dnewK)
        (pss_cons (ps_for PassesOwn.never rfl (pi_list (pv 3)) (pg_name (i := 9) scbound.nd rfl (Or.inl rfl))
          (pss_one (ps_dput hu (pv 7) (pv 9) pe_bl rfl)))
        (pss_cons (ps_set (i := 8) scbound.nd rfl (Or.inl rfl) (pe_callB (call_max2 rfl) (by rfl) T.n_max (by decide +kernel) (pa_cons pe_int (pa_cons (pe_op op_sub (pe_op op_fdiv (pe_op op_sub (pe_op op_add (pe_callB call_len_seq (by rfl) T.n_len (by decide +kernel) (pa_cons (pv 3) pa_nil)) (pv 0)) pe_int) (pv 0)) pe_int) pa_nil))))
        (C8.pss_cut (ps_if (pt_cmpR op_le (pe_callB call_lenD (by rfl) T.n_len (by decide +kernel) (pa_cons (pv 7) pa_nil)) (pv 0) (nomark _))
          (pss_one (ps_set (i := 8) scbound.nd rfl (Or.inl rfl) pe_int))
          pss_nil)
        (pss_one (ps_expr (pe_bm PySem.F.plainAttrs_list PySem.F.slot_list_append PySem.F.type_list_append mt_append (pv 2) (pa_cons (pe_tupF (pa_cons (pe_callB call_len_seq (by rfl) T.n_len (by decide +kernel) (pa_cons (pv 3) pa_nil)) (pa_cons (pv 8) (pa_cons (pv 7) pa_nil)))) pa_nil)))))))))))
    (pss_one (ps_ret (pe_ix ix_tup (pe_ix ix_list (pv 2) pe_int (fun _ _ => rfl)) pe_int (fun _ _ => rfl)))))), ?_⟩
    have ul : us.length = l.length := Paired.length pu
    have ll := tr.len
    refine ⟨(by show 0 ≤ sizeLine; decide), fun L nL => ?_⟩
    have s1 := same_upd (o := .lst []) nL
    refine ⟨.ref S, rfl, S, rfl, ⟨_, sql (s1 _ _ hS)⟩, ?_⟩
    refine for_list (xs := us) (fun i σ H2 => ∃ (y3 y4 y5 y6 y7 y8 y9 : Option V) (ps : List V) (p : List Ent), σ = [some (.int (room : Int)), some (.ref S), some (.ref L), y3, y4, y5, y6, y7, y8, y9] ∧ Same H H2 ∧ H2 L = some (.lst ps) ∧ Paired (BdE L H2) ps p ∧ RunR room (l.take i) [] p) ⟨none, none, none, none, none, none, none, [], [], rfl, s1, upd_same, .nil, rfl⟩ (fun i σ H2 _ ⟨_, _, _, _, _, _, _, _, _, _, s, _⟩ => sql (s _ _ hS)) ?_ ?_
    · rintro i v σ H2 hv ⟨y3, y4, y5, y6, y7, y8, y9, ps, p, rfl, s2, hL2, pp, run⟩
      obtain ⟨t, ht, hat⟩ := paired_at pu hv
      have il := (List.getElem?_eq_some_iff.mp ht).1
      have pl : ps.length ≤ i := by
        have h1 := run_short run
        rw [List.length_take] at h1
        change p.length ≤ 0 + _ at h1
        rw [Paired.length pp]
        omega
      -- the next pile
      obtain ⟨p2, run2, _⟩ := runE.at_ (i + 1)
      have step : StepR room t p p2 := by
        have h := run2
        rw [List.take_add_one, ht] at h
        obtain ⟨q0, h1, h2⟩ := RunR.split h
        obtain rfl := h1.one run
        obtain ⟨q1, h3, h4⟩ := h2
        have e : p2 = q1 := h4
        rw [e]
        exact h3
      cases t with
      | none =>
        obtain rfl : v = .non := hat
        obtain ⟨q', ea, eb, ys, r, rfl, srt, thin, rfl⟩ := step
        obtain ⟨oks, fl⟩ := tr.run r1 r64 run
        have A := oks ea (by simp)
        have B := oks eb (by simp)
        obtain ⟨iq, iab, rfl, pq, pab⟩ := paired_two pp
        obtain ⟨va, vb, rfl⟩ := two (show iab.length = 2 from Paired.length pab)
        obtain ⟨na, nb⟩ := paired2 pab
        have e1 : iq ++ [va, vb] = (iq ++ [va]) ++ [vb] := by rw [List.append_assoc]; rfl
        rw [e1] at hL2
        refine ⟨.non, rfl, rfl, true, rfl, iteT ⟨.ref L, rfl, .inl ⟨rfl, _, sql hL2⟩, L, _, vb, rfl, rfl, hL2, by simp, ?_⟩⟩
        rw [List.dropLast_concat]
        have hL3 : (upd H2 L (.lst (iq ++ [va]))) L = some (.lst (iq ++ [va])) := upd_same
        have s3 : Same H (upd H2 L (.lst (iq ++ [va]))) := Same.put s2 nL
        have na3 := na.up (ys := iq ++ [va]) hL2
        have nb3 := nb.up (ys := iq ++ [va]) hL2
        have pq3 : Paired (BdE L (upd H2 L (.lst (iq ++ [va])))) iq q' := paired_imp (fun _ _ h => h.up hL2) pq
        generalize upd H2 L (.lst (iq ++ [va])) = H3 at hL3 s3 na3 nb3 pq3 ⊢
        refine ⟨.ref L, rfl, .inl ⟨rfl, _, sql hL3⟩, L, _, va, rfl, rfl, hL3, by simp, ?_⟩
        rw [List.dropLast_concat]
        have hL4 : (upd H3 L (.lst iq)) L = some (.lst iq) := upd_same
        have s4 : Same H (upd H3 L (.lst iq)) := Same.put s3 nL
        have na4 := na3.up (ys := iq) hL3
        have nb4 := nb3.up (ys := iq) hL3
        have pq4 : Paired (BdE L (upd H3 L (.lst iq))) iq q' := paired_imp (fun _ _ h => h.up hL3) pq3
        generalize upd H3 L (.lst iq) = H4 at hL4 s4 na4 nb4 pq4 ⊢
        obtain ⟨pa, da, rfl, a1, a2, a3⟩ := id na4
        obtain ⟨pb, db, rfl, b1, b2, b3⟩ := id nb4
        have an := A.n
        have bn := B.n
        have anl := A.nml
        have bnl := B.nml
        have h4 := tr.few
        have h2 : (ea.ks ++ eb.ks).length ≤ (itm (l.take i)).length := by
          rw [← fl, List.flatMap_append, List.length_append]
          simp
        have h3 := itm_take (l := l) (i := i)
        rw [List.length_append] at h2
        refine ⟨.ref pa, rfl, pa, _, _, _, rfl, rfl, a1.seq, atI_nat (j := 0) rfl, .ref pb, rfl, pb, _, _, _, rfl, rfl, b1.seq, atI_nat (j := 0) rfl, _, _, rfl, rfl, ?_⟩
        refine ⟨.ref pa, rfl, pa, _, _, _, rfl, rfl, a1.seq, atI_nat (j := 2) rfl, da, _, rfl, .inl a3, fun D nD => ?_⟩
        have sD := same_upd (o := .dK (kvI ea.nm yes)) nD
        have hD5 : (upd H4 D (.dK (kvI ea.nm yes))) D = some (.dK (kvI ea.nm yes)) := upd_same
        have hL5 := sD _ _ hL4
        have neD : D ≠ L := (ne_of_none hL4 nD).symm
        have neDb : D ≠ db := (ne_of_none b3 nD).symm
        have b1' := b1.same sD
        have b3' := sD _ _ b3
        have nD0 : H4 D = none := nD
        generalize upd H4 D (.dK (kvI ea.nm yes)) = H5 at sD hD5 hL5 b1' b3' ⊢
        refine ⟨.ref D, rfl, .inr (.inr (.inl ⟨rfl, .inl ⟨_, hD5⟩⟩)), .ref pb, rfl, pb, _, _, _, rfl, rfl, b1'.seq, atI_nat (j := 2) rfl, D, db, _, _, rfl, rfl, neDb, hD5, b3', by rw [kvI_len, kvI_len, sizeLine_eq]; omega, ?_⟩
        rw [merge_yes]
        have s46 : Same H4 (upd H5 D (.dK (kvI (jnN ea.nm eb.nm) yes))) := Same.put sD nD0
        have hD6 : (upd H5 D (.dK (kvI (jnN ea.nm eb.nm) yes))) D = some (.dK (kvI (jnN ea.nm eb.nm) yes)) := upd_same
        generalize upd H5 D (.dK (kvI (jnN ea.nm eb.nm) yes)) = H6 at s46 hD6 ⊢
        refine ⟨.int (ea.n + eb.n), rfl, .int (room : Int), rfl, _, _, rfl, rfl, _, _, rfl, rfl, .int (room : Int), rfl, _, _, rfl, rfl, ⟨by omega, by omega⟩, _, _, rfl, rfl, _, _, rfl, ?_⟩
        have a16 := a1.same s46
        have b16 := b1.same s46
        have hL6 := s46 _ _ hL4
        refine ⟨fun σ H7 => ∃ (add : Int), σ = [some (.int (room : Int)), some (.ref S), some (.ref L), some .non, some (.ref pb), some (.ref pa), some (.int (ea.n + eb.n)), some (.ref D), some (.int add), y9] ∧ H7 = H6 ∧ add = if (jnN ea.nm eb.nm).length ≤ room then 0 else addB (ea.n + eb.n) room, ?_, ?_⟩
        · refine ⟨.ref D, rfl, D, _, rfl, hD6, .int (room : Int), rfl, _, _, rfl, rfl, decide (((jnN ea.nm eb.nm).length : Int) ≤ (room : Int)), by rw [kvI_len], ?_⟩
          by_cases c : (jnN ea.nm eb.nm).length ≤ room
          · rw [decide_eq_true (by omega)]
            exact iteT ⟨0, rfl, rfl, by rw [if_pos c]⟩
          · rw [decide_eq_false (by omega)]
            exact iteF ⟨_, rfl, rfl, by rw [if_neg c]; rfl⟩
        · rintro σ H7 ⟨add, rfl, rfl, ha⟩
          refine ⟨.ref L, rfl, .inl ⟨rfl, _, sql hL6⟩, .int (ea.n + eb.n), rfl, .ref pa, rfl, pa, _, _, _, rfl, rfl, a16.seq, atI_nat (j := 1) rfl, .ref pb, rfl, pb, _, _, _, rfl, rfl, b16.seq, atI_nat (j := 1) rfl, _, _, rfl, rfl, .int add, rfl, _, _, rfl, rfl, .ref D, rfl, (by show 3 ≤ sizeLine; decide), fun t1 o1 nt1 ho1 => ?_⟩
          have s7 := same_upd (o := .frz o1 (.tup [.int (ea.n + eb.n), .int (ea.B + eb.B + add), .ref D])) nt1
          have h7 : Ptp (upd H7 t1 (.frz o1 (.tup [.int (ea.n + eb.n), .int (ea.B + eb.B + add), .ref D]))) t1 [.int (ea.n + eb.n), .int (ea.B + eb.B + add), .ref D] := ⟨o1, upd_same, ho1⟩
          generalize upd H7 t1 (.frz o1 (.tup [.int (ea.n + eb.n), .int (ea.B + eb.B + add), .ref D])) = H8 at s7 h7 ⊢
          rw [ha] at h7
          have s48 := s46.trans s7
          have hL8 := s48 _ _ hL4
          have en : BdE L H8 (.ref t1) (pourE room ea eb r) := ⟨t1, D, rfl, h7, neD, s7 _ _ hD6⟩
          rw [List.length_append] at pl
          exact ⟨L, iq, .ref t1, rfl, rfl, hL8, by rw [sizeLine_eq]; omega, _, _, _, _, _, _, _, iq ++ [.ref t1], q' ++ [pourE room ea eb r], rfl, Same.put (s4.trans s48) nL, upd_same, paired_app (paired_imp (fun _ _ h => (h.same s48).up hL8) pq4) (.cons (en.up hL8) .nil), run2⟩
      | some ks =>
        obtain ⟨b, rfl, nba, nbS, hb⟩ := hat
        obtain ⟨ys, r, srt, thin, rfl⟩ := step
        have hb2 := s2 _ _ hb
        have kl := itm_len ht
        have few := tr.few
        have ml : (ks.map V.int).length = ks.length := List.length_map _
        refine ⟨.ref b, rfl, rfl, false, rfl, iteF ?_⟩
        intro D nD
        have sD := same_upd (o := .dK []) nD
        have hD3 : (upd H2 D (.dK [])) D = some (.dK (kvI (unl (ks.take 0)) yes)) := upd_same
        have neD : D ≠ L := (ne_of_none hL2 nD).symm
        generalize upd H2 D (.dK []) = H3 at sD hD3 ⊢
        refine ⟨.ref b, rfl, b, rfl, ⟨_, sql (sD _ _ hb2)⟩, ?_⟩
        refine for_list (xs := ks.map V.int) (fun j σ H4 => ∃ y9 : Option V, σ = [some (.int (room : Int)), some (.ref S), some (.ref L), some (.ref b), y4, y5, y6, some (.ref D), y8, y9] ∧ Same H2 H4 ∧ H4 D = some (.dK (kvI (unl (ks.take j)) yes))) ⟨y9, rfl, sD, hD3⟩ (fun j σ H4 _ ⟨_, _, s, _⟩ => sql (s _ _ hb2)) ?_ ?_
        · rintro j v σ H4 hj ⟨y9, rfl, s4, hD4⟩
          obtain ⟨k, hk, rfl⟩ := map_at hj
          have jl := (List.getElem?_eq_some_iff.mp hk).1
          have lt := (unl_all (ks.take j)).2.2
          rw [List.length_take] at lt
          refine ⟨.ref D, rfl, .int k, rfl, D, _, rfl, DPut.k (k := Sum.inl k) hD4 (by rw [kvI_len, sizeLine_eq]; omega), _, rfl, Same.put s4 nD, ?_⟩
          rw [upd_same, put_yes, List.take_add_one, hk]
          show _ = some (HO.dK (kvI (unl (ks.take j ++ [k])) yes))
          rw [unl_snoc]
        · rintro σ H4 ⟨y9, rfl, s4, hD4⟩
          rw [ml, List.take_length] at hD4
          have hb4 := s4 _ _ hb2
          refine ⟨.ref b, rfl, b, _, rfl, .inl (sql hb4), .int (room : Int), rfl, _, _, rfl, rfl, _, _, rfl, rfl, .int (room : Int), rfl, _, _, rfl, rfl, ⟨by omega, by omega⟩, _, _, rfl, rfl, _, _, rfl, ?_⟩
          refine ⟨fun σ H7 => ∃ (add : Int), σ = [some (.int (room : Int)), some (.ref S), some (.ref L), some (.ref b), y4, y5, y6, some (.ref D), some (.int add), y9] ∧ H7 = H4 ∧ add = if (unl ks).length ≤ room then 0 else addB (ks.length : Nat) room, ?_, ?_⟩
          · refine ⟨.ref D, rfl, D, _, rfl, hD4, .int (room : Int), rfl, _, _, rfl, rfl, decide (((unl ks).length : Int) ≤ (room : Int)), by rw [kvI_len], ?_⟩
            by_cases c : (unl ks).length ≤ room
            · rw [decide_eq_true (by omega)]
              exact iteT ⟨0, rfl, rfl, by rw [if_pos c]⟩
            · rw [decide_eq_false (by omega)]
              exact iteF ⟨_, rfl, rfl, by rw [if_neg c, ← ml]; rfl⟩
          · rintro σ H7 ⟨add, rfl, rfl, ha⟩
            refine ⟨.ref L, rfl, .inl ⟨rfl, _, sql (s4 _ _ hL2)⟩, .ref b, rfl, b, _, rfl, .inl (sql hb4), .int add, rfl, .ref D, rfl, (by show 3 ≤ sizeLine; decide), fun t1 o1 nt1 ho1 => ?_⟩
            have s7 := same_upd (o := .frz o1 (.tup [.int (((ks.map V.int).length : Nat) : Int), .int add, .ref D])) nt1
            have h7 : Ptp (upd H7 t1 (.frz o1 (.tup [.int (((ks.map V.int).length : Nat) : Int), .int add, .ref D]))) t1 [.int ((ks.length : Nat) : Int), .int add, .ref D] := by
              rw [ml]
              exact ⟨o1, upd_same, ho1⟩
            generalize upd H7 t1 (.frz o1 (.tup [.int (((ks.map V.int).length : Nat) : Int), .int add, .ref D])) = H8 at s7 h7 ⊢
            rw [ha] at h7
            have s48 := s4.trans s7
            have hL8 := s48 _ _ hL2
            have en : BdE L H8 (.ref t1) (putE room ks r) := ⟨t1, D, rfl, h7, neD, s7 _ _ hD4⟩
            exact ⟨L, ps, .ref t1, rfl, rfl, hL8, by rw [sizeLine_eq]; omega, _, _, _, _, _, _, _, ps ++ [.ref t1], p ++ [putE room ks r], rfl, Same.put (s2.trans s48) nL, upd_same, paired_app (paired_imp (fun _ _ h => (h.same s48).up hL8) pp) (.cons (en.up hL8) .nil), run2⟩
    · rintro σ H2 ⟨y3, y4, y5, y6, y7, y8, y9, ps, p, rfl, s2, hL2, pp, run⟩
      rw [ul, List.take_length] at run
      obtain rfl := runE.one run
      cases pp with
      | cons en rest =>
        cases rest
        obtain ⟨p, d, rfl, h1, _⟩ := id en
        exact ⟨.ref L, rfl, L, _, _, _, rfl, rfl, sql hL2, atI_nat (j := 0) rfl, p, _, _, _, rfl, rfl, h1.seq, atI_nat (j := 1) rfl, q H2 s2⟩
end
end Kb

namespace Kb
open PySem PySem.Spec PyProof.Rows L2 RZ
abbrev splace_right : Stmt := topS 63
abbrev Nplace_right : List Str := ["_law_ranks", "_law_tree_here", "_law_place", "_law_due", "_law_told"]
theorem scplace_right : FnScope ["_law_ranks", "_law_tree_here", "_law_place", "_law_due", "_law_told"] ["_law_ranks", "_law_tree_here", "_law_place", "_law_due"] (defScope splace_right) := ⟨rfl, rfl, rfl, by decide +kernel, rfl, by decide +kernel, by decide +kernel⟩
abbrev Dnplace_right (K : PySem.W.Frag) (mg : Str → Option Value) := Dn K mg "_law_place_right" splace_right ["_law_ranks", "_law_tree_here", "_law_place", "_law_due"]
section
variable {P : Program} {w : World} {K : PySem.W.Frag} {mg : Str → Option Value} {base : Heap}
/-- both ends of right ranks hold the number of items at a place -/
theorem hold_ends {l : List Int} {fs : List Fd} {v sd : Int} (s01 : sd = 0 ∨ sd = 1) (h : ∀ f ∈ fs, HoldM l f) : (endsM 0 (fs.map Fd.m) (l.length : Nat) (frT v scl) (frN v scl) sd).1 ≤ cntAt l v sd ∧ cntAt l v sd ≤ (endsM 0 (fs.map Fd.m) (l.length : Nat) (frT v scl) (frN v scl) sd).2 := by
  rw [endsM_en]
  have hm := en_hold (k := v) fs 0 h (bel_nn l v)
  have ek : (enF (l.length : Nat) v 0 fs).k = v := enF_k fs 0
  obtain ⟨a1, a2, a3, a4⟩ := hm
  rw [ek] at a1 a2 a3 a4
  unfold cntAt
  rcases s01 with rfl | rfl
  · rw [if_neg (by decide), if_neg (by decide)]
    exact ⟨a1, a2⟩
  · rw [if_pos rfl, if_pos rfl]
    exact ⟨a3, a4⟩
def spPlaceRight (K : PySem.W.Frag) : Sp := fun vs H Q _ => ∃ (R : V) (a pl f : Addr) (room : Nat) (n v sd : Int) (fs : List Fd) (l : List Stp), vs = [R, .ref a, .ref pl, .int (cntAt (itm l) v sd)] ∧ DtAt K H R (rk2 (room : Int) n (fs.map Fd.m)) ∧ RkOk (room : Int) n (fs.map Fd.m) ∧ n = ((itm l).length : Nat) ∧ (∀ f ∈ fs, HoldM (itm l) f) ∧ TreeAt H a l ∧ Tree l ∧ Ptp H pl [.ref f, .int sd] ∧ Ptp H f [.int (frT v scl), .int (frN v scl)] ∧ v.natAbs ≤ 2 ^ 90 ∧ (sd = 0 ∨ sd = 1) ∧
  ∀ H', Same H H' → Q (.bl true) H'
theorem ok_place_right (T : Blt mg) (gG : mg "gcd" = some (.builtin "math.gcd")) (EK : TxE K mg "NoRanks") (EP : TxE K mg "NoPlace") (cM : Cst mg "MOST_ROOM" (.int 64)) (cS' : Cst mg "MOST_STEPS" (.int 5000)) (cI : Cst mg "MOST_ITEMS" (.int 50000)) (dP_is_int : DnIsInt K mg) (dP_is_number : DnIsNumber K mg) (dP_is_room : DnIsRoom K mg) (dP_is_fraction : DnIsFraction K mg) (dP_is_less : DnIsLess K mg) (dP_is_side : DnIsSide K mg) (dP_is_place : DnIsPlace K mg) (dP_is_mark : DnIsMark K mg) (dP_may_follow : DnMayFollow K mg) (dP_are_marks : DnAreMarks K mg) (dP_is_ranks : DnIsRanks K mg) (dP_ends_at : DnEndsAt K mg) (dP_are_numbers : DnAreNumbers K mg) (dP_is_put : DnIsPut K mg) (dP_is_pour : DnIsPour K mg) (dP_is_tree_of : DnIsTreeOf K mg) (dP_is_number_tree : DnIsNumberTree K mg) (dP_items_of : DnItemsOf K mg) (dP_is_at : DnIsAt K mg) (dP_rank_at : DnRankAt K mg) (dsame : Dnsame K mg) (d : Dnplace_right K mg) : FnOk P w K mg base CX0 7 d.f d.fd ["_law_ranks", "_law_tree_here", "_law_place", "_law_due"] (spPlaceRight K) := by
  have GP_ends_at : FnOk P w K mg base (L2.CX P w) 6 dP_ends_at.f dP_ends_at.fd ["ranks", "place"] (spEndsAt K EK.C) := ok_ends_at T gG EK EP cM dP_is_int dP_is_number dP_is_room dP_is_fraction dP_is_less dP_is_side dP_is_place dP_is_mark dP_may_follow dP_are_marks dP_is_ranks dP_ends_at
  have GP_rank_at : FnOk P w K mg base CX0 6 dP_rank_at.f dP_rank_at.fd ["tree", "place"] spRankAt := ok_rank_at T gG cS' cI dP_is_int dP_is_fraction dP_is_less dP_is_side dP_is_place dP_are_numbers dP_is_put dP_is_pour dP_is_tree_of dP_is_number_tree dP_items_of dP_is_at dP_rank_at
  have Gsame : FnOk P w K mg base CX0 6 dsame.f dsame.fd ["_law_actual", "_law_due"] (spSame K 4) := ok_same T dsame 5
  refine d.F.ok scplace_right (fun vs H Q E h => ?_) (fun cdv A outer s H vs Q E hr h => ?_)
  · obtain ⟨R, a, pl, f, room, n, v, sd, fs, l, rfl, _⟩ := h
    rfl
  · obtain ⟨R, a, pl, f, room, n, v, sd, fs, l, rfl, hR, rk, hn, hold, hT, tr, hpl, hf, vb, s01, q⟩ := h
    refine ⟨_, (pss_cons (ps_set (i := 4) scplace_right.nd rfl (Or.inl rfl) (pe_callS GP_ends_at (hr.mono (by omega)) rfl dP_ends_at.g dP_ends_at.F.kp dP_ends_at.b (fun σ => passAt L2.takes0 σ) (pa_cons (pv 0) (pa_cons (pv 2) pa_nil))))
    (pss_cons (ps_if (PW.pt (pw_or (pt_not (pt_val (pe_callB call_isi (by rfl) T.n_isinstance (by decide +kernel) (pa_cons (pv 4) (pa_cons (pe_bltn (v := .ty "tuple") (by rfl) T.n_tuple (by decide +kernel) rfl) pa_nil))))) (pw_or (pt_cmpR op_ne (pe_callB call_len_seq (by rfl) T.n_len (by decide +kernel) (pa_cons (pv 4) pa_nil)) pe_int (nomark _)) (pw_or1 (pt_not (pt_chain op_le op_le (pe_ix ix_tup (pv 4) pe_int (fun _ _ => rfl)) (pv 3) (pe_ix ix_tup (pv 4) pe_int (fun _ _ => rfl))))))))
      (pss_one (ps_ret pe_bl))
      pss_nil)
    (pss_one (ps_ret (pe_call Gsame (hr.mono (by omega)) (by rfl) dsame.g dsame.F.kp dsame.b .nil pass0 (pa_cons (pe_call GP_rank_at (hr.mono (by omega)) (by rfl) dP_rank_at.g dP_rank_at.F.kp dP_rank_at.b .nil pass0 (pa_cons (pv 1) (pa_cons (pv 2) pa_nil))) (pa_cons (pv 3) pa_nil))))))), ?_⟩
    have few := tr.few
    have c0 : 0 ≤ cntAt (itm l) v sd ∧ cntAt (itm l) v sd ≤ ((itm l).length : Nat) := by
      obtain ⟨a1, a2⟩ := cntAt_le (itm l) v sd
      have := bel_nn (itm l) v
      have := upt_le (itm l) v
      omega
    have hds := hold_ends (v := v) s01 hold
    rw [← hn] at hds
    refine ⟨R, rfl, .ref pl, rfl, R, _, pl, f, _, _, sd, rfl, hR, hpl, hf, fr_sz90 vb, fr_ok (by decide), by omega, by omega, fun z => ?_, fun r' n' ms e ok H1 p s1 hp => ?_⟩
    · rw [rkB_of rk] at z
      cases z
    obtain ⟨rfl, rfl, rfl⟩ := rk2_inj e
    refine ⟨.ref p, rfl, .ref p, _, _, _, true, rfl, .ty "tuple", tyT hp.seq, kit_ty (by decide +kernel), true, rfl, iteF ?_⟩
    refine ⟨.ref p, rfl, p, _, rfl, .inr hp.seq, rfl, false, congrArg V.bl (by show (!decide (V.int 2 = V.int 2)) = false; rw [decide_eq_true rfl]; rfl), iteF ?_⟩
    refine ⟨.ref p, rfl, p, _, _, _, rfl, rfl, hp.seq, atI_nat (j := 0) rfl, .int (cntAt (itm l) v sd), rfl, _, _, rfl, rfl, true, congrArg V.bl (decide_eq_true hds.1), iteT ⟨.ref p, rfl, p, _, _, _, rfl, rfl, hp.seq, atI_nat (j := 1) rfl, _, _, rfl, rfl, true, congrArg V.bl (decide_eq_true hds.2), iteF ?_⟩⟩
    refine ⟨.ref a, rfl, .ref pl, rfl, a, pl, f, l, v, sd, rfl, hT.same s1, tr, hpl.same s1, hf.same s1, vb, by omega, by omega, fun H2 s2 => ?_⟩
    have p100 : (2 : Nat) ^ 100 = 1267650600228229401496703205376 := by decide
    have sz : (cntAt (itm l) v sd).natAbs ≤ 2 ^ 100 := by omega
    exact ⟨.int (cntAt (itm l) v sd), rfl, _, _, .int (cntAt (itm l) v sd), rfl, .lf ⟨rfl, sz⟩, .lf ⟨rfl, sz⟩, rfl, fun H3 s3 => q H3 ((s1.trans s2).trans s3)⟩
end
end Kb

namespace Kb
open PySem PySem.Spec PyProof.Rows L2 RZ
abbrev sheld : Stmt := topS 64
abbrev Nheld : List Str := ["_law_hat_here", "_law_ranks", "_law_tree_here", "_law_keys", "_law_ordered", "_law_unlike", "_law_first", "_law_below", "_law_up", "_law_near", "_law_index", "_law_low", "_law_high", "_law_value_here", "_law_at", "_law_key", "_law_other"]
theorem scheld : FnScope ["_law_hat_here", "_law_ranks", "_law_tree_here", "_law_keys", "_law_ordered", "_law_unlike", "_law_first", "_law_below", "_law_up", "_law_near", "_law_index", "_law_low", "_law_high", "_law_value_here", "_law_at", "_law_key", "_law_other"] ["_law_hat_here", "_law_ranks", "_law_tree_here", "_law_keys"] (defScope sheld) := ⟨rfl, rfl, rfl, by decide +kernel, rfl, by decide +kernel, by decide +kernel⟩
abbrev Dnheld (K : PySem.W.Frag) (mg : Str → Option Value) := Dn K mg "_law_held" sheld ["_law_hat_here", "_law_ranks", "_law_tree_here", "_law_keys"]
theorem StpAt.keep {H H' : Hp} {v : V} {t : Stp} (h : StpAt H v t) (k : ∀ p xs, Ptp H p xs → Ptp H' p xs) : StpAt H' v t := by
  cases t with
  | some ks =>
    obtain ⟨a, b, us, e, h1, h2, r⟩ := h
    exact ⟨a, b, us, e, k _ _ h1, k _ _ h2, paired_imp (fun _ _ h => h.keep k) r⟩
  | none =>
    obtain ⟨a, e, h1⟩ := h
    exact ⟨a, e, k _ _ h1⟩
theorem TreeAt.keep {H H' : Hp} {a : Addr} {l : List Stp} (h : TreeAt H a l) (k : ∀ p xs, Ptp H p xs → Ptp H' p xs) : TreeAt H' a l := by
  obtain ⟨vs, h1, h2⟩ := h
  exact ⟨vs, k _ _ h1, paired_imp (fun _ _ h => h.keep k) h2⟩
theorem near_cnt (ks : List Int) (k : Int) : upt ks (k + 1) = upt ks k + ((ks.filter fun o => decide (k < o) && decide (o ≤ k + 1)).length : Nat) := by
  unfold upt
  induction ks with
  | nil => rfl
  | cons x ks ih =>
    rw [List.filter_cons, List.filter_cons, List.filter_cons]
    by_cases c1 : x ≤ k
    · rw [if_pos (decide_eq_true (show x ≤ k + 1 by omega)), if_pos (decide_eq_true c1), decide_eq_false (show ¬ k < x by omega), Bool.false_and, if_neg Bool.noConfusion, List.length_cons, List.length_cons]
      omega
    · by_cases c2 : x ≤ k + 1
      · rw [if_pos (decide_eq_true c2), if_neg (by rw [decide_eq_true_eq]; exact c1), decide_eq_true (show k < x by omega), decide_eq_true c2, Bool.true_and, if_pos rfl, List.length_cons, List.length_cons]
        omega
      · rw [if_neg (by rw [decide_eq_true_eq]; exact c2), if_neg (by rw [decide_eq_true_eq]; exact c1), decide_eq_false c2, Bool.and_false, if_neg Bool.noConfusion]
        exact ih
section
variable {P : Program} {w : World} {K : PySem.W.Frag} {mg : Str → Option Value} {base : Heap}
def spHeld (K : PySem.W.Frag) : Sp := fun vs H Q _ => ∃ (h a Kl : Addr) (R : V) (room : Nat) (n : Int) (fs : List Fd) (l : List Stp), vs = [.ref h, R, .ref a, .ref Kl] ∧ Ht h H ∧ Kl ≠ h ∧ DtAt K H R (rk2 (room : Int) n (fs.map Fd.m)) ∧ RkOk (room : Int) n (fs.map Fd.m) ∧ n = ((itm l).length : Nat) ∧ FsOk n fs ∧ (∀ f ∈ fs, HoldM (itm l) f) ∧ TreeAt H a l ∧ Tree l ∧ H Kl = some (.lst ((itm l).map V.int)) ∧
  ∀ H', Exw h H H' → Q (.bl true) H'
theorem ok_held (T : Blt mg) (gG : mg "gcd" = some (.builtin "math.gcd")) (EK : TxE K mg "NoRanks") (EP : TxE K mg "NoPlace") (cM : Cst mg "MOST_ROOM" (.int 64)) (cS' : Cst mg "MOST_STEPS" (.int 5000)) (cI : Cst mg "MOST_ITEMS" (.int 50000)) (dP_is_int : DnIsInt K mg) (dP_is_number : DnIsNumber K mg) (dP_is_room : DnIsRoom K mg) (dP_is_fraction : DnIsFraction K mg) (dP_is_less : DnIsLess K mg) (dP_is_side : DnIsSide K mg) (dP_is_place : DnIsPlace K mg) (dP_is_mark : DnIsMark K mg) (dP_may_follow : DnMayFollow K mg) (dP_are_marks : DnAreMarks K mg) (dP_is_ranks : DnIsRanks K mg) (dP_ends_at : DnEndsAt K mg) (dP_are_numbers : DnAreNumbers K mg) (dP_is_put : DnIsPut K mg) (dP_is_pour : DnIsPour K mg) (dP_is_tree_of : DnIsTreeOf K mg) (dP_is_number_tree : DnIsNumberTree K mg) (dP_items_of : DnItemsOf K mg) (dP_is_at : DnIsAt K mg) (dP_rank_at : DnRankAt K mg) (dsame : Dnsame K mg) (dP_item_ends : DnItemEnds K mg) (ddraw : Dndraw K mg) (dgcd : Dngcd K mg) (dvalue : Dnvalue K mg) (dplace_right : Dnplace_right K mg) (d : Dnheld K mg) : FnOk P w K mg base CX0 8 d.f d.fd ["_law_hat_here", "_law_ranks", "_law_tree_here", "_law_keys"] (spHeld K) := by
  have Gplace_right : FnOk P w K mg base CX0 7 dplace_right.f dplace_right.fd ["_law_ranks", "_law_tree_here", "_law_place", "_law_due"] (spPlaceRight K) := ok_place_right T gG EK EP cM cS' cI dP_is_int dP_is_number dP_is_room dP_is_fraction dP_is_less dP_is_side dP_is_place dP_is_mark dP_may_follow dP_are_marks dP_is_ranks dP_ends_at dP_are_numbers dP_is_put dP_is_pour dP_is_tree_of dP_is_number_tree dP_items_of dP_is_at dP_rank_at dsame dplace_right
  have GP_item_ends : FnOk P w K mg base CX0 6 dP_item_ends.f dP_item_ends.fd ["ranks", "index"] (spItemEnds K) := ok_item_ends T gG cM dP_is_int dP_is_number dP_is_room dP_is_fraction dP_is_less dP_is_mark dP_may_follow dP_are_marks dP_is_ranks dP_item_ends
  have Gdraw : FnOk P w K mg base CX0 1 ddraw.f ddraw.fd ["_law_hat_here", "_law_many"] spDraw := ok_draw T ddraw
  have Gvalue : FnOk P w K mg base CX0 2 dvalue.f dvalue.fd ["_law_key"] spValue := ok_value T dgcd dvalue
  refine d.F.ok scheld (fun vs H Q E h => ?_) (fun cdv A0 outer s H vs Q E hr h => ?_)
  · obtain ⟨h, a, Kl, R, room, n, fs, l, rfl, _⟩ := h
    rfl
  · obtain ⟨h, a, Kl, R, room, n, fs, l, rfl, w0, nK, hR, rk, hn, fok, hold, hT, tr, hK, q⟩ := h
    refine ⟨_, (pss_cons (ps_asg (pe_callB cr_sortedI (by rfl) T.n_sorted (by decide +kernel) (pa_cons (pv 3) pa_nil)) (pg_name (i := 4) scheld.nd rfl (Or.inr rfl)))
    (pss_cons (ps_setLc (i := 5) (own := [("_law_at", 14), ("_law_key", 15)]) (g := gTup K 2 (gCons (gName 14) (gCons (gName 15) gNil))) rfl scheld.nd rfl rfl (sw_true rfl rfl rfl (by decide +kernel)) (pi_enum (by rfl) T.n_enumerate (pa_cons (pv 4) pa_nil)) (blkOk_by (N := Nheld) (sc := defScope sheld) (by decide +kernel)) (fun _ _ _ _ _ => pg_tup (by rfl) (pgs_cons (pg_name (i := 14) scheld.nd rfl (Or.inl rfl)) (pgs_cons (pg_name (i := 15) scheld.nd rfl (Or.inl rfl)) pgs_nil))) (fun _ _ _ _ _ => pts_one (PW.pt (pw_or (pt_cmpR op_eq (pv 14) pe_int (nomark _)) (pw_or1 (pt_cmpR op_ne (pe_ix (r := rIxL K) ix_list (pv 4) (pe_op op_sub (pv 14) pe_int) (fun _ _ => rfl)) (pv 15) (nomark _)))))) (fun _ _ _ _ _ => (pv 15)))
    (pss_cons (ps_set (i := 6) scheld.nd rfl (Or.inl rfl) (pe_call Gdraw (hr.mono (by omega)) (by rfl) ddraw.g ddraw.F.kp ddraw.b .nil pass0 (pa_cons (pv 0) (pa_cons (pe_callB (call_max2 rfl) (by rfl) T.n_max (by decide +kernel) (pa_cons pe_int (pa_cons (pe_op op_sub (pe_callB call_len_seq (by rfl) T.n_len (by decide +kernel) (pa_cons (pv 5) pa_nil)) pe_int) pa_nil))) pa_nil))))
    (pss_cons (ps_for PassesOwn.never rfl (pi_list (pe_slice sl_list (pv 5) (po_some (pv 6)) (po_some (pe_op op_add (pv 6) pe_int)))) (pg_name (i := 15) scheld.nd rfl (Or.inr rfl))
      (pss_cons (ps_set (i := 7) scheld.nd rfl (Or.inl rfl) (pe_callB call_len_seq (by rfl) T.n_len (by decide +kernel) (pa_cons (pe_lc (own := [("_law_other", 16)]) (g := gName 16) rfl scheld.nd (pi_list (pv 3)) (blkOk_by (N := Nheld) (sc := defScope sheld) (by decide +kernel)) (fun _ _ _ _ _ => pg_name (i := 16) scheld.nd rfl (Or.inl rfl)) (fun _ _ _ _ _ => pts_one (pt_cmpR op_lt (pv 16) (pv 15) (nomark _))) (fun _ _ _ _ _ => (pv 16))) pa_nil)))
      (pss_cons (ps_set (i := 8) scheld.nd rfl (Or.inl rfl) (pe_callB call_len_seq (by rfl) T.n_len (by decide +kernel) (pa_cons (pe_lc (own := [("_law_other", 16)]) (g := gName 16) rfl scheld.nd (pi_list (pv 3)) (blkOk_by (N := Nheld) (sc := defScope sheld) (by decide +kernel)) (fun _ _ _ _ _ => pg_name (i := 16) scheld.nd rfl (Or.inl rfl)) (fun _ _ _ _ _ => pts_one (pt_cmpR op_le (pv 16) (pv 15) (nomark _))) (fun _ _ _ _ _ => (pv 16))) pa_nil)))
      (pss_cons (ps_if (pt_not (pt_val (pe_call Gplace_right (hr.mono (by omega)) (by rfl) dplace_right.g dplace_right.F.kp dplace_right.b .nil pass0 (pa_cons (pv 1) (pa_cons (pv 2) (pa_cons (pe_tupF (pa_cons (pe_call Gvalue (hr.mono (by omega)) (by rfl) dvalue.g dvalue.F.kp dvalue.b .nil pass0 (pa_cons (pv 15) pa_nil)) (pa_cons pe_int pa_nil))) (pa_cons (pv 7) pa_nil)))))))
        (pss_one (ps_ret pe_bl))
        pss_nil)
      (pss_cons (ps_if (pt_not (pt_val (pe_call Gplace_right (hr.mono (by omega)) (by rfl) dplace_right.g dplace_right.F.kp dplace_right.b .nil pass0 (pa_cons (pv 1) (pa_cons (pv 2) (pa_cons (pe_tupF (pa_cons (pe_call Gvalue (hr.mono (by omega)) (by rfl) dvalue.g dvalue.F.kp dvalue.b .nil pass0 (pa_cons (pv 15) pa_nil)) (pa_cons pe_int pa_nil))) (pa_cons (pv 8) pa_nil)))))))
        (pss_one (ps_ret pe_bl))
        pss_nil)
      (pss_cons (ps_setLc (i := 9) (own := [("_law_other", 16)]) (g := gName 16) rfl scheld.nd rfl rfl (sw_true rfl rfl rfl (by decide +kernel)) (pi_list (pv 3)) (blkOk_by (N := Nheld) (sc := defScope sheld) (by decide +kernel)) (fun _ _ _ _ _ => pg_name (i := 16) scheld.nd rfl (Or.inl rfl)) (fun _ _ _ _ _ => pts_one (pt_chain op_lt op_le (pv 15) (pv 16) (pe_op op_add (pv 15) pe_int))) (fun _ _ _ _ _ => (pv 16)))
      (pss_one (ps_if (pt_not (pt_val (pe_call Gplace_right (hr.mono (by omega)) (by rfl) dplace_right.g dplace_right.F.kp dplace_right.b .nil pass0 (pa_cons (pv 1) (pa_cons (pv 2) (pa_cons (pe_tupF (pa_cons (pe_call Gvalue (hr.mono (by omega)) (by rfl) dvalue.g dvalue.F.kp dvalue.b .nil pass0 (pa_cons (pe_op op_add (pv 15) pe_int) pa_nil)) (pa_cons pe_int pa_nil))) (pa_cons (pe_op op_add (pv 8) (pe_callB call_len_seq (by rfl) T.n_len (by decide +kernel) (pa_cons (pv 9) pa_nil))) pa_nil)))))))
        (pss_one (ps_ret pe_bl))
        pss_nil))))))))
    (pss_cons (ps_for PassesOwn.never rfl (pi_range1 (by rfl) T.n_range (pa_cons (pe_callB call_len_seq (by rfl) T.n_len (by decide +kernel) (pa_cons (pv 4) pa_nil)) pa_nil)) (pg_name (i := 10) scheld.nd rfl (Or.inl rfl))
      (pss_cons (ps_asg (pe_call GP_item_ends (hr.mono (by omega)) (by rfl) dP_item_ends.g dP_item_ends.F.kp dP_item_ends.b .nil pass0 (pa_cons (pv 1) (pa_cons (pv 10) pa_nil))) (pg_tup (by rfl) (pgs_cons (pg_name (i := 11) scheld.nd rfl (Or.inl rfl)) (pgs_cons (pg_name (i := 12) scheld.nd rfl (Or.inl rfl)) pgs_nil))))
      (pss_cons (ps_set (i := 13) scheld.nd rfl (Or.inl rfl) (pe_call Gvalue (hr.mono (by omega)) (by rfl) dvalue.g dvalue.F.kp dvalue.b .nil pass0 (pa_cons (pe_ix ix_list (pv 4) (pv 10) (fun _ _ => rfl)) pa_nil)))
      (pss_cons (ps_if (PW.pt (pw_and (pt_cmpR op_notN (pv 11) pe_non (nomark _)) (pw_and1 (pt_cmpR op_gt (pe_op op_mulW (pe_ix ix_tup (pv 11) pe_int (fun _ _ => rfl)) (pe_ix ix_tup (pv 13) pe_int (fun _ _ => rfl))) (pe_op op_mulW (pe_ix ix_tup (pv 13) pe_int (fun _ _ => rfl)) (pe_ix ix_tup (pv 11) pe_int (fun _ _ => rfl))) (nomark _)))))
        (pss_one (ps_ret pe_bl))
        pss_nil)
      (pss_one (ps_if (PW.pt (pw_and (pt_cmpR op_notN (pv 12) pe_non (nomark _)) (pw_and1 (pt_cmpR op_lt (pe_op op_mulW (pe_ix ix_tup (pv 12) pe_int (fun _ _ => rfl)) (pe_ix ix_tup (pv 13) pe_int (fun _ _ => rfl))) (pe_op op_mulW (pe_ix ix_tup (pv 13) pe_int (fun _ _ => rfl)) (pe_ix ix_tup (pv 12) pe_int (fun _ _ => rfl))) (nomark _)))))
        (pss_one (ps_ret pe_bl))
        pss_nil))))))
    (pss_one (ps_ret pe_bl))))))), ?_⟩
    have few := tr.few
    have kb := tr.kb
    have p90 : (2 : Nat) ^ 90 = 1237940039285380274899124224 := by decide
    have p89 : (2 : Nat) ^ 89 = 618970019642690137449562112 := by decide
    generalize hks : itm l = ks at *
    have kml : (ks.map V.int).length = ks.length := List.length_map _
    refine ⟨.ref Kl, rfl, Kl, ks, rfl, sql hK, fun os O perm up nO => ?_⟩
    have sO := same_upd (o := .lst (os.map V.int)) nO
    have hO : (upd H O (.lst (os.map V.int))) O = some (.lst (os.map V.int)) := upd_same
    have wO := w0.nea nO
    have w1 := w0.same sO
    generalize upd H O (.lst (os.map V.int)) = H1 at sO hO w1 ⊢
    have ol : os.length = ks.length := perm.length_eq
    have oml : (os.map V.int).length = os.length := List.length_map _
    -- the unlike
    refine ⟨.ref O, rfl, O, _, rfl, sql hO, fun U nU => ?_⟩
    have wU := w1.nea nU
    refine lc_it (walk_enum (K := K) (a := O) (xs := os.map V.int)) (fun j H3 => Same H1 H3 ∧ ∃ zs : List Int, H3 U = some (.lst (zs.map V.int)) ∧ zs.length ≤ j ∧ ∀ z ∈ zs, z ∈ ks) ⟨same_upd nU, [], upd_same, Nat.le_refl _, fun _ h => nomatch h⟩ (fun j H3 _ h3 => sql (h3.1 _ _ hO)) (fun j v H3 H4 hj g3 y => ?_) (fun H3 g3 => ?_)
    · obtain ⟨s3, zs, hU, zl, zm⟩ := g3
      obtain ⟨TT, u1, u2, rfl, nT, rfl, hx1, hx2⟩ := y
      cases hx1
      obtain ⟨x, hx, rfl⟩ := map_at hx2
      rw [oml] at hj
      have xk : x ∈ ks := perm.mem_iff.mp (List.mem_of_getElem? hx)
      have UT : U ≠ TT := ne_of_none hU nT
      have sT := Same.new (o := .tup [.int (j : Nat), .int x]) s3 nT
      have hU4 : (upd H3 TT (.tup [.int (j : Nat), .int x])) U = some (.lst (zs.map V.int)) := by rw [upd_ne UT]; exact hU
      have hO4 := sT _ _ hO
      have hT4 : (upd H3 TT (.tup [.int (j : Nat), .int x])) TT = some (.tup [.int (j : Nat), .int x]) := upd_same
      generalize upd H3 TT (.tup [.int (j : Nat), .int x]) = H4 at sT hU4 hO4 hT4 ⊢
      have add : ∃ zs2 : List Int, (upd H4 U (.lst (zs.map V.int ++ [.int x]))) U = some (.lst (zs2.map V.int)) ∧ zs2.length ≤ j + 1 ∧ ∀ z ∈ zs2, z ∈ ks := ⟨zs ++ [x], by rw [upd_same, List.map_append]; rfl, by rw [List.length_append]; exact Nat.succ_le_succ zl, fun z hz => by
        rcases List.mem_append.mp hz with h | h
        · exact zm z h
        · rw [List.mem_singleton.mp h]
          exact xk⟩
      have zl2 : (zs.map V.int).length < sizeLine := by rw [List.length_map, sizeLine_eq]; omega
      refine ⟨TT, _, rfl, .inl (.inl hT4), rfl, _, _, rfl, _, _, rfl, rfl, rfl, ?_⟩
      refine ⟨.int (j : Nat), rfl, rfl, decide (((j : Nat) : Int) = 0), by rw [dec_int]; rfl, ?_⟩
      by_cases c : ((j : Nat) : Int) = 0
      · rw [decide_eq_true c]
        exact iteT (iteT ⟨.int x, rfl, _, hU4, zl2, Same.put sT nU, add⟩)
      · rw [decide_eq_false c]
        obtain ⟨i, rfl⟩ : ∃ i : Nat, j = i + 1 := ⟨j - 1, by omega⟩
        obtain ⟨x2, hx2'⟩ : ∃ x2, os[i]? = some x2 := ⟨os[i], by simp [show i < os.length by omega]⟩
        have hv2 : (os.map V.int)[i]? = some (.int x2) := by rw [List.getElem?_map, hx2']; rfl
        have ei : (((i + 1 : Nat) : Int) - 1) = ((i : Nat) : Int) := by omega
        refine iteF ⟨.ref O, rfl, .int ((i + 1 : Nat) : Int), rfl, _, _, rfl, rfl, O, _, _, _, rfl, rfl, sql hO4, by rw [ei]; exact atI_nat hv2, .int x, rfl, rfl, !decide (V.int x2 = V.int x), rfl, ?_⟩
        cases (!decide (V.int x2 = V.int x)) with
        | true => exact iteT ⟨.int x, rfl, _, hU4, zl2, Same.put sT nU, add⟩
        | false => exact iteF ⟨sT, zs, hU4, by omega, zm⟩
    obtain ⟨s3, zs, hU, zl, zm⟩ := g3
    rw [oml] at zl
    have s03 := sO.trans s3
    have w3 := w0.same s03
    have hO3 := s3 _ _ hO
    -- the first
    have zml : (zs.map V.int).length = zs.length := List.length_map _
    obtain ⟨m1, m2, m3⟩ := mxI_ge 1 (((zs.map V.int).length : Int) - 7)
    have p20 : (2 : Nat) ^ 20 = 1048576 := by decide
    have lgd : (mxI 1 (((zs.map V.int).length : Int) - 7)).natAbs.log2 < 9000 := by
      have h20 : (mxI 1 (((zs.map V.int).length : Int) - 7)).natAbs ≤ 2 ^ 20 := by omega
      have := lgP h20
      omega
    refine ⟨.ref h, rfl, .ref U, rfl, U, _, rfl, .inl (sql hU), _, _, rfl, rfl, _, _, rfl, h, _, rfl, w3, by show 0 < mxI 1 _; omega, lgd, fun H4 first x4 w4 f0 f1 => ?_⟩
    have x04 := (Same.exw (a := h) s03).trans x4
    have kp4 := kpD_exw x04 w0 w4
    have hK4 := x04 _ _ nK hK
    have hU4 := x4 _ _ wU hU
    have hO4 := x4 _ _ wO hO3
    have hR4 := hR.keep kp4
    have hT4 := hT.keep kp4.t
    clear hK hU hO hO3 hR hT
    obtain ⟨first, rfl⟩ := Int.eq_ofNat_of_zero_le f0
    refine ⟨.ref U, rfl, .int (first : Int), rfl, first, rfl, .int (first : Int), rfl, _, _, rfl, rfl, first + 8, rfl, U, _, rfl, sql hU4, fun SL nSL => ?_⟩
    have zcut : ∀ v ∈ cutV (zs.map V.int) (some ((first : Nat) : Int)) (some (((first : Nat) : Int) + 8)), ∃ key, v = .int key ∧ key ∈ ks := fun v hv => by
      obtain ⟨key, hk, rfl⟩ := List.mem_map.mp (cut_mem hv)
      exact ⟨key, rfl, zm key hk⟩
    have zlen : (cutV (zs.map V.int) (some ((first : Nat) : Int)) (some (((first : Nat) : Int) + 8))).length ≤ (zs.map V.int).length := by
      unfold cutV
      rw [List.length_take, List.length_drop]
      omega
    generalize cutV (zs.map V.int) (some ((first : Nat) : Int)) (some (((first : Nat) : Int) + 8)) = cs at zcut zlen ⊢
    have sS := same_upd (o := .lst cs) nSL
    have hS5 : (upd H4 SL (.lst cs)) SL = some (.lst cs) := upd_same
    have hK5 := sS _ _ hK4
    have hO5 := sS _ _ hO4
    have hR5 := hR4.same sS
    have hT5 := hT4.same sS
    generalize upd H4 SL (.lst cs) = H5 at sS hS5 hK5 hO5 hR5 hT5 ⊢
    refine ⟨SL, rfl, ⟨_, sql hS5⟩, ?_⟩
    refine for_list (xs := cs) (fun i σ H6 => ∃ y7 y8 y9 y15 : Option V, σ = [some (.ref h), some R, some (.ref a), some (.ref Kl), some (.ref O), some (.ref U), some (.int (first : Int)), y7, y8, y9, none, none, none, none, none, y15, none] ∧ Same H5 H6) ⟨none, none, none, none, rfl, Same.refl H5⟩ (fun i σ H6 _ ⟨_, _, _, _, _, s⟩ => sql (s _ _ hS5)) ?_ ?_
    · rintro i v σ H6 hv ⟨y7, y8, y9, y15, rfl, s6⟩
      obtain ⟨key, rfl, hkey⟩ := zcut v (List.mem_of_getElem? hv)
      have kbb := kb key hkey
      have hK_H6 := s6 _ _ hK5
      refine ⟨.ref Kl, rfl, Kl, rfl, ⟨_, sql hK_H6⟩, fun D1 nD1 => ?_⟩
      refine lc_list (xs := ks.map V.int) (fun j H3 => Same H6 H3 ∧ H3 D1 = some (.lst (((ks.take j).filter fun k => decide (k < key)).map V.int))) ⟨same_upd nD1, upd_same⟩ (fun j H3 _ h3 => sql (h3.1 _ _ hK_H6)) (fun j v H3 hv g3 => ?_) (fun H7 g3 => ?_)
      · obtain ⟨k, hk, rfl⟩ := map_at hv
        obtain ⟨s3, hD⟩ := g3
        have et : (ks.take (j + 1)).filter (fun k => decide (k < key)) = (ks.take j).filter (fun k => decide (k < key)) ++ [k].filter (fun k => decide (k < key)) := by rw [List.take_add_one, hk]; exact List.filter_append _ _
        have jl := (List.getElem?_eq_some_iff.mp hk).1
        have fl := List.length_filter_le (fun k => decide (k < key)) (ks.take j)
        rw [List.length_take] at fl
        have yesk : (decide (k < key)) = true → (fun H3' => Same H6 H3' ∧ H3' D1 = some (.lst (((ks.take (j + 1)).filter fun k => decide (k < key)).map V.int))) (upd H3 D1 (.lst (((ks.take j).filter fun k => decide (k < key)).map V.int ++ [.int k]))) := fun c => by
          refine ⟨Same.put s3 nD1, ?_⟩
          have e1 : [k].filter (fun k => decide (k < key)) = [k] := by rw [List.filter_cons, if_pos c]; rfl
          rw [upd_same, et, e1, List.map_append]
          rfl
        have nok : (decide (k < key)) = false → H3 D1 = some (.lst (((ks.take (j + 1)).filter fun k => decide (k < key)).map V.int)) := fun c => by
          have e1 : [k].filter (fun k => decide (k < key)) = [] := by rw [List.filter_cons, if_neg (by rw [c]; exact Bool.noConfusion)]; rfl
          rw [et, e1, List.append_nil]
          exact hD
        have fz : (((ks.take j).filter fun k => decide (k < key)).map V.int).length < sizeLine := by rw [List.length_map, sizeLine_eq]; omega
        refine ⟨rfl, .int k, rfl, .int key, rfl, _, _, rfl, rfl, decide (k < key), rfl, ?_⟩
        by_cases c : decide (k < key) = true
        · rw [c]
          exact iteT ⟨.int k, rfl, _, hD, fz, yesk c⟩
        · rw [Bool.not_eq_true] at c
          rw [c]
          exact iteF ⟨s3, nok c⟩
      obtain ⟨s_D1, hD1⟩ := g3
      rw [kml, List.take_length] at hD1
      refine ⟨D1, _, rfl, .inl (sql hD1), ?_⟩
      rw [List.length_map]
      have s7 := s6.trans s_D1
      have e5 : (((ks.filter fun k => decide (k < key)).length : Nat) : Int) = bel ks key := rfl
      rw [e5]
      have hK_H7 := s7 _ _ hK5
      refine ⟨.ref Kl, rfl, Kl, rfl, ⟨_, sql hK_H7⟩, fun D2 nD2 => ?_⟩
      refine lc_list (xs := ks.map V.int) (fun j H3 => Same H7 H3 ∧ H3 D2 = some (.lst (((ks.take j).filter fun k => decide (k ≤ key)).map V.int))) ⟨same_upd nD2, upd_same⟩ (fun j H3 _ h3 => sql (h3.1 _ _ hK_H7)) (fun j v H3 hv g3 => ?_) (fun H8 g3 => ?_)
      · obtain ⟨k, hk, rfl⟩ := map_at hv
        obtain ⟨s3, hD⟩ := g3
        have et : (ks.take (j + 1)).filter (fun k => decide (k ≤ key)) = (ks.take j).filter (fun k => decide (k ≤ key)) ++ [k].filter (fun k => decide (k ≤ key)) := by rw [List.take_add_one, hk]; exact List.filter_append _ _
        have jl := (List.getElem?_eq_some_iff.mp hk).1
        have fl := List.length_filter_le (fun k => decide (k ≤ key)) (ks.take j)
        rw [List.length_take] at fl
        have yesk : (decide (k ≤ key)) = true → (fun H3' => Same H7 H3' ∧ H3' D2 = some (.lst (((ks.take (j + 1)).filter fun k => decide (k ≤ key)).map V.int))) (upd H3 D2 (.lst (((ks.take j).filter fun k => decide (k ≤ key)).map V.int ++ [.int k]))) := fun c => by
          refine ⟨Same.put s3 nD2, ?_⟩
          have e1 : [k].filter (fun k => decide (k ≤ key)) = [k] := by rw [List.filter_cons, if_pos c]; rfl
          rw [upd_same, et, e1, List.map_append]
          rfl
        have nok : (decide (k ≤ key)) = false → H3 D2 = some (.lst (((ks.take (j + 1)).filter fun k => decide (k ≤ key)).map V.int)) := fun c => by
          have e1 : [k].filter (fun k => decide (k ≤ key)) = [] := by rw [List.filter_cons, if_neg (by rw [c]; exact Bool.noConfusion)]; rfl
          rw [et, e1, List.append_nil]
          exact hD
        have fz : (((ks.take j).filter fun k => decide (k ≤ key)).map V.int).length < sizeLine := by rw [List.length_map, sizeLine_eq]; omega
        refine ⟨rfl, .int k, rfl, .int key, rfl, _, _, rfl, rfl, decide (k ≤ key), rfl, ?_⟩
        by_cases c : decide (k ≤ key) = true
        · rw [c]
          exact iteT ⟨.int k, rfl, _, hD, fz, yesk c⟩
        · rw [Bool.not_eq_true] at c
          rw [c]
          exact iteF ⟨s3, nok c⟩
      obtain ⟨s_D2, hD2⟩ := g3
      rw [kml, List.take_length] at hD2
      refine ⟨D2, _, rfl, .inl (sql hD2), ?_⟩
      rw [List.length_map]
      have s8 := s7.trans s_D2
      have e6 : (((ks.filter fun k => decide (k ≤ key)).length : Nat) : Int) = upt ks key := rfl
      rw [e6]
      refine ⟨R, rfl, .ref a, rfl, .int key, rfl, key, rfl, by omega, fun H9f fH9 sH9f hfH9 => ⟨(by show 2 ≤ sizeLine; decide), fun tH9 oH9 ntH9 hoH9 => ?_⟩⟩
      have stH9 := same_upd (o := .frz oH9 (.tup [.ref fH9, .int 0])) ntH9
      have htH9 : Ptp (upd H9f tH9 (.frz oH9 (.tup [.ref fH9, .int 0]))) tH9 [.ref fH9, .int 0] := ⟨oH9, upd_same, hoH9⟩
      generalize upd H9f tH9 (.frz oH9 (.tup [.ref fH9, .int 0])) = H9 at stH9 htH9 ⊢
      have s9 := (s8.trans sH9f).trans stH9
      refine ⟨.int (bel ks key), rfl, R, a, tH9, fH9, room, n, key, 0, fs, l, ?_, hR5.same s9, rk, by rw [hks]; exact hn, by rw [hks]; exact hold, hT5.same s9, tr, htH9, hfH9.same stH9, by omega, .inl rfl, fun H10 s10' => ⟨true, rfl, iteF ?_⟩⟩
      · rw [hks]
        rfl
      have s10 := s9.trans s10'
      refine ⟨R, rfl, .ref a, rfl, .int key, rfl, key, rfl, by omega, fun H11f fH11 sH11f hfH11 => ⟨(by show 2 ≤ sizeLine; decide), fun tH11 oH11 ntH11 hoH11 => ?_⟩⟩
      have stH11 := same_upd (o := .frz oH11 (.tup [.ref fH11, .int 1])) ntH11
      have htH11 : Ptp (upd H11f tH11 (.frz oH11 (.tup [.ref fH11, .int 1]))) tH11 [.ref fH11, .int 1] := ⟨oH11, upd_same, hoH11⟩
      generalize upd H11f tH11 (.frz oH11 (.tup [.ref fH11, .int 1])) = H11 at stH11 htH11 ⊢
      have s11 := (s10.trans sH11f).trans stH11
      refine ⟨.int (upt ks key), rfl, R, a, tH11, fH11, room, n, key, 1, fs, l, ?_, hR5.same s11, rk, by rw [hks]; exact hn, by rw [hks]; exact hold, hT5.same s11, tr, htH11, hfH11.same stH11, by omega, .inr rfl, fun H12 s12' => ⟨true, rfl, iteF ?_⟩⟩
      · rw [hks]
        rfl
      have s12 := s11.trans s12'
      have hK_H12 := s12 _ _ hK5
      refine ⟨.ref Kl, rfl, Kl, rfl, ⟨_, sql hK_H12⟩, fun D3 nD3 => ?_⟩
      refine lc_list (xs := ks.map V.int) (fun j H3 => Same H12 H3 ∧ H3 D3 = some (.lst (((ks.take j).filter fun k => decide (key < k) && decide (k ≤ key + 1)).map V.int))) ⟨same_upd nD3, upd_same⟩ (fun j H3 _ h3 => sql (h3.1 _ _ hK_H12)) (fun j v H3 hv g3 => ?_) (fun H13 g3 => ?_)
      · obtain ⟨k, hk, rfl⟩ := map_at hv
        obtain ⟨s3, hD⟩ := g3
        have et : (ks.take (j + 1)).filter (fun k => decide (key < k) && decide (k ≤ key + 1)) = (ks.take j).filter (fun k => decide (key < k) && decide (k ≤ key + 1)) ++ [k].filter (fun k => decide (key < k) && decide (k ≤ key + 1)) := by rw [List.take_add_one, hk]; exact List.filter_append _ _
        have jl := (List.getElem?_eq_some_iff.mp hk).1
        have fl := List.length_filter_le (fun k => decide (key < k) && decide (k ≤ key + 1)) (ks.take j)
        rw [List.length_take] at fl
        have yesk : (decide (key < k) && decide (k ≤ key + 1)) = true → (fun H3' => Same H12 H3' ∧ H3' D3 = some (.lst (((ks.take (j + 1)).filter fun k => decide (key < k) && decide (k ≤ key + 1)).map V.int))) (upd H3 D3 (.lst (((ks.take j).filter fun k => decide (key < k) && decide (k ≤ key + 1)).map V.int ++ [.int k]))) := fun c => by
          refine ⟨Same.put s3 nD3, ?_⟩
          have e1 : [k].filter (fun k => decide (key < k) && decide (k ≤ key + 1)) = [k] := by rw [List.filter_cons, if_pos c]; rfl
          rw [upd_same, et, e1, List.map_append]
          rfl
        have nok : (decide (key < k) && decide (k ≤ key + 1)) = false → H3 D3 = some (.lst (((ks.take (j + 1)).filter fun k => decide (key < k) && decide (k ≤ key + 1)).map V.int)) := fun c => by
          have e1 : [k].filter (fun k => decide (key < k) && decide (k ≤ key + 1)) = [] := by rw [List.filter_cons, if_neg (by rw [c]; exact Bool.noConfusion)]; rfl
          rw [et, e1, List.append_nil]
          exact hD
        have fz : (((ks.take j).filter fun k => decide (key < k) && decide (k ≤ key + 1)).map V.int).length < sizeLine := by rw [List.length_map, sizeLine_eq]; omega
        refine ⟨rfl, .int key, rfl, .int k, rfl, _, _, rfl, rfl, decide (key < k), rfl, ?_⟩
        by_cases c1 : key < k
        · rw [decide_eq_true c1]
          refine iteT ⟨.int key, rfl, _, _, rfl, rfl, _, _, rfl, rfl, decide (k ≤ key + 1), rfl, ?_⟩
          by_cases c2 : k ≤ key + 1
          · rw [decide_eq_true c2]
            exact iteT ⟨.int k, rfl, _, hD, fz, yesk (by rw [decide_eq_true c1, decide_eq_true c2]; rfl)⟩
          · rw [decide_eq_false c2]
            exact iteF ⟨s3, nok (by rw [decide_eq_false c2, Bool.and_false])⟩
        · rw [decide_eq_false c1]
          exact ⟨false, rfl, iteF ⟨s3, nok (by rw [decide_eq_false c1, Bool.false_and])⟩⟩
      obtain ⟨s_D3, hD3⟩ := g3
      rw [kml, List.take_length] at hD3
      have s13 := s12.trans s_D3
      refine ⟨R, rfl, .ref a, rfl, .int key, rfl, _, _, rfl, rfl, key + 1, rfl, by omega, fun H14f fH14 sH14f hfH14 => ⟨(by show 2 ≤ sizeLine; decide), fun tH14 oH14 ntH14 hoH14 => ?_⟩⟩
      have stH14 := same_upd (o := .frz oH14 (.tup [.ref fH14, .int 1])) ntH14
      have htH14 : Ptp (upd H14f tH14 (.frz oH14 (.tup [.ref fH14, .int 1]))) tH14 [.ref fH14, .int 1] := ⟨oH14, upd_same, hoH14⟩
      generalize upd H14f tH14 (.frz oH14 (.tup [.ref fH14, .int 1])) = H14 at stH14 htH14 ⊢
      have s14 := (s13.trans sH14f).trans stH14
      have hD3' : H14 D3 = _ := stH14 _ _ (sH14f _ _ hD3)
      refine ⟨.int (upt ks key), rfl, .ref D3, rfl, D3, _, rfl, .inl (sql hD3'), _, _, rfl, rfl, R, a, tH14, fH14, room, n, key + 1, 1, fs, l, ?_, hR5.same s14, rk, by rw [hks]; exact hn, by rw [hks]; exact hold, hT5.same s14, tr, htH14, hfH14.same stH14, by omega, .inr rfl, fun H15 s15' => ⟨true, rfl, iteF ?_⟩⟩
      · rw [hks, List.length_map]
        show [R, V.ref a, V.ref tH14, V.int (upt ks key + _)] = [R, V.ref a, V.ref tH14, V.int (upt ks (key + 1))]
        rw [near_cnt]
      exact ⟨_, _, _, _, rfl, s14.trans s15'⟩
    · rintro σ H6 ⟨y7, y8, y9, y15, rfl, s6⟩
      have hO6 := s6 _ _ hO5
      have hR6 := hR5.same s6
      refine ⟨.ref O, rfl, O, _, rfl, .inl (sql hO6), ?_⟩
      refine ⟨os.length, congrArg (fun z : Nat => [V.int (z : Int)]) oml, by omega, by omega, ?_⟩
      rw [Int.toNat_natCast]
      refine for_range (lo := 0) (n := os.length) (fun i σ H7 => ∃ y10 y11 y12 y13 : Option V, σ = [some (.ref h), some R, some (.ref a), some (.ref Kl), some (.ref O), some (.ref U), some (.int (first : Int)), y7, y8, y9, y10, y11, y12, y13, none, y15, none] ∧ Same H6 H7) ⟨none, none, none, none, rfl, Same.refl H6⟩ ?_ ?_
      · rintro i σ H7 hi ⟨y10, y11, y12, y13, rfl, s7⟩
        obtain ⟨x, hx⟩ : ∃ x, os[i]? = some x := ⟨os[i], by simp [hi]⟩
        have xk : x ∈ ks := perm.mem_iff.mp (List.mem_of_getElem? hx)
        have xb := kb x xk
        have hxv : (os.map V.int)[i]? = some (.int x) := by rw [List.getElem?_map, hx]; rfl
        have z0 : (0 : Int) + (i : Int) = (i : Int) := Int.zero_add _
        rw [z0]
        refine ⟨R, rfl, .int (i : Int), rfl, R, i, (room : Int), n, fs, rfl, hR6.same s7, rk, by omega, by omega, fok.kb, fun H8 p s8 d8 => ?_⟩
        obtain ⟨p', xs, ep, hp, _, px⟩ := d8.tup
        cases ep
        obtain ⟨x1, x2, rfl⟩ := two (show xs.length = 2 from Paired.length px)
        obtain ⟨d1, d2⟩ := paired2 px
        refine ⟨p, _, rfl, hp.seq, rfl, _, _, rfl, _, _, rfl, rfl, ?_⟩
        have s78 := s7.trans s8
        refine ⟨.ref O, rfl, .int (i : Int), rfl, O, _, _, _, rfl, rfl, sql (s78 _ _ hO6), atI_nat (j := i) hxv, x, rfl, by omega, fun H9 pv s9 hpv => ?_⟩
        have xz := fr_sz xb
        have s79 := s78.trans s9
        have d1 := d1.same s9
        have d2 := d2.same s9
        have final : ∃ y10 y11 y12 y13 : Option V, [some (.ref h), some R, some (.ref a), some (.ref Kl), some (.ref O), some (.ref U), some (.int (first : Int)), y7, y8, y9, some (.int (i : Int)), some x1, some x2, some (.ref pv), none, y15, none] = [some (.ref h), some R, some (.ref a), some (.ref Kl), some (.ref O), some (.ref U), some (.int (first : Int)), y7, y8, y9, y10, y11, y12, y13, none, y15, none] ∧ Same H6 H9 := ⟨_, _, _, _, rfl, s79⟩
        cases hlo : (lowF fs i).getLast? with
        | none =>
          rw [hlo] at d1
          obtain rfl := DtAt.non d1
          refine ⟨.non, rfl, rfl, false, rfl, iteF ?_⟩
          cases hhi : (highF fs i).head? with
          | none =>
            rw [hhi] at d2
            obtain rfl := DtAt.non d2
            exact ⟨.non, rfl, rfl, false, rfl, iteF final⟩
          | some g =>
            rw [hhi] at d2
            obtain ⟨pg, ys, rfl, hpg, _, pp⟩ := DtAt.tup d2
            obtain ⟨g1, g2, rfl⟩ := two (show ys.length = 2 from Paired.length pp)
            obtain ⟨c1, c2⟩ := paired2 pp
            obtain ⟨rfl, _⟩ := c1.int
            obtain ⟨rfl, _⟩ := c2.int
            have gm := List.mem_filter.mp (List.mem_of_mem_head? hhi)
            have gi : (i : Int) < g.y := of_decide_eq_true gm.2
            have gh := (hold g gm.1).y
            have gx : x ≤ g.k := sort_high perm up hx (by omega)
            have gz := fr_sz (fok.kb g gm.1)
            have el := ls_key (k := x) (v := g.k)
            rw [decide_eq_false (show ¬ g.k < x by omega)] at el
            exact ⟨.ref pg, rfl, rfl, true, rfl, iteT ⟨.ref pg, rfl, pg, _, _, _, rfl, rfl, hpg.seq, atI_nat (j := 0) rfl, .ref pv, rfl, pv, _, _, _, rfl, rfl, hpv.seq, atI_nat (j := 1) rfl, _, _, rfl, rfl, mulW gz.1 xz.2, .ref pv, rfl, pv, _, _, _, rfl, rfl, hpv.seq, atI_nat (j := 0) rfl, .ref pg, rfl, pg, _, _, _, rfl, rfl, hpg.seq, atI_nat (j := 1) rfl, _, _, rfl, rfl, mulW xz.1 gz.2, _, _, rfl, rfl, false, congrArg V.bl el, iteF final⟩⟩
        | some f =>
          rw [hlo] at d1
          obtain ⟨pf, zs', rfl, hpf, _, pp⟩ := DtAt.tup d1
          obtain ⟨f1', f2', rfl⟩ := two (show zs'.length = 2 from Paired.length pp)
          obtain ⟨c1, c2⟩ := paired2 pp
          obtain ⟨rfl, _⟩ := c1.int
          obtain ⟨rfl, _⟩ := c2.int
          have fm := List.mem_filter.mp (List.mem_of_getLast? hlo)
          have fi : f.x ≤ (i : Int) := of_decide_eq_true fm.2
          have fh := (hold f fm.1).x
          have fx : f.k ≤ x := sort_low perm up hx (by omega)
          have fz := fr_sz (fok.kb f fm.1)
          have el := ls_key (k := f.k) (v := x)
          rw [decide_eq_false (show ¬ x < f.k by omega)] at el
          refine ⟨.ref pf, rfl, rfl, true, rfl, iteT ⟨.ref pf, rfl, pf, _, _, _, rfl, rfl, hpf.seq, atI_nat (j := 0) rfl, .ref pv, rfl, pv, _, _, _, rfl, rfl, hpv.seq, atI_nat (j := 1) rfl, _, _, rfl, rfl, mulW fz.1 xz.2, .ref pv, rfl, pv, _, _, _, rfl, rfl, hpv.seq, atI_nat (j := 0) rfl, .ref pf, rfl, pf, _, _, _, rfl, rfl, hpf.seq, atI_nat (j := 1) rfl, _, _, rfl, rfl, mulW xz.1 fz.2, _, _, rfl, rfl, false, congrArg V.bl el, iteF ?_⟩⟩
          cases hhi : (highF fs i).head? with
          | none =>
            rw [hhi] at d2
            obtain rfl := DtAt.non d2
            exact ⟨.non, rfl, rfl, false, rfl, iteF final⟩
          | some g =>
            rw [hhi] at d2
            obtain ⟨pg, ys, rfl, hpg, _, pp⟩ := DtAt.tup d2
            obtain ⟨g1, g2, rfl⟩ := two (show ys.length = 2 from Paired.length pp)
            obtain ⟨c1, c2⟩ := paired2 pp
            obtain ⟨rfl, _⟩ := c1.int
            obtain ⟨rfl, _⟩ := c2.int
            have gm := List.mem_filter.mp (List.mem_of_mem_head? hhi)
            have gi : (i : Int) < g.y := of_decide_eq_true gm.2
            have gh := (hold g gm.1).y
            have gx : x ≤ g.k := sort_high perm up hx (by omega)
            have gz := fr_sz (fok.kb g gm.1)
            have el := ls_key (k := x) (v := g.k)
            rw [decide_eq_false (show ¬ g.k < x by omega)] at el
            exact ⟨.ref pg, rfl, rfl, true, rfl, iteT ⟨.ref pg, rfl, pg, _, _, _, rfl, rfl, hpg.seq, atI_nat (j := 0) rfl, .ref pv, rfl, pv, _, _, _, rfl, rfl, hpv.seq, atI_nat (j := 1) rfl, _, _, rfl, rfl, mulW gz.1 xz.2, .ref pv, rfl, pv, _, _, _, rfl, rfl, hpv.seq, atI_nat (j := 0) rfl, .ref pg, rfl, pg, _, _, _, rfl, rfl, hpg.seq, atI_nat (j := 1) rfl, _, _, rfl, rfl, mulW xz.1 gz.2, _, _, rfl, rfl, false, congrArg V.bl el, iteF final⟩⟩
      · rintro σ H7 ⟨y10, y11, y12, y13, rfl, s7⟩
        exact q H7 (x04.same ((sS.trans s6).trans s7))
end
end Kb

namespace Kb
open PySem PySem.Spec PyProof.Rows L2 RZ
abbrev sone : Stmt := topS 65
abbrev Nlone : List Str := ["_law_hat_here", "_law_room", "_law_steps_here", "_law_tree_here", "_law_many", "_law_marks", "_law_ranks", "_law_told", "_law_keys", "_law_step"]
theorem scone : FnScope ["_law_hat_here", "_law_room", "_law_steps_here", "_law_tree_here", "_law_many", "_law_marks", "_law_ranks", "_law_told", "_law_keys", "_law_step"] ["_law_hat_here"] (defScope sone) := ⟨rfl, rfl, rfl, by decide +kernel, rfl, by decide +kernel, by decide +kernel⟩
abbrev Dnone (K : PySem.W.Frag) (mg : Str → Option Value) := Dn K mg "_law_one" sone ["_law_hat_here"]
theorem pl_rk {r n : Int} {ms : List Mk} : plI 4 (rk2 r n ms) = true := by
  have h : (ms.map mk2).all (plI 2) = true := List.all_eq_true.mpr fun d hd => by
    obtain ⟨m, _, rfl⟩ := List.mem_map.mp hd
    rfl
  show (true && (true && ((ms.map mk2).all (plI 2) && true))) = true
  rw [h]
  rfl

section
variable {P : Program} {w : World} {K : PySem.W.Frag} {mg : Str → Option Value} {base : Heap}
def spOne : Sp := fun vs H Q _ => ∃ a : Addr, vs = [.ref a] ∧ Ht a H ∧ ∀ H', Exw a H H' → Q (.bl true) H'
theorem ok_one (T : Blt mg) (gG : mg "gcd" = some (.builtin "math.gcd")) (EK : TxE K mg "NoRanks") (EP : TxE K mg "NoPlace") (nDict : mg "dict" = none) (cM : Cst mg "MOST_ROOM" (.int 64)) (cSt : Cst mg "MOST_STEPS" (.int 5000)) (cI : Cst mg "MOST_ITEMS" (.int 50000)) (dP_is_int : DnIsInt K mg) (dP_is_number : DnIsNumber K mg) (dP_is_room : DnIsRoom K mg) (dP_is_fraction : DnIsFraction K mg) (dP_is_less : DnIsLess K mg) (dP_is_side : DnIsSide K mg) (dP_is_place : DnIsPlace K mg) (dP_is_mark : DnIsMark K mg) (dP_may_follow : DnMayFollow K mg) (dP_are_marks : DnAreMarks K mg) (dP_is_ranks : DnIsRanks K mg) (dP_ends_at : DnEndsAt K mg) (dP_openness : DnOpenness K mg) (dP_item_ends : DnItemEnds K mg) (dP_are_numbers : DnAreNumbers K mg) (dP_is_put : DnIsPut K mg) (dP_is_pour : DnIsPour K mg) (dP_is_tree_of : DnIsTreeOf K mg) (dP_is_number_tree : DnIsNumberTree K mg) (dP_items_of : DnItemsOf K mg) (dP_is_at : DnIsAt K mg) (dP_rank_at : DnRankAt K mg) (dP_ascending : DnAscending K mg) (dP_chosen : DnChosen K mg) (dP_thin : DnThin K mg) (dP__ranks_of : Dn_RanksOf K mg) (dP_bounds_at : DnBoundsAt K mg) (dP_pour : DnPour K mg) (dP_nodes_of : DnNodesOf K mg) (dP_ranks_tree : DnRanksTree K mg) (ddraw : Dndraw K mg) (dsame : Dnsame K mg) (dany : Dnany K mg) (dgcd : Dngcd K mg) (dvalue : Dnvalue K mg) (dnumber : Dnnumber K mg) (dends : Dnends K mg) (dexact : Dnexact K mg) (dsteps : Dnsteps K mg) (dthinned : Dnthinned K mg) (dadded : Dnadded K mg) (das_told : Dnas_told K mg) (dtree : Dntree K mg) (dhanded : Dnhanded K mg) (dled : Dnled K mg) (dbound : Dnbound K mg) (dplace_right : Dnplace_right K mg) (dheld : Dnheld K mg) (d : Dnone K mg) : FnOk P w K mg base CX0 9 d.f d.fd ["_law_hat_here"] spOne := by
  have Gany : FnOk P w K mg base CX0 2 dany.f dany.fd ["_law_hat_here", "_law_things"] spAny := ok_any T ddraw dany
  have Gtree : FnOk P w K mg base CX0 4 dtree.f dtree.fd ["_law_hat_here", "_law_streams", "_law_most"] spTree := ok_tree T ddraw dany dnumber dtree
  have Ghanded : FnOk P w K mg base CX0 3 dhanded.f dhanded.fd ["_law_steps_here"] spHanded := ok_handed T dgcd dvalue dhanded
  have Gled : FnOk P w K mg base CX0 3 dled.f dled.fd ["_law_room", "_law_steps_here"] spLed := ok_led T dends dexact dsteps dthinned dadded dled
  have GP_ranks_tree : FnOk P w K mg base CX0 6 dP_ranks_tree.f dP_ranks_tree.fd ["room", "tree"] (spRanksTree K) := ok_ranks_tree T gG cM cSt cI dP_is_int dP_is_room dP_is_fraction dP_are_numbers dP_is_put dP_is_pour dP_is_tree_of dP_is_number_tree dP_ascending dP_chosen dP_thin dP__ranks_of dP_bounds_at dP_pour dP_nodes_of dP_ranks_tree
  have Gas_told : FnOk P w K mg base CX0 3 das_told.f das_told.fd ["_law_room", "_law_many", "_law_marks"] (spAsTold K) := ok_as_told T dgcd dvalue das_told
  have Gsame : FnOk P w K mg base CX0 6 dsame.f dsame.fd ["_law_actual", "_law_due"] (spSame K 4) := ok_same T dsame 5
  have GP_openness : FnOk P w K mg base (L2.CX P w) 6 dP_openness.f dP_openness.fd ["ranks"] (spOpenness K EK.C) := ok_openness T gG EK cM dP_is_int dP_is_number dP_is_room dP_is_fraction dP_is_less dP_is_mark dP_may_follow dP_are_marks dP_is_ranks dP_openness
  have Gbound : FnOk P w K mg base CX0 1 dbound.f dbound.fd ["_law_room", "_law_steps_here"] spBound := ok_bound T nDict dbound
  have Gheld : FnOk P w K mg base CX0 8 dheld.f dheld.fd ["_law_hat_here", "_law_ranks", "_law_tree_here", "_law_keys"] (spHeld K) := ok_held T gG EK EP cM cSt cI dP_is_int dP_is_number dP_is_room dP_is_fraction dP_is_less dP_is_side dP_is_place dP_is_mark dP_may_follow dP_are_marks dP_is_ranks dP_ends_at dP_are_numbers dP_is_put dP_is_pour dP_is_tree_of dP_is_number_tree dP_items_of dP_is_at dP_rank_at dsame dP_item_ends ddraw dgcd dvalue dplace_right dheld
  refine d.F.ok scone (fun vs H Q E h => ?_) (fun cdv A0 outer s H vs Q E hr h => ?_)
  · obtain ⟨a, rfl, _⟩ := h
    rfl
  · obtain ⟨a, rfl, w0, q⟩ := h
    refine ⟨_, (pss_cons (ps_set (i := 1) scone.nd rfl (Or.inl rfl) (pe_call Gany (hr.mono (by omega)) (by rfl) dany.g dany.F.kp dany.b .nil pass0 (pa_cons (pv 0) (pa_cons (pe_lst (pa_cons pe_int (pa_cons pe_int (pa_cons pe_int (pa_cons pe_int (pa_cons pe_int (pa_cons pe_int (pa_cons pe_int (pa_cons pe_int (pa_cons pe_int pa_nil)))))))))) pa_nil))))
    (pss_cons (ps_set (i := 2) scone.nd rfl (Or.inl rfl) (pe_call Gtree (hr.mono (by omega)) (by rfl) dtree.g dtree.F.kp dtree.b .nil pass0 (pa_cons (pv 0) (pa_cons (pe_call Gany (hr.mono (by omega)) (by rfl) dany.g dany.F.kp dany.b .nil pass0 (pa_cons (pv 0) (pa_cons (pe_lst (pa_cons pe_int (pa_cons pe_int (pa_cons pe_int (pa_cons pe_int pa_nil))))) pa_nil))) (pa_cons (pe_call Gany (hr.mono (by omega)) (by rfl) dany.g dany.F.kp dany.b .nil pass0 (pa_cons (pv 0) (pa_cons (pe_lst (pa_cons pe_int (pa_cons pe_int (pa_cons pe_int pa_nil)))) pa_nil))) pa_nil)))))
    (pss_cons (ps_set (i := 3) scone.nd rfl (Or.inl rfl) (pe_call Ghanded (hr.mono (by omega)) (by rfl) dhanded.g dhanded.F.kp dhanded.b .nil pass0 (pa_cons (pv 2) pa_nil)))
    (pss_cons (ps_asg (pe_call Gled (hr.mono (by omega)) (by rfl) dled.g dled.F.kp dled.b .nil pass0 (pa_cons (pv 1) (pa_cons (pv 2) pa_nil))) (pg_tup (by rfl) (pgs_cons (pg_name (i := 4) scone.nd rfl (Or.inl rfl)) (pgs_cons (pg_name (i := 5) scone.nd rfl (Or.inl rfl)) pgs_nil))))
    (pss_cons (ps_set (i := 6) scone.nd rfl (Or.inl rfl) (pe_call GP_ranks_tree (hr.mono (by omega)) (by rfl) dP_ranks_tree.g dP_ranks_tree.F.kp dP_ranks_tree.b .nil pass0 (pa_cons (pv 1) (pa_cons (pv 3) pa_nil))))
    (pss_cons (ps_if (pt_not (pt_val (pe_call Gsame (hr.mono (by omega)) (by rfl) dsame.g dsame.F.kp dsame.b .nil pass0 (pa_cons (pv 6) (pa_cons (pe_call Gas_told (hr.mono (by omega)) (by rfl) das_told.g das_told.F.kp das_told.b .nil pass0 (pa_cons (pv 1) (pa_cons (pv 4) (pa_cons (pv 5) pa_nil)))) pa_nil)))))
      (pss_one (ps_ret pe_bl))
      pss_nil)
    (pss_cons (ps_set (i := 7) scone.nd rfl (Or.inl rfl) (pe_callS GP_openness (hr.mono (by omega)) rfl dP_openness.g dP_openness.F.kp dP_openness.b (fun σ => passAt L2.takes0 σ) (pa_cons (pv 6) pa_nil)))
    (pss_cons (ps_if (PW.pt (pw_or (pt_not (pt_val (pe_callB (call_isD rfl) (by rfl) T.n_isinstance (by decide +kernel) (pa_cons (pv 7) (pa_cons (pe_bltn (v := .ty "int") (by rfl) T.n_int (by decide +kernel) rfl) pa_nil))))) (pw_or1 (pt_cmpR op_gt (pv 7) (pe_call Gbound (hr.mono (by omega)) (by rfl) dbound.g dbound.F.kp dbound.b .nil pass0 (pa_cons (pv 1) (pa_cons (pv 2) pa_nil))) (nomark _)))))
      (pss_one (ps_ret pe_bl))
      pss_nil)
    (pss_cons (ps_set (i := 8) scone.nd rfl (Or.inl rfl) (pe_lst pa_nil))
    (pss_cons (ps_for PassesOwn.never rfl (pi_list (pv 2)) (pg_name (i := 9) scone.nd rfl (Or.inl rfl))
      (pss_one (ps_if (pt_cmpR op_notN (pv 9) pe_non (nomark _))
        (pss_one (ps_expr (pe_bm PySem.F.plainAttrs_list PySem.F.slot_list_extend PySem.F.type_list_extend mt_extend (pv 8) (pa_cons (pv 9) pa_nil))))
        pss_nil)))
    (pss_one (ps_ret (pe_call Gheld (hr.mono (by omega)) (by rfl) dheld.g dheld.F.kp dheld.b .nil pass0 (pa_cons (pv 0) (pa_cons (pv 6) (pa_cons (pv 3) (pa_cons (pv 8) pa_nil))))))))))))))))), ?_⟩
    -- the room
    refine ⟨.ref a, rfl, (by show 9 ≤ sizeLine; decide), fun l1 nl1 => ?_⟩
    have s1 := same_upd (o := .lst [.int 1, .int 1, .int 2, .int 2, .int 3, .int 4, .int 6, .int 9, .int 64]) nl1
    refine ⟨a, l1, _, rfl, w0.same s1, w0.nea nl1, upd_same, (by show 0 < 9; decide), (by show 9 ≤ 100000; decide), fun H1 v x1 w1 hv => ?_⟩
    obtain ⟨room, rfl, r1, r64⟩ : ∃ k : Nat, v = .int (k : Int) ∧ 1 ≤ k ∧ k ≤ 64 := by
      simp only [List.mem_cons, List.not_mem_nil, or_false] at hv
      rcases hv with rfl | rfl | rfl | rfl | rfl | rfl | rfl | rfl | rfl
      · exact ⟨1, rfl, by decide, by decide⟩
      · exact ⟨1, rfl, by decide, by decide⟩
      · exact ⟨2, rfl, by decide, by decide⟩
      · exact ⟨2, rfl, by decide, by decide⟩
      · exact ⟨3, rfl, by decide, by decide⟩
      · exact ⟨4, rfl, by decide, by decide⟩
      · exact ⟨6, rfl, by decide, by decide⟩
      · exact ⟨9, rfl, by decide, by decide⟩
      · exact ⟨64, rfl, by decide, by decide⟩
    clear hv
    have x01 := (Same.exw (a := a) s1).trans x1
    refine ⟨.ref a, rfl, .ref a, rfl, (by show 4 ≤ sizeLine; decide), fun l2 nl2 => ?_⟩
    have s2 := same_upd (o := .lst [.int 1, .int 3, .int 5, .int 9]) nl2
    refine ⟨a, l2, _, rfl, w1.same s2, w1.nea nl2, upd_same, (by show 0 < 4; decide), (by show 4 ≤ 100000; decide), fun H2 v x2 w2 hv => ?_⟩
    obtain ⟨st, rfl, st1, st9⟩ : ∃ k : Nat, v = .int (k : Int) ∧ 1 ≤ k ∧ k ≤ 9 := by
      simp only [List.mem_cons, List.not_mem_nil, or_false] at hv
      rcases hv with rfl | rfl | rfl | rfl
      · exact ⟨1, rfl, by decide, by decide⟩
      · exact ⟨3, rfl, by decide, by decide⟩
      · exact ⟨5, rfl, by decide, by decide⟩
      · exact ⟨9, rfl, by decide, by decide⟩
    clear hv
    have x02 := x01.trans ((Same.exw (a := a) s2).trans x2)
    refine ⟨.ref a, rfl, (by show 3 ≤ sizeLine; decide), fun l3 nl3 => ?_⟩
    have s3 := same_upd (o := .lst [.int 2, .int 5, .int 9]) nl3
    refine ⟨a, l3, _, rfl, w2.same s3, w2.nea nl3, upd_same, (by show 0 < 3; decide), (by show 3 ≤ 100000; decide), fun H3 v x3 w3 hv => ?_⟩
    obtain ⟨mo, rfl, mo9⟩ : ∃ k : Nat, v = .int (k : Int) ∧ k ≤ 9 := by
      simp only [List.mem_cons, List.not_mem_nil, or_false] at hv
      rcases hv with rfl | rfl | rfl
      · exact ⟨2, rfl, by decide⟩
      · exact ⟨5, rfl, by decide⟩
      · exact ⟨9, rfl, by decide⟩
    clear hv
    have x03 := x02.trans ((Same.exw (a := a) s3).trans x3)
    refine ⟨a, st, mo, rfl, w3, st1, by omega, by omega, fun H4 S us l x4 w4 nS hS pu tr => ?_⟩
    have x04 := x03.trans x4
    have few := tr.few
    refine ⟨.ref S, rfl, a, S, us, l, rfl, hS, pu, tr, fun H5 pt s5 hT => ?_⟩
    have hS5 := s5 _ _ hS
    have pu5 := ls_same pu s5
    refine ⟨.int (room : Int), rfl, .ref S, rfl, room, a, S, us, l, rfl, hS5, pu5, tr, r1, r64, fun e run H6 p6 s6 hp6 => ?_⟩
    obtain ⟨lm, um, hp6, hlm, pum⟩ := hp6
    obtain ⟨e', ee, eok, eks⟩ := tr.end_ r1 r64 run
    cases ee
    refine ⟨p6, _, rfl, hp6.seq, rfl, _, _, rfl, _, _, rfl, rfl, ?_⟩
    refine ⟨.int (room : Int), rfl, .ref pt, rfl, room, pt, l, rfl, hT.same s6, tr, r1, r64, fun e2 run2 H7 R s7 d7 => ?_⟩
    have e12 := run2.one run
    cases e12
    have s57 := s6.trans s7
    have fok := eok.fok
    have rk := fok.rk r1 r64 eok.len
    refine ⟨R, rfl, .int (room : Int), rfl, .int e.n, rfl, .ref lm, rfl, (room : Int), e.n, lm, um, e.fs, rfl, by omega, by omega, s7 _ _ hlm, fds_same pum s7, fok, fun H8 p8 s8 d8 => ?_⟩
    refine ⟨R, .ref p8, _, rfl, d7.same s8, d8, pl_rk, fun H9 s9 => ⟨true, rfl, iteF ?_⟩⟩
    have d9 := (d7.same s8).same s9
    refine ⟨R, rfl, R, _, rfl, d9, fun z => ?_, fun r' n' ms em ok' H10 m s10 mem mx => ?_⟩
    · rw [rkB_of rk] at z
      cases z
    obtain ⟨rfl, rfl, rfl⟩ := rk2_inj em
    have hm := open_gaps fok mem mx
    have mB : m ≤ e.B := by
      have := eok.op
      omega
    have s510 := ((s57.trans s8).trans s9).trans s10
    have hS10 := s510 _ _ hS5
    have pu10 := ls_same pu5 s510
    have m0 : 0 ≤ m := by
      rw [hm]
      exact opn_ge
    have mn : m ≤ 2 ^ 40 := by
      have := fok.n1
      have g := good_gaps.mpr mx
      have h3 : m ∈ gapsM 0 (e.fs.map Fd.m) e.n := mem
      have key : ∀ (S : List Fd) (low : Int), 0 ≤ low → (∀ f ∈ S, f.x ≤ e.n ∧ 0 ≤ f.y) → ∀ y ∈ gapsM low (S.map Fd.m) e.n, y ≤ e.n := by
        intro S
        induction S with
        | nil =>
          intro low l0 _ y hy
          rw [List.mem_singleton.mp hy]
          omega
        | cons f S ih =>
          intro low l0 hf y hy
          have hff := hf f List.mem_cons_self
          rcases List.mem_cons.mp hy with h | h
          · rw [h]
            show f.x - low ≤ e.n
            omega
          · exact ih f.y hff.2 (fun g hg => hf g (List.mem_cons_of_mem _ hg)) y h
      have := key e.fs 0 (Int.le_refl _) (fun f hf => by
        have b := fok.bd f hf
        obtain ⟨b1, b2, b3, b4, b5, b6, b7⟩ := b
        change f.w < f.y at b2
        change 0 ≤ f.w at b1
        change f.x < f.z at b5
        change f.z ≤ e.n at b6
        omega) m h3
      omega
    have p40 : (2 : Int) ^ 40 = 1099511627776 := by decide
    have p100 : (2 : Nat) ^ 100 = 1267650600228229401496703205376 := by decide
    have dm : DtAt K H10 (.int m) (.int m) := .lf ⟨rfl, by omega⟩
    obtain ⟨t, ty, kI, kB, kS, kT⟩ := dm.ty
    refine ⟨.int m, rfl, .int m, _, t, _, true, rfl, .ty "int", ty, kI, true, rfl, iteF ?_⟩
    refine ⟨.int m, rfl, .int (room : Int), rfl, .ref S, rfl, room, a, S, us, l, e, rfl, hS10, pu10, tr, r1, r64, run, fun H11 s11 => ⟨_, _, rfl, rfl, false, congrArg V.bl (decide_eq_false (by omega)), iteF ?_⟩⟩
    have s511 := s510.trans s11
    -- the keys
    refine ⟨(by show 0 ≤ sizeLine; decide), fun Kl nKl => ?_⟩
    have s12 := same_upd (o := .lst []) nKl
    have hK12 : (upd H11 Kl (.lst [])) Kl = some (.lst ((itm (l.take 0)).map V.int)) := upd_same
    have x011 := (x04.same s5).same s511
    have w11 := (w4.same s5).same s511
    have nKa := w11.nea nKl
    have hS11 := s511 _ _ hS5
    have pu11 := ls_same pu5 s511
    have s512 := s511.trans s12
    have ul : us.length = l.length := Paired.length pu
    have nKS : S ≠ Kl := ne_of_none hS11 nKl
    have ll := tr.len
    generalize upd H11 Kl (.lst []) = H12 at s12 hK12 s512 ⊢
    refine ⟨.ref S, rfl, S, rfl, ⟨_, sql (s12 _ _ hS11)⟩, ?_⟩
    refine for_list (xs := us) (fun i σ H13 => ∃ y9 : Option V, σ = [some (.ref a), some (.int (room : Int)), some (.ref S), some (.ref pt), some (.int e.n), some (.ref lm), some R, some (.int m), some (.ref Kl), y9] ∧ Same H11 H13 ∧ H13 Kl = some (.lst ((itm (l.take i)).map V.int))) ⟨none, rfl, s12, hK12⟩ (fun i σ H13 _ ⟨_, _, s, _⟩ => sql (s _ _ hS11)) ?_ ?_
    · rintro i v σ H13 hv ⟨y9, rfl, s13, hK13⟩
      obtain ⟨t, ht, hat⟩ := paired_at pu11 hv
      have il := itm_take (l := l) (i := i + 1)
      rw [itm_snoc ht, List.length_append] at il
      cases t with
      | none =>
        obtain rfl : v = .non := hat
        refine ⟨.non, rfl, rfl, false, rfl, iteF ⟨_, rfl, s13, ?_⟩⟩
        rw [itm_snoc ht]
        show _ = some (HO.lst ((itm (l.take i) ++ []).map V.int))
        rw [List.append_nil]
        exact hK13
      | some ks =>
        obtain ⟨b, rfl, nba, nbS, hb⟩ := hat
        change _ + ks.length ≤ _ at il
        refine ⟨.ref b, rfl, rfl, true, rfl, iteT ⟨.ref Kl, rfl, .inl ⟨rfl, _, sql hK13⟩, .ref b, rfl, Kl, b, _, _, rfl, rfl, hK13, s13 _ _ hb, by rw [List.length_map, List.length_map, sizeLine_eq]; omega, _, rfl, Same.put s13 nKl, ?_⟩⟩
        rw [upd_same, itm_snoc ht, List.map_append]
        rfl
    · rintro σ H13 ⟨y9, rfl, s13, hK13⟩
      rw [ul, List.take_length] at hK13
      have w13 := w11.same s13
      have x013 := x011.same s13
      have s1013 := s11.trans s13
      exact ⟨.ref a, rfl, R, rfl, .ref pt, rfl, .ref Kl, rfl, a, pt, Kl, R, room, e.n, e.fs, l, rfl, w13, nKa, ((d9.same s10).same s1013), rk, by rw [eok.n, eks], fok, by rw [← eks]; exact eok.hold, ((hT.same s511)).same s13, tr, hK13, fun H14 x14 => q H14 (x013.trans x14)⟩
end
end Kb

namespace Kb
open PySem PySem.Spec PyProof.Rows L2 RZ SrtR
abbrev slaw : Stmt := topS 66
abbrev Nlaw : List Str := ["_law_script", "_law_k", "_law_cell"]
theorem sclaw : FnScope ["_law_script", "_law_k", "_law_cell"] ["_law_script"] (defScope slaw) := ⟨rfl, rfl, rfl, by decide +kernel, rfl, by decide +kernel, by decide +kernel⟩
abbrev Dnlaw (K : PySem.W.Frag) (mg : Str → Option Value) := Dn K mg "law" slaw ["_law_script"]
section
variable {P : Program} {w : World} {K : PySem.W.Frag} {mg : Str → Option Value} {base : Heap}
structure Defs (K : PySem.W.Frag) (mg : Str → Option Value) where
  T : Blt mg
  gG : mg "gcd" = some (.builtin "math.gcd")
  EK : TxE K mg "NoRanks"
  EP : TxE K mg "NoPlace"
  nDict : mg "dict" = none
  cM : Cst mg "MOST_ROOM" (.int 64)
  cSt : Cst mg "MOST_STEPS" (.int 5000)
  cI : Cst mg "MOST_ITEMS" (.int 50000)
  dP_is_int : DnIsInt K mg
  dP_is_number : DnIsNumber K mg
  dP_is_room : DnIsRoom K mg
  dP_is_fraction : DnIsFraction K mg
  dP_is_less : DnIsLess K mg
  dP_is_side : DnIsSide K mg
  dP_is_place : DnIsPlace K mg
  dP_is_mark : DnIsMark K mg
  dP_may_follow : DnMayFollow K mg
  dP_are_marks : DnAreMarks K mg
  dP_is_ranks : DnIsRanks K mg
  dP_ends_at : DnEndsAt K mg
  dP_openness : DnOpenness K mg
  dP_item_ends : DnItemEnds K mg
  dP_are_numbers : DnAreNumbers K mg
  dP_is_put : DnIsPut K mg
  dP_is_pour : DnIsPour K mg
  dP_is_tree_of : DnIsTreeOf K mg
  dP_is_number_tree : DnIsNumberTree K mg
  dP_items_of : DnItemsOf K mg
  dP_is_at : DnIsAt K mg
  dP_rank_at : DnRankAt K mg
  dP_ascending : DnAscending K mg
  dP_chosen : DnChosen K mg
  dP_thin : DnThin K mg
  dP__ranks_of : Dn_RanksOf K mg
  dP_bounds_at : DnBoundsAt K mg
  dP_pour : DnPour K mg
  dP_nodes_of : DnNodesOf K mg
  dP_ranks_tree : DnRanksTree K mg
  ddraw : Dndraw K mg
  dsame : Dnsame K mg
  dany : Dnany K mg
  dgcd : Dngcd K mg
  dvalue : Dnvalue K mg
  dnumber : Dnnumber K mg
  dends : Dnends K mg
  dexact : Dnexact K mg
  dsteps : Dnsteps K mg
  dthinned : Dnthinned K mg
  dadded : Dnadded K mg
  das_told : Dnas_told K mg
  dtree : Dntree K mg
  dhanded : Dnhanded K mg
  dled : Dnled K mg
  dbound : Dnbound K mg
  dplace_right : Dnplace_right K mg
  dheld : Dnheld K mg
  dhat : Dnhat K mg
  dOne : Dnone K mg
def spLaw (K : PySem.W.Frag) : Sp := fun vs H Q _ => ∃ (a : Addr) (ns : List Int), vs = [.ref a] ∧ SqL K H a (ns.map V.int) ∧ ns.length ≤ 63 ∧ ∀ H', Q (.bl true) H'
theorem ok_law (D : Defs K mg) (d : Dnlaw K mg) : FnOk P w K mg base CX0 10 d.f d.fd ["_law_script"] (spLaw K) := by
  obtain ⟨T, gG, EK, EP, nDict, cM, cSt, cI, dP_is_int, dP_is_number, dP_is_room, dP_is_fraction, dP_is_less, dP_is_side, dP_is_place, dP_is_mark, dP_may_follow, dP_are_marks, dP_is_ranks, dP_ends_at, dP_openness, dP_item_ends, dP_are_numbers, dP_is_put, dP_is_pour, dP_is_tree_of, dP_is_number_tree, dP_items_of, dP_is_at, dP_rank_at, dP_ascending, dP_chosen, dP_thin, dP__ranks_of, dP_bounds_at, dP_pour, dP_nodes_of, dP_ranks_tree, ddraw, dsame, dany, dgcd, dvalue, dnumber, dends, dexact, dsteps, dthinned, dadded, das_told, dtree, dhanded, dled, dbound, dplace_right, dheld, dhat, dOne⟩ := D
  have Gone : FnOk P w K mg base CX0 9 dOne.f dOne.fd ["_law_hat_here"] spOne := ok_one T gG EK EP nDict cM cSt cI dP_is_int dP_is_number dP_is_room dP_is_fraction dP_is_less dP_is_side dP_is_place dP_is_mark dP_may_follow dP_are_marks dP_is_ranks dP_ends_at dP_openness dP_item_ends dP_are_numbers dP_is_put dP_is_pour dP_is_tree_of dP_is_number_tree dP_items_of dP_is_at dP_rank_at dP_ascending dP_chosen dP_thin dP__ranks_of dP_bounds_at dP_pour dP_nodes_of dP_ranks_tree ddraw dsame dany dgcd dvalue dnumber dends dexact dsteps dthinned dadded das_told dtree dhanded dled dbound dplace_right dheld dOne
  have Ghat : FnOk P w K mg base CX0 1 dhat.f dhat.fd ["_law_cell", "_law_k"] spHat := ok_hat T dhat
  refine d.F.ok sclaw (fun vs H Q E h => ?_) (fun cdv A outer s H vs Q E hr h => ?_)
  · obtain ⟨a, ns, rfl, _⟩ := h
    rfl
  · obtain ⟨sc, ns, rfl, hS, hl, q⟩ := h
    refine ⟨_, (pss_cons (ps_for PassesOwn.never rfl (pi_enum (by rfl) T.n_enumerate (pa_cons (pe_op op_cat (pe_callTy call_list_of (by rfl) T.n_list (by decide +kernel) (pa_cons (pv 0) pa_nil)) (pe_lst (pa_cons pe_int (pa_cons pe_int (pa_cons pe_int pa_nil))))) pa_nil)) (pg_tup (by rfl) (pgs_cons (pg_name (i := 1) sclaw.nd rfl (Or.inl rfl)) (pgs_cons (pg_name (i := 2) sclaw.nd rfl (Or.inl rfl)) pgs_nil)))
      (pss_one (ps_if (pt_not (pt_val (pe_call Gone (hr.mono (by omega)) (by rfl) dOne.g dOne.F.kp dOne.b .nil pass0 (pa_cons (pe_call Ghat (hr.mono (by omega)) (by rfl) dhat.g dhat.F.kp dhat.b .nil pass0 (pa_cons (pv 2) (pa_cons (pv 1) pa_nil))) pa_nil))))
        (pss_one (ps_ret pe_bl))
        pss_nil)))
    (pss_one (ps_ret pe_bl))), ?_⟩
    refine ⟨.ref sc, rfl, sc, _, rfl, .inl hS, fun l1 nl1 => ⟨(by show 3 ≤ sizeLine; decide), fun l2 nl2 => ?_⟩⟩
    have h1 : (upd (upd H l1 (.lst (ns.map V.int))) l2 (.lst [.int 8, .int 17, .int 49])) l1 = some (.lst (ns.map V.int)) := same_upd nl2 _ _ upd_same
    have h2 : (upd (upd H l1 (.lst (ns.map V.int))) l2 (.lst [.int 8, .int 17, .int 49])) l2 = some (.lst [.int 8, .int 17, .int 49]) := upd_same
    generalize upd (upd H l1 (.lst (ns.map V.int))) l2 (.lst [.int 8, .int 17, .int 49]) = H2 at h1 h2 ⊢
    refine ⟨l1, l2, _, _, rfl, rfl, h1, h2, by rw [sizeLine_eq, List.length_map]; show ns.length + 3 ≤ _; omega, fun l3 nl3 => ?_⟩
    have h3 : (upd H2 l3 (.lst (ns.map V.int ++ [.int 8, .int 17, .int 49]))) l3 = some (.lst ((ns ++ [8, 17, 49]).map V.int)) := by rw [upd_same, List.map_append]; rfl
    generalize upd H2 l3 (.lst (ns.map V.int ++ [.int 8, .int 17, .int 49])) = H3 at h3 ⊢
    refine ⟨l3, _, rfl, sql h3, ?_⟩
    refine for_it (walk_enum (K := K) (a := l3) (xs := (ns ++ [8, 17, 49]).map V.int)) (fun i σ H4 => ∃ y1 y2 : Option V, σ = [some (.ref sc), y1, y2] ∧ H4 l3 = some (.lst ((ns ++ [8, 17, 49]).map V.int))) ⟨none, none, rfl, h3⟩ (fun i σ H4 _ ⟨_, _, _, e⟩ => sql e) ?_ ?_
    · rintro i v σ H4 H5 hi ⟨y1, y2, rfl, h4⟩ ⟨TT, u1, u2, rfl, nT, rfl, hx1, hx2⟩
      cases hx1
      obtain ⟨c, hc, rfl⟩ := map_at hx2
      have hTT : (upd H4 TT (.tup [.int (i : Nat), .int c])) TT = some (.tup [.int (i : Nat), .int c]) := upd_same
      have h5 := same_upd (o := .tup [.int (i : Nat), .int c]) nT _ _ h4
      generalize upd H4 TT (.tup [.int (i : Nat), .int c]) = H5 at hTT h5 ⊢
      refine ⟨TT, _, rfl, .inl (.inl hTT), rfl, _, _, rfl, _, _, rfl, rfl, ?_⟩
      refine ⟨.int c, rfl, .int (i : Nat), rfl, c, (i : Nat), rfl, fun H6 a s6 na w6 => ⟨a, rfl, w6, fun H7 x7 => ⟨true, rfl, iteF ?_⟩⟩⟩
      exact ⟨_, _, rfl, x7 _ _ (ne_of_none h5 na) (s6 _ _ h5)⟩
    · rintro σ H4 ⟨y1, y2, rfl, h4⟩
      exact q H4
end
end Kb

namespace Kb
open PySem PySem.Spec PyProof.Rows L2
/-- a def as the top has left it -/
def dn_of {K : PySem.W.Frag} {h : Heap} {mg : Str → Option Value} {nm : Str} {st : Stmt} {ps : List Str} {f : Addr} {oc : Value} {od an : Option Addr} {osl : Array (Option Value)} {kV doc pm cdv ct : Value} (X : K.In h) (G : h.Ns mainGlobals mg)
    (fa : PySem.W.nsIn K mainGlobals nm = some (some (.ref f))) (fl : K.lookup f = some ⟨oc, od, .func (PySem.W.fnOf nm nm (defArgs st) (defBody st) (defScope st) .none kV doc pm an cdv ct), osl⟩) (fc : PySem.W.codeIn K cdv nm = true) (fk : PySem.W.keepIn K (.ref f) = true)
    (fb : ∀ (kV doc pm : Value) (an : Option Addr) (cdv ct : Value) (us : List Value), us.length = ps.length → bindArgs (PySem.W.fnOf nm nm (defArgs st) (defBody st) (defScope st) .none kV doc pm an cdv ct) ⟨us, []⟩ = pure (ps.zip us)) : Dn K mg nm st ps :=
  ⟨f, _, fun_mk fl fc fk, PySem.W.mg_of X G fa, (fun_mk fl fc fk).binds fb⟩
def cst_of {K : PySem.W.Frag} {h : Heap} {mg : Str → Option Value} {nm : Str} {i : Int} {t : Tok} (X : K.In h) (G : h.Ns mainGlobals mg) (fa : PySem.W.nsIn K mainGlobals nm = some (some (.int i t))) : Cst mg nm (.int i) := ⟨_, PySem.W.mg_of X G fa, ⟨_, rfl⟩⟩
/-- the classes of errors as the top has left them -/
structure TxS (K : PySem.W.Frag) (mg : Str → Option Value) where
  EK : TxE K mg "NoRanks"
  EP : TxE K mg "NoPlace"
def txS_of {K : PySem.W.Frag} {h : Heap} {mg : Str → Option Value} {CK CP : Addr} (X : K.In h) (G : h.Ns mainGlobals mg)
    (K1 : PySem.W.nsIn K mainGlobals "NoRanks" = some (some (.ref CK))) (K2 : PySem.W.excIn K CK [.type "ValueError", .type "Exception", .type "BaseException", .type "object"] "ValueError.__new__" = true) (K3 : PySem.W.keepIn K (.ref CK) = true) (K4 : PySem.W.subIn K (.ref CK) (.type "BaseException") = some true) (K5 : PySem.W.typeIn K (.ref CK) = some (.type "type")) (Ki1 : PySem.W.findIn K (.ref CK) "__getattribute__" = some (some (.builtin "BaseException.__getattribute__"))) (Ki2 : PySem.W.findIn K (.ref CK) "__getattr__" = some none) (Ki3 : PySem.W.hasDictIn K CK = true) (Ki4 : PySem.W.findIn K (.ref CK) "__class__" = some (some (.builtin "object.__class__"))) (Ki5 : PySem.W.specialIn K (.builtin "object.__class__") "__get__" = some (some (.builtin "getset_descriptor.__get__"))) (Ki6 : PySem.W.takesIn K (.builtin "object.__class__") = some true) (Ki7 : PySem.W.mroIn K CK (.type "object") = some true) (P1 : PySem.W.nsIn K mainGlobals "NoPlace" = some (some (.ref CP))) (P2 : PySem.W.excIn K CP [.type "ValueError", .type "Exception", .type "BaseException", .type "object"] "ValueError.__new__" = true) (P3 : PySem.W.keepIn K (.ref CP) = true) (P4 : PySem.W.subIn K (.ref CP) (.type "BaseException") = some true) (P5 : PySem.W.typeIn K (.ref CP) = some (.type "type")) (Pi1 : PySem.W.findIn K (.ref CP) "__getattribute__" = some (some (.builtin "BaseException.__getattribute__"))) (Pi2 : PySem.W.findIn K (.ref CP) "__getattr__" = some none) (Pi3 : PySem.W.hasDictIn K CP = true) (Pi4 : PySem.W.findIn K (.ref CP) "__class__" = some (some (.builtin "object.__class__"))) (Pi5 : PySem.W.specialIn K (.builtin "object.__class__") "__get__" = some (some (.builtin "getset_descriptor.__get__"))) (Pi6 : PySem.W.takesIn K (.builtin "object.__class__") = some true) (Pi7 : PySem.W.mroIn K CP (.type "object") = some true) : TxS K mg :=
  ⟨⟨CK, PySem.W.mg_of X G K1, K2, K3, K4, K5, ⟨Ki1, Ki2, K4, Ki3, Ki4, Ki5, Ki6, Ki7⟩⟩, ⟨CP, PySem.W.mg_of X G P1, P2, P3, P4, P5, ⟨Pi1, Pi2, P4, Pi3, Pi4, Pi5, Pi6, Pi7⟩⟩⟩
theorem law_end {l : PySem.W.OpenLaw} {w : World} {K : PySem.W.Frag} {h : Heap} {mg : Str → Option Value} {fa f : Addr} (X : K.In h) (G : h.Ns mainGlobals mg) (hfa : mg "law" = some (.ref fa))
    {od an : Option Addr} {osl : Array (Option Value)} {oc kV doc pm cdv ct : Value}
    (a0 : PySem.W.nsIn K mainGlobals "law" = some (some (.ref f))) (l0 : K.lookup f = some ⟨oc, od, .func (PySem.W.fnOf "law" "law" (defArgs slaw) (defBody slaw) (defScope slaw) .none kV doc pm an cdv ct), osl⟩) (c0 : PySem.W.codeIn K cdv "law" = true) (k0 : PySem.W.keepIn K (.ref f) = true)
    (nDict : mg "dict" = none) (gG : mg "gcd" = some (.builtin "math.gcd")) (S : TxS K mg) (T : Blt mg)  (cM : Cst mg "MOST_ROOM" (.int 64)) (cSt : Cst mg "MOST_STEPS" (.int 5000)) (cI : Cst mg "MOST_ITEMS" (.int 50000))  (dP_is_int : DnIsInt K mg) (dP_is_number : DnIsNumber K mg) (dP_is_room : DnIsRoom K mg) (dP_is_fraction : DnIsFraction K mg) (dP_is_less : DnIsLess K mg) (dP_is_side : DnIsSide K mg) (dP_is_place : DnIsPlace K mg) (dP_is_mark : DnIsMark K mg) (dP_may_follow : DnMayFollow K mg) (dP_are_marks : DnAreMarks K mg) (dP_is_ranks : DnIsRanks K mg) (dP_ends_at : DnEndsAt K mg) (dP_openness : DnOpenness K mg) (dP_item_ends : DnItemEnds K mg) (dP_are_numbers : DnAreNumbers K mg) (dP_is_put : DnIsPut K mg) (dP_is_pour : DnIsPour K mg) (dP_is_tree_of : DnIsTreeOf K mg) (dP_is_number_tree : DnIsNumberTree K mg) (dP_items_of : DnItemsOf K mg) (dP_is_at : DnIsAt K mg) (dP_rank_at : DnRankAt K mg) (dP_ascending : DnAscending K mg) (dP_chosen : DnChosen K mg) (dP_thin : DnThin K mg) (dP__ranks_of : Dn_RanksOf K mg) (dP_bounds_at : DnBoundsAt K mg) (dP_pour : DnPour K mg) (dP_nodes_of : DnNodesOf K mg) (dP_ranks_tree : DnRanksTree K mg) (ddraw : Dndraw K mg) (dsame : Dnsame K mg) (dany : Dnany K mg) (dgcd : Dngcd K mg) (dvalue : Dnvalue K mg) (dnumber : Dnnumber K mg) (dends : Dnends K mg) (dexact : Dnexact K mg) (dsteps : Dnsteps K mg) (dthinned : Dnthinned K mg) (dadded : Dnadded K mg) (das_told : Dnas_told K mg) (dtree : Dntree K mg) (dhanded : Dnhanded K mg) (dled : Dnled K mg) (dbound : Dnbound K mg) (dplace_right : Dnplace_right K mg) (dheld : Dnheld K mg) (dhat : Dnhat K mg) (dOne : Dnone K mg) :
    ∃ fd : FuncData, (∀ (s : Shared) (v : Value), BindsTo s fd ⟨[v], []⟩ [("_law_script", v)]) ∧ ∀ base : Heap, K.In base → base.Ns mainGlobals mg → FnOk l.prog w K mg base CX0 10 fa fd ["_law_script"] (spLaw K) := by
  have e := hfa.symm.trans (PySem.W.mg_of X G a0)
  cases e
  exact ⟨PySem.W.fnOf "law" "law" (defArgs slaw) (defBody slaw) (defScope slaw) .none kV doc pm an cdv ct, fun s v => .of_eq rfl, fun base _ _ => ok_law { nDict := nDict, gG := gG, EK := S.EK, EP := S.EP, T := T, cM := cM, cSt := cSt, cI := cI, dP_is_int := dP_is_int, dP_is_number := dP_is_number, dP_is_room := dP_is_room, dP_is_fraction := dP_is_fraction, dP_is_less := dP_is_less, dP_is_side := dP_is_side, dP_is_place := dP_is_place, dP_is_mark := dP_is_mark, dP_may_follow := dP_may_follow, dP_are_marks := dP_are_marks, dP_is_ranks := dP_is_ranks, dP_ends_at := dP_ends_at, dP_openness := dP_openness, dP_item_ends := dP_item_ends, dP_are_numbers := dP_are_numbers, dP_is_put := dP_is_put, dP_is_pour := dP_is_pour, dP_is_tree_of := dP_is_tree_of, dP_is_number_tree := dP_is_number_tree, dP_items_of := dP_items_of, dP_is_at := dP_is_at, dP_rank_at := dP_rank_at, dP_ascending := dP_ascending, dP_chosen := dP_chosen, dP_thin := dP_thin, dP__ranks_of := dP__ranks_of, dP_bounds_at := dP_bounds_at, dP_pour := dP_pour, dP_nodes_of := dP_nodes_of, dP_ranks_tree := dP_ranks_tree, ddraw := ddraw, dsame := dsame, dany := dany, dgcd := dgcd, dvalue := dvalue, dnumber := dnumber, dends := dends, dexact := dexact, dsteps := dsteps, dthinned := dthinned, dadded := dadded, das_told := das_told, dtree := dtree, dhanded := dhanded, dled := dled, dbound := dbound, dplace_right := dplace_right, dheld := dheld, dhat := dhat, dOne := dOne }
    ⟨_, _, fun_mk l0 c0 k0, PySem.W.mg_of X G a0, (fun_mk l0 c0 k0).binds fun _ _ _ _ _ _ us hl => match us, hl with | [_], _ => rfl⟩⟩
end Kb
open PySem PySem.W PyProof.Rows
theorem PySem.Challenge.cw_knownends_k22_whole_trees_ranked_holds : PySem.Challenge.rw_knownends_k22_whole_trees_ranked.Holds := by
  w_on; o_law; k_head; (case hw => w_witness2)
  k_fill
  refine L2.walk_of (l := PySem.Challenge.rw_knownends_k22_whole_trees_ranked) (n := 63) (k := 10) (x := "_law_script") (CX := fun _ => L2.CX0) (sp := fun w => Kb.spLaw _) rfl (by decide) rfl ⟨rfl, by decide, by decide⟩ (fun w h Y => PySem.W.kIn_of Y) ?F (fun _ _ a ns hl _ hS => ⟨a, ns, rfl, hS, hl, fun _ => rfl⟩) (fun _ _ _ _ _ h => h)
  case F =>
    intro w mg fa h KX G hmg
    refine' Kb.law_end KX G hmg ?a0 ?l0 ?c0 ?k0 ?nDict ?gG ?S ?T ?cM ?cSt ?cI ?dP_is_int ?dP_is_number ?dP_is_room ?dP_is_fraction ?dP_is_less ?dP_is_side ?dP_is_place ?dP_is_mark ?dP_may_follow ?dP_are_marks ?dP_is_ranks ?dP_ends_at ?dP_openness ?dP_item_ends ?dP_are_numbers ?dP_is_put ?dP_is_pour ?dP_is_tree_of ?dP_is_number_tree ?dP_items_of ?dP_is_at ?dP_rank_at ?dP_ascending ?dP_chosen ?dP_thin ?dP__ranks_of ?dP_bounds_at ?dP_pour ?dP_nodes_of ?dP_ranks_tree ?ddraw ?dsame ?dany ?dgcd ?dvalue ?dnumber ?dends ?dexact ?dsteps ?dthinned ?dadded ?das_told ?dtree ?dhanded ?dled ?dbound ?dplace_right ?dheld ?dhat ?dOne
    (case a0 => k_is); (case l0 => k_is); (case c0 => k_is); (case k0 => k_is)
    (case nDict => exact PySem.W.mg_none_of KX G (by k_is))
    (case gG => exact PySem.W.mg_of KX G (by k_is))
    (case S =>
      refine' Kb.txS_of KX G ?K1 ?K2 ?K3 ?K4 ?K5 ?Ki1 ?Ki2 ?Ki3 ?Ki4 ?Ki5 ?Ki6 ?Ki7 ?P1 ?P2 ?P3 ?P4 ?P5 ?Pi1 ?Pi2 ?Pi3 ?Pi4 ?Pi5 ?Pi6 ?Pi7
      (case K1 => k_is); (case K2 => first | k_exc | kernel_rfl); (case K3 => k_is); (case K4 => k_is); (case K5 => k_is); (case Ki1 => k_is); (case Ki2 => k_is); (case Ki3 => k_is); (case Ki4 => k_is); (case Ki5 => k_is); (case Ki6 => k_is); (case Ki7 => k_is); (case P1 => k_is); (case P2 => first | k_exc | kernel_rfl); (case P3 => k_is); (case P4 => k_is); (case P5 => k_is); (case Pi1 => k_is); (case Pi2 => k_is); (case Pi3 => k_is); (case Pi4 => k_is); (case Pi5 => k_is); (case Pi6 => k_is); (case Pi7 => k_is))
    (case T => exact ⟨PySem.W.mg_none_of KX G (by k_is), PySem.W.mg_none_of KX G (by k_is), PySem.W.mg_none_of KX G (by k_is), PySem.W.mg_none_of KX G (by k_is), PySem.W.mg_none_of KX G (by k_is), PySem.W.mg_none_of KX G (by k_is), PySem.W.mg_none_of KX G (by k_is), PySem.W.mg_none_of KX G (by k_is), PySem.W.mg_none_of KX G (by k_is), PySem.W.mg_none_of KX G (by k_is), PySem.W.mg_none_of KX G (by k_is), PySem.W.mg_none_of KX G (by k_is), PySem.W.mg_none_of KX G (by k_is), PySem.W.mg_none_of KX G (by k_is), PySem.W.mg_none_of KX G (by k_is)⟩)
    (case cM => refine' Kb.cst_of KX G ?a_cM; (case a_cM => k_is))
    (case cSt => refine' Kb.cst_of KX G ?a_cSt; (case a_cSt => k_is))
    (case cI => refine' Kb.cst_of KX G ?a_cI; (case a_cI => k_is))
    (case dP_is_int => refine' Kb.dn_of KX G ?a_dP_is_int ?l_dP_is_int ?c_dP_is_int ?k_dP_is_int ?b_dP_is_int; (case a_dP_is_int => k_is); (case l_dP_is_int => k_is); (case c_dP_is_int => k_is); (case k_dP_is_int => k_is); (case b_dP_is_int => exact fun _ _ _ _ _ _ us hl => match us, hl with | [_], _ => rfl))
    (case dP_is_number => refine' Kb.dn_of KX G ?a_dP_is_number ?l_dP_is_number ?c_dP_is_number ?k_dP_is_number ?b_dP_is_number; (case a_dP_is_number => k_is); (case l_dP_is_number => k_is); (case c_dP_is_number => k_is); (case k_dP_is_number => k_is); (case b_dP_is_number => exact fun _ _ _ _ _ _ us hl => match us, hl with | [_], _ => rfl))
    (case dP_is_room => refine' Kb.dn_of KX G ?a_dP_is_room ?l_dP_is_room ?c_dP_is_room ?k_dP_is_room ?b_dP_is_room; (case a_dP_is_room => k_is); (case l_dP_is_room => k_is); (case c_dP_is_room => k_is); (case k_dP_is_room => k_is); (case b_dP_is_room => exact fun _ _ _ _ _ _ us hl => match us, hl with | [_], _ => rfl))
    (case dP_is_fraction => refine' Kb.dn_of KX G ?a_dP_is_fraction ?l_dP_is_fraction ?c_dP_is_fraction ?k_dP_is_fraction ?b_dP_is_fraction; (case a_dP_is_fraction => k_is); (case l_dP_is_fraction => k_is); (case c_dP_is_fraction => k_is); (case k_dP_is_fraction => k_is); (case b_dP_is_fraction => exact fun _ _ _ _ _ _ us hl => match us, hl with | [_], _ => rfl))
    (case dP_is_less => refine' Kb.dn_of KX G ?a_dP_is_less ?l_dP_is_less ?c_dP_is_less ?k_dP_is_less ?b_dP_is_less; (case a_dP_is_less => k_is); (case l_dP_is_less => k_is); (case c_dP_is_less => k_is); (case k_dP_is_less => k_is); (case b_dP_is_less => exact fun _ _ _ _ _ _ us hl => match us, hl with | [_, _], _ => rfl))
    (case dP_is_side => refine' Kb.dn_of KX G ?a_dP_is_side ?l_dP_is_side ?c_dP_is_side ?k_dP_is_side ?b_dP_is_side; (case a_dP_is_side => k_is); (case l_dP_is_side => k_is); (case c_dP_is_side => k_is); (case k_dP_is_side => k_is); (case b_dP_is_side => exact fun _ _ _ _ _ _ us hl => match us, hl with | [_], _ => rfl))
    (case dP_is_place => refine' Kb.dn_of KX G ?a_dP_is_place ?l_dP_is_place ?c_dP_is_place ?k_dP_is_place ?b_dP_is_place; (case a_dP_is_place => k_is); (case l_dP_is_place => k_is); (case c_dP_is_place => k_is); (case k_dP_is_place => k_is); (case b_dP_is_place => exact fun _ _ _ _ _ _ us hl => match us, hl with | [_], _ => rfl))
    (case dP_is_mark => refine' Kb.dn_of KX G ?a_dP_is_mark ?l_dP_is_mark ?c_dP_is_mark ?k_dP_is_mark ?b_dP_is_mark; (case a_dP_is_mark => k_is); (case l_dP_is_mark => k_is); (case c_dP_is_mark => k_is); (case k_dP_is_mark => k_is); (case b_dP_is_mark => exact fun _ _ _ _ _ _ us hl => match us, hl with | [_, _], _ => rfl))
    (case dP_may_follow => refine' Kb.dn_of KX G ?a_dP_may_follow ?l_dP_may_follow ?c_dP_may_follow ?k_dP_may_follow ?b_dP_may_follow; (case a_dP_may_follow => k_is); (case l_dP_may_follow => k_is); (case c_dP_may_follow => k_is); (case k_dP_may_follow => k_is); (case b_dP_may_follow => exact fun _ _ _ _ _ _ us hl => match us, hl with | [_, _], _ => rfl))
    (case dP_are_marks => refine' Kb.dn_of KX G ?a_dP_are_marks ?l_dP_are_marks ?c_dP_are_marks ?k_dP_are_marks ?b_dP_are_marks; (case a_dP_are_marks => k_is); (case l_dP_are_marks => k_is); (case c_dP_are_marks => k_is); (case k_dP_are_marks => k_is); (case b_dP_are_marks => exact fun _ _ _ _ _ _ us hl => match us, hl with | [_, _], _ => rfl))
    (case dP_is_ranks => refine' Kb.dn_of KX G ?a_dP_is_ranks ?l_dP_is_ranks ?c_dP_is_ranks ?k_dP_is_ranks ?b_dP_is_ranks; (case a_dP_is_ranks => k_is); (case l_dP_is_ranks => k_is); (case c_dP_is_ranks => k_is); (case k_dP_is_ranks => k_is); (case b_dP_is_ranks => exact fun _ _ _ _ _ _ us hl => match us, hl with | [_], _ => rfl))
    (case dP_ends_at => refine' Kb.dn_of KX G ?a_dP_ends_at ?l_dP_ends_at ?c_dP_ends_at ?k_dP_ends_at ?b_dP_ends_at; (case a_dP_ends_at => k_is); (case l_dP_ends_at => k_is); (case c_dP_ends_at => k_is); (case k_dP_ends_at => k_is); (case b_dP_ends_at => exact fun _ _ _ _ _ _ us hl => match us, hl with | [_, _], _ => rfl))
    (case dP_openness => refine' Kb.dn_of KX G ?a_dP_openness ?l_dP_openness ?c_dP_openness ?k_dP_openness ?b_dP_openness; (case a_dP_openness => k_is); (case l_dP_openness => k_is); (case c_dP_openness => k_is); (case k_dP_openness => k_is); (case b_dP_openness => exact fun _ _ _ _ _ _ us hl => match us, hl with | [_], _ => rfl))
    (case dP_item_ends => refine' Kb.dn_of KX G ?a_dP_item_ends ?l_dP_item_ends ?c_dP_item_ends ?k_dP_item_ends ?b_dP_item_ends; (case a_dP_item_ends => k_is); (case l_dP_item_ends => k_is); (case c_dP_item_ends => k_is); (case k_dP_item_ends => k_is); (case b_dP_item_ends => exact fun _ _ _ _ _ _ us hl => match us, hl with | [_, _], _ => rfl))
    (case dP_are_numbers => refine' Kb.dn_of KX G ?a_dP_are_numbers ?l_dP_are_numbers ?c_dP_are_numbers ?k_dP_are_numbers ?b_dP_are_numbers; (case a_dP_are_numbers => k_is); (case l_dP_are_numbers => k_is); (case c_dP_are_numbers => k_is); (case k_dP_are_numbers => k_is); (case b_dP_are_numbers => exact fun _ _ _ _ _ _ us hl => match us, hl with | [_], _ => rfl))
    (case dP_is_put => refine' Kb.dn_of KX G ?a_dP_is_put ?l_dP_is_put ?c_dP_is_put ?k_dP_is_put ?b_dP_is_put; (case a_dP_is_put => k_is); (case l_dP_is_put => k_is); (case c_dP_is_put => k_is); (case k_dP_is_put => k_is); (case b_dP_is_put => exact fun _ _ _ _ _ _ us hl => match us, hl with | [_, _], _ => rfl))
    (case dP_is_pour => refine' Kb.dn_of KX G ?a_dP_is_pour ?l_dP_is_pour ?c_dP_is_pour ?k_dP_is_pour ?b_dP_is_pour; (case a_dP_is_pour => k_is); (case l_dP_is_pour => k_is); (case c_dP_is_pour => k_is); (case k_dP_is_pour => k_is); (case b_dP_is_pour => exact fun _ _ _ _ _ _ us hl => match us, hl with | [_], _ => rfl))
    (case dP_is_tree_of => refine' Kb.dn_of KX G ?a_dP_is_tree_of ?l_dP_is_tree_of ?c_dP_is_tree_of ?k_dP_is_tree_of ?b_dP_is_tree_of; (case a_dP_is_tree_of => k_is); (case l_dP_is_tree_of => k_is); (case c_dP_is_tree_of => k_is); (case k_dP_is_tree_of => k_is); (case b_dP_is_tree_of => exact fun _ _ _ _ _ _ us hl => match us, hl with | [_, _, _], _ => rfl))
    (case dP_is_number_tree => refine' Kb.dn_of KX G ?a_dP_is_number_tree ?l_dP_is_number_tree ?c_dP_is_number_tree ?k_dP_is_number_tree ?b_dP_is_number_tree; (case a_dP_is_number_tree => k_is); (case l_dP_is_number_tree => k_is); (case c_dP_is_number_tree => k_is); (case k_dP_is_number_tree => k_is); (case b_dP_is_number_tree => exact fun _ _ _ _ _ _ us hl => match us, hl with | [_], _ => rfl))
    (case dP_items_of => refine' Kb.dn_of KX G ?a_dP_items_of ?l_dP_items_of ?c_dP_items_of ?k_dP_items_of ?b_dP_items_of; (case a_dP_items_of => k_is); (case l_dP_items_of => k_is); (case c_dP_items_of => k_is); (case k_dP_items_of => k_is); (case b_dP_items_of => exact fun _ _ _ _ _ _ us hl => match us, hl with | [_], _ => rfl))
    (case dP_is_at => refine' Kb.dn_of KX G ?a_dP_is_at ?l_dP_is_at ?c_dP_is_at ?k_dP_is_at ?b_dP_is_at; (case a_dP_is_at => k_is); (case l_dP_is_at => k_is); (case c_dP_is_at => k_is); (case k_dP_is_at => k_is); (case b_dP_is_at => exact fun _ _ _ _ _ _ us hl => match us, hl with | [_, _], _ => rfl))
    (case dP_rank_at => refine' Kb.dn_of KX G ?a_dP_rank_at ?l_dP_rank_at ?c_dP_rank_at ?k_dP_rank_at ?b_dP_rank_at; (case a_dP_rank_at => k_is); (case l_dP_rank_at => k_is); (case c_dP_rank_at => k_is); (case k_dP_rank_at => k_is); (case b_dP_rank_at => exact fun _ _ _ _ _ _ us hl => match us, hl with | [_, _], _ => rfl))
    (case dP_ascending => refine' Kb.dn_of KX G ?a_dP_ascending ?l_dP_ascending ?c_dP_ascending ?k_dP_ascending ?b_dP_ascending; (case a_dP_ascending => k_is); (case l_dP_ascending => k_is); (case c_dP_ascending => k_is); (case k_dP_ascending => k_is); (case b_dP_ascending => exact fun _ _ _ _ _ _ us hl => match us, hl with | [_], _ => rfl))
    (case dP_chosen => refine' Kb.dn_of KX G ?a_dP_chosen ?l_dP_chosen ?c_dP_chosen ?k_dP_chosen ?b_dP_chosen; (case a_dP_chosen => k_is); (case l_dP_chosen => k_is); (case c_dP_chosen => k_is); (case k_dP_chosen => k_is); (case b_dP_chosen => exact fun _ _ _ _ _ _ us hl => match us, hl with | [_, _, _, _], _ => rfl))
    (case dP_thin => refine' Kb.dn_of KX G ?a_dP_thin ?l_dP_thin ?c_dP_thin ?k_dP_thin ?b_dP_thin; (case a_dP_thin => k_is); (case l_dP_thin => k_is); (case c_dP_thin => k_is); (case k_dP_thin => k_is); (case b_dP_thin => exact fun _ _ _ _ _ _ us hl => match us, hl with | [_, _, _], _ => rfl))
    (case dP__ranks_of => refine' Kb.dn_of KX G ?a_dP__ranks_of ?l_dP__ranks_of ?c_dP__ranks_of ?k_dP__ranks_of ?b_dP__ranks_of; (case a_dP__ranks_of => k_is); (case l_dP__ranks_of => k_is); (case c_dP__ranks_of => k_is); (case k_dP__ranks_of => k_is); (case b_dP__ranks_of => exact fun _ _ _ _ _ _ us hl => match us, hl with | [_, _], _ => rfl))
    (case dP_bounds_at => refine' Kb.dn_of KX G ?a_dP_bounds_at ?l_dP_bounds_at ?c_dP_bounds_at ?k_dP_bounds_at ?b_dP_bounds_at; (case a_dP_bounds_at => k_is); (case l_dP_bounds_at => k_is); (case c_dP_bounds_at => k_is); (case k_dP_bounds_at => k_is); (case b_dP_bounds_at => exact fun _ _ _ _ _ _ us hl => match us, hl with | [_, _], _ => rfl))
    (case dP_pour => refine' Kb.dn_of KX G ?a_dP_pour ?l_dP_pour ?c_dP_pour ?k_dP_pour ?b_dP_pour; (case a_dP_pour => k_is); (case l_dP_pour => k_is); (case c_dP_pour => k_is); (case k_dP_pour => k_is); (case b_dP_pour => exact fun _ _ _ _ _ _ us hl => match us, hl with | [_, _], _ => rfl))
    (case dP_nodes_of => refine' Kb.dn_of KX G ?a_dP_nodes_of ?l_dP_nodes_of ?c_dP_nodes_of ?k_dP_nodes_of ?b_dP_nodes_of; (case a_dP_nodes_of => k_is); (case l_dP_nodes_of => k_is); (case c_dP_nodes_of => k_is); (case k_dP_nodes_of => k_is); (case b_dP_nodes_of => exact fun _ _ _ _ _ _ us hl => match us, hl with | [_, _], _ => rfl))
    (case dP_ranks_tree => refine' Kb.dn_of KX G ?a_dP_ranks_tree ?l_dP_ranks_tree ?c_dP_ranks_tree ?k_dP_ranks_tree ?b_dP_ranks_tree; (case a_dP_ranks_tree => k_is); (case l_dP_ranks_tree => k_is); (case c_dP_ranks_tree => k_is); (case k_dP_ranks_tree => k_is); (case b_dP_ranks_tree => exact fun _ _ _ _ _ _ us hl => match us, hl with | [_, _], _ => rfl))
    (case ddraw => refine' Kb.dn_of KX G ?a_ddraw ?l_ddraw ?c_ddraw ?k_ddraw ?b_ddraw; (case a_ddraw => k_is); (case l_ddraw => k_is); (case c_ddraw => k_is); (case k_ddraw => k_is); (case b_ddraw => exact fun _ _ _ _ _ _ us hl => match us, hl with | [_, _], _ => rfl))
    (case dsame => refine' Kb.dn_of KX G ?a_dsame ?l_dsame ?c_dsame ?k_dsame ?b_dsame; (case a_dsame => k_is); (case l_dsame => k_is); (case c_dsame => k_is); (case k_dsame => k_is); (case b_dsame => exact fun _ _ _ _ _ _ us hl => match us, hl with | [_, _], _ => rfl))
    (case dany => refine' Kb.dn_of KX G ?a_dany ?l_dany ?c_dany ?k_dany ?b_dany; (case a_dany => k_is); (case l_dany => k_is); (case c_dany => k_is); (case k_dany => k_is); (case b_dany => exact fun _ _ _ _ _ _ us hl => match us, hl with | [_, _], _ => rfl))
    (case dgcd => refine' Kb.dn_of KX G ?a_dgcd ?l_dgcd ?c_dgcd ?k_dgcd ?b_dgcd; (case a_dgcd => k_is); (case l_dgcd => k_is); (case c_dgcd => k_is); (case k_dgcd => k_is); (case b_dgcd => exact fun _ _ _ _ _ _ us hl => match us, hl with | [_, _], _ => rfl))
    (case dvalue => refine' Kb.dn_of KX G ?a_dvalue ?l_dvalue ?c_dvalue ?k_dvalue ?b_dvalue; (case a_dvalue => k_is); (case l_dvalue => k_is); (case c_dvalue => k_is); (case k_dvalue => k_is); (case b_dvalue => exact fun _ _ _ _ _ _ us hl => match us, hl with | [_], _ => rfl))
    (case dnumber => refine' Kb.dn_of KX G ?a_dnumber ?l_dnumber ?c_dnumber ?k_dnumber ?b_dnumber; (case a_dnumber => k_is); (case l_dnumber => k_is); (case c_dnumber => k_is); (case k_dnumber => k_is); (case b_dnumber => exact fun _ _ _ _ _ _ us hl => match us, hl with | [_], _ => rfl))
    (case dends => refine' Kb.dn_of KX G ?a_dends ?l_dends ?c_dends ?k_dends ?b_dends; (case a_dends => k_is); (case l_dends => k_is); (case c_dends => k_is); (case k_dends => k_is); (case b_dends => exact fun _ _ _ _ _ _ us hl => match us, hl with | [_, _, _, _], _ => rfl))
    (case dexact => refine' Kb.dn_of KX G ?a_dexact ?l_dexact ?c_dexact ?k_dexact ?b_dexact; (case a_dexact => k_is); (case l_dexact => k_is); (case c_dexact => k_is); (case k_dexact => k_is); (case b_dexact => exact fun _ _ _ _ _ _ us hl => match us, hl with | [_], _ => rfl))
    (case dsteps => refine' Kb.dn_of KX G ?a_dsteps ?l_dsteps ?c_dsteps ?k_dsteps ?b_dsteps; (case a_dsteps => k_is); (case l_dsteps => k_is); (case c_dsteps => k_is); (case k_dsteps => k_is); (case b_dsteps => exact fun _ _ _ _ _ _ us hl => match us, hl with | [_, _, _], _ => rfl))
    (case dthinned => refine' Kb.dn_of KX G ?a_dthinned ?l_dthinned ?c_dthinned ?k_dthinned ?b_dthinned; (case a_dthinned => k_is); (case l_dthinned => k_is); (case c_dthinned => k_is); (case k_dthinned => k_is); (case b_dthinned => exact fun _ _ _ _ _ _ us hl => match us, hl with | [_, _, _], _ => rfl))
    (case dadded => refine' Kb.dn_of KX G ?a_dadded ?l_dadded ?c_dadded ?k_dadded ?b_dadded; (case a_dadded => k_is); (case l_dadded => k_is); (case c_dadded => k_is); (case k_dadded => k_is); (case b_dadded => exact fun _ _ _ _ _ _ us hl => match us, hl with | [_, _], _ => rfl))
    (case das_told => refine' Kb.dn_of KX G ?a_das_told ?l_das_told ?c_das_told ?k_das_told ?b_das_told; (case a_das_told => k_is); (case l_das_told => k_is); (case c_das_told => k_is); (case k_das_told => k_is); (case b_das_told => exact fun _ _ _ _ _ _ us hl => match us, hl with | [_, _, _], _ => rfl))
    (case dtree => refine' Kb.dn_of KX G ?a_dtree ?l_dtree ?c_dtree ?k_dtree ?b_dtree; (case a_dtree => k_is); (case l_dtree => k_is); (case c_dtree => k_is); (case k_dtree => k_is); (case b_dtree => exact fun _ _ _ _ _ _ us hl => match us, hl with | [_, _, _], _ => rfl))
    (case dhanded => refine' Kb.dn_of KX G ?a_dhanded ?l_dhanded ?c_dhanded ?k_dhanded ?b_dhanded; (case a_dhanded => k_is); (case l_dhanded => k_is); (case c_dhanded => k_is); (case k_dhanded => k_is); (case b_dhanded => exact fun _ _ _ _ _ _ us hl => match us, hl with | [_], _ => rfl))
    (case dled => refine' Kb.dn_of KX G ?a_dled ?l_dled ?c_dled ?k_dled ?b_dled; (case a_dled => k_is); (case l_dled => k_is); (case c_dled => k_is); (case k_dled => k_is); (case b_dled => exact fun _ _ _ _ _ _ us hl => match us, hl with | [_, _], _ => rfl))
    (case dbound => refine' Kb.dn_of KX G ?a_dbound ?l_dbound ?c_dbound ?k_dbound ?b_dbound; (case a_dbound => k_is); (case l_dbound => k_is); (case c_dbound => k_is); (case k_dbound => k_is); (case b_dbound => exact fun _ _ _ _ _ _ us hl => match us, hl with | [_, _], _ => rfl))
    (case dplace_right => refine' Kb.dn_of KX G ?a_dplace_right ?l_dplace_right ?c_dplace_right ?k_dplace_right ?b_dplace_right; (case a_dplace_right => k_is); (case l_dplace_right => k_is); (case c_dplace_right => k_is); (case k_dplace_right => k_is); (case b_dplace_right => exact fun _ _ _ _ _ _ us hl => match us, hl with | [_, _, _, _], _ => rfl))
    (case dheld => refine' Kb.dn_of KX G ?a_dheld ?l_dheld ?c_dheld ?k_dheld ?b_dheld; (case a_dheld => k_is); (case l_dheld => k_is); (case c_dheld => k_is); (case k_dheld => k_is); (case b_dheld => exact fun _ _ _ _ _ _ us hl => match us, hl with | [_, _, _, _], _ => rfl))
    (case dhat => refine' Kb.dn_of KX G ?a_dhat ?l_dhat ?c_dhat ?k_dhat ?b_dhat; (case a_dhat => k_is); (case l_dhat => k_is); (case c_dhat => k_is); (case k_dhat => k_is); (case b_dhat => exact fun _ _ _ _ _ _ us hl => match us, hl with | [_, _], _ => rfl))
    (case dOne => refine' Kb.dn_of KX G ?a_done ?l_done ?c_done ?k_done ?b_done; (case a_done => k_is); (case l_done => k_is); (case c_done => k_is); (case k_done => k_is); (case b_done => exact fun _ _ _ _ _ _ us hl => match us, hl with | [_], _ => rfl))

