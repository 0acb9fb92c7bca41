import PyProof.Rows.All
import HandS.ForMost
import HandS.ForExc
import HandS.SortKw
import HandS.SortRule
import HandS.DictTup
import HandS.DictComp
import HandS.ListItems
import HandS.Conv
import HandS.IsInst
import HandS.Codes
import HandS.Walk
import HandS.Style
import KE.KDictSum
import KE.KSortTupAny
import KE.KDictPairs
import HandS.ExcValue
import HandS.TupLe
import HandS.TupAny
import HandS.Wide
import HandS.SetFor
import PyProof.Rows.CountFlat
import KE.KRevSl
import HandS.List
import PyProof.EqKinds
import PyProof.EqAt
import HandS.ExcField
import HandS.ExcInit
import PyProof.NeData
import HandS.ExcIs
import HandS.StrMore
import HandS.TryMany
import HandS.TupMul
import HandS.Zip
import PyProof.ReprRoads
import PyProof.ReprText
import HandS.Ends
import HandS.Words
import KE.KExcStr
import PyProof.ExcRepr
import PyProof.ReprReads
import PyProof.ReprNest
import HandS.Text
import PyProof.ReprLen
import HandS.Gcd
import PySem.Challenge.RW_knownends_k20_whole_thinned_against_all
import HandS.Call
import HandS.SortInts
import HandS.WordsExc
set_option Elab.async false
set_option linter.all false
set_option maxRecDepth 100000
set_option maxHeartbeats 0
/-! own rules: sorted of pairs (text, int), of views -/
namespace SrtZ
open PySem PyProof.Rows Srt SrtO PySem.W
abbrev ltZ (x y : Str) : Bool := decide (x.cps.toList < y.cps.toList)
theorem str_of {x y : Str} (h : x.cps.toList = y.cps.toList) : x = y := by
  cases x; cases y
  simp at h
  rw [h]
theorem ltZ_irr (x : Str) : ltZ x x = false := decide_eq_false (List.lt_irrefl _)
theorem ltZ_asym {x y : Str} (h : ltZ x y = true) : ltZ y x = false := decide_eq_false (List.lt_asymm (of_decide_eq_true h))
theorem ltZ_trans {x y z : Str} (h : ltZ x y = true) (k : ltZ y z = true) : ltZ x z = true := decide_eq_true (List.lt_trans (of_decide_eq_true h) (of_decide_eq_true k))
theorem ltZ_tri {x y : Str} (h : ltZ x y = false) (k : ltZ y x = false) : x = y :=
  str_of (List.le_antisymm (List.not_lt.mp (of_decide_eq_false k)) (List.not_lt.mp (of_decide_eq_false h)))
def lexZ (p q : Str × Int) : Bool := if p.1 = q.1 then decide (p.2 < q.2) else ltZ p.1 q.1
theorem lexZ_eq {p q : Str × Int} (e : p.1 = q.1) : lexZ p q = decide (p.2 < q.2) := if_pos e
theorem lexZ_ne {p q : Str × Int} (e : ¬ p.1 = q.1) : lexZ p q = ltZ p.1 q.1 := if_neg e
theorem swo_Z : Swo lexZ := by
  refine ⟨fun x y h => ?_, fun x y z h1 h2 => ?_⟩
  · by_cases e : x.1 = y.1
    · rw [lexZ_eq e, decide_eq_true_eq] at h
      rw [lexZ_eq e.symm]
      exact decide_eq_false (by omega)
    · rw [lexZ_ne e] at h
      rw [lexZ_ne (fun z => e z.symm)]
      exact ltZ_asym h
  · by_cases e : x.1 = y.1
    · rw [lexZ_eq e.symm, decide_eq_false_iff_not] at h1
      by_cases f : y.1 = z.1
      · rw [lexZ_eq f.symm, decide_eq_false_iff_not] at h2
        rw [lexZ_eq (e.trans f).symm]
        exact decide_eq_false (by omega)
      · rw [lexZ_ne (fun q => f q.symm)] at h2
        rw [lexZ_ne (fun q => f (e.symm.trans q.symm)), e]
        exact h2
    · rw [lexZ_ne (fun q => e q.symm)] at h1
      by_cases f : y.1 = z.1
      · rw [lexZ_ne (fun q => e (q.symm.trans f.symm)), ← f]
        exact h1
      · rw [lexZ_ne (fun q => f q.symm)] at h2
        have g1 : ltZ x.1 y.1 = true := by
          rcases bcase (ltZ x.1 y.1) with q | q
          · exact q
          · exact absurd (ltZ_tri q h1) e
        have g2 : ltZ y.1 z.1 = true := by
          rcases bcase (ltZ y.1 z.1) with q | q
          · exact q
          · exact absurd (ltZ_tri q h2) f
        have g := ltZ_trans g1 g2
        have ne : ¬ z.1 = x.1 := fun q => by
          rw [q, ltZ_irr] at g
          cases g
        rw [lexZ_ne ne]
        exact ltZ_asym g
/-- a tuple (text, int) -/
def IsPZ (h : Heap) (v : Value) (p : Str × Int) : Prop := ∃ a o t u n, v = .ref a ∧ h.get? a = some o ∧ o.cls = .type "tuple" ∧ o.data = .seq #[.str p.1 t, .int p.2 u] n
theorem IsPZ.keeps {h h' : Heap} {v : Value} {p : Str × Int} (x : IsPZ h v p) (k : ∀ b o, h.get? b = some o → o.cls = .type "tuple" → h'.get? b = some o) : IsPZ h' v p := by
  obtain ⟨a, o, t, u, n, e, ho, hc, hd⟩ := x
  exact ⟨a, o, t, u, n, e, k _ _ ho hc, hc, hd⟩
section
variable {prog : Program} {w : World} {A : Around} {E : Value → Shared → Prop} {s : Shared}
theorem firstsZ {h : Heap} : ∀ {vs : List Value}, (∀ v ∈ vs, ∃ p, IsPZ h v p) → ∃ fs : List Value, KatTups h vs fs ∧ fs.length = vs.length ∧ ∀ f ∈ fs, ∃ x t, f = Value.str x t
  | [], _ => ⟨[], KatTups.nil, rfl, fun _ hm => by simp at hm⟩
  | v :: vs, hp => by
    obtain ⟨fs, h1, h2, h3⟩ := firstsZ (vs := vs) fun v' hm => hp v' (List.mem_cons_of_mem _ hm)
    obtain ⟨p, a, o, t, u, n, e, ho, hc, hd⟩ := hp v List.mem_cons_self
    subst e
    refine ⟨.str p.1 t :: fs, KatTups.cons ho hc hd rfl h1, by rw [List.length_cons, List.length_cons, h2], fun f hm => ?_⟩
    rcases List.mem_cons.mp hm with rfl | hm
    · exact ⟨_, t, rfl⟩
    · exact h3 f hm
theorem pairZ_cmp {vs : List Value} {k : Value → Str × Int} (hp : ∀ v ∈ vs, IsPZ s.heap v (k v)) : Cmp prog w A s (tuples' true) (fun p => p.1 ∈ vs) (lt2 fun v u => lexZ (k v) (k u)) := by
  intro p q hm hm'
  have h1 := hp _ hm
  have h2 := hp _ hm'
  show wpAny (model prog w) A (keyLt' (tuples' true) p.1 q.1) (fun r s' => s' = s ∧ r = lexZ (k p.1) (k q.1)) (fun _ _ => False) s
  generalize k p.1 = x at h1 ⊢
  generalize k q.1 = y at h2 ⊢
  obtain ⟨a, o, t, u, n, e, ho, hc, hd⟩ := h1
  obtain ⟨a', o', t', u', n', e', ho', hc', hd'⟩ := h2
  rw [e, e']
  refine kat_lt ho hd ho' hd' ?_
  show KatLex prog w A true (decide (2 < 2)) _ [(.str x.1 t, .str y.1 t'), (.int x.2 u, .int y.2 u')] 0 s
  refine kat_cons (wpAny_eqBool_str ?_)
  refine kat_go (fun e1 => ?_) (fun e1 => ?_)
  · have ex : x.1 = y.1 := of_decide_eq_true e1
    refine kat_yes (kat_cons (wpAny_eqBool_int ?_))
    refine kat_go (fun e2 => ?_) (fun e2 => ?_)
    · have ey : x.2 = y.2 := by simpa using e2
      refine kat_yes (kat_nil ⟨rfl, ?_⟩)
      rw [lexZ_eq ex, ey]
      exact (decide_eq_false (Int.lt_irrefl _)).symm
    · exact kat_no (oneLt_any_int ⟨rfl, (lexZ_eq ex).symm⟩)
  · have ex : ¬ x.1 = y.1 := of_decide_eq_false e1
    exact kat_no (oneLt_any_str ⟨rfl, (lexZ_ne ex).symm⟩)
theorem pairsZ_sortable {a : Addr} {vs : List Value} {k : Value → Str × Int} (h0 : 0 < vs.length) (hp : ∀ v ∈ vs, IsPZ s.heap v (k v)) (ha : ∀ o, s.heap.get? a = some o → o.cls ≠ .type "tuple") : SortableO prog w A s a vs fun v u => lexZ (k v) (k u) := by
  intro h' keep
  have hp' : ∀ v ∈ vs, IsPZ h' v (k v) := fun v hm => (hp v hm).keeps fun b o e c => keep b o (fun z => by subst z; exact ha o e c) e
  obtain ⟨fs, h1, h2, h3⟩ := firstsZ fun v hm => ⟨_, hp' v hm⟩
  refine ⟨tuples' true, fun Q E hq => ?_, pairZ_cmp hp'⟩
  refine kat_kind (T := .type "str") h1 (by omega) (fun f hm => ?_) (by rfl) ?_
  · obtain ⟨x, t, rfl⟩ := h3 f hm
    exact Looks.now
  · have e : (Value.type "str" != Value.type "tuple") = true := by first | decide +kernel | rfl | decide
    rw [e]
    exact hq
theorem plain_rev (a : Addr) : Builtin.«list.sort» ⟨[.ref a], []⟩ = Builtin.«list.sort» ⟨[.ref a], [(Str.ofString "reverse", .bool false)]⟩ := by
  rw [list_sort_rev]
  first | rfl | kernel_rfl
/-- sorted(x, ..) over what is collected of x -/
theorem sorted_col {x : Value} {b : Bool} {kw : List (Str × Value)} {ltv : Heap → Value → Value → Bool} {Q : Value → Shared → Prop} {P : Heap → Nat → List Value → Prop}
    (hk : ∀ a, Builtin.«list.sort» ⟨[.ref a], kw⟩ = Builtin.«list.sort» ⟨[.ref a], [(Str.ofString "reverse", .bool b)]⟩) (ha1 : argsOk "sorted" ⟨[x], kw⟩) (ha2 : ∀ a, argsOk "list.sort" ⟨[a], kw⟩)
    (hcol : ∀ R : List Value → Shared → Prop, (∀ h' tk vs, (∀ b o, s.heap.get? b = some o → h'.get? b = some o) → P h' tk vs → R vs { s with heap := h', toks := tk }) → wpAny (model prog w) A.in1 (collect x) R E s)
    (O : ∀ h' tk vs, P h' tk vs → Swo (ltv h')) (hz : ∀ h' tk vs, P h' tk vs → vs.length ≤ sizeLine)
    (hS : ∀ h' tk vs, P h' tk vs → 2 ≤ vs.length → ∀ (h₁ : Heap) (a : Addr), h₁.get? a = some (seqObj "list" vs.toArray 0) → (∀ b o, h'.get? b = some o → b ≠ a ∧ h₁.get? b = some o) → SortableO prog w A.in1.in1 { s with heap := h₁, toks := tk } a vs (ltv h'))
    (h : ∀ h' tk vs out h2, (∀ b o, s.heap.get? b = some o → h'.get? b = some o) → P h' tk vs → Srtd (ltv h') out → Stb (ltv h') out (if b = true then vs.reverse else vs) → (∀ c o, h'.get? c = some o → h2.get? c = some o) →
      (∃ n, h2.get? h'.objs.size = some (seqObj "list" (if b = true then out.toArray.reverse else out.toArray) n)) → Q (.ref h'.objs.size) { s with heap := h2, toks := tk }) :
    wpAny (model prog w) A (call (.builtin "sorted") [x] kw) Q E s := by
  refine call_function_entry_kw kind_sorted plain_sorted entry_sorted ha1 ?_
  unfold Builtin.«sorted»
  refine wpAny_bind (m := checkCount "sorted" 1 1 _) (wpAny_pure ?_)
  refine wpAny_bind (hcol _ fun h' tk vs hkp hP => ?_)
  refine wpAny_bind (wpAny_newList ?_ (hz _ _ _ hP))
  have hoL : (h'.push (seqObj "list" vs.toArray 0)).get? h'.objs.size = some (seqObj "list" vs.toArray 0) := Heap.get?_push_size _ rfl
  have keep : ∀ b o, h'.get? b = some o → b ≠ h'.objs.size ∧ (h'.push (seqObj "list" vs.toArray 0)).get? b = some o := fun b o q => ⟨Nat.ne_of_lt (Heap.lt_size q), Heap.get?_push_of_some _ q⟩
  show wpAny _ _ _ _ _ { s with heap := h'.push (seqObj "list" vs.toArray 0), toks := tk }
  refine wpAny_bind (wpAny_holding (wpAny_call_entry_kw slot_list_sort ⟨_, hoL, rfl⟩ entry_list_sort ?_ (ha2 _)))
  rw [hk]
  refine SrtR.list_sort_ordR (s := { s with heap := h'.push (seqObj "list" vs.toArray 0), toks := tk }) (O _ _ _ hP) hoL (hz _ _ _ hP) (fun h2 => hS _ _ _ hP h2 _ _ hoL keep) fun out hs hb => ⟨_, rfl, ?_⟩
  refine wpAny_pure ⟨_, rfl, h h' tk vs out _ hkp hP hs hb (fun c o q => ?_) ?_⟩
  · exact (sortedHeap_old (keep c o q).1 (Heap.lt_size (keep c o q).2)).trans (keep c o q).2
  · exact sortedHeap_at hoL
end
end SrtZ

namespace L2
open PySem PySem.Spec PyProof.Rows SrtO SrtZ
/-- counts as a dict's pairs -/
abbrev entZ (e : Str × Int) : Key × V := (Sum.inr e.1, V.int e.2)
section
variable {X : Cx}
/-- d.items() -/
def rItemsK : V → List V → Hp → VK → Prop := fun x xs H Q => ∃ (a : Addr) (kvs : List (Key × V)), x = .ref a ∧ xs = [] ∧ H a = some (.dK kvs) ∧ ∀ p, H p = none → Q (.ref p) (upd H p (DX.itemsO p a))
theorem mt_itemsK : MtR X "dict.items" rItemsK := by
  intro pins s σ H x xs v us Q I rx rxs h
  obtain ⟨a, kvs, rfl, rfl, ha, q⟩ := h
  cases rx
  cases rxs
  obtain ⟨z, hd, vs, kv, o, es, ep, ho, hx, hdat, _⟩ := dk_of I.hok ha
  refine DT.callItems (es := es) (ep := ep) hd ⟨o, ho, hx, hdat⟩ ?_
  have hf : H s.heap.objs.size = none := I.hok.fresh (Nat.le_refl _)
  exact ⟨.ref s.heap.objs.size, upd H s.heap.objs.size (DX.itemsO s.heap.objs.size a), I.laid (t' := s.toks) (fun b u e => Heap.get?_push_of_some _ e) (Nat.le_refl _) (DX.itemsO_ok (Heap.get?_push_size _ rfl)), rfl, q _ hf⟩
/-- d.values() -/
def valuesO (p d : Addr) : HO := .ext fun h => h.IsValuesView p d
theorem valuesO_ok {P : Program} {w : World} {H : Hp} {h : Heap} {p d : Addr} (e : h.get? p = some { cls := .type "dict_values", data := .fields #[.ref d] }) : ObjOk P w H h p (valuesO p d) :=
  ⟨⟨_, e, rfl, rfl⟩, ⟨_, e⟩, fun h1 h2 x k => let ⟨o, ho, r⟩ := x; ⟨o, k o ho, r⟩⟩
def rValuesK : V → List V → Hp → VK → Prop := fun x xs H Q => ∃ (a : Addr) (kvs : List (Key × V)), x = .ref a ∧ xs = [] ∧ H a = some (.dK kvs) ∧ ∀ p, H p = none → Q (.ref p) (upd H p (valuesO p a))
theorem mt_valuesK : MtR X "dict.values" rValuesK := by
  intro pins s σ H x xs v us Q I rx rxs h
  obtain ⟨a, kvs, rfl, rfl, ha, q⟩ := h
  cases rx
  cases rxs
  obtain ⟨z, hd, vs, kv, dd⟩ := dk_of I.hok ha
  have hf : H s.heap.objs.size = none := I.hok.fresh (Nat.le_refl _)
  refine call_meetsIn PySem.F.slot_dict_values dd.typeIs PySem.F.entry_dict_values (PySem.F.args_dict_values_1 _) (meets_dict_values (mixKind X.prog X.w) a hd) ⟨⟨vs, dd⟩, ?_⟩
  exact ⟨.ref s.heap.objs.size, upd H s.heap.objs.size (valuesO s.heap.objs.size a), I.laid (t' := s.toks) (fun b u e => Heap.get?_push_of_some _ e) (Nat.le_refl _) (valuesO_ok (Heap.get?_push_size _ rfl)), rfl, q _ hf⟩
end
end L2

namespace L2
open PySem PySem.Spec PyProof.Rows SrtO SrtZ
theorem ent_paired {xs' : List (Key × Value)} : ∀ {ks : List (Str × Int)}, KV (ks.map entZ) xs' → ∀ {j : Nat} {x : Key × Value}, xs'[j]? = some x → ∃ e t, ks[j]? = some e ∧ x = (Sum.inr e.1, Value.int e.2 t) := fun {ks} h {j x} hx => by
  obtain ⟨y, hy, r1, r2⟩ := DX.pget h hx
  rw [List.getElem?_map] at hy
  cases e : ks[j]? with
  | none => rw [e] at hy; cases hy
  | some p =>
    rw [e] at hy
    have hy' : entZ p = y := Option.some.inj hy
    subst hy'
    obtain ⟨t, et⟩ := (show ∃ t, x.2 = Value.int p.2 t from r2)
    refine ⟨p, t, rfl, ?_⟩
    obtain ⟨x1, x2⟩ := x
    have r1' : Sum.inr p.1 = x1 := r1
    have et' : x2 = Value.int p.2 t := et
    rw [← r1', et']
section
variable {X : Cx}
/-- sorted(d.items()), keys texts, values ints, any number of them -/
def rSortedIZ : List V → Hp → VK → Prop := fun vs H Q => ∃ (p d : Addr) (ks : List (Str × Int)), vs = [V.ref p] ∧ H p = some (DX.itemsO p d) ∧ H d = some (.dK (ks.map entZ)) ∧
  ∀ (H' : Hp) (l : Addr) (ys : List (Str × Int)) (ts : List Addr), Same H H' → H l = none → (∀ t ∈ ts, H t = none) → l ∉ ts → ys.Perm ks → Srtd lexZ ys → H' l = some (.lst (ts.map V.ref)) → Paired (fun (t : Addr) (y : Str × Int) => H' t = some (.tup [.str y.1, .int y.2])) ts ys → Q (.ref l) H'
theorem paired_of {α β : Type} {F : α → β → Prop} {l : List (α × β)} (h : ∀ z ∈ l, F z.1 z.2) : Paired F (l.map (·.1)) (l.map (·.2)) := by
  induction l with
  | nil => exact .nil
  | cons a l ih => exact .cons (h a List.mem_cons_self) (ih fun z hz => h z (List.mem_cons_of_mem _ hz))
/-- a tuple's key, read off the heap -/
def keyZ (h : Heap) : Value → Str × Int
  | .ref a => match h.get? a with
    | some o => match o.data with
      | .seq xs _ => match xs.toList with
        | [.str x _, .int y _] => (x, y)
        | _ => (⟨#[]⟩, 0)
      | _ => (⟨#[]⟩, 0)
    | none => (⟨#[]⟩, 0)
  | _ => (⟨#[]⟩, 0)
theorem keyZ_of {h : Heap} {v : Value} {p : Str × Int} (x : IsPZ h v p) : keyZ h v = p := by
  obtain ⟨a, o, t, u, n, rfl, ho, hc, hd⟩ := x
  simp only [keyZ, ho, hd]
theorem swo_key (h : Heap) : Swo fun v u => lexZ (keyZ h v) (keyZ h u) := ⟨fun x y => swo_Z.asym _ _, fun x y z => swo_Z.tr _ _ _⟩
def adr : Value → Addr
  | .ref a => a
  | _ => 0
theorem adr_refs : ∀ as : List Addr, (as.map Value.ref).map adr = as
  | [] => rfl
  | a :: as => congrArg (List.cons a) (adr_refs as)
theorem refs_adr : ∀ out : List Value, (∀ v ∈ out, ∃ a, v = Value.ref a) → (out.map adr).map Value.ref = out
  | [], _ => rfl
  | v :: out, h => by
    obtain ⟨a, rfl⟩ := h v List.mem_cons_self
    show Value.ref a :: (out.map adr).map Value.ref = Value.ref a :: out
    rw [refs_adr out fun u hu => h u (List.mem_cons_of_mem _ hu)]
/-- pairs that were laid and sorted are tracked: a list of them at l, the tuples at ts -/
theorem sortZ_end {pins : List (Addr × Obj)} {σ : St} {H : Hp} {s : Shared} {h' h2 : Heap} {tk l n : Nat} {as : List Addr} {ks : List (Str × Int)} {out : List Value} {Q : VK} (I : Inv X pins σ H s)
    (hk : ∀ b o, s.heap.get? b = some o → h'.get? b = some o) (hk2 : ∀ b o, h'.get? b = some o → h2.get? b = some o) (hl : s.heap.objs.size ≤ l) (hle : as.length ≤ sizeLine) (hlas : ∀ t ∈ as, t ≠ l) (nd : as.Nodup) (ha : ∀ t ∈ as, s.heap.objs.size ≤ t) (hn : H l = none)
    (hks : as.map (fun t => keyZ h' (.ref t)) = ks) (hp : ∀ t ∈ as, ∃ p, IsPZ h' (.ref t) p) (hat : h2.get? l = some (seqObj "list" out.toArray n)) (h1 : Srtd (fun v u => lexZ (keyZ h' v) (keyZ h' u)) out) (hb : out.Perm (as.map Value.ref))
    (q : ∀ (H' : Hp) (ys : List (Str × Int)) (ts : List Addr), Same H H' → H l = none → (∀ t ∈ ts, H t = none) → l ∉ ts → ys.Perm ks → Srtd lexZ ys → H' l = some (.lst (ts.map V.ref)) → Paired (fun (t : Addr) (y : Str × Int) => H' t = some (.tup [.str y.1, .int y.2])) ts ys → Q (.ref l) H') :
    EP X pins σ Q (.ref l) { s with heap := h2, toks := tk } := by
  have isr : ∀ v ∈ out, ∃ a, v = Value.ref a := fun v hv => by
    obtain ⟨a, _, e⟩ := List.mem_map.mp (hb.mem_iff.mp hv)
    exact ⟨a, e.symm⟩
  have eo := refs_adr out isr
  generalize ets : out.map adr = ts at eo
  have pt : ts.Perm as := by
    have := hb.map adr
    rwa [adr_refs, ets] at this
  have kS : ∀ b o, s.heap.get? b = some o → h2.get? b = some o := fun b o e => hk2 b o (hk b o e)
  have I1 : Inv X pins σ H { s with heap := h2, toks := tk } := I.kept (t' := tk) kS
  have hlen : (ts.map V.ref).length ≤ sizeLine := by rw [List.length_map, pt.length_eq]; exact hle
  have rv : Vals (ts.map V.ref) out := by
    rw [← eo]
    exact LiI.vals_refs ts
  have I2 : Inv X pins σ (upd H l (.lst (ts.map V.ref))) { s with heap := h2, toks := tk } := I1.take (h' := h2) (t' := tk) (fun b ob _ e => e) (I.fpOk hl hn) ⟨hlen, out, n, rv, hat⟩
  obtain ⟨H2, I3, g, qt⟩ := DX.takeT (P := fun b vs => vs = [.str (keyZ h' (.ref b)).1, .int (keyZ h' (.ref b)).2]) I as _ I2 nd fun b hb' => by
    obtain ⟨p, hp'⟩ := hp b hb'
    have ek := keyZ_of hp'
    obtain ⟨a, o, t, u, m, e, ho, hc, hd⟩ := hp'
    cases e
    refine ⟨ha b hb', ?_, [.str (keyZ h' (.ref b)).1, .int (keyZ h' (.ref b)).2], rfl, fun H3 => ⟨(by rw [sizeLine_eq]; show 2 ≤ 16777216; omega), [Value.str p.1 t, Value.int p.2 u], by rw [ek]; exact .cons ⟨_, rfl⟩ (.cons ⟨_, rfl⟩ .nil), ⟨o, hk2 _ _ ho, hc, m, hd⟩⟩⟩
    rw [upd_ne (hlas b hb')]
    exact I.hok.fresh (ha b hb')
  have gr : Same H H2 := fun b o e => g b o (by rw [upd_ne (ne_of_none e hn)]; exact e)
  refine ⟨.ref l, H2, I3, rfl, q H2 (ts.map fun t => keyZ h' (.ref t)) ts gr hn (fun t ht => I.hok.fresh (ha t (pt.mem_iff.mp ht))) (fun z => hlas l (pt.mem_iff.mp z) rfl) ?_ ?_ (g _ _ upd_same) ?_⟩
  · rw [← hks]
    exact pt.map _
  · have e : ts.map (fun t => keyZ h' (.ref t)) = out.map (keyZ h') := by
      rw [← eo, List.map_map]
      rfl
    rw [e]
    exact srtd_map h1
  · have : ∀ L : List Addr, (∀ t ∈ L, t ∈ as) → Paired (fun (t : Addr) (y : Str × Int) => H2 t = some (.tup [.str y.1, .int y.2])) L (L.map fun t => keyZ h' (.ref t)) := by
      intro L
      induction L with
      | nil => exact fun _ => .nil
      | cons t L ih =>
        intro hL
        refine .cons ?_ (ih fun u hu => hL u (List.mem_cons_of_mem _ hu))
        obtain ⟨vs, ev, hv⟩ := qt t (hL t List.mem_cons_self)
        rw [← ev]
        exact hv
    exact this ts fun t ht => pt.mem_iff.mp ht
theorem cr_sortedIZ (hc : X.calm = true) : CallR X (.builtin "sorted") rSortedIZ := by
  intro pins s σ H xs us Q I r h
  obtain ⟨p, a, ks, rfl, hp, ha, q⟩ := h
  obtain rfl := Vals.ref1 r
  have view : s.heap.IsItemsView p a := (show ObjOk X.prog X.w H s.heap p (DX.itemsO p a) from I.hok p _ hp).1
  obtain ⟨z, hd, xs', rel, o, es, ep, ho, hx, hdat, _, hes, _⟩ := dk_of I.hok ha
  have l1 : ks.length = xs'.length := by
    have := Paired.length rel
    rwa [List.length_map] at this
  have l2 : es.size = xs'.length := by rw [← Array.length_toList, hes.length]
  have hh : X.A.handled = none := I.ok.hd hc
  have hz : es.size ≤ sizeLine := by rw [List.length_map] at z; omega
  have ent : ∀ (j : Nat) (en : DictEntry), es[j]? = some en → ∃ e t u, ks[j]? = some e ∧ en.key = Value.str e.1 t ∧ en.val = Value.int e.2 u := by
    intro j en he
    have he' : es.toList[j]? = some en := by rw [Array.getElem?_toList]; exact he
    have pz : ∀ {es : List DictEntry} {kvs : List (Key × Value)}, Pairs (mixKind X.prog X.w) es kvs → ∀ {j : Nat} {en : DictEntry}, es[j]? = some en → ∃ x, kvs[j]? = some x ∧ keyIs x.1 en.key = true ∧ en.val = x.2 := by
      intro es kvs h
      induction h with
      | nil => intro j en h; simp at h
      | cons h1 h2 h3 ih =>
        intro j en h
        cases j with
        | zero => cases (Option.some.inj h); exact ⟨_, rfl, h1, h2⟩
        | succ j => exact ih (by simpa using h)
    obtain ⟨x, ex, k1, k2⟩ := pz hes he'
    obtain ⟨e, t, e1, e2⟩ := ent_paired rel ex
    subst e2
    obtain ⟨u, eu⟩ := relV_key k1
    exact ⟨e, u, t, e1, eu, k2⟩
  refine sorted_col (x := .ref p) (b := false) (kw := []) (ltv := fun h' v u => lexZ (keyZ h' v) (keyZ h' u)) (P := fun h' _ vs => ∃ as, vs = as.map Value.ref ∧ as.length = es.size ∧ DT.Made es s.heap.objs.size h' as ∧ s.heap.objs.size < h'.objs.size)
    plain_rev (args_sorted1 _) (fun _ => args_list_sort _) (fun R hR => ?_) (fun h' _ _ _ => swo_key h') (fun h' _ vs hP => ?_) (fun h' tk vs hP h2 h₁ b hb keep => ?_) (fun h' tk vs out h2 hk hP h1 hb hk2 hat => ?_)
  · exact DT.collectI (A := X.A.in1) hh view ⟨o, ho, hx, hdat⟩ hz fun h' tk as hk hlt hl hM => hR h' tk _ hk ⟨as, rfl, hl, hM, hlt⟩
  · obtain ⟨as, rfl, hl, _⟩ := hP
    rw [List.length_map, hl]
    exact hz
  · obtain ⟨as, rfl, hl, hM, _⟩ := hP
    refine pairsZ_sortable (s := { s with heap := h₁, toks := tk }) (k := keyZ h') (by omega) (fun v hv => ?_) (fun ob e => ?_)
    · obtain ⟨t, ht, rfl⟩ := List.mem_map.mp hv
      obtain ⟨j, hj⟩ := List.mem_iff_getElem?.mp ht
      obtain ⟨en, he, hg⟩ := hM.pairs j t hj
      obtain ⟨e, t1, t2, _, k1, k2⟩ := ent j en he
      have x : IsPZ h' (.ref t) e := ⟨t, _, t1, t2, 0, rfl, hg, rfl, by rw [k1, k2]⟩
      rw [keyZ_of x]
      exact x.keeps fun b o e _ => (keep b o e).2
    · have e' : some ob = some (seqObj "list" (as.map Value.ref).toArray 0) := e.symm.trans hb
      cases e'
      intro c
      exact absurd (Value.type.inj c) (by decide)
  · obtain ⟨as, rfl, hl, hM, hlt⟩ := hP
    obtain ⟨n, hat⟩ := hat
    have pz : ∀ (j : Nat) (t : Addr), as[j]? = some t → ∃ e, ks[j]? = some e ∧ IsPZ h' (.ref t) e := fun j t hj => by
      obtain ⟨en, he, hg⟩ := hM.pairs j t hj
      obtain ⟨e, t1, t2, e1, k1, k2⟩ := ent j en he
      exact ⟨e, e1, t, _, t1, t2, 0, rfl, hg, rfl, by rw [k1, k2]⟩
    refine sortZ_end (as := as) (ks := ks) I hk hk2 (Nat.le_of_lt hlt) (by rw [hl]; exact hz) (fun t ht => Nat.ne_of_lt (hM.there ht)) (List.Pairwise.imp (fun h => Nat.ne_of_lt h) hM.rise) (fun t ht => Nat.le_of_lt (hM.above t ht)) (I.hok.fresh (Nat.le_of_lt hlt)) ?_ (fun t ht => ?_) hat h1 hb.perm fun H' ys ts => q H' _ ys ts
    · refine List.ext_getElem? fun j => ?_
      rw [List.getElem?_map]
      cases hj : as[j]? with
      | none =>
        have : ks[j]? = none := List.getElem?_eq_none (by have := List.getElem?_eq_none_iff.mp hj; omega)
        rw [this]
        rfl
      | some t =>
        obtain ⟨e, e1, x⟩ := pz j t hj
        rw [e1]
        show some (keyZ h' (.ref t)) = some e
        rw [keyZ_of x]
    · obtain ⟨j, hj⟩ := List.mem_iff_getElem?.mp ht
      obtain ⟨e, _, x⟩ := pz j t hj
      exact ⟨e, x⟩
end
end L2

namespace SrtZ
open PySem PyProof.Rows Srt SrtO PySem.W
def ltSv (v u : Value) : Bool := ltZ (strOf v) (strOf u)
theorem swo_str : Swo ltSv := by
  refine ⟨fun x y h => ltZ_asym h, fun x y z h1 h2 => ?_⟩
  rcases bcase (ltZ (strOf z) (strOf x)) with q | q
  · rcases bcase (ltZ (strOf x) (strOf y)) with p | p
    · rcases bcase (ltZ (strOf y) (strOf z)) with r | r
      · have := ltZ_asym (ltZ_trans p r)
        rw [q] at this
        cases this
      · have e := ltZ_tri r h2
        have q' : ltZ (strOf z) (strOf x) = true := q
        rw [← e, ltZ_asym p] at q'
        cases q'
    · have e := ltZ_tri p h1
      have q' : ltZ (strOf z) (strOf x) = true := q
      have h2' : ltZ (strOf z) (strOf y) = false := h2
      rw [e, h2'] at q'
      cases q'
  · exact q
theorem strOf_strs : ∀ {vs : List Value} {ss : List Str}, StrsAre vs ss → vs.map strOf = ss
  | _, _, .nil => rfl
  | _, _, .cons y t h => congrArg (y :: ·) (strOf_strs h)
section
variable {prog : Program} {w : World} {A : Around} {E : Value → Shared → Prop} {s : Shared}
theorem str_cmp {vs : List Value} {ss : List Str} (hI : StrsAre vs ss) : Cmp prog w A s oneType' (fun p => p.1 ∈ vs) (lt2 ltSv) := by
  intro p q hm hm'
  obtain ⟨a, t, e⟩ := StrsAre.all hI _ hm
  obtain ⟨b, u, e'⟩ := StrsAre.all hI _ hm'
  show wpAny (model prog w) A (keyLt' oneType' p.1 q.1) (fun r s' => s' = s ∧ r = ltSv p.1 q.1) (fun _ _ => False) s
  rw [e, e', keyLt'_oneType]
  exact oneLt_any_str ⟨rfl, rfl⟩
theorem strs_sortable {a : Addr} {vs : List Value} {ss : List Str} (hI : StrsAre vs ss) (h2 : 2 ≤ vs.length) : SortableO prog w A s a vs ltSv := by
  intro h' _
  refine ⟨oneType', fun Q E hq => ?_, str_cmp hI⟩
  match vs, hI, h2 with
  | v1 :: v2 :: rest, hI, _ =>
    rw [keyKind_strs hI]
    exact wpAny_pure hq
  | [], _, h => exact absurd h (by decide)
  | [v], _, h => exact absurd h (by simp)
end
end SrtZ
namespace L2
open PySem PySem.Spec PyProof.Rows SrtO SrtZ
section
variable {X : Cx}
/-- sorted(xs), xs a list of tuples (text, int), any number of them -/
def rSortedPZ (K : PySem.W.Frag) : List V → Hp → VK → Prop := fun vs H Q => ∃ (a : Addr) (ts : List Addr) (k : Addr → Str × Int), vs = [V.ref a] ∧ SqL K H a (ts.map V.ref) ∧ (∀ t ∈ ts, H t = some (.tup [.str (k t).1, .int (k t).2])) ∧
  ∀ (us : List Addr) (p : Addr), us.Perm ts → Srtd lexZ (us.map k) → H p = none → Q (.ref p) (upd H p (.lst (us.map V.ref)))
theorem cr_sortedPZ : CallR X (.builtin "sorted") (rSortedPZ X.K) := by
  intro pins s σ H vs us Q I r h
  obtain ⟨a, ts, k, rfl, hs, hx, q⟩ := h
  obtain ⟨its, rv, hl, hz⟩ := I.list hs
  obtain rfl := Vals.ref1 r
  obtain rfl := refs_at rv
  rw [List.length_map] at hz
  have hp : ∀ v ∈ ts.map Value.ref, IsPZ s.heap v (k (adr v)) := fun v hv => by
    obtain ⟨t, ht, rfl⟩ := List.mem_map.mp hv
    obtain ⟨_, its2, r2, o, ho, hc, n, hd⟩ := I.hok _ _ (hx t ht)
    obtain ⟨u1, u2, rfl, ri, rj⟩ := vals2 r2
    obtain ⟨t1, rfl⟩ := ri
    obtain ⟨t2, rfl⟩ := rj
    exact ⟨t, o, t1, t2, n, rfl, ho, hc, hd⟩
  refine SrtO.sorted_ord (ltv := fun v u => lexZ (k (adr v)) (k (adr u))) ⟨fun x y => swo_Z.asym _ _, fun x y z => swo_Z.tr _ _ _⟩ hl.isList (by rw [List.length_map]; exact hz) (fun h2 h₁ b hb kk => ?_) fun out h1 h2 => ?_
  · refine pairsZ_sortable (s := { s with heap := h₁ }) (k := fun v => k (adr v)) (by omega) (fun v hv => (hp v hv).keeps fun b o e _ => (kk b o e).2) fun o e => ?_
    have e' : some o = some (seqObj "list" (ts.map Value.ref).toArray 0) := e.symm.trans hb
    cases e'
    intro c
    exact absurd (Value.type.inj c) (by decide)
  · obtain ⟨ep, he'⟩ := PyProof.Rows.sortedAll_at s.heap (ts.map Value.ref) out.toArray
    have isr : ∀ v ∈ out, ∃ a, v = Value.ref a := fun v hv => by
      obtain ⟨a, _, e⟩ := List.mem_map.mp (h2.perm.mem_iff.mp hv)
      exact ⟨a, e.symm⟩
    have eo := refs_adr out isr
    generalize eus : out.map adr = us at eo
    have pt : us.Perm ts := by
      have := h2.perm.map adr
      rwa [adr_refs, eus] at this
    have hlen : (us.map V.ref).length ≤ sizeLine := by rw [List.length_map, pt.length_eq]; exact hz
    have rv : Vals (us.map V.ref) out := by
      rw [← eo]
      exact LiI.vals_refs us
    refine ⟨.ref _, upd H (s.heap.objs.size + 1) (.lst (us.map V.ref)), I.laid (t' := s.toks) (fun _ _ => PyProof.Rows.sortedAll_old) (Nat.le_succ _) ⟨hlen, out, ep, rv, he'⟩, rfl, q us _ pt ?_ (I.hok.fresh (Nat.le_succ _))⟩
    have e : us.map k = out.map fun v => k (adr v) := by
      rw [← eo, List.map_map]
      rfl
    rw [e]
    exact srtd_map h1
/-- the ints of a dict's values -/
theorem vals_ints' {xs' : List (Key × Value)} : ∀ {ks : List (Str × Int)}, KV (ks.map entZ) xs' → ∀ {vs : List Value}, vs.length = xs'.length → (∀ (j : Nat) (v : Value), vs[j]? = some v → ∃ k, xs'[j]? = some (k, v)) → IntsAre vs (ks.map (·.2)) := fun {ks} rel {vs} hl hv => by
  have e : vs = xs'.map (·.2) := PySem.W.kdl_vals_eq vs hl hv
  subst e
  have : ∀ {ks : List (Str × Int)} {xs : List (Key × Value)}, KV (ks.map entZ) xs → IntsAre (xs.map (·.2)) (ks.map (·.2)) := by
    intro ks
    induction ks with
    | nil =>
      intro xs r
      cases r
      exact .nil
    | cons e ks ih =>
      intro xs r
      cases r with
      | cons h t =>
        obtain ⟨u, eu⟩ := (show ∃ t, _ = Value.int e.2 t from h.2)
        rw [List.map_cons, eu]
        exact .cons _ _ (ih t)
  exact this rel
/-- sorted(d.values(), reverse=b), values ints -/
def rSortedVR (b : Bool) : List V → List V → Hp → VK → Prop := fun vs zs H Q => ∃ (p d : Addr) (ks : List (Str × Int)), vs = [V.ref p] ∧ zs = [.bl b] ∧ H p = some (valuesO p d) ∧ H d = some (.dK (ks.map entZ)) ∧
  ∀ (ns : List Int) (l : Addr), ns.Perm (ks.map (·.2)) → OrdB b ns → H l = none → Q (.ref l) (upd H l (.lst (ns.map V.int)))
theorem cr_sortedVR {b : Bool} (hc : X.calm = true) : CallRK X (.builtin "sorted") [Str.ofString "reverse"] (rSortedVR b) := by
  intro pins s σ H vs zs us ws Q I r rz h
  obtain ⟨p, d, ks, rfl, rfl, hp, ha, q⟩ := h
  obtain rfl := Vals.ref1 r
  obtain ⟨w1, rfl, e1⟩ := vals1 rz
  obtain rfl : w1 = Value.bool b := e1
  have view : s.heap.IsValuesView p d := (show ObjOk X.prog X.w H s.heap p (valuesO p d) from I.hok p _ hp).1
  obtain ⟨z, hd, xs', rel, dd⟩ := dk_of I.hok ha
  obtain ⟨ep, hat⟩ := dd.dictAt
  have l1 : ks.length = xs'.length := by
    have := Paired.length rel
    rwa [List.length_map] at this
  have hz : xs'.length ≤ sizeLine := by rw [List.length_map] at z; omega
  refine sorted_col (x := .ref p) (b := b) (kw := [(Str.ofString "reverse", .bool b)]) (ltv := fun _ => SrtO.ltIv) (P := fun h' _ vs => IntsAre vs (ks.map (·.2)))
    (fun _ => rfl) (args_sorted_rev _ _) (fun _ => args_list_sort_rev _ _) (fun R hR => ?_) (fun _ _ _ _ => SrtO.swo_int) (fun h' _ vs hP => ?_) (fun h' tk vs hP h2 h₁ c hb keep => ?_) (fun h' tk vs out h2 hk hP h1 hb hk2 hat => ?_)
  · refine PySem.W.kdu_collect (A := X.A.in1) (PySem.W.kdl_values (knd := mixKind X.prog X.w) (kvs := xs') (ep := ep) (r := p) (d := d)) (I.ok.hd hc) ⟨view, hat⟩ hz fun h' tk acc hk hacc => hR h' tk _ hk (vals_ints' rel (by rw [Array.length_toList]; exact hacc.1) fun j v e => hacc.2 j v (by rw [← Array.getElem?_toList]; exact e))
  · rw [hP.length, List.length_map, l1]
    exact hz
  · exact SrtO.ints_sortable hP h2
  · obtain ⟨n, hat⟩ := hat
    obtain ⟨ns', k1, k2, k3⟩ := SrtR.ints_outR hP h1 hb
    have hlen : (ns'.map V.int).length ≤ sizeLine := by
      rw [List.length_map, k2.length_eq, List.length_map, l1]
      exact hz
    have e0 : ((if b = true then out.toArray.reverse else out.toArray).toList).toArray = (if b = true then out.toArray.reverse else out.toArray) := by rw [Array.toArray_toList]
    have gone : s.heap.get? h'.objs.size = none := by
      cases e : s.heap.get? h'.objs.size with
      | none => rfl
      | some o => exact absurd (Heap.lt_size (hk _ _ e)) (Nat.lt_irrefl _)
    have hn := I.hok.gone gone
    exact ⟨.ref h'.objs.size, upd H h'.objs.size (.lst (ns'.map V.int)), I.laidN (t' := tk) (fun c o e => hk2 c o (hk c o e)) gone hn ⟨hlen, _, n, vals_of_ints k1, by rw [e0]; exact hat⟩, rfl, q _ _ k2 k3 hn⟩
/-- sorted(d), keys texts, any number of them -/
def rSortedDS : List V → Hp → VK → Prop := fun vs H Q => ∃ (d : Addr) (kvs : List (Key × V)) (ss : List Str), vs = [V.ref d] ∧ H d = some (.dK kvs) ∧ kvs.map (·.1) = ss.map Sum.inr ∧
  ∀ (ys : List Str) (l : Addr), ys.Perm ss → Srtd ltZ ys → H l = none → Q (.ref l) (upd H l (.lst (ys.map V.str)))
theorem keys_strs {P : Program} {w : World} {xs' : List (Key × Value)} : ∀ {kvs : List (Key × V)} {ss : List Str}, KV kvs xs' → kvs.map (·.1) = ss.map Sum.inr → ∀ {vs : List Value}, vs.length = xs'.length → (∀ (j : Nat) (v : Value), vs[j]? = some v → ∃ k x, xs'[j]? = some (k, x) ∧ (mixKind P w).is k v = true) → StrsAre vs ss := fun {kvs ss} rel hk {vs} hl hv => by
  have : ∀ {kvs : List (Key × V)} {ss : List Str} {xs : List (Key × Value)} {vs : List Value}, KV kvs xs → kvs.map (·.1) = ss.map Sum.inr → vs.length = xs.length → (∀ (j : Nat) (v : Value), vs[j]? = some v → ∃ k x, xs[j]? = some (k, x) ∧ (mixKind P w).is k v = true) → StrsAre vs ss := by
    intro kvs
    induction kvs with
    | nil =>
      intro ss xs vs r hk hl hv
      cases r
      cases ss with
      | nil =>
        have : vs = [] := List.eq_nil_of_length_eq_zero hl
        subst this
        exact .nil
      | cons _ _ => cases hk
    | cons kv kvs ih =>
      intro ss xs vs r hk hl hv
      cases r with
      | cons h t =>
        cases ss with
        | nil => cases hk
        | cons z ss =>
          cases vs with
          | nil => simp at hl
          | cons v vs =>
            rw [List.map_cons, List.map_cons] at hk
            obtain ⟨h1, h2⟩ := List.cons.inj hk
            obtain ⟨k, x, e1, e2⟩ := hv 0 v rfl
            have e1' := (Prod.mk.inj (Option.some.inj e1)).1
            have kk : k = Sum.inr z := by rw [← e1', ← h.1, h1]
            subst kk
            obtain ⟨u, eu⟩ := relV_key (show keyIs (Sum.inr z) v = true from e2)
            subst eu
            exact .cons _ _ (ih t h2 (by simpa using hl) fun j v' e => hv (j + 1) v' (by simpa using e))
  exact this rel hk hl hv
theorem cr_sortedDS (hc : X.calm = true) : CallR X (.builtin "sorted") rSortedDS := by
  intro pins s σ H xs us Q I r h
  obtain ⟨d, kvs, ss, rfl, ha, hks, q⟩ := h
  obtain rfl := Vals.ref1 r
  obtain ⟨z, hd, xs', rel, dd⟩ := dk_of I.hok ha
  obtain ⟨ep, hat⟩ := dd.dictAt
  have l1 : kvs.length = xs'.length := Paired.length rel
  have hz : xs'.length ≤ sizeLine := by omega
  refine sorted_col (x := .ref d) (b := false) (kw := []) (ltv := fun _ => ltSv) (P := fun _ _ vs => StrsAre vs ss)
    plain_rev (args_sorted1 _) (fun _ => args_list_sort _) (fun R hR => ?_) (fun _ _ _ _ => swo_str) (fun h' _ vs hP => ?_) (fun h' tk vs hP h2 h₁ c hb keep => strs_sortable hP h2) (fun h' tk vs out h2 hk hP h1 hb hk2 hat => ?_)
  · refine PySem.W.kdu_collect (A := X.A.in1) (PySem.W.kdl_dict (knd := mixKind X.prog X.w) (kvs := xs') (ep := ep) (d := d) hd) (I.ok.hd hc) hat hz fun h' tk acc hk hacc => hR h' tk _ hk (keys_strs rel hks (by rw [Array.length_toList]; exact hacc.1) fun j v e => hacc.2 j v (by rw [← Array.getElem?_toList]; exact e))
  · rw [hP.length, ← List.length_map (f := (Sum.inr : Str → Key)), ← hks, List.length_map]
    omega
  · obtain ⟨n, hat⟩ := hat
    have isS : ∀ v ∈ out, ∃ x t, v = Value.str x t := fun v hv => StrsAre.all hP v (hb.perm.mem_iff.mp hv)
    have kp : (out.map strOf).Perm ss := by
      have := hb.perm.map strOf
      rwa [if_neg (by decide), strOf_strs hP] at this
    have hlen : ((out.map strOf).map V.str).length ≤ sizeLine := by
      rw [List.length_map, kp.length_eq, ← List.length_map (f := (Sum.inr : Str → Key)), ← hks, List.length_map]
      omega
    have gone : s.heap.get? h'.objs.size = none := by
      cases e : s.heap.get? h'.objs.size with
      | none => rfl
      | some o => exact absurd (Heap.lt_size (hk _ _ e)) (Nat.lt_irrefl _)
    have hn := I.hok.gone gone
    exact ⟨.ref h'.objs.size, upd H h'.objs.size (.lst ((out.map strOf).map V.str)), I.laidN (t' := tk) (fun c o e => hk2 c o (hk c o e)) gone hn ⟨hlen, out, n, vals_of_strs (strsAre_map out isS), hat⟩, rfl, q _ _ kp (srtd_map h1) hn⟩
/-! plain tuples: such of which no attributes are held -/
def Ptp (H : Hp) (a : Addr) (xs : List V) : Prop := ∃ o : Obj, H a = some (.frz o (.tup xs)) ∧ o.dict = none
theorem Ptp.seq {K : PySem.W.Frag} {H : Hp} {a : Addr} {xs : List V} (h : Ptp H a xs) : SqT K H a xs := let ⟨o, e, _⟩ := h; .inl (.inr ⟨o, e⟩)
theorem Ptp.same {H H' : Hp} {a : Addr} {xs : List V} (h : Ptp H a xs) (s : Same H H') : Ptp H' a xs := let ⟨o, e, d⟩ := h; ⟨o, s _ _ e, d⟩
theorem Ptp.ne {H : Hp} {a p : Addr} {xs : List V} (h : Ptp H a xs) (hp : H p = none) : a ≠ p := let ⟨o, e, _⟩ := h; ne_of_none e hp
theorem Ptp.upd {H : Hp} {a p : Addr} {xs : List V} {u : HO} (h : Ptp H a xs) (n : a ≠ p) : Ptp (L2.upd H p u) a xs := let ⟨o, e, d⟩ := h; ⟨o, by rw [upd_ne n]; exact e, d⟩
/-- (a, b, ..), a plain tuple -/
def tTupF (t : TA) : TE := fun σ H Q => t σ H fun xs H1 => xs.length ≤ sizeLine ∧ ∀ p o, H1 p = none → o.dict = none → Q (.ref p) (upd H1 p (.frz o (.tup xs)))
theorem pe_tupF {x1} {es : List Expr} {t : TA} {pos : Pos} (h : PA X es t) : PE X (.Tuple es x1 pos) (tTupF t) := by
  refine ⟨fun pins s σ H Q I hq => ?_⟩
  refine wpAny_Tuple_spliced (thn (h.run pos pins s σ H _ I hq) fun us s1 ⟨xs, H1, I1, r, z, q⟩ => ⟨by rw [← r.length]; exact z, ?_⟩)
  have hf : H1 s1.heap.objs.size = none := I1.hok.fresh (Nat.le_refl _)
  refine ⟨.ref s1.heap.objs.size, _, I1.laid (t' := s1.toks) (fun b u e => Heap.get?_push_of_some _ e) (Nat.le_refl _) ?_, rfl, q _ { cls := .type "tuple", data := .seq us.toArray } hf rfl⟩
  exact ⟨Heap.get?_push_size _ rfl, z, us, r, ⟨_, Heap.get?_push_size _ rfl, rfl, _, rfl⟩⟩
/-- tuple(xs) of a list, a plain tuple -/
theorem call_tupleF : CallR X (.type "tuple") (fun xs H Q => ∃ p ys, xs = [.ref p] ∧ SqL X.K H p ys ∧ ∀ l o, H l = none → o.dict = none → Q (.ref l) (upd H l (.frz o (.tup ys)))) := by
  intro pins s σ H xs us Q I r h
  obtain ⟨p, ys, rfl, hq, q⟩ := h
  obtain ⟨u, rfl, rx⟩ := vals1 r
  cases rx
  obtain ⟨its, r', pl, hz⟩ := I.list hq
  have hlen := r'.length
  refine call_tuple_list pl.isList (fun h' kp => ?_) (by simp only [List.size_toArray] <;> omega)
  have I1 : Inv X pins σ H { s with heap := h' } := I.kept (t' := s.toks) kp
  have I2 : Inv X pins σ (upd H h'.objs.size (.frz _ (.tup ys))) { s with heap := h'.push { cls := .type "tuple", data := .seq its.toArray } } :=
    I1.laid (t' := s.toks) (fun b o e => Heap.get?_push_of_some _ e) (Nat.le_refl _) (show ObjOk X.prog X.w _ _ _ (.frz _ (.tup ys)) from ⟨Heap.get?_push_size _ rfl, hz, its, r', IsTup.new _ _⟩)
  exact ⟨.ref h'.objs.size, _, I2, rfl, q _ _ (I1.hok.fresh (Nat.le_refl _)) rfl⟩
theorem pairs_of2 {pins : List (Addr × Obj)} {σ : St} {H : Hp} {s : Shared} (I : Inv X pins σ H s) : ∀ {ps : List Addr} {kvs : List (Key × V)}, Paired (fun p kv => SqT X.K H p [kV kv.1, kv.2]) ps kvs →
    ∃ (prs : List (Key × Value)) (vps : List (Value × Value)), KV kvs prs ∧ prs.length = ps.length ∧ vps.length = prs.length ∧
      ∀ (j : Nat) (k v : Value), vps[j]? = some (k, v) → ∃ (b : Addr) (q : Key × Value), ps[j]? = some b ∧ prs[j]? = some q ∧ v = q.2 ∧ IsTup s.heap b #[k, v] ∧ keyIs q.1 k = true
  | _, _, .nil => ⟨[], [], .nil, rfl, rfl, fun j k v e => by simp at e⟩
  | _, _, .cons (a := p) (b := kv) h t => by
    obtain ⟨prs, vps, r, hl, hl2, hp⟩ := pairs_of2 I t
    obtain ⟨its, rv, ht, _⟩ := I.tuple h
    obtain ⟨u, y, ei, ru, ry⟩ := vals2 rv
    subst ei
    refine ⟨(kv.1, y) :: prs, (u, y) :: vps, .cons ⟨rfl, ry⟩ r, by rw [List.length_cons, List.length_cons, hl], by rw [List.length_cons, List.length_cons, hl2], fun j k v e => ?_⟩
    cases j with
    | zero =>
      have e' : (u, y) = (k, v) := Option.some.inj e
      cases e'
      exact ⟨p, _, rfl, rfl, rfl, ht, kV_is (P := X.prog) (w := X.w) ru⟩
    | succ j =>
      obtain ⟨b, q, e1, e2, e3⟩ := hp j k v (by simpa using e)
      exact ⟨b, q, by simpa using e1, by simpa using e2, e3⟩
/-- dict(t), t a plain tuple of pairs -/
theorem call_dictPT (hcalm : X.calm = true) : CallR X (.type "dict") (fun xs H Q => ∃ (a : Addr) (ps : List Addr) (kvs : List (Key × V)), xs = [.ref a] ∧ Ptp H a (ps.map V.ref) ∧ Paired (fun p kv => SqT X.K H p [kV kv.1, kv.2]) ps kvs ∧
    ∀ p, H p = none → Q (.ref p) (upd H p (.dK (mergeK [] kvs)))) := by
  intro pins s σ H xs us Q I r q
  obtain ⟨a, ps, kvs, ex, hq, hp, q⟩ := q
  subst ex
  obtain ⟨u, eu, rx⟩ := vals1 r
  subst eu
  cases rx
  obtain ⟨o, ha, hdn⟩ := hq
  obtain ⟨hao, hz, its, rv, o', hao', hc, n, hdat⟩ := (show ObjOk X.prog X.w H s.heap a (.frz o (.tup (ps.map V.ref))) from I.hok a _ ha)
  rw [hao] at hao'
  cases hao'
  have ei := refs_at rv
  subst ei
  rw [List.length_map] at hz
  obtain ⟨prs, vps, rel, hl, hvl, hvp⟩ := pairs_of2 I hp
  have hTs : ∀ j b, ps[j]? = some b → ps.getD j 0 = b := fun j b e => by simp [List.getD, e]
  refine PySem.call_dict_pairs (knd := mixKind X.prog X.w) (kvs := prs) (PairArg.tuple (prog := X.prog) (w := X.w) a (ps.map Value.ref).toArray (fun j => ps.getD j 0) vps) (I.ok.hd hcalm) ⟨⟨o, n, hao, hc, hdn, hdat⟩, ?_, fun j k v e => ?_⟩ ⟨hvl.symm, fun i key v h => ?_⟩ (by rw [hvl, hl]; exact hz) fun h' tk hd' k => ?_
  · simp [hvl, hl]
  · obtain ⟨b, q, e1, e2, e3, e4, e5⟩ := hvp j k v e
    show _ ∧ PairAt s.heap (ps.getD j 0) k v
    rw [hTs j b e1]
    have ed : (List.map Value.ref ps).toArray[j]? = some (Value.ref b) := by simp [e1]
    refine ⟨?_, .inl e4⟩
    show _ = some (Value.ref (ps.getD j 0))
    rw [hTs j b e1]
    exact ed
  · obtain ⟨b, q', e1, e2, e3, e4, e5⟩ := hvp i key v h
    exact ⟨q'.1, by rw [e2, e3], e5⟩
  · have hm : (s.heap.objs.size == sysModules) = false := beq_eq_false_iff_ne.mpr (Nat.ne_of_gt I.big)
    have hlen : (mergeK [] kvs).length ≤ sizeLine := by
      refine Nat.le_trans (length_mergeK kvs []) ?_
      rw [List.length_nil, Nat.zero_add, rel.length, hl]
      exact hz
    exact ⟨.ref s.heap.objs.size, upd H s.heap.objs.size (.dK (mergeK [] kvs)), I.laid (t' := tk) (fun b u e => k b u (by simp) e) (Nat.le_refl _) (show ObjOk X.prog X.w _ _ _ (.dK (mergeK [] kvs)) from ⟨hlen, hm, merged [] prs, KV.merge rel .nil, hd'⟩), rfl, q _ (I.hok.fresh (Nat.le_refl _))⟩
/-- o.f as a target -/
def gFld (K : PySem.W.Frag) (ta : TE) (f : Str) : TG := fun y σ H Q => ta σ H fun x H2 => ∃ a C dx fs, x = .ref a ∧ H2 a = some (.ins C dx fs) ∧ Cls K C ∧ NoAttr K C f ∧ fs.length < 1000 ∧ Q σ (upd H2 a (.ins C dx (putF f y fs)))
theorem pg_fld {o : Expr} {f : Str} {pos : Pos} {ta : TE} (ha : PE X o ta) : PG X (.Attribute o f pos) (gFld X.K ta f) := by
  refine ⟨fun pins s σ H v u Q I r h => ?_⟩
  rw [assign_Attribute]
  refine wpAny_bind (wpAny_holding (thn (ha.run pins s σ H _ I h) fun ov s2 ⟨x, H2, I2, rx, a, C, dx, fs, ex, ea, c, n, l, q2⟩ => ?_))
  subst ex
  obtain rfl : ov = Value.ref a := rx
  refine wpAny_bind (wpAny_standAt (wpAny_bind (wpAny_holding (setattr_ok I2 ea c n l r fun s3 I3 => ?_))))
  exact wpAny_release ⟨σ, _, I3, q2⟩
end
end L2

namespace L2
open PySem PySem.Spec PyProof.Rows SrtO SrtZ
section
variable {X : Cx}
/-- min(d.values()), values ints -/
def rMinV : List V → Hp → VK → Prop := fun vs H Q => ∃ (p d : Addr) (ks : List (Str × Int)), vs = [V.ref p] ∧ H p = some (valuesO p d) ∧ H d = some (.dK (ks.map entZ)) ∧ 0 < ks.length ∧
  ∀ m, m ∈ ks.map (·.2) → (∀ y ∈ ks.map (·.2), m ≤ y) → Q (.int m) H
theorem cr_minV (hc : X.calm = true) : CallR X (.builtin "min") rMinV := by
  intro pins s σ H vs us Q I r h
  obtain ⟨p, d, ks, rfl, hp, ha, hne, q⟩ := h
  obtain rfl := Vals.ref1 r
  have view : s.heap.IsValuesView p d := (show ObjOk X.prog X.w H s.heap p (valuesO p d) from I.hok p _ hp).1
  obtain ⟨z, hd, xs', rel, dd⟩ := dk_of I.hok ha
  obtain ⟨ep, hat⟩ := dd.dictAt
  have l1 : ks.length = xs'.length := by
    have := Paired.length rel
    rwa [List.length_map] at this
  have K := PySem.W.kdl_values (prog := X.prog) (w := X.w) (knd := mixKind X.prog X.w) (kvs := xs') (ep := ep) (r := p) (d := d)
  have hok : s.heap.IsValuesView p d ∧ s.heap.DictAt (mixKind X.prog X.w) d xs' ep := ⟨view, hat⟩
  have hval : ∀ (i : Nat) (v : Value), (∃ k, xs'[i]? = some (k, v)) → ∃ t : Tok, v = Value.int ((ks.map (·.2)).getD i 0) t := fun i v ⟨k, e⟩ => by
    obtain ⟨e', t, e1, e2⟩ := ent_paired rel e
    refine ⟨t, ?_⟩
    have : (ks.map (·.2)).getD i 0 = e'.2 := by simp [List.getD, e1]
    rw [this]
    exact (Prod.mk.inj e2).2
  refine PySem.call_min_walkS ?_
  obtain ⟨oI, St, hit, W, st⟩ := K.iter X.A.in1 s (I.ok.hd hc) hok
  refine hit _ _ ⟨s.heap.objs.size, _, _, _, xs'.length, _, _, fun i j => decide ((ks.map (·.2)).getD i 0 < (ks.map (·.2)).getD j 0), rfl, W.toS, st, fun b hb => ?_, by omega, PySem.CmpOf.ints_lt _ hval, fun v s' hP hm => ?_⟩
  · show b < (s.heap.push oI).objs.size
    rw [size_push']
    rcases List.mem_cons.mp hb with e | hb
    · rw [e]; exact Nat.lt_succ_self _
    · rw [List.mem_singleton.mp hb]; exact Nat.lt_succ_of_lt (K.there _ hok).2
  · have hk : ∀ b o, s.heap.get? b = some o → s'.heap.get? b = some o := fun b o e =>
      hm.heap b o (fun hI => absurd (Heap.lt_size e) (by rw [List.mem_singleton.mp hI]; exact Nat.lt_irrefl _)) (Heap.get?_push_of_some _ e)
    obtain ⟨t, rfl⟩ := hval _ v hP
    obtain ⟨h1, h2⟩ := argBest_lt (fun i => (ks.map (·.2)).getD i 0) (xs'.length - 1)
    have hI : Inv X pins σ H s' := by
      rw [Moved.eq_with hm]
      exact I.kept (t' := s'.toks) hk
    refine ⟨.int _, H, hI, ⟨t, rfl⟩, q _ ?_ fun a ha => ?_⟩
    · exact PySem.getD_mem (by rw [List.length_map]; omega)
    · obtain ⟨j, hj, rfl⟩ := mem_getD ha
      rw [List.length_map] at hj
      exact h2 j (by omega)
end
end L2

namespace L2
open PySem PySem.Spec PyProof.Rows SrtO SrtZ
/-! own rules: (int, text) < (int, text); sorted of a list of texts of any length -/
def ltNZ (i j : Int) (x y : Str) : Bool := if i = j then ltZ x y else decide (i < j)
section
variable {X : Cx}
def rLtNZ (K : PySem.W.Frag) : R2 := fun x y H Q => ∃ (a b : Addr) (i j : Int) (z w : Str), x = .ref a ∧ y = .ref b ∧ SqT K H a [.int i, .str z] ∧ SqT K H b [.int j, .str w] ∧ Q (.bl (ltNZ i j z w)) H
theorem op_ltNZ (hu : X.A.units < cLine) : OpR X (compareOp .Lt) (rLtNZ X.K) := by
  intro pins s σ H x y v u Q I rx ry h
  obtain ⟨a, b, i, j, z, w, rfl, rfl, ha, hb, q⟩ := h
  cases rx
  cases ry
  obtain ⟨its, r1, p1, _⟩ := I.tuple ha
  obtain ⟨its2, r2, p2, _⟩ := I.tuple hb
  obtain ⟨u1, u2, rfl, ri, rj⟩ := vals2 r1
  obtain ⟨w1, w2, rfl, si, sj⟩ := vals2 r2
  obtain ⟨t1, rfl⟩ := ri
  obtain ⟨t2, rfl⟩ := rj
  obtain ⟨t3, rfl⟩ := si
  obtain ⟨t4, rfl⟩ := sj
  have R := Ob.RcOp.tuples_lt (A := X.A) (s := s) (e := fun k => match k with | 0 => (i == j) | _ => (z == w)) (r := fun k => match k with | 0 => decide (i < j) | _ => ltZ z w) p1 p2 hu (fun k h1 h2 => by
    match k, h1, h2 with
    | 0, _, _ => exact SeqAt.EqAt.int_int _ _ _ _
    | 1, _, _ => exact SeqAt.EqAt.str_str _ _ _ _
    | k + 2, h1, _ => exact absurd h1 (by simp)) (fun k h1 h2 _ => by
    match k, h1, h2 with
    | 0, _, _ => exact Ob.RcOp.lt_int _ _ _ _
    | 1, _, _ => exact fun _ _ _ _ h => PyProof.Rows.lt_str h
    | k + 2, h1, _ => exact absurd h1 (by simp))
  have e : Ob.lexAt (fun k => match k with | 0 => (i == j) | _ => (z == w)) (fun k => match k with | 0 => decide (i < j) | _ => ltZ z w) (decide (2 < 2)) 0 2 = ltNZ i j z w := by
    unfold ltNZ
    rw [Ob.lexAt_succ, Ob.lexAt_succ, Ob.lexAt_zero]
    show (if (i == j) = true then (if (z == w) = true then decide (2 < 2) else ltZ z w) else decide (i < j)) = _
    by_cases h1 : i = j
    · rw [if_pos (beq_iff_eq.mpr h1), if_pos h1]
      by_cases h2 : z = w
      · rw [if_pos (by rw [h2]; exact beq_self_eq_true w), h2, ltZ_irr]
        rfl
      · rw [if_neg (fun q => h2 (eq_of_beq q))]
    · rw [if_neg (fun q => h1 (eq_of_beq q)), if_neg h1]
  have R' : Ob.RcOp .Lt X.A s (.ref a) (.ref b) (ltNZ i j z w) := by
    rw [← e]
    exact R
  exact R' X.prog X.w X.xe (EP X pins σ Q) ⟨.bl _, H, I, rfl, q⟩
/-- sorted(xs), xs a list of texts of any length -/
def rSortedSL (K : PySem.W.Frag) : List V → Hp → VK → Prop := fun vs H Q => ∃ (a : Addr) (xs : List Str), vs = [V.ref a] ∧ SqL K H a (xs.map V.str) ∧ ∀ (ys : List Str) (p : Addr), ys.Perm xs → Srtd ltZ ys → H p = none → Q (.ref p) (upd H p (.lst (ys.map V.str)))
theorem cr_sortedSL : CallR X (.builtin "sorted") (rSortedSL X.K) := by
  intro pins s σ H vs us Q I r h
  obtain ⟨a, xs, rfl, hs, q⟩ := h
  obtain ⟨its, rv, hl, hz⟩ := I.list hs
  obtain rfl := Vals.ref1 r
  have hI : StrsAre its xs := strs_of_vals rv
  rw [List.length_map] at hz
  have il : its.length = xs.length := hI.length
  refine SrtO.sorted_ord (ltv := ltSv) ⟨fun x y => swo_str.asym _ _, fun x y z => swo_str.tr _ _ _⟩ hl.isList (by rw [il]; exact hz) (fun h2 h₁ b hb kk => strs_sortable (s := { s with heap := h₁ }) hI h2) fun out h1 h2 => ?_
  obtain ⟨ep, he'⟩ := PyProof.Rows.sortedAll_at s.heap its out.toArray
  have isO : ∀ v ∈ out, ∃ x t, v = Value.str x t := fun v hv => hI.all v (h2.perm.mem_iff.mp hv)
  have hO := strsAre_map out isO
  have pt : (out.map strOf).Perm xs := by
    have := h2.perm.map strOf
    rwa [show its.map strOf = xs from hI.strs] at this
  have hlen : ((out.map strOf).map V.str).length ≤ sizeLine := by rw [List.length_map, pt.length_eq]; exact hz
  refine ⟨.ref _, upd H (s.heap.objs.size + 1) (.lst ((out.map strOf).map V.str)), I.laid (t' := s.toks) (fun _ _ => PyProof.Rows.sortedAll_old) (Nat.le_succ _) ⟨hlen, out, ep, vals_of_strs hO, he'⟩, rfl, q _ _ pt (srtd_map h1) (I.hok.fresh (Nat.le_succ _))⟩
end
end L2

namespace L2
open PySem PySem.Spec PyProof.Rows
section
variable {X : Cx}
/-- name = {.. for ..} on one line, the name a local -/
theorem ps_setDc {i : Nat} {y : Str} {py : Pos} {kx vx tg iter : Expr} {ifs : List Expr} {scope : Scope} {own : List (Str × Nat)} {pos spos : Pos} {wi : TI} {g : TG} {tt : TT} {tk tv : TE} (hc : X.calm = true) (hN : X.N.Nodup) (hy : X.N[i]? = some y) (hyl : X.env.scope.names.lookup y = some .local)
    (hsw : swapsWith (.DictComp kx vx [⟨tg, iter, ifs, 0⟩] scope pos) (some (.Name y py)) spos.line X.env = pure true) (hi : PI X tg iter wi) (ok : BlkOk X.N X.env.scope scope own)
    (hg : ∀ (s : Shared) (H : Hp) (C : Addr) (cl : List (Str × Addr)) (fp : List Addr), PG (X.blk s H scope (compEnvC scope cl C X.env) fp) tg g) (ht : ∀ (s : Shared) (H : Hp) (C : Addr) (cl : List (Str × Addr)) (fp : List Addr), PTs (X.blk s H scope (compEnvC scope cl C X.env) fp) ifs tt)
    (hk : ∀ (s : Shared) (H : Hp) (C : Addr) (cl : List (Str × Addr)) (fp : List Addr), PE (X.blk s H scope (compEnvC scope cl C X.env) fp) kx tk)
    (he : ∀ (s : Shared) (H : Hp) (C : Addr) (cl : List (Str × Addr)) (fp : List Addr), PE (X.blk s H scope (compEnvC scope cl C X.env) fp) vx tv) (hs : ∀ x, foldedSetIterable iter X.env x = pure x := by intro _; rfl) :
    PS X (.Assign [.Name y py] (.DictComp kx vx [⟨tg, iter, ifs, 0⟩] scope pos) spos) (tAsg (tDc wi g tt tk tv (own.map (·.2))) (gName i)) := by
  refine ⟨fun pins s σ H D I h => ?_⟩
  rw [exec_Assign_Name_used _ _ _ _ hsw]
  refine wpAny_bind (wpAny_standAt (wpAny_bind ?_))
  show wpAny _ X.A (do let _ ← comprehension (.DictComp kx vx [⟨tg, iter, ifs, 0⟩] scope pos) scope X.env (firstIterPos [⟨tg, iter, ifs, 0⟩] pos) newDict false (eval iter X.env) (some (assign (.Name y py) X.env))) _ _ s
  have h : tDc wi g tt tk tv (own.map (·.2)) σ H (fun x H1 => gName i x σ H1 D.nx) := h
  refine wpAny_bind (thn (dc_core (Qf := fun _ s' => SP X pins D .next s') hc hN I hi ok hg ht hk he hs h fun L C s' m H' I' q hn f => ?_) fun _ s' hq => wpAny_pure (wpAny_pure hq))
  show wpAny _ _ (assign (.Name y py) X.env (.ref L)) _ _ _
  refine wpAny_assign_Name (store_ok2 (v := V.ref L) I' hN hy (.inl hyl) rfl (fun s2 I2 ⟨a, sb, ha⟩ => ?_) (.inr hyl))
  obtain ⟨f0, f1, f2, f3, f4, f5⟩ := f
  have haC : C ≠ a := by
    rcases ha with z | z
    · rw [z]; exact f1
    · exact fun e => f4 y a z e.symm
  refine ⟨m, hn.sameBut sb haC, fun h3 sb3 => ?_⟩
  exact ⟨_, H', I2.turned (t' := s2.toks) (fun b o hb e => (sb3.2 b hb).trans e) f0 f1 f3 f4 f5, q⟩
theorem sw_trueD {kx vx : Expr} {gs : List Comprehension} {scope : Scope} {pos py : Pos} {y : Str} {l : Nat} {env : Env} (hk : env.scope.kind = .function) (hy : env.scope.names.lookup y = some .local) (hl : (py.line == pos.line) = true)
    (ha : (scope.names.any fun (n, k) => n == y && (k == .local || k == .cell)) = false) : swapsWith (.DictComp kx vx gs scope pos) (some (.Name y py)) l env = pure true := by
  have ky : env.kindOf y = some .local := hy
  have hb : env.blockKind = .function := by unfold Env.blockKind; rw [hk]; rfl
  unfold swapsWith
  simp only [hb, ky, ha, Expr.pos, hl]
  rfl
/-- list.count of a text among texts -/
def rCntS (K : PySem.W.Frag) : V → List V → Hp → VK → Prop := fun x xs H Q => ∃ (p : Addr) (ns : List Str) (k : Str), x = .ref p ∧ xs = [.str k] ∧ SqL K H p (ns.map V.str) ∧ Q (.int (ns.count k : Nat)) H
theorem countS_in (k : Str) : ∀ ns : List Str, PySem.Spec.countIn (.str k) (ns.map PyData.str) = (ns.count k : Nat)
  | [] => rfl
  | n :: r => by
    rw [List.map_cons, PySem.Spec.countIn, countS_in k r, List.count_cons]
    simp only [PySem.Spec.same]
    rcases Bool.eq_false_or_eq_true (n == k) with hb | hb <;> simp only [hb, Bool.false_eq_true, if_true, if_false] <;> push_cast <;> omega
theorem mt_lcountS : MtR X "list.count" (rCntS X.K) := by
  intro pins s σ H x xs v us Q I rx rxs h
  obtain ⟨p, ns, k, rfl, rfl, hs, q⟩ := h
  cases rx
  obtain ⟨u, rfl, ru⟩ := rxs.one
  obtain ⟨t, rfl⟩ := ru
  obtain ⟨its, rv, pl, hlen⟩ := I.list hs
  refine count_list_strs (vs := its) pl.isList (strs_of_vals rv) ?_
  rw [countS_in]
  exact ⟨.int (ns.count k : Nat), H, I.tok _, ⟨s.toks, rfl⟩, q⟩
/-- a method within a comprehension: the written part by name -/
theorem pe_bmK {K : PySem.W.Frag} {o e : Expr} {es : List Expr} {to : TE} {t : TA} {name : Str} {apos cpos : Pos} {T id : String} {r : V → List V → Hp → VK → Prop} (pa : PlainAttrs T) (slot : Slot T name id) (hty : typeOf (.builtin id) = pure (.type "method_descriptor")) (hm : MtR X id r) (ho : PE X o to) (ha : PA X (e :: es) t) (hK : X.K = K := by rfl)
    (hbase : attributeBase o name X.env (eval o X.env) = eval o X.env := by rfl)
    (hfew : ((backTo cpos (starEach (e :: es) X.env)).all (fun x => !x.1) && (backToKw cpos (keywordEach [] X.env)).all (fun x => x.1.isSome)
      && decide ((e :: es).length + ([] : List Keyword).length + (if ([] : List Keyword).isEmpty then 0 else 1) < 30)) = true := by rfl)
    (hline : (apos.endLine == cpos.line) = true := by rfl) (hs : starEach (e :: es) X.env = (false, eval e X.env) :: starEach es X.env := by rfl) (hplain : (backTo cpos (starEach es X.env)).any (·.1) = false := by rfl) :
    PE X (.Call (.Attribute o name apos) (e :: es) [] cpos) (tBM K T r to t) := by
  subst hK
  exact pe_bm pa slot hty hm ho ha hbase hfew hline hs hplain
end
end L2

/-! plain tuples: slices of them, their sums, turned round -/
namespace L2
open PySem PySem.Spec PyProof.Rows HT
section
variable {prog : Program} {w : World} {A : Around} {E : Value → Shared → Prop} {s : Shared}
theorem rev_places (n : Nat) : Builtin.Slice.slicePlaces ((n : Int) - 1) (-1) (-1) = n := by
  unfold Builtin.Slice.slicePlaces
  have h1 : ¬ ((-1 : Int) > 0) := by decide
  simp only [h1, if_false, show (- -1 : Int) = 1 by decide, Int.ediv_one]
  split <;> omega
theorem rev_adjust (n : Nat) : Builtin.Slice.sliceAdjust none none (-1) (n : Int) = ((n : Int) - 1, -1) := by
  unfold Builtin.Slice.sliceAdjust
  simp
theorem sliceApplied_rev {sl : Addr} {vs : Value} {n : Nat} {Q : Int × Int × Nat → Shared → Prop} (hs : s.heap.IsSliceOf sl .none .none vs) (ps : IsPart vs (some (-1)))
    (h : Q (((n : Int) - 1), -1, n) s) : wpAny (model prog w) A (Builtin.Slice.sliceApplied (.ref sl) (pure (n : Int))) Q E s := by
  obtain ⟨os, hos, hcs, hds⟩ := id hs
  unfold Builtin.Slice.sliceApplied Builtin.Slice.sliceFields
  refine wpAny_bind (wpAny_bind (wpAny_field hos hds (x := .none) rfl (wpAny_bind (wpAny_field hos hds (x := .none) rfl (wpAny_bind (wpAny_field hos hds (x := vs) rfl (wpAny_pure ?_)))))))
  refine wpAny_bind (slicePart_ ps ?_)
  show wpAny _ _ (if ((-1 : Int) == 0) = true then _ else _) _ _ s
  rw [if_neg (by decide)]
  refine wpAny_bind (slicePart_none (wpAny_bind (slicePart_none (wpAny_bind (wpAny_pure ?_)))))
  show wpAny _ _ (match Builtin.Slice.sliceAdjust none none (-1) (n : Int) with | (lo, hi) => pure (lo, (-1 : Int), Builtin.Slice.slicePlaces lo hi (-1))) _ _ s
  rw [rev_adjust]
  show wpAny _ _ (pure (((n : Int) - 1), (-1 : Int), Builtin.Slice.slicePlaces ((n : Int) - 1) (-1) (-1))) _ _ s
  rw [rev_places]
  exact wpAny_pure h
theorem fm_congr {α β : Type} {f g : α → Option β} : ∀ {l : List α}, (∀ x ∈ l, f x = g x) → l.filterMap f = l.filterMap g
  | [], _ => rfl
  | x :: l, h => by
    rw [List.filterMap_cons, List.filterMap_cons, h x List.mem_cons_self, fm_congr (l := l) fun y hy => h y (List.mem_cons_of_mem _ hy)]
theorem same_fresh {H : Hp} {p : Addr} {u : HO} (h : H p = none) : Same H (upd H p u) := fun b o e => by
  rw [upd_ne (ne_of_none e h)]
  exact e
theorem rev_pick (xs : Array Value) : ((List.range xs.size).filterMap fun (m : Nat) => xs[(((xs.size : Nat) : Int) - 1 + (m : Int) * (-1)).toNat]?).toArray = xs.toList.reverse.toArray := by
  have e1 : ((List.range xs.size).filterMap fun (m : Nat) => xs[(((xs.size : Nat) : Int) - 1 + (m : Int) * (-1)).toNat]?) = (List.range xs.size).filterMap fun (m : Nat) => xs[xs.size - 1 - m]? := by
    refine fm_congr fun m hm => ?_
    have := List.mem_range.mp hm
    rw [show (((xs.size : Nat) : Int) - 1 + (m : Int) * (-1)).toNat = xs.size - 1 - m by omega]
  rw [e1]
  have e2 : ((List.range xs.size).filterMap fun (m : Nat) => xs[xs.size - 1 - m]?) = ((List.range xs.size).map fun k => xs.size - 1 - k).filterMap (xs[·]?) := by
    rw [List.filterMap_map]
    rfl
  rw [e2, PySem.W.krv_range, List.filterMap_reverse, PySem.W.krv_all]
/-- t[::-1] makes a new tuple: the slice is never the whole, for its step is -1 -/
theorem getItem_tuple_rev {t sl : Addr} {its : Array Value} {step : Value} {Q : Value → Shared → Prop} (isT : IsTup s.heap t its) (isSl : s.heap.IsSliceOf sl .none .none step) (minus : IsPart step (some (-1)))
    (q : Q (.ref s.heap.objs.size) { s with heap := s.heap.push { cls := .type "tuple", data := .seq its.toList.reverse.toArray } }) (small : its.size ≤ sizeLine) : wpAny (model prog w) A (getItem (.ref t) (.ref sl)) Q E s := by
  have fits : sizeOk (.seq its.toList.reverse.toArray) := by
    show its.toList.reverse.toArray.size ≤ _
    simpa using small
  have tySl : s.TypeIs (.ref sl) "slice" := let ⟨o, g, c, _⟩ := isSl; ⟨o, g, c⟩
  have notWhole : (((((its.size : Nat) : Int) - 1) == 0 && (-1 : Int) == 1) && its.size == its.size) = false := by simp
  unfold getItem
  try with_reducible refine wpAny_holding ?_
  try refine wpAny_bind (wpAny_pure ?_)
  refine wpAny_bind (wpAny_sequenceKey isT.typeIs (by decide) (wpAny_bind (wpAny_callSpecial?_slot (name := Str.ofString "__getitem__") isT.typeIs PyProof.Rows.slot_tuple_getitem (wpAny_call_entry PyProof.Rows.slot_tuple_getitem isT.typeIs entry_tuple_getitem ?_ (args_tuple_getitem _ _)))))
  show wpAny _ _ (Builtin.Tuple.tupleItemsOf (.ref t) >>= _) _ _ s
  refine wpAny_bind (tupleItemsOf_ isT (wpAny_bind (wpAny_typeOf tySl ?_)))
  rw [if_pos (by decide)]
  refine wpAny_bind (sliceApplied_rev isSl minus ?_)
  show wpAny _ _ (if ((((its.size : Nat) : Int) - 1) == 0 && (-1 : Int) == 1 && its.size == its.size) = true then _ else _) _ _ s
  rw [notWhole, if_neg (by decide), rev_pick]
  first
    | exact wpAny_bind (m := Builtin.Tuple.tupleExact _) (wpAny_newObj_type (wpAny_pure ⟨_, rfl, wpAny_pure q⟩) fits)
    | exact wpAny_bind (wpAny_bind (m := Builtin.Tuple.tupleExact _) (wpAny_newObj_type (wpAny_pure (wpAny_pure ⟨_, rfl, wpAny_pure q⟩)) fits))
    | exact wpAny_bind (wpAny_bind (m := Builtin.Tuple.tupleExact _) (wpAny_newObj_type (wpAny_pure ⟨_, rfl, wpAny_pure q⟩) fits))
end
section
variable {X : Cx}
/-- t[::-1], a plain tuple -/
def tRevP (K : PySem.W.Frag) (te : TE) : TE := fun σ H Q => te σ H fun x H1 => ∃ a xs, x = .ref a ∧ SqT K H1 a xs ∧ ∀ p H', Same H1 H' → Ptp H' p xs.reverse → Q (.ref p) H'
theorem pe_revP {e : Expr} {te : TE} {k : Nat} {p1 p2 p3 pos : Pos} (he : PE X e te) : PE X (.Subscript e (.Slice none none (some (.UnaryOp .USub (.Constant (.int 1) k p1) p2)) p3) pos) (tRevP X.K te) := by
  refine ⟨fun pins s σ H Q I h => ?_⟩
  refine Subscript_ (thn (he.run pins s σ H _ I h) fun v s1 ⟨x, H1, I1, r1, q1⟩ => ?_)
  obtain ⟨a, xs, ex, hx, q⟩ := q1
  subst ex
  cases r1
  have hst : PO X (some (.UnaryOp .USub (.Constant (.int 1) k p1) p2)) (tPart (tUn (rU fun i => .int (-i)) (tC (.int 1)))) := po_some (pe_un un_neg pe_int)
  refine wpAny_Slice (thn (po_none.run pins s1 σ H1 (fun o H2 => o = none ∧ H2 = H1) I1 ⟨rfl, rfl⟩) fun vl s2 ⟨l, H2, I2, pl, el, e2⟩ => ?_)
  subst el e2
  refine thn (po_none.run pins s2 σ H2 (fun o H3 => o = none ∧ H3 = H2) I2 ⟨rfl, rfl⟩) fun vu s3 ⟨u, H3, I3, pu, eu, e3⟩ => ?_
  subst eu e3
  refine thn (hst.run pins s3 σ H3 (fun o H4 => o = some (-1) ∧ H4 = H3) I3 ⟨1, rfl, -1, rfl, rfl, rfl⟩) fun vs s4 ⟨o, H4, I4, ps, eo, e4⟩ => ?_
  subst eo e4
  cases pl
  cases pu
  have I5 : Inv X pins σ H4 { s4 with heap := s4.heap.push { cls := .type "slice", data := .fields #[.none, .none, vs] } } := I4.kept (t' := s4.toks) fun b ob q => Heap.get?_push_of_some _ q
  obtain ⟨its, r, ht, hz⟩ := I5.tuple hx
  have hlen := r.length
  show wpAny (model X.prog X.w) X.A (subscriptTail e (.Slice none none (some (.UnaryOp .USub (.Constant (.int 1) k p1) p2)) p3) (.ref a) (.ref s4.heap.objs.size)) (EP X pins σ Q) X.xe { s4 with heap := s4.heap.push { cls := .type "slice", data := .fields #[.none, .none, vs] } }
  refine tail_any (ops := [.ref a, .ref s4.heap.objs.size]) ht.typeIs (PyProof.Rows.slot_tuple_getitem.lookup) ?_ (by with_unfolding_all rfl)
  refine getItem_tuple_rev ht (Heap.IsSliceOf.new _ .none .none vs) ps ?_ (by rw [List.size_toArray]; omega)
  have hf := I5.hok.fresh (Nat.le_refl _)
  refine ⟨.ref _, _, I5.laid (t' := s4.toks) (o := .frz { cls := .type "tuple", data := .seq its.reverse.toArray } (.tup xs.reverse)) (fun b ob q => Heap.get?_push_of_some _ q) (Nat.le_refl _) ?_, rfl, q _ _ (same_fresh hf) ⟨_, upd_same, rfl⟩⟩
  exact ⟨Heap.get?_push_size _ rfl, by rw [List.length_reverse]; exact hz, _, r.reverse, ⟨_, Heap.get?_push_size _ rfl, rfl, _, rfl⟩⟩
/-- t[lo:hi], t a plain tuple: a plain tuple -/
def rSlP (K : PySem.W.Frag) : V → Option Int → Option Int → Hp → VK → Prop := fun x lo hi H Q => ∃ a xs, x = .ref a ∧ Ptp H a xs ∧ ∀ p H', Same H H' → Ptp H' p (cutV xs lo hi) → Q (.ref p) H'
theorem cutV_whole {xs : List V} {lo hi : Option Int} (h : HT.sIx xs.length 0 lo = 0 ∧ HT.sIx xs.length xs.length hi = xs.length) : cutV xs lo hi = xs := by
  unfold cutV
  rw [h.1, h.2, List.drop_zero, Nat.sub_zero, List.take_length]
theorem sl_tupP : SlR X (rSlP X.K) := by
  intro pins s σ H x v vl vu lo hi sl Q I rx hs pl pu h
  obtain ⟨a, xs, rfl, hx, q⟩ := h
  by_cases hw : HT.sIx xs.length 0 lo = 0 ∧ HT.sIx xs.length xs.length hi = xs.length
  · exact sl_tupA pins s σ H _ v vl vu lo hi sl Q I rx hs pl pu ⟨a, xs, rfl, hx.seq, fun _ => q a H (Same.refl H) (by rw [cutV_whole hw]; exact hx), fun n => absurd hw n⟩
  · cases rx
    obtain ⟨its, r, ht, hz⟩ := I.tuple hx.seq
    have hlen : its.toArray.size = xs.length := by rw [List.size_toArray]; exact r.length.symm
    refine ⟨"tuple", _, PyProof.Rows.slot_tuple_getitem.lookup, ht.typeIs, ?_⟩
    refine HT.getItem_tuple_cut ht hs pl pu (by rw [hlen]; exact hw) ?_ (by rw [hlen]; exact hz)
    rw [hlen]
    have hf := I.hok.fresh (Nat.le_refl _)
    refine ⟨.ref s.heap.objs.size, _, I.laid (t' := s.toks) (o := .frz { cls := .type "tuple", data := .seq ((its.drop (HT.sIx xs.length 0 lo)).take (HT.sIx xs.length xs.length hi - HT.sIx xs.length 0 lo)).toArray } (.tup (cutV xs lo hi))) (fun b ob q => Heap.get?_push_of_some _ q) (Nat.le_refl _) ?_, rfl, q _ _ (same_fresh hf) ⟨_, upd_same, rfl⟩⟩
    exact ⟨Heap.get?_push_size _ rfl, Nat.le_trans (cutV_length xs lo hi) hz, _, (r.drop (HT.sIx xs.length 0 lo)).take (HT.sIx xs.length xs.length hi - HT.sIx xs.length 0 lo), ⟨_, Heap.get?_push_size _ rfl, rfl, _, rfl⟩⟩
/-- t + u, plain tuples: a plain tuple -/
def rCatP (K : PySem.W.Frag) : R2 := fun x y H Q => ∃ a b xs ys, x = .ref a ∧ y = .ref b ∧ Ptp H a xs ∧ Ptp H b ys ∧ xs.length + ys.length ≤ sizeLine ∧ ∀ p H', Same H H' → Ptp H' p (xs ++ ys) → Q (.ref p) H'
theorem op_catP : OpR X (binaryOp .Add) (rCatP X.K) := by
  intro pins s σ H x y v u Q I rx ry h
  obtain ⟨a, b, xs, ys, rfl, rfl, ha, hb, hz, q⟩ := h
  by_cases hx : xs = []
  · subst hx
    exact op_catA pins s σ H _ _ v u Q I rx ry ⟨a, b, [], ys, rfl, rfl, ha.seq, hb.seq, hz, fun _ => q b H (Same.refl H) hb, fun n => absurd rfl n, fun n => absurd rfl n⟩
  · cases rx
    cases ry
    obtain ⟨its, r1, p1, _⟩ := I.tuple ha.seq
    obtain ⟨its2, r2, p2, _⟩ := I.tuple hb.seq
    refine HT.cat_tup p1 p2 (fun z => hx (r1.nil_iff.mp z)) (fun z => ⟨.ref a, H, I, rfl, q a H (Same.refl H) (by rw [r2.nil_iff.mp z, List.append_nil]; exact ha)⟩) (fun z => ?_) (by rw [← r1.length, ← r2.length]; exact hz)
    have hf := I.hok.fresh (Nat.le_refl _)
    refine ⟨.ref s.heap.objs.size, _, I.laid (t' := s.toks) (o := .frz { cls := .type "tuple", data := .seq (its ++ its2).toArray } (.tup (xs ++ ys))) (fun b ob q => Heap.get?_push_of_some _ q) (Nat.le_refl _) ?_, rfl, q _ _ (same_fresh hf) ⟨_, upd_same, rfl⟩⟩
    exact ⟨Heap.get?_push_size _ rfl, by rw [List.length_append]; exact hz, _, r1.append r2, ⟨_, Heap.get?_push_size _ rfl, rfl, _, rfl⟩⟩
end
end L2

namespace PySem.SeqAt
open Builtin
open AutoSeq1 (wpAny_loadPart')
/-! a dict is no text and no tuple -/
theorem dict_no_str (l : Addr) (es : Array DictEntry) (n : Nat) (dd : Option Addr) (sl : Array (Option Value)) (i : Str) (u : Tok) :
    Meets (Builtin.«dict.__eq__» ⟨[.ref l, .str i u], []⟩) (fun _ R s => s.heap.get? l = some { cls := .type "dict", dict := dd, data := .dict es n, slots := sl } ∧ R (.ok (.ret .notImplemented)) s) := by
  refine .of_wp fun prog w A R s h => ?_
  obtain ⟨hp, g, d, tk, os⟩ := s
  obtain ⟨hl, h⟩ := h
  have f1 := F.sub_str_dict
  wp_walk using wpAny_loadPart' hl
  exact ⟨_, rfl, h⟩
theorem str_no_dict (l : Addr) (es : Array DictEntry) (n : Nat) (dd : Option Addr) (sl : Array (Option Value)) (i : Str) (u : Tok) :
    Meets (Builtin.«str.__eq__» ⟨[.str i u, .ref l], []⟩) (fun _ R s => s.heap.get? l = some { cls := .type "dict", dict := dd, data := .dict es n, slots := sl } ∧ R (.ok (.ret .notImplemented)) s) := by
  refine .of_wp fun prog w A R s h => ?_
  obtain ⟨hp, g, d, tk, os⟩ := s
  obtain ⟨hl, h⟩ := h
  wp_walk using wpAny_loadPart' hl, wpAny_load hl
  exact ⟨_, rfl, h⟩
theorem dict_no_tuple (l b : Addr) (es : Array DictEntry) (items2 : Array Value) (n n2 : Nat) (dd dd2 : Option Addr) (sl sl2 : Array (Option Value)) :
    Meets (Builtin.«dict.__eq__» ⟨[.ref l, .ref b], []⟩) (fun _ R s => s.heap.get? l = some { cls := .type "dict", dict := dd, data := .dict es n, slots := sl } ∧ s.heap.get? b = some { cls := .type "tuple", dict := dd2, data := .seq items2 n2, slots := sl2 } ∧ R (.ok (.ret .notImplemented)) s) := by
  refine .of_wp fun prog w A R s h => ?_
  obtain ⟨hp, g, d, tk, os⟩ := s
  obtain ⟨hl, hb, h⟩ := h
  have f1 := F.sub_tuple_dict
  wp_walk using wpAny_loadPart' hl, wpAny_loadPart' hb
  exact ⟨_, rfl, h⟩
theorem tuple_no_dict (l b : Addr) (items : Array Value) (es : Array DictEntry) (n n2 : Nat) (dd dd2 : Option Addr) (sl sl2 : Array (Option Value)) :
    Meets (Builtin.«tuple.__eq__» ⟨[.ref l, .ref b], []⟩) (fun _ R s => s.heap.get? l = some { cls := .type "tuple", dict := dd, data := .seq items n, slots := sl } ∧ s.heap.get? b = some { cls := .type "dict", dict := dd2, data := .dict es n2, slots := sl2 } ∧ R (.ok (.ret .notImplemented)) s) := by
  refine .of_wp fun prog w A R s h => ?_
  obtain ⟨hp, g, d, tk, os⟩ := s
  obtain ⟨hl, hb, h⟩ := h
  have f1 := F.sub_dict_tuple
  wp_walk using wpAny_loadPart' hl, wpAny_loadPart' hb
  exact ⟨_, rfl, h⟩
section
variable {A : Around} {s : Shared}
theorem RcAt.dict_str {l : Addr} {es : Array DictEntry} {n : Nat} {dd : Option Addr} {sl : Array (Option Value)} (b : Str) (u : Tok) (ho : s.heap.get? l = some { cls := .type "dict", dict := dd, data := .dict es n, slots := sl }) (hu : A.units < cLine) : RcAt A s (.ref l) (.str b u) false := fun prog w E Q h =>
  rc_eq_decline_or (k := false) ⟨_, ho, rfl⟩ (typeIs_str s b u) (by decide) F.sub_str_dict F.slot_dict_eq F.slot_str_eq_refl
    (fun _ hq => call_meets F.slot_dict_eq ⟨_, ho, rfl⟩ F.entry_dict_eq (F.args_dict_eq_2 _ _) (dict_no_str l es n dd sl b u) ⟨ho, hq⟩)
    (fun _ hq => call_meets F.slot_str_eq_refl (typeIs_str s b u) F.entry_str_eq (F.args_str_eq_2 _ _) (str_no_dict l es n dd sl b u) ⟨ho, hq⟩)
    (fun _ hq => wpAny_of_eq (rfl : isSame (.ref l) (.str b u) = pure false) hq) (.inr hu) h
theorem EqAt.dict_str {l : Addr} {es : Array DictEntry} {n : Nat} {dd : Option Addr} {sl : Array (Option Value)} (b : Str) (u : Tok) (ho : s.heap.get? l = some { cls := .type "dict", dict := dd, data := .dict es n, slots := sl }) (hu : A.units < cLine) : EqAt A s (.ref l) (.str b u) false := fun prog w E Q h => by
  unfold eqBool
  refine wpAny_holding ?_
  refine wpAny_ite_split (fun hab => absurd (eq_of_beq hab) nofun) (fun _ => ?_)
  exact wpAny_bind (RcAt.dict_str b u ho hu prog w E _ (wpAny_truthy_bool h))
theorem RcAt.dict_tuple {l b : Addr} {es : Array DictEntry} {n : Nat} {dd : Option Addr} {sl : Array (Option Value)} {items2 : Array Value} (ho : s.heap.get? l = some { cls := .type "dict", dict := dd, data := .dict es n, slots := sl }) (hb : s.heap.IsTuple b items2) (hu : A.units < cLine) : RcAt A s (.ref l) (.ref b) false := fun prog w E Q h => by
  obtain ⟨⟨cls2, dd2, data2, sl2⟩, ho2, hc2, n2, hd2⟩ := id hb
  simp only at hc2 hd2
  subst hc2 hd2
  have hne : l ≠ b := fun e => by
    subst e
    rw [ho] at ho2
    exact absurd ho2 (by simp)
  exact (rc_eq_decline_or (k := false) ⟨_, ho, rfl⟩ ⟨_, ho2, rfl⟩ (by decide) F.sub_tuple_dict F.slot_dict_eq F.slot_tuple_eq_refl
    (fun _ hq => call_meets F.slot_dict_eq ⟨_, ho, rfl⟩ F.entry_dict_eq (F.args_dict_eq_2 _ _) (dict_no_tuple l b es items2 n n2 dd dd2 sl sl2) ⟨ho, ho2, hq⟩)
    (fun _ hq => call_meets F.slot_tuple_eq_refl ⟨_, ho2, rfl⟩ F.entry_tuple_eq (F.args_tuple_eq_2 _ _) (tuple_no_dict b l items2 es n2 n dd2 dd sl2 sl) ⟨ho2, ho, hq⟩)
    (fun _ hq => wpAny_isSame_ref_other hne ho ho2 (by simp) hq) (.inr hu) h)
end
end PySem.SeqAt
namespace L2
open PySem PySem.Spec PyProof.Rows Builtin
variable {X : Cx} {pins : List (Addr × Obj)} {σ : St} {H : Hp} {s : Shared}
/-! anything against a text -/
def EqS (K : PySem.W.Frag) (H : Hp) (x : V) (z : Str) (c : Bool) : Prop :=
  (x = .non ∧ c = false) ∨ (∃ i, x = .int i ∧ c = false) ∨ (∃ b, x = .bl b ∧ c = false) ∨ (∃ y, x = .str y ∧ c = decide (y = z)) ∨
  ∃ a, x = .ref a ∧ c = false ∧ ((∃ xs, SqL K H a xs) ∨ (∃ xs, SqT K H a xs) ∨ ∃ k, H a = some (.dK k))
theorem dict_at (I : Inv X pins σ H s) {a : Addr} {k : List (Key × V)} (e : H a = some (.dK k)) : ∃ es n dd sl, s.heap.get? a = some { cls := .type "dict", dict := dd, data := .dict es n, slots := sl } := by
  obtain ⟨_, low, vs, _, dd⟩ := (show ObjOk X.prog X.w H s.heap a (.dK k) from I.hok a _ e)
  obtain ⟨o, es, n, ho, shape, r⟩ := dd
  obtain ⟨cls, dct, data, sl⟩ := o
  obtain ⟨c1, c2, c3⟩ := shape
  obtain ⟨c4, _⟩ := r
  simp only at c1 c4
  subst c1 c4
  exact ⟨es, n, dct, sl, ho⟩
theorem str_dec (y z : Str) : (y == z) = decide (y = z) := by
  by_cases h : y = z
  · rw [decide_eq_true h, h]
    exact beq_self_eq_true z
  · rw [decide_eq_false h]
    exact beq_eq_false_iff_ne.mpr h
theorem EqS.rc (I : Inv X pins σ H s) {A : Around} (hu : A.units < cLine) {x : V} {v : Value} {z : Str} {t : Tok} {c : Bool} (h : EqS X.K H x z c) (r : RelV x v) : SeqAt.RcAt A s v (.str z t) c := by
  rcases h with ⟨rfl, rfl⟩ | ⟨i, rfl, rfl⟩ | ⟨b, rfl, rfl⟩ | ⟨y, rfl, rfl⟩ | ⟨a, rfl, rfl, h⟩
  · cases (show v = Value.none from r)
    exact SeqAt.RcAt.none_str z t
  · obtain ⟨t', rfl⟩ := r
    exact SeqAt.RcAt.int_str i t' z t
  · cases (show v = Value.bool b from r)
    exact SeqAt.RcAt.bool_str b z t
  · obtain ⟨t', rfl⟩ := r
    rw [← str_dec]
    exact SeqAt.RcAt.str_str y t' z t
  · cases (show v = Value.ref a from r)
    rcases h with ⟨xs, h⟩ | ⟨xs, h⟩ | ⟨k, h⟩
    · obtain ⟨its, _, p, _⟩ := I.list h
      exact SeqAt.RcAt.list_str z t p.isList hu
    · obtain ⟨its, _, p, _⟩ := I.tuple h
      exact SeqAt.RcAt.tuple_str z t p hu
    · obtain ⟨es, n, dd, sl, ho⟩ := dict_at I h
      exact SeqAt.RcAt.dict_str z t ho hu
theorem EqS.eq (I : Inv X pins σ H s) {A : Around} (hu : A.units < cLine) {x : V} {v : Value} {z : Str} {t : Tok} {c : Bool} (h : EqS X.K H x z c) (r : RelV x v) : SeqAt.EqAt A s v (.str z t) c := by
  rcases h with ⟨rfl, rfl⟩ | ⟨i, rfl, rfl⟩ | ⟨b, rfl, rfl⟩ | ⟨y, rfl, rfl⟩ | ⟨a, rfl, rfl, h⟩
  · cases (show v = Value.none from r)
    exact SeqAt.EqAt.none_str z t
  · obtain ⟨t', rfl⟩ := r
    exact SeqAt.EqAt.int_str i t' z t
  · cases (show v = Value.bool b from r)
    exact SeqAt.EqAt.bool_str b z t
  · obtain ⟨t', rfl⟩ := r
    rw [← str_dec]
    exact SeqAt.EqAt.str_str y t' z t
  · cases (show v = Value.ref a from r)
    rcases h with ⟨xs, h⟩ | ⟨xs, h⟩ | ⟨k, h⟩
    · obtain ⟨its, _, p, _⟩ := I.list h
      exact SeqAt.EqAt.list_str z t p.isList hu
    · obtain ⟨its, _, p, _⟩ := I.tuple h
      exact SeqAt.EqAt.tuple_str z t p hu
    · obtain ⟨es, n, dd, sl, ho⟩ := dict_at I h
      exact SeqAt.EqAt.dict_str z t ho hu
/-- anything == a text -/
theorem op_eqS {K : PySem.W.Frag} (hK : X.K = K) (hu : X.A.units + 64 < cLine) : OpR X (compareOp .Eq) (fun x y H Q => ∃ z c, y = .str z ∧ EqS K H x z c ∧ Q (.bl c) H) := by
  subst hK
  intro pins s σ H x y v u Q I rx ry h
  obtain ⟨z, c, rfl, e, q⟩ := h
  obtain ⟨t, rfl⟩ := ry
  exact EqS.rc I (by omega) e rx _ _ _ _ ⟨.bl c, H, I, rfl, q⟩
/-! anything against a tuple of one text -/
def EqT (K : PySem.W.Frag) (H : Hp) (x : V) (z : Str) (c : Bool) : Prop :=
  (c = false ∧ (x = .non ∨ (∃ i, x = .int i) ∨ (∃ b, x = .bl b) ∨ ∃ y, x = .str y)) ∨
  ∃ a, x = .ref a ∧ ((c = false ∧ ((∃ xs, SqL K H a xs) ∨ ∃ k, H a = some (.dK k))) ∨ (∃ xs, SqT K H a xs ∧ ((xs = [] ∧ c = false) ∨ ∃ x0 r c0, xs = x0 :: r ∧ EqS K H x0 z c0 ∧ c = (c0 && decide (r = []))))) 
theorem vals_nil {its : List Value} (h : Vals [] its) : its = [] := by cases h; rfl
theorem vals_cons {x : V} {xs : List V} {its : List Value} (h : Vals (x :: xs) its) : ∃ v r, its = v :: r ∧ RelV x v ∧ Vals xs r := by
  cases h with
  | cons h t => exact ⟨_, _, rfl, h, t⟩
theorem EqT.rc (I : Inv X pins σ H s) {A : Around} (hu : A.units + 64 < cLine) (hu1 : A.in1.units < cLine) {x : V} {v : Value} {b : Addr} {z : Str} {c : Bool} (h : EqT X.K H x z c) (r : RelV x v) (hb : SqT X.K H b [.str z]) : SeqAt.RcAt A s v (.ref b) c := by
  obtain ⟨its2, rv2, p2, _⟩ := I.tuple hb
  have hu0 : A.units < cLine := by omega
  obtain ⟨w2, r2, rfl, rz, rr⟩ := vals_cons rv2
  obtain rfl := vals_nil rr
  obtain ⟨t, rfl⟩ := rz
  rcases h with ⟨rfl, h⟩ | ⟨a, rfl, h⟩
  · rcases h with rfl | ⟨i, rfl⟩ | ⟨j, rfl⟩ | ⟨y, rfl⟩
    · cases (show v = Value.none from r)
      exact SeqAt.RcAt.none_tuple p2 hu0
    · obtain ⟨t', rfl⟩ := r
      exact SeqAt.RcAt.int_tuple i t' p2 hu0
    · cases (show v = Value.bool j from r)
      exact SeqAt.RcAt.bool_tuple j p2 hu0
    · obtain ⟨t', rfl⟩ := r
      exact SeqAt.RcAt.str_tuple y t' p2 hu0
  · cases (show v = Value.ref a from r)
    rcases h with ⟨rfl, ⟨xs, h⟩ | ⟨k, h⟩⟩ | ⟨xs, hx, h⟩
    · obtain ⟨its, _, p, _⟩ := I.list h
      exact SeqAt.RcAt.list_tuple p.isList p2 hu0
    · obtain ⟨es, n, dd, sl, ho⟩ := dict_at I h
      exact SeqAt.RcAt.dict_tuple ho p2 hu0
    · obtain ⟨its, rv, p, _⟩ := I.tuple hx
      rcases h with ⟨rfl, rfl⟩ | ⟨x0, rs, c0, rfl, e0, rfl⟩
      · obtain rfl := vals_nil rv
        have := SeqAt.RcAt.tuples (e := fun _ => false) p p2 hu0 (fun j j1 j2 => absurd j1 (by simp))
        exact this
      · obtain ⟨v0, r0, rfl, rel0, rrs⟩ := vals_cons rv
        have := SeqAt.RcAt.tuples (A := A) (e := fun _ => c0) p p2 hu0 (fun j j1 j2 => by
          have j0 : j = 0 := by simpa using j2
          subst j0
          exact EqS.eq I hu1 e0 rel0)
        have l1 : rs.length = r0.length := Paired.length rrs
        have e2 : ((List.range (min (v0 :: r0).toArray.size [Value.str z t].toArray.size)).all (fun _ => c0) && (v0 :: r0).toArray.size == [Value.str z t].toArray.size) = (c0 && decide (rs = [])) := by
          cases rs with
          | nil =>
            cases r0 with
            | nil => simp
            | cons _ _ => simp at l1
          | cons y ys =>
            cases r0 with
            | nil => simp at l1
            | cons _ _ => simp
        rw [e2] at this
        exact this
/-- anything == a tuple of one text -/
theorem op_eqT {K : PySem.W.Frag} (hK : X.K = K) (hu : X.A.units + 64 < cLine) : OpR X (compareOp .Eq) (fun x y H Q => ∃ b z c, y = .ref b ∧ SqT K H b [.str z] ∧ EqT K H x z c ∧ Q (.bl c) H) := by
  subst hK
  intro pins s σ H x y v u Q I rx ry h
  obtain ⟨b, z, c, rfl, hb, e, q⟩ := h
  cases (show u = Value.ref b from ry)
  exact EqT.rc I hu (by have : X.A.in1.units ≤ X.A.units + 1 := by simp [Around.in1, Around.units]
                        omega) e rx hb _ _ _ _ ⟨.bl c, H, I, rfl, q⟩
end L2

namespace Kb
open PySem PySem.Spec PyProof.Rows L2
/-! try: .. except A as n: .. except ..: where each error of the body is A's -/
def wFirst (K : PySem.W.Frag) (c : Value) (i : Nat) (ts : Addr → Value → Option Addr → TS) (D : Ends) : WX := fun cls d σ H =>
  PySem.W.exmOne K cls c = some true ∧ ∀ a, H a = none → ts a cls d { nx := fun σ' H' => D.nx (σ'.set i none) H', rt := D.rt, bk := fun σ' H' => D.bk (σ'.set i none) H', ct := fun σ' H' => D.ct (σ'.set i none) H' } (σ.set i (some (.ref a))) H
section
variable {X : Cx} {x n : Str} {c : Value} {i : Nat} {body rest : List Stmt} {first : Stmt} {more : List ExceptHandler} {np pos hpos : Pos} {tb : WX → TS} {ts : Addr → Value → Option Addr → TS}
theorem ps_try_first (stk : X.stack = X.env :: X.outer) (frm : X.env.frame = some X.env.locals) (nd : X.N.Nodup) (at_ : X.N[i]? = some n) (loc : X.env.kindOf n = some .local) (nam : Names X x c)
    (runs : ∀ (W : WX) (pn : List (Addr × Obj)) (way : Value → Shared → Prop), L2.Takes (X.tr pn way) W → PassesOwn (model X.prog X.w) X.A X.env way → PSs (X.tr pn way) body (tb W))
    (caught : ∀ (a : Addr) (oe : Obj) (cls : Value) (d : Option Addr) (pn : List (Addr × Obj)), Zc cls d oe → (∃ vs, oe.data = .fields vs) → PSs (X.suite a ((a, oe) :: pn)) (first :: rest) (ts a cls d)) :
    PS X (.Try body (.ExceptHandler (some (.Name x np)) (some n) (first :: rest) hpos :: more) [] [] pos) (fun D σ H => tb (wFirst X.K c i ts D) D σ H) := by
  refine ⟨fun pins s σ H D I reads => ?_⟩
  have good := I.ok
  have fr : X.A.frames = some (X.env :: X.outer) := by rw [good.frames, stk]
  refine wpAny_Try_except ?_
  have whole := (runs (wFirst X.K c i ts D) (X.pn ++ pins) (fun e t1 => wpAny (model X.prog X.w) X.A (noteFrame e X.env) (fun _ t2 => wpAny (model X.prog X.w) X.A (setFlight e none) (fun _ t3 =>
    wpAny (model X.prog X.w) X.A (handleBy e X.env (.ExceptHandler (some (.Name x np)) (some n) (first :: rest) hpos :: more)) (SP X pins D) X.xe t3) X.xe t2) X.xe t1) (fun u s' air => ?_) PassesOwn.looking).run [] s σ H D (I.toTry _) reads
  · refine wpAny_mono whole (fun fl s1 got => ?_) fun _ _ z => z
    cases fl with
    | next => exact wpAny_execs_nil (let ⟨σ', H', J, q⟩ := got; ⟨σ', H', J.ofTry good, q⟩)
    | brk => exact let ⟨σ', H', J, q⟩ := got; ⟨σ', H', J.ofTry good, q⟩
    | cont => exact let ⟨σ', H', J, q⟩ := got; ⟨σ', H', J.ofTry good, q⟩
    | ret u => exact let ⟨v, σ', H', J, r, q⟩ := got; ⟨v, σ', H', J.ofTry good, r, q⟩
  · obtain ⟨a, B, sI, pins1, σ1, H1, cls, d, eu, J0, ground, up, sky, na, os, ag, yes, suite⟩ := air
    subst eu
    have J : L2.Inv X pins σ1 H1 sI := J0.ofTry good
    have sky : Sky B X.stack a (Zc cls d) X.env.locals s'.heap := sky
    rw [stk] at sky
    show wpAny (model X.prog X.w) X.A (noteFrame (.ref a) X.env) _ _ s'
    refine Sky.land Zc.steady fr frm sky fun g3 fly3 up3 => ?_
    have J3 : L2.Inv X pins σ1 H1 { s' with heap := g3 } := J.landed ground fly3.1 (up.trans up3) os ag
    obtain ⟨o3, v3, e3, z3, d3⟩ := fly3.there
    have offFrames : a ∉ frs (X.env :: X.outer) := fun hm => by
      obtain ⟨_, o', e', nofields⟩ := fly3.2.2.1.mem hm
      rw [e3] at e'
      cases e'
      exact nofields _ d3
    have offL : a ≠ X.env.locals := fun z => offFrames (List.mem_filterMap.mpr ⟨X.env, List.mem_cons_self, by rw [frm, z]⟩)
    have offF : a ∉ X.fs := fun hm => by
      obtain ⟨e, he, q⟩ := List.mem_filterMap.mp hm
      exact offFrames (List.mem_filterMap.mpr ⟨e, List.mem_cons_of_mem _ he, q⟩)
    have in3 := J3.suite e3 d3 na offL offF
    refine wpAny_handleBy_cons (codeAny_handlers_test ?_) (by intro q; cases q)
    have its : PySem.W.Looks (model X.prog X.w) g3 (typeOf (.ref a)) cls := fun _ _ _ _ keep q => wpAny_typeOf_ref (keep _ _ e3) (by rw [z3.1]; exact q)
    have asks := PySem.W.exm_one (M := model X.prog X.w) J3.kIn its yes
    have named : ∀ {R : Value → Shared → Prop} {way : Value → Shared → Prop}, R c { s' with heap := g3 } → wpAny (model X.prog X.w) (X.A.mark (some (.ref a))) (eval (.Name x np) X.env) R way { s' with heap := g3 } := fun {R way} q =>
      match nam with
      | ⟨gl, nodebug, .inl own⟩ => ld_glob (X := X.suite a ((a, o3) :: (X.pn ++ pins))) in3 gl own q nodebug
      | ⟨gl, nodebug, .inr ⟨none_, boot, nonm⟩⟩ => ld_blt (X := X.suite a ((a, o3) :: (X.pn ++ pins))) in3 gl none_ boot q nonm nodebug
    refine named (asks.here (codeAny_handlers_suite_as (HandSPX.lands_againZ fly3 fun g4 fly4 up4 => ?_)))
    have J4 : L2.Inv X pins σ1 H1 { s' with heap := g4 } := J.landed ground fly4.1 ((up.trans up3).trans up4) os ag
    obtain ⟨o4, v4, e4, z4, d4⟩ := fly4.there
    refine store_ok (X := X.suite a ((a, o4) :: (X.pn ++ pins))) (v := .ref a) (J4.suite e4 d4 na offL offF) nd at_ (.inl loc) rfl (fun s5 in5 => ?_) (.inr loc)
    refine wpAny_mono ((caught a o4 cls d (X.pn ++ pins) z4 ⟨_, d4⟩).run [] s5 _ H1 _ in5 (suite a na)) (fun fl s6 got => ?_) fun _ _ z => z.elim
    have over : ∀ {σ6 : L2.St} {H6 : Hp} {R : Shared → Prop}, L2.Inv (X.suite a ((a, o4) :: (X.pn ++ pins))) [] σ6 H6 s6 → (∀ s7, L2.Inv X pins (σ6.set i none) H6 s7 → R s7) →
        wpAny (model X.prog X.w) X.A (do bindName X.env n .none; unbindBehindTheSuite X.env n hpos) (fun _ s7 => R s7) X.xe s6 := fun in6 q => gone_ok (in6.unsuite good) nd at_ loc q
    cases fl with
    | next => exact let ⟨_, _, in6, q6⟩ := got; over in6 fun _ J7 => ⟨_, _, J7, q6⟩
    | brk => exact let ⟨_, _, in6, q6⟩ := got; over in6 fun _ J7 => ⟨_, _, J7, q6⟩
    | cont => exact let ⟨_, _, in6, q6⟩ := got; over in6 fun _ J7 => ⟨_, _, J7, q6⟩
    | ret u => exact let ⟨_, _, _, in6, r6, q6⟩ := got; over in6 fun _ J7 => ⟨_, _, _, J7, r6, q6⟩
end
end Kb

namespace PySem.SeqAt
open Builtin
section
variable {A : Around} {s : Shared}
theorem RcAt.str_dict {l : Addr} {es : Array DictEntry} {n : Nat} {dd : Option Addr} {sl : Array (Option Value)} (b : Str) (u : Tok) (ho : s.heap.get? l = some { cls := .type "dict", dict := dd, data := .dict es n, slots := sl }) (hu : A.units < cLine) : RcAt A s (.str b u) (.ref l) false := fun prog w E Q h =>
  rc_eq_decline_or (k := false) (typeIs_str s b u) ⟨_, ho, rfl⟩ (by decide) F.sub_dict_str F.slot_str_eq F.slot_dict_eq
    (fun _ hq => call_meets F.slot_str_eq (typeIs_str s b u) F.entry_str_eq (F.args_str_eq_2 _ _) (str_no_dict l es n dd sl b u) ⟨ho, hq⟩)
    (fun _ hq => call_meets F.slot_dict_eq ⟨_, ho, rfl⟩ F.entry_dict_eq (F.args_dict_eq_2 _ _) (dict_no_str l es n dd sl b u) ⟨ho, hq⟩)
    (fun _ hq => wpAny_of_eq (rfl : isSame (.str b u) (.ref l) = pure false) hq) (.inr hu) h
theorem EqAt.str_dict {l : Addr} {es : Array DictEntry} {n : Nat} {dd : Option Addr} {sl : Array (Option Value)} (b : Str) (u : Tok) (ho : s.heap.get? l = some { cls := .type "dict", dict := dd, data := .dict es n, slots := sl }) (hu : A.units < cLine) : EqAt A s (.str b u) (.ref l) false := fun prog w E Q h => by
  unfold eqBool
  refine wpAny_holding ?_
  refine wpAny_ite_split (fun hab => absurd (eq_of_beq hab) nofun) (fun _ => ?_)
  exact wpAny_bind (RcAt.str_dict b u ho hu prog w E _ (wpAny_truthy_bool h))
end
end PySem.SeqAt
namespace L2
open PySem PySem.Spec PyProof.Rows Builtin
variable {X : Cx} {pins : List (Addr × Obj)} {σ : St} {H : Hp} {s : Shared}
/-- a list, tuple or dict in a tuple of texts -/
theorem op_inO {K : PySem.W.Frag} (hK : X.K = K) (hu : X.A.units + 64 < cLine) : OpR X (compareOp .In) (fun x y H Q => ∃ (a p : Addr) (zs : List Str), x = .ref a ∧ y = .ref p ∧ ((∃ xs, SqL K H a xs) ∨ (∃ xs, SqT K H a xs) ∨ ∃ k, H a = some (.dK k)) ∧ SqT K H p (zs.map V.str) ∧ Q (.bl false) H) := by
  subst hK
  intro pins s σ H x y v u Q I rx ry h
  obtain ⟨a, p, zs, rfl, rfl, ha, hp, q⟩ := h
  cases (show v = Value.ref a from rx)
  cases (show u = Value.ref p from ry)
  obtain ⟨its, r, pl, hz⟩ := I.tuple hp
  have hu1 : X.A.in1.units < cLine := by
    have : X.A.in1.units ≤ X.A.units + 1 := by simp [Around.in1, Around.units]
    omega
  have all : ∀ {zs : List Str} {its : List Value}, Vals (zs.map V.str) its → ∀ y ∈ its, ∃ z t, y = Value.str z t := by
    intro zs
    induction zs with
    | nil =>
      intro its r y hy
      cases r
      cases hy
    | cons z zs ih =>
      intro its r y hy
      cases r with
      | cons h t =>
        obtain ⟨tk, rfl⟩ := h
        rcases List.mem_cons.mp hy with rfl | hy
        · exact ⟨z, tk, rfl⟩
        · exact ih t y hy
  refine SeqAt.in_tupleAt (fun _ => false) pl (fun y hy => ?_) ⟨.bl false, H, I, ?_, q⟩
  · obtain ⟨z, t, rfl⟩ := all r y (by simpa using hy)
    rcases ha with ⟨xs, h⟩ | ⟨xs, h⟩ | ⟨k, h⟩
    · obtain ⟨its, _, p, _⟩ := I.list h
      exact SeqAt.EqAt.str_list z t p.isList hu1
    · obtain ⟨its, _, p, _⟩ := I.tuple h
      exact SeqAt.EqAt.str_tuple z t p hu1
    · obtain ⟨es, n, dd, sl, ho⟩ := dict_at I h
      exact SeqAt.EqAt.str_dict z t ho hu1
  · show Value.bool _ = Value.bool false
    congr 1
    simp
/-- a tuple != () -/
theorem op_neT0 {K : PySem.W.Frag} (hK : X.K = K) (hu : X.A.units + 64 < cLine) : OpR X (compareOp .NotEq) (fun x y H Q => ∃ (a b : Addr) (xs : List V), x = .ref a ∧ y = .ref b ∧ SqT K H a xs ∧ SqT K H b [] ∧ Q (.bl (!decide (xs = []))) H) := by
  subst hK
  intro pins s σ H x y v u Q I rx ry h
  obtain ⟨a, b, xs, rfl, rfl, ha, hb, q⟩ := h
  cases (show v = Value.ref a from rx)
  cases (show u = Value.ref b from ry)
  obtain ⟨its, r, p, _⟩ := I.tuple ha
  obtain ⟨its2, r2, p2, _⟩ := I.tuple hb
  obtain rfl := vals_nil r2
  have := SeqAt.RcNeAt.tuples (A := X.A) (e := fun _ => false) p p2 (by omega) (fun j j1 j2 => absurd j2 (by simp))
  have e : (!((List.range (min its.toArray.size ([] : List Value).toArray.size)).all (fun _ => false) && its.toArray.size == ([] : List Value).toArray.size)) = !decide (xs = []) := by
    have hl := r.length
    cases xs with
    | nil =>
      cases its with
      | nil => simp
      | cons _ _ => simp at hl
    | cons _ _ =>
      cases its with
      | nil => simp at hl
      | cons _ _ => simp
  rw [e] at this
  exact this _ _ _ _ ⟨.bl _, H, I, rfl, q⟩
end L2

namespace L2
open PySem PySem.Spec PyProof.Rows
/-! errors as values beside other data -/
/-- a value's type, errors too -/
def TyD (K : PySem.W.Frag) (H : Hp) (v : V) (t : Value) : Prop := TyX K H v t ∨ ∃ a C, v = .ref a ∧ t = .ref C ∧ H a = some (ExO (.ref C) a) ∧ ExcC K C
def rIsD (K : PySem.W.Frag) : List V → Hp → VK → Prop := fun xs H Q => ∃ (x c : V) (t u : Value) (b : Bool), xs = [x, c] ∧ ClsV c u ∧ TyD K H x t ∧ PySem.W.kitOne K t u = some b ∧ Q (.bl b) H
section
variable {X : Cx}
theorem call_isD {K : PySem.W.Frag} (hK : X.K = K) : CallR X (.builtin "isinstance") (rIsD K) := by
  subst hK
  intro pins s σ H xs us Q I r h
  obtain ⟨x, c, t, u, b, rfl, k, ty | ⟨a, C, rfl, rfl, ha, hC⟩, e, q⟩ := h
  · exact call_isi pins s σ H _ us Q I r ⟨x, c, t, u, b, rfl, k, ty, e, q⟩
  · obtain ⟨u1, u2, rfl, r1, r2⟩ := vals2 r
    have e2 := k.eq r2
    subst e2
    cases r1
    obtain ⟨⟨oe, vs, ho, hz, hd, _⟩, _, _⟩ := I.hok a _ ha
    have J : PySem.W.InstAt s.heap a oe C none := by
      obtain ⟨oc, od, oda, osl⟩ := oe
      obtain ⟨h1, h2⟩ := hz
      dsimp only at h1 h2 hd
      subst h1 h2 hd
      exact ⟨ho, rfl, rfl, trivial⟩
    exact PySem.W.kia_one (PySem.W.handS_kitx_exc hC.hg hC.hk hC.hs hC.hd hC.ha hC.hn hC.ht hC.hm) I.kIn J e (fun z => nomatch z) fun tk => ⟨.bl b, H, I.kept (t' := tk) fun _ _ z => z, rfl, q⟩
/-- C(), an own class of errors without own __init__, as a value -/
theorem pe_exc0 {C : Addr} {bmB : List Value} {B newId initId : String} {x : Str} {p pos : Pos} (F : ExcBaseFacts B newId initId bmB) (q : PySem.W.excIn X.K C bmB newId = true) (gC : X.mg x = some (.ref C)) (kC : PySem.W.keepIn X.K (.ref C) = true) (hg : Gl X x) (hdb : (x == ("__debug__" : Str)) = false := by decide) :
    PE X (.Call (.Name x p) [] [] pos) (fun σ H Q => ∀ a, H a = none → Q (.ref a) (upd H a (ExO (.ref C) a))) := by
  refine ⟨fun pins s σ H Q I h => ?_⟩
  refine wpAny_Call_Name_kw (ld_glob I hg gC ?_ hdb)
  refine PySem.W.callWith_K0 I.kIn kC ?_
  obtain ⟨bm, N, nm, qn, bs, hdct, sn, sub, ab, col, dd, k0, k1, k2, k3, k5, mN, hC, hN, hni, T⟩ := exc_obj I.kIn q
  refine wpAny_call_exc_subT F T hC hN hni (fun h' a hm => ?_) (Nat.zero_le _)
  have hn : H a = none := I.hok.gone hm.new
  obtain ⟨t, ht, _, _⟩ := hm.there
  exact ⟨.ref a, upd H a (ExO (.ref C) a), I.laidN hm.keeps hm.new hn (exO_ok ht ⟨rfl, rfl⟩ rfl rfl rfl (show 4 < 6 by decide)), rfl, h a hn⟩
/-- what a raising call wishes, where the store isn't told -/
def EL (n : Nat) (W : WX) : XK := fun c d H => ∀ σ : L2.St, σ.length = n → W c d σ H
theorem passEL {W : WX} {n : Nat} (hn : X.N.length = n) (tk : Takes X W) : Passes (L2.CX X.prog X.w) X (EL n W) := fun pins σ H s e s' I c => tk e s' (XE.of_call I (fun _ _ _ h => h σ (I.len.trans hn)) c)
end
end L2

namespace L2
open PySem PySem.Spec PyProof.Rows RZ
/-- zip of two tuples, turn by turn -/
theorem walk_zipTg {K : PySem.W.Frag} {a b : Addr} {xs ys : List V} {n : Nat} (hn : n = min xs.length ys.length) : Walk (ItzT K a b) n (fun H => SqT K H a xs ∧ SqT K H b ys) (YPair (fun i => xs[i]?) (fun i => ys[i]?)) := by
  subst hn
  refine ⟨fun i _ hi q => ?_, fun _ q => ⟨xs, ys, q.1, q.2, by omega⟩, fun i H v H' _ q y => ?_⟩
  · have h1 : i < xs.length := by omega
    have h2 : i < ys.length := by omega
    exact ⟨xs, ys, xs[i], ys[i], q.1, q.2, by simp [h1], by simp [h2]⟩
  · obtain ⟨T, x, z, h1, h2, h3, h4, h5⟩ := y
    exact ⟨T, x, z, h1, h2, h3, h4 xs q.1, h5 ys q.2⟩
theorem cut_from1 (xs : List V) : cutV xs (some 1) none = xs.drop 1 := by
  have sx1 : HT.sIx xs.length 0 (some 1) = min 1 xs.length := HT.sIx_nat _ _ 1
  unfold cutV
  rw [sx1, HT.sIx_none]
  match xs with
  | [] => rfl
  | z :: r =>
    rw [List.length_cons, show min 1 (r.length + 1) = 1 by omega]
    show List.take (r.length + 1 - 1) r = r
    exact List.take_of_length_le (by omega)
end L2

namespace L2
open PySem PySem.Spec PyProof.Rows
/-- a tuple == () -/
theorem op_eqT0 {X : Cx} {K : PySem.W.Frag} (hK : X.K = K) (hu : X.A.units + 64 < cLine) : OpR X (compareOp .Eq) (fun x y H Q => ∃ (a b : Addr) (xs : List V), x = .ref a ∧ y = .ref b ∧ SqT K H a xs ∧ SqT K H b [] ∧ Q (.bl (decide (xs = []))) H) := by
  subst hK
  intro pins s σ H x y v u Q I rx ry h
  obtain ⟨a, b, xs, rfl, rfl, ha, hb, q⟩ := h
  cases (show v = Value.ref a from rx)
  cases (show u = Value.ref b from ry)
  obtain ⟨its, r, p, _⟩ := I.tuple ha
  obtain ⟨its2, r2, p2, _⟩ := I.tuple hb
  obtain rfl := vals_nil r2
  have := SeqAt.RcAt.tuples (A := X.A) (e := fun _ => false) p p2 (by omega) (fun j j1 j2 => absurd j2 (by simp))
  have e : ((List.range (min its.toArray.size ([] : List Value).toArray.size)).all (fun _ => false) && its.toArray.size == ([] : List Value).toArray.size) = decide (xs = []) := by
    have hl := r.length
    cases xs with
    | nil =>
      cases its with
      | nil => simp
      | cons _ _ => simp at hl
    | cons _ _ =>
      cases its with
      | nil => simp at hl
      | cons _ _ => simp
  rw [e] at this
  exact this _ _ _ _ ⟨.bl _, H, I, rfl, q⟩
end L2

namespace L2
open PySem PySem.Spec PyProof.Rows
section
variable {X : Cx}
/-- repr of data: what it shows -/
def rRepr (K : PySem.W.Frag) : List V → Hp → VK → Prop := fun vs H Q => ∃ (v : V) (d : PyData), vs = [v] ∧ Dp K H v d ∧ d.showable = true ∧ d.hasDict = false ∧ d.depth ≤ 60 ∧ (∀ i, v = .int i → i.natAbs.log2 < 1920) ∧ d.shown.length ≤ sizeLine ∧ Q (.str d.shown) H
theorem call_reprD (hg : X.A.guards = some []) (hu : X.A.units + 64 < cLine) : CallR X (.builtin "repr") (rRepr X.K) := by
  intro pins s σ H xs us Q I r h
  obtain ⟨v, d, rfl, hd, hs, hn, hz, hi, hl, q⟩ := h
  obtain ⟨u, rfl, ru⟩ := vals1 r
  obtain ⟨as, rd⟩ := Dp.reads I d v u hd ru
  cases hd with
  | non =>
    cases ru
    rw [PyData.shown_none] at q
    exact PySem.P.repr_of_none ⟨.str _, H, I.tok _, ⟨_, rfl⟩, q⟩
  | bl b =>
    cases ru
    rw [PyData.shown_bool] at q
    exact PySem.P.repr_of_bool ⟨.str _, H, I.tok _, ⟨_, rfl⟩, by cases b <;> exact q⟩
  | int i =>
    obtain ⟨t, rfl⟩ := ru
    rw [PyData.shown_int] at q
    exact PySem.P.repr_of_int (hi i rfl) ⟨.str _, H, I.tok _, ⟨_, rfl⟩, q⟩
  | str x =>
    obtain ⟨t, rfl⟩ := ru
    rw [PyData.shown_str] at q hl
    exact PySem.P.repr_of_str ⟨.str _, H, I.tok _, ⟨_, rfl⟩, q⟩ hl
  | lst h1 h2 =>
    cases ru
    exact repr_of_reads' rd hs (fun z => by rw [hn] at z; cases z) hg (by omega) (fun _ _ e => e) (fun h' u tk hk => ⟨.str _, H, I.kept hk, ⟨_, rfl⟩, q⟩) hl
  | tup h1 h2 =>
    cases ru
    exact repr_of_reads' rd hs (fun z => by rw [hn] at z; cases z) hg (by omega) (fun _ _ e => e) (fun h' u tk hk => ⟨.str _, H, I.kept hk, ⟨_, rfl⟩, q⟩) hl
end
end L2

namespace L2
open PySem PySem.Spec PyProof.Rows
/-! a law's own def, called from the top: nothing is being shown there -/
abbrev AllTrue : VK := fun r _ => r = .bl true
abbrev NoErr : XK := fun _ _ _ => False
/-- the def f keeps its promise where the claim's caller calls it with one thing -/
def TopOk (P : Program) (w : World) (K : PySem.W.Frag) (mg : Str → Option Value) (f : Addr) (fd : FuncData) (x : Str) (sp : Sp) : Prop :=
  ∀ (base : Heap) (s : Shared) (H : Hp) (u : Value) (v : V), Env0 P w K mg base callerA [] s H → RelV v u →
    BindsTo s fd ⟨[u], []⟩ [(x, u)] → sp [v] H AllTrue NoErr → codeAny (model P w) callerA (.call (.ref f) ⟨[u], []⟩) (CR CX0 [] P w H s AllTrue NoErr) s
/-- .. out of its body, read where no guard stands -/
theorem top_of {P : Program} {w : World} {K : PySem.W.Frag} {mg : Str → Option Value} {f : Addr} {fd : FuncData} {nm qual x : Str} {st : Stmt} {N : List Str} {k : Nat} {sp : Sp}
    (F : Fun K nm qual st f fd) (S : FnScope N [x] (defScope st)) (room : Room (k + 1) callerA)
    (body : ∀ (base : Heap) (cdv : Value) (A : Around) (s : Shared) (H : Hp) (v : V), A.guards = some [] → Room k (A.deeper (envOfC qual (defScope st) s.heap.objs.size f cdv)) → sp [v] H AllTrue NoErr →
      ∃ t, PSs (cxOf CX0 P w K mg base N qual (defScope st) f cdv A [] s H NoErr).nox (defBody st) t ∧
        t { nx := fun _ H1 => AllTrue .non H1, rt := AllTrue } (start N [v]) H) :
    TopOk P w K mg f fd x sp := by
  intro base s H u v e0 rv binds hsp
  obtain ⟨oc, od, kV, doc, pm, an, cdv, ct, osl, rfl, lk, known⟩ := F.ex
  have inH : ∀ b o, base.get? b = some o → s.heap.get? b = some o := fun b o q => (e0.bs b o q).1
  have lim := e0.mod.nolimit.keeps inH
  have here := e0.mod.kin.keeps inH
  obtain ⟨t, reads, ends⟩ := body base cdv callerA s H v rfl (room.deeper _) hsp
  refine codeAny_call_function room.depth (here _ _ lk) rfl S.co S.gen rfl (PySem.W.codeRec_of here known) (binds _ _ _ _ ?_)
  refine wpAny_newFunctionEnv_cells S.kind (fun y hy => ?_) fun env same s1 entered => ?_
  · cases List.mem_singleton.mp hy
    refine (S.par x List.mem_cons_self).imp id fun q => ⟨q, ?_⟩
    exact PySem.W.cellsFrom_some _ _ _ (.inl q)
  · cases same
    have I := inv_start (CX := CX0) (E := NoErr) (us := [u]) (vs := [v]) S room.hd e0 rfl (.cons rv .nil) entered
    refine ⟨lim.keeps entered.toInCall.keep, codeAny_func ?_⟩
    refine wpAny_mono (reads.nox.run [] s1 (start N [v]) H _ I ends) (fun fl s2 got => ?_) fun _ _ z => z
    match fl, got with
    | .ret _, ⟨r, _, H2, J, rr, q⟩ => exact ⟨r, H2, J.os, J.bare, J.base, J.hok, rr, q⟩
    | .next, ⟨_, H2, J, q⟩ => exact ⟨.non, H2, J.os, J.bare, J.base, J.hok, rfl, q⟩
    | .brk, ⟨_, _, _, q⟩ => exact q.elim
    | .cont, ⟨_, _, _, q⟩ => exact q.elim
/-- the script, where the module doesn't have it itself -/
def oneS (a : Addr) (vs : List Value) (ns : List Int) : Hp := fun b => if b = a then some (.frz { cls := .type "list", data := .seq vs.toArray } (.lst (ns.map V.int))) else none
theorem oneS_is {a b : Addr} {vs : List Value} {ns : List Int} {u : HO} (h : oneS a vs ns b = some u) : b = a ∧ u = .frz { cls := .type "list", data := .seq vs.toArray } (.lst (ns.map V.int)) := by
  unfold oneS at h
  split at h
  · exact ⟨‹_›, (Option.some.inj h).symm⟩
  · cases h
/-- a start for the law's def: what it tracks is the script or nothing -/
theorem top_run {P : Program} {w : World} {K : PySem.W.Frag} {mg mb : Str → Option Value} {f a : Addr} {fd : FuncData} {x : Str} {sp : Sp} {s : Shared} {vs : List Value} {H : Hp}
    (inK : K.In s.heap) (globals : s.heap.Ns mainGlobals mg) (built : s.heap.Ns builtinsNs mb) (asBoot : ∀ y : Str, y ≠ "__name__" → mb y = bootBuiltins y) (lim : s.heap.NoLimit) (quiet : s.gens = #[])
    (script : s.heap.get? a = some { cls := .type "list", data := .seq vs.toArray }) (only : ∀ b u, H b = some u → b = a ∧ K.lookup a = none ∧ ∃ xs, u = .frz { cls := .type "list", data := .seq vs.toArray } (.lst xs))
    (hok : HOk P w H s.heap) (law : TopOk P w K mg f fd x sp) (binds : ∀ (s : Shared) (u : Value), BindsTo s fd ⟨[u], []⟩ [(x, u)]) (promise : sp [.ref a] H AllTrue NoErr) :
    codeAny (model P w) callerA (.call (.ref f) ⟨[.ref a], []⟩) (fun r s2 => r = .ok (.ret (.bool true)) ∧ OldK s.heap s2.heap ∧ s2.os = s.os ∧ AllBare s2.gens) s := by
  have free : ∀ {b : Addr} {o : Obj}, s.heap.get? b = some o → (b = a → K.lookup a = none → False) → H b = none := fun {b o} e no => by
    cases q : H b with
    | none => rfl
    | some u => exact (no (only b u q).1 (only b u q).2.1).elim
  have names : ∀ {b : Addr} {m : Str → Option Value}, s.heap.Ns b m → (hidT s.heap H).Ns b m := fun {b m} ⟨o, es, n, e, d, more⟩ => by
    refine ⟨o, es, n, hidT_get e (free e fun z _ => ?_), d, more⟩
    rw [z, script] at e
    cases e
    cases d
  have modK : K.In (hidT s.heap H) := fun b o e => hidT_get (inK b o e) (free (inK b o e) fun z no => by rw [z, no] at e; cases e)
  have start : Env0 P w K mg (hidT s.heap H) callerA [] s H :=
    { frames := rfl
      mod := ⟨modK, names globals, ⟨mb, names built, asBoot⟩, let ⟨m, l1, l2⟩ := lim; ⟨m, names l1, l2⟩⟩
      bs := fun _ _ e => of_hidT e
      bsz := by rw [hidT_size]; exact Nat.le_refl _
      funs := trivial
      frf := fun _ hb => nomatch hb
      hok := hok
      bare := .of_eq quiet }
  refine codeAny_mono (law _ s H (.ref a) (.ref a) start rfl (binds s _) promise) fun r s2 got => ?_
  match r, got with
  | .error _, z => exact z.elim
  | .ok .next, z => exact z.elim
  | .ok .brk, z => exact z.elim
  | .ok .cont, z => exact z.elim
  | .ok (.ret u), ⟨v, H2, os, bare, un, hok2, rv, yes⟩ =>
    subst yes
    cases rv
    refine ⟨rfl, OldK.of_keep fun b o e => ?_, os, bare⟩
    cases q : H b with
    | none => exact un.keep b o e q (fun z => nomatch z) (fun z => nomatch z)
    | some u0 =>
      obtain ⟨_, _, xs, rfl⟩ := only b u0 q
      have before := (hok b _ q).1
      have after := (hok2 b _ (un.frzs b _ _ q)).1
      rw [e] at before
      cases before
      exact after
/-- the law's promise, where the claim's caller asks it -/
theorem law_top {P : Program} {w : World} {K : PySem.W.Frag} {mg mb : Str → Option Value} {f a : Addr} {fd : FuncData} {x : Str} {sp : Sp} {s : Shared} {vs : List Value} {ns : List Int}
    (inK : K.In s.heap) (globals : s.heap.Ns mainGlobals mg) (built : s.heap.Ns builtinsNs mb) (asBoot : ∀ y : Str, y ≠ "__name__" → mb y = bootBuiltins y) (lim : s.heap.NoLimit) (quiet : s.gens = #[])
    (script : s.heap.get? a = some { cls := .type "list", data := .seq vs.toArray }) (inums : IntsAre vs ns) (short : ns.length ≤ sizeLine)
    (law : TopOk P w K mg f fd x sp) (binds : ∀ (s : Shared) (u : Value), BindsTo s fd ⟨[u], []⟩ [(x, u)]) (promise : ∀ H : Hp, SqL K H a (ns.map V.int) → sp [.ref a] H AllTrue NoErr) :
    codeAny (model P w) callerA (.call (.ref f) ⟨[.ref a], []⟩) (fun r s2 => r = .ok (.ret (.bool true)) ∧ OldK s.heap s2.heap ∧ s2.os = s.os ∧ AllBare s2.gens) s := by
  have items := vals_ints inums
  have long := inums.length
  by_cases own : ∃ o, K.lookup a = some o
  · obtain ⟨o, own⟩ := own
    have e := inK a o own
    rw [script] at e
    cases e
    refine top_run (H := fun _ => none) inK globals built asBoot lim quiet script (fun _ _ z => nomatch z) (fun _ _ z => nomatch z) law binds (promise _ (.inr ?_))
    exact ⟨_, vs.toArray, _, own, rfl, rfl, rfl, by rw [List.size_toArray, long]; exact short, by simpa using items⟩
  · have none_ : K.lookup a = none := by
      cases q : K.lookup a with
      | none => rfl
      | some o => exact absurd ⟨o, q⟩ own
    refine top_run (H := oneS a vs ns) inK globals built asBoot lim quiet script (fun b u z => ⟨(oneS_is z).1, none_, _, (oneS_is z).2⟩) (fun b u z => ?_) law binds (promise _ (.inl (.inr ⟨_, if_pos rfl⟩)))
    obtain ⟨rfl, rfl⟩ := oneS_is z
    exact ⟨script, by rw [List.length_map]; exact short, vs, _, items, script⟩
/-- the goal of a law's row, from a promise that the top alone asks for -/
theorem walk_top {l : PySem.W.OpenLaw} {n : Nat} {q : Program} {loose : List Str} {XP : (Str → Option Value) → Heap → Prop} {YP : World → Heap → Prop} {d : DefRec} {K : Params → PySem.W.Frag} {sp : World → Sp} {x : Str}
    (most : l.most = some n) (short : n ≤ sizeLine) (noDefaults : d.params.defaults = []) (inK : ∀ (w : World) (h : Heap), YP w h → (K w.params).In h)
    (law : ∀ (w : World) (mg : Str → Option Value) (f : Addr) (h : Heap), (K w.params).In h → h.Ns mainGlobals mg → mg d.name = some (.ref f) →
      ∃ fd : FuncData, (∀ (s : Shared) (u : Value), BindsTo s fd ⟨[u], []⟩ [(x, u)]) ∧ TopOk l.prog w (K w.params) mg f fd x (sp w))
    (promise : ∀ (w : World) (H : Hp) (a : Addr) (ns : List Int), ns.length ≤ n → SqL (K w.params) H a (ns.map V.int) → sp w [.ref a] H AllTrue NoErr) :
    PySem.W.WalkO q loose XP YP l.row.toRowW d [] (fun f vs => PySem.call f vs) := by
  refine Att.attach_call most noDefaults fun w s0 s1 mg mb f o pm cd doc a vs ns G Y there data codes at_ list inums few quiet => ?_
  obtain ⟨fd, binds, run⟩ := law w mg f _ (inK w _ Y) G.T.g at_
  exact law_top (inK w _ Y) G.T.g G.T.b G.T.builtins G.T.nolimit quiet list inums (Nat.le_trans few short) run binds fun H hS => promise w H a ns few hS
end L2

namespace PySem
open Sem (wp)
open Builtin Builtin.Str Builtin.BaseException Builtin.Exceptions
open PySem.W (Looks Frag findIn subIn clsIn looks_findIn looks_subIn looks_clsIn)
/-- what an own class of errors must say, so that repr shows its instances: its name and () -/
structure ExR (K : Frag) (C : Addr) (n : String) : Prop where
  hr : findIn K (.ref C) "__repr__" = some (some (.builtin "BaseException.__repr__"))
  hB : subIn K (.ref C) (.type "BaseException") = some true
  nm : ∃ cd, clsIn K C = some cd ∧ cd.name.toString = n
def exrText (n : String) : Str := Str.ofString ((n.cutAt '.').getLastD "") ++ tupleText []
section
variable {prog : Program} {w : World} {M : Model} {A : Around} {E : Value → Shared → Prop} {s : Shared} {K : Frag} {C e t0 : Addr} {n : String}
theorem typeNameOfWhole_C {Q : String → Shared → Prop} (x : ExcC K C e t0 s.heap) (R : ExR K C n) (q : Q n s) : wpAny M A (typeNameOfWhole (.ref e)) Q E s := by
  obtain ⟨cd, hcd, rfl⟩ := R.nm
  unfold typeNameOfWhole shownTypeOf
  refine wpAny_bind (wpAny_bind (x.LT.here ?_))
  rw [if_neg (by intro z; cases z)]
  refine wpAny_pure ?_
  show wpAny M A (typeNameWhole (.ref C)) _ _ _
  unfold typeNameWhole
  exact wpAny_bind ((looks_clsIn x.1 hcd).here (wpAny_pure q))
theorem bexcReprAt_C (b : Nat) {Q : Fin → Shared → Prop} (x : ExcC K C e t0 s.heap) (R : ExR K C n) (ht : s.heap.TupAt t0 [])
    (hsub : ∀ Q' : Str → Shared → Prop, (∀ h' tk, (∀ b o, s.heap.get? b = some o → h'.get? b = some o) → Q' (tupleText []) { s with heap := h', toks := tk }) → wpAny M A (pyReprUnder (b + (Str.ofString ((n.cutAt '.').getLastD "")).length) (.ref t0)) Q' E s)
    (hq : ∀ h' tk u, (∀ b o, s.heap.get? b = some o → h'.get? b = some o) → Q (.done (.ret (.str (exrText n) u))) { s with heap := h', toks := tk }) (hsz : (exrText n).length ≤ sizeLine) :
    wpAny M A (Builtin.bexcReprAt b ⟨[.ref e], []⟩) Q E s := by
  unfold Builtin.bexcReprAt
  refine wpAny_bind (m := slotArgs "__repr__" 0 _) (wpAny_pure ?_)
  refine wpAny_bind (typeNameOfWhole_C x R ?_)
  refine wpAny_bind (bexcArgs_C x ht ?_)
  dsimp only
  refine wpAny_bind (hsub _ fun h' tk hk => ?_)
  have hsz : (Str.ofString ((n.cutAt '.').getLastD "") ++ tupleText []).length ≤ sizeLine := hsz
  unfold retStr
  repeat wp_step
  exact hq _ _ _ hk
/-- its special, as repr asks it -/
theorem specialOf_C {name : Str} {i : String} {Q : Option Value → Shared → Prop} (x : ExcC K C e t0 s.heap) (hf : findIn K (.ref C) name = some (some (.builtin i))) (q : Q (some (.builtin i)) s) : wpAny M A (specialOf (.ref e) name) Q E s := by
  unfold specialOf
  exact wpAny_bind (x.LT.here ((looks_findIn x.1 hf).here q))
theorem ifBoundBy_C {last : Value → List Value → Sem Value} {name : Str} {i : String} {Q : Option Value → Shared → Prop} (x : ExcC K C e t0 s.heap) (hf : findIn K (.ref C) name = some (some (.builtin i))) (hb : bindSpecial (.builtin i) (.ref e) = pure (.builtin i, [.ref e]))
    (hc : wpAny M A (last (.builtin i) [.ref e]) (fun v => Q (some v)) E s) : wpAny M A (callSpecialIfBoundBy? last (.ref e) name) Q E s := by
  simp only [callSpecialIfBoundBy?, bindSpecialIfBound?]
  refine wpAny_holding (wpAny_bind (wpAny_bind (specialOf_C x hf ?_)))
  simp only [hb]
  refine wpAny_bind (wpAny_askSetting (wpAny_ite ?_))
  have fin : wpAny M A (last (.builtin i) [.ref e] >>= fun v => pure (some v)) Q E s :=
    wpAny_bind (wpAny_mono hc (fun v s' h' => wpAny_pure h') fun _ _ h' => h')
  split
  · exact wpAny_bind (wpAny_pure (wpAny_pure fin))
  · exact wpAny_tryCatch (wpAny_bind (wpAny_pure (wpAny_pure fin)))
theorem ifBound_C {name : Str} {i : String} {Q : Option Value → Shared → Prop} (x : ExcC K C e t0 s.heap) (hf : findIn K (.ref C) name = some (some (.builtin i))) (hb : bindSpecial (.builtin i) (.ref e) = pure (.builtin i, [.ref e]))
    (hc : wpAny M A (call (.builtin i) [.ref e]) (fun v => Q (some v)) E s) : wpAny M A (callSpecialIfBound? (.ref e) name) Q E s := by
  simp only [callSpecialIfBound?, bindSpecialIfBound?]
  refine wpAny_holding (wpAny_bind (wpAny_bind (specialOf_C x hf ?_)))
  simp only [hb]
  refine wpAny_bind (wpAny_askSetting (wpAny_ite ?_))
  have fin : wpAny M A (call (.builtin i) ([.ref e] ++ []) >>= fun v => pure (some v)) Q E s :=
    wpAny_bind (wpAny_mono hc (fun v s' h' => wpAny_pure h') fun _ _ h' => h')
  split
  · exact wpAny_bind (wpAny_pure (wpAny_pure fin))
  · exact wpAny_tryCatch (wpAny_bind (wpAny_pure (wpAny_pure fin)))
end
section
variable {prog : Program} {w : World} {K : Frag} {C e t0 : Addr} {n : String} {h₀ : Heap}
/-- its empty tuple, shown -/
theorem tup0_K {ot : Obj} {k : Nat} (ht : h₀.get? t0 = some ot) (hc : ot.cls = .type "tuple") (hd : ot.data = .seq #[] k) : ReprK prog w [t0] h₀ 1 (.ref t0) (tupleText []) :=
  ReprK.tuple (as := []) (d := 0) ht hc hd (fun h => nomatch h) .nil
theorem exc_bind (e : Addr) : bindSpecial (.builtin "BaseException.__repr__") (.ref e) = pure (.builtin "BaseException.__repr__", [.ref e]) := F.excStr_Exception.repr.bind _
/-- an own error without arguments, shown within others -/
theorem exc_K (x : ExcC K C e t0 h₀) (R : ExR K C n) {ot : Obj} {k : Nat} (ht : h₀.get? t0 = some ot) (hc : ot.cls = .type "tuple") (hd : ot.data = .seq #[] k) : ReprK prog w [t0] h₀ 2 (.ref e) (exrText n) := by
  intro base hb A g E s Q hg hcl hu hk0 hQ
  have xs : ExcC K C e t0 s.heap := by
    obtain ⟨kin, o, vs, ho, h1, h2, h3⟩ := x
    exact ⟨fun b o e => hk0 _ _ (kin b o e), o, vs, hk0 _ _ ho, h1, h2, h3⟩
  have ts : s.heap.TupAt t0 [] := ⟨ot, k, hk0 _ _ ht, hc, hd⟩
  have elen : (exrText n).length = (Str.ofString ((n.cutAt '.').getLastD "")).length + (tupleText []).length := by
    unfold exrText
    rw [strLen_append]
  refine wpAny_pyReprUnder_ref (by omega) ?_
  unfold pyReprObjUnder pyReprObjBy
  refine wpAny_bind (wpAny_cRoomFor (by omega) ?_)
  refine wpAny_bind (specialOf_C xs R.hr ?_)
  refine wpAny_bind (ifBoundBy_C xs R.hr (exc_bind e) ?_)
  show wpAny _ _ (call (.builtin "BaseException.__repr__.under") [.ref e, rawInt base]) _ _ _
  refine wpAny_call (codeAny_call_builtin F.plain_bexc_repr_under F.entry_bexc_repr_under ?_)
  rw [F.check_bexc_repr_under]
  refine wpAny_pure ?_
  show wpAny _ _ (reprTwin "BaseException.__repr__" Builtin.bexcReprAt ⟨[.ref e, rawInt base], []⟩) _ _ _
  rw [reprTwin_eq]
  refine wpAny_bind (@PySem.W.check_slot (model prog w) _ _ s "BaseException.__repr__" "BaseException" "__repr__" (.ref e) [] [] _ (by decide +kernel) (by decide +kernel) (xs.LI R.hB) (F.args_bexc_repr _) ?_)
  refine bexcReprAt_C base xs R ts (fun Q' q => tup0_K ht hc hd (base + _) (by omega) A.in1 g _ s Q' hg hcl (by show A.units + 1 + 1 < cLine; omega) hk0 q) (fun h' tk u hk => ?_) (by omega)
  exact wpAny_bind (wpAny_isInstance (T := "str") (b := true) rfl isSubtype_str_str (wpAny_pure ⟨_, _, rfl, hQ h' tk hk⟩))
/-- repr of an own error without arguments -/
theorem call_repr_C {A : Around} {E : Value → Shared → Prop} {s : Shared} {Q : Value → Shared → Prop} (x : ExcC K C e t0 s.heap) (R : ExR K C n) {ot : Obj} {k : Nat} (ht : s.heap.get? t0 = some ot) (hc : ot.cls = .type "tuple") (hd : ot.data = .seq #[] k)
    (hg : A.guards = some []) (hu : A.units + 4 < cLine) (hsz : (exrText n).length ≤ sizeLine)
    (hQ : ∀ h' u tk, (∀ b o, s.heap.get? b = some o → h'.get? b = some o) → Q (.str (exrText n) u) { s with heap := h', toks := tk }) : wpAny (model prog w) A (call (.builtin "repr") [.ref e]) Q E s := by
  have ts : s.heap.TupAt t0 [] := ⟨ot, k, ht, hc, hd⟩
  have elen : (exrText n).length = (Str.ofString ((n.cutAt '.').getLastD "")).length + (tupleText []).length := by
    unfold exrText
    rw [strLen_append]
  refine Calls.call_function_entry F.kind_repr F.plain_repr F.entry_repr (F.args_repr1 _) ?_
  unfold Builtin.«repr»
  refine wpAny_bind (m := oneArg "repr" _) (wpAny_pure ?_)
  refine wpAny_bind (m := cRoomFor _ _) (wpAny_cRoomFor (by show A.units + 1 < cLine; omega) ?_)
  refine wpAny_bind (specialOf_C x R.hr ?_)
  refine wpAny_bind (ifBound_C x R.hr (exc_bind e) ?_)
  refine wpAny_call (codeAny_call_builtin F.excStr_Exception.repr.plain F.entry_bexc_repr (@PySem.W.check_slot (model prog w) _ _ s "BaseException.__repr__" "BaseException" "__repr__" (.ref e) [] [] _ (by decide +kernel) (by decide +kernel) (x.LI R.hB) (F.args_bexc_repr _) ?_))
  refine bexcReprAt_C 0 x R ts (fun Q' q => tup0_K ht hc hd (0 + _) (by omega) A.in1.in1 [] _ s Q' hg (fun b _ => Clear.nil b) (by show A.units + 1 + 1 + 1 < cLine; omega) (fun _ _ e => e) q) (fun h' tk u hk => ?_) hsz
  refine wpAny_bind (wpAny_isInstance (T := "str") (b := true) rfl isSubtype_str_str ?_)
  exact wpAny_pure ⟨_, rfl, hQ h' u tk hk⟩
end
end PySem

namespace L2
open PySem PySem.Spec PyProof.Rows
/-- an own error without arguments, its empty tuple at t -/
def ExN (C : Addr) (a t : Addr) : HO := .ext fun h => ∃ (oe : Obj) (vs : Array Value), h.get? a = some oe ∧ Zc (.ref C) none oe ∧ oe.data = .fields vs ∧ vs[0]? = some (.ref t)
theorem exN_ok {P : Program} {w : World} {H : Hp} {h : Heap} {a t C : Addr} {oe : Obj} {vs : Array Value} (e : h.get? a = some oe) (z : Zc (.ref C) none oe) (d : oe.data = .fields vs) (h1 : vs[0]? = some (.ref t)) : ObjOk P w H h a (ExN C a t) :=
  ⟨⟨oe, vs, e, z, d, h1⟩, ⟨oe, e⟩, fun _ _ ⟨o, v, q, r⟩ k => ⟨o, v, k o q, r⟩⟩
theorem Un.laid2 {fs ex : List Addr} {H : Hp} {h h' : Heap} {a b : Addr} {o u : HO} (k : ∀ c x, h.get? c = some x → h'.get? c = some x) (ha : h.get? a = none) (hb : h.get? b = none) (na : H a = none) (nb : H b = none) (ne : a ≠ b) : Un fs ex H (upd (upd H b u) a o) h h' where
  keep := fun c x q _ _ _ => k c x q
  slot := fun c x q _ _ _ => ⟨x.slots, k c x q⟩
  free := fun c x q n _ => by rw [upd_ne (fun z => by rw [z, ha] at q; cases q), upd_ne (fun z => by rw [z, hb] at q; cases q)]; exact n
  there := fun c x q _ => ⟨x, k c x q⟩
  tups := fun c xs q => by rw [upd_ne (ne_of_none q na), upd_ne (ne_of_none q nb)]; exact q
  frzs := fun c x xs q => by rw [upd_ne (ne_of_none q na), upd_ne (ne_of_none q nb)]; exact q
  tbls := fun c ps q => ⟨#[], by rw [upd_ne (ne_of_none q na), upd_ne (ne_of_none q nb), q]; simp⟩
section
variable {X : Cx}
/-- C(), an own class of errors without own __init__, as a value with its tuple -/
theorem pe_excN {C : Addr} {bmB : List Value} {B newId initId : String} {x : Str} {p pos : Pos} (F : ExcBaseFacts B newId initId bmB) (q : PySem.W.excIn X.K C bmB newId = true) (gC : X.mg x = some (.ref C)) (kC : PySem.W.keepIn X.K (.ref C) = true) (hg : Gl X x) (hdb : (x == ("__debug__" : Str)) = false := by decide) :
    PE X (.Call (.Name x p) [] [] pos) (fun σ H Q => ∀ a t o, a ≠ t → H a = none → H t = none → o.dict = none → Q (.ref a) (upd (upd H t (.frz o (.tup []))) a (ExN C a t))) := by
  refine ⟨fun pins s σ H Q I h => ?_⟩
  refine wpAny_Call_Name_kw (ld_glob I hg gC ?_ hdb)
  refine PySem.W.callWith_K0 I.kIn kC ?_
  obtain ⟨bm, N, nm, qn, bs, hdct, sn, sub, ab, col, dd, k0, k1, k2, k3, k5, mN, hC, hN, hni, T⟩ := exc_obj I.kIn q
  refine wpAny_call_exc_subT F T hC hN hni (fun h' a hm => ?_) (Nat.zero_le _)
  have hn : H a = none := I.hok.gone hm.new
  obtain ⟨t, ht, htn, htt⟩ := hm.there
  have htn : s.heap.get? t = none := htn
  have nt : H t = none := I.hok.gone htn
  have ne : a ≠ t := fun z => by
    rw [z] at ht
    have := ht.symm.trans htt
    cases this
  have htt : h'.get? t = some ({ cls := .type "tuple", data := .seq #[] } : Obj) := htt
  have o1 : ∀ o : Obj, o = { cls := .type "tuple", data := .seq #[] } → ObjOk X.prog X.w (upd H t (.frz o (.tup []))) h' t (.frz o (.tup [])) := fun o e => by
    subst e
    exact ⟨htt, Nat.zero_le _, [], .nil, ⟨_, htt, rfl, _, rfl⟩⟩
  obtain ⟨o, eo⟩ : ∃ o : Obj, o = { cls := .type "tuple", data := .seq #[] } := ⟨_, rfl⟩
  have H1 : HOk X.prog X.w (upd H t (.frz o (.tup []))) h' := I.hok.laidN hm.keeps nt (o1 o eo)
  have hn1 : (upd H t (.frz o (.tup []))) a = none := (upd_ne ne).trans hn
  exact ⟨.ref a, upd (upd H t (.frz o (.tup []))) a (ExN C a t), I.un (Un.laid2 hm.keeps hm.new htn hn nt ne) (H1.laidN (fun _ _ z => z) hn1 (exN_ok ht ⟨rfl, rfl⟩ rfl rfl)), rfl, h a t o ne hn nt (by rw [eo])⟩
end
end L2

namespace Kb
open PySem PySem.Spec PyProof.Rows L2
/-! anything, with its contents -/
inductive Dat where
  | non
  | bl (b : Bool)
  | int (i : Int)
  | str (z : Str)
  | tup (xs : List Dat)
  | lst (xs : List Dat)
  | dic (xs : List Dat)
  | err
theorem paired_imp' {α β : Type} {F G : α → β → Prop} (h : ∀ a b, F a b → G a b) : ∀ {xs : List α} {ys : List β}, Paired F xs ys → Paired G xs ys
  | _, _, .nil => .nil
  | _, _, .cons a t => .cons (h _ _ a) (paired_imp' h t)
def ascB (z : Str) : Bool := z.cps.toList.all fun c => decide (c < 128)
def LfAt (C : Addr) (B L : Nat) (H : Hp) (v : V) : Dat → Prop
  | .non => v = .non
  | .bl b => v = .bl b
  | .int i => v = .int i ∧ i.natAbs ≤ B
  | .str z => v = .str z ∧ z.length ≤ L ∧ ascB z = true
  | .err => ∃ a t, v = .ref a ∧ H a = some (ExN C a t) ∧ Ptp H t []
  | .tup _ => False
  | .lst _ => False
  | .dic _ => False
/-- the value, thing by thing; its lists are none of F -/
def DatAt (F : Addr → Prop) (C : Addr) (B L : Nat) : Nat → Hp → V → Dat → Prop
  | 0, H, v, d => LfAt C B L H v d
  | n + 1, H, v, d => LfAt C B L H v d ∨ (∃ a xs ds, v = .ref a ∧ d = .tup ds ∧ Ptp H a xs ∧ xs.length ≤ L ∧ Paired (DatAt F C B L n H) xs ds) ∨
    (∃ a xs ds, v = .ref a ∧ d = .lst ds ∧ ¬ F a ∧ H a = some (.lst xs) ∧ xs.length ≤ L ∧ Paired (DatAt F C B L n H) xs ds) ∨
    (∃ a l xs ds, v = .ref a ∧ d = .dic ds ∧ H a = some (.dK [(.inr (Str.ofString "a"), .ref l), (.inl 1, .non)]) ∧ ¬ F l ∧ H l = some (.lst xs) ∧ xs.length ≤ L ∧ Paired (DatAt F C B L n H) xs ds)
/-- what keeps anything whose lists are none of F -/
structure DKeep (F : Addr → Prop) (C : Addr) (H H' : Hp) : Prop where
  t : ∀ a xs, Ptp H a xs → Ptp H' a xs
  l : ∀ a xs, ¬ F a → H a = some (.lst xs) → H' a = some (.lst xs)
  d : ∀ a k, H a = some (.dK k) → H' a = some (.dK k)
  e : ∀ a t, H a = some (ExN C a t) → H' a = some (ExN C a t)
theorem DKeep.refl {F : Addr → Prop} {C : Addr} (H : Hp) : DKeep F C H H := ⟨fun _ _ h => h, fun _ _ _ h => h, fun _ _ h => h, fun _ _ h => h⟩
theorem DKeep.trans {F : Addr → Prop} {C : Addr} {H H1 H2 : Hp} (x : DKeep F C H H1) (y : DKeep F C H1 H2) : DKeep F C H H2 :=
  ⟨fun a xs h => y.t a xs (x.t a xs h), fun a xs n h => y.l a xs n (x.l a xs n h), fun a k h => y.d a k (x.d a k h), fun a t h => y.e a t (x.e a t h)⟩
theorem dk_same {F : Addr → Prop} {C : Addr} {H H' : Hp} (s : Same H H') : DKeep F C H H' := ⟨fun a xs h => h.same s, fun a xs _ h => s _ _ h, fun a k h => s _ _ h, fun a t h => s _ _ h⟩
/-- a list of F is stored anew -/
theorem dk_put {F : Addr → Prop} {C : Addr} {p : Addr} {H : Hp} {xs ys : List V} (h : H p = some (.lst xs)) (f : F p) : DKeep F C H (upd H p (.lst ys)) :=
  ⟨fun b zs ⟨o, e, d⟩ => ⟨o, by rw [upd_ne (ne_of e h (by intro z; cases z))]; exact e, d⟩, fun b zs n e => by rw [upd_ne (show b ≠ p from fun z => n (by rw [z]; exact f))]; exact e, fun b k e => by rw [upd_ne (ne_of e h (by intro z; cases z))]; exact e, fun b t e => by rw [upd_ne (ne_of e h (by intro z; cases z))]; exact e⟩
theorem LfAt.keep {F : Addr → Prop} {C : Addr} {B L : Nat} {H H' : Hp} (k : DKeep F C H H') {v : V} : ∀ {d : Dat}, LfAt C B L H v d → LfAt C B L H' v d
  | .non, h => h
  | .bl _, h => h
  | .int _, h => h
  | .str _, h => h
  | .err, ⟨a, t, e, h1, h2⟩ => ⟨a, t, e, k.e a t h1, k.t t [] h2⟩
  | .tup _, h => h.elim
  | .lst _, h => h.elim
  | .dic _, h => h.elim
theorem DatAt.keep {F : Addr → Prop} {C : Addr} {B L : Nat} {H H' : Hp} (k : DKeep F C H H') : ∀ {n : Nat} {v : V} {d : Dat}, DatAt F C B L n H v d → DatAt F C B L n H' v d
  | 0, _, _, h => LfAt.keep k h
  | n + 1, v, d, h => by
    rcases h with h | ⟨a, xs, ds, e1, e2, h1, h2, h3⟩ | ⟨a, xs, ds, e1, e2, f, h1, h2, h3⟩ | ⟨a, l, xs, ds, e1, e2, h0, f, h1, h2, h3⟩
    · exact .inl (LfAt.keep k h)
    · exact .inr (.inl ⟨a, xs, ds, e1, e2, k.t a xs h1, h2, paired_imp' (fun _ _ h => DatAt.keep k h) h3⟩)
    · exact .inr (.inr (.inl ⟨a, xs, ds, e1, e2, f, k.l a xs f h1, h2, paired_imp' (fun _ _ h => DatAt.keep k h) h3⟩))
    · exact .inr (.inr (.inr ⟨a, l, xs, ds, e1, e2, k.d a _ h0, f, k.l l xs f h1, h2, paired_imp' (fun _ _ h => DatAt.keep k h) h3⟩))
theorem DatAt.same {F : Addr → Prop} {C : Addr} {B L n : Nat} {H H' : Hp} {v : V} {d : Dat} (h : DatAt F C B L n H v d) (s : Same H H') : DatAt F C B L n H' v d := h.keep (dk_same s)
theorem LfAt.wide {C : Addr} {B L B' L' : Nat} {H : Hp} (hB : B ≤ B') (hL : L ≤ L') {v : V} : ∀ {d : Dat}, LfAt C B L H v d → LfAt C B' L' H v d
  | .non, h => h
  | .bl _, h => h
  | .int _, h => ⟨h.1, Nat.le_trans h.2 hB⟩
  | .str _, h => ⟨h.1, Nat.le_trans h.2.1 hL, h.2.2⟩
  | .err, h => h
  | .tup _, h => h.elim
  | .lst _, h => h.elim
  | .dic _, h => h.elim
theorem DatAt.wide {F F' : Addr → Prop} {C : Addr} {B L B' L' : Nat} {H : Hp} (hF : ∀ a, F' a → F a) (hB : B ≤ B') (hL : L ≤ L') : ∀ {n m : Nat} {v : V} {d : Dat}, n ≤ m → DatAt F C B L n H v d → DatAt F' C B' L' m H v d
  | 0, 0, _, _, _, h => LfAt.wide hB hL h
  | 0, m + 1, _, _, _, h => .inl (LfAt.wide hB hL h)
  | n + 1, 0, _, _, hm, _ => absurd hm (by omega)
  | n + 1, m + 1, v, d, hm, h => by
    rcases h with h | ⟨a, xs, ds, e1, e2, h1, h2, h3⟩ | ⟨a, xs, ds, e1, e2, f, h1, h2, h3⟩ | ⟨a, l, xs, ds, e1, e2, h0, f, h1, h2, h3⟩
    · exact .inl (LfAt.wide hB hL h)
    · exact .inr (.inl ⟨a, xs, ds, e1, e2, h1, Nat.le_trans h2 hL, paired_imp' (fun _ _ h => DatAt.wide hF hB hL (by omega) h) h3⟩)
    · exact .inr (.inr (.inl ⟨a, xs, ds, e1, e2, fun z => f (hF a z), h1, Nat.le_trans h2 hL, paired_imp' (fun _ _ h => DatAt.wide hF hB hL (by omega) h) h3⟩))
    · exact .inr (.inr (.inr ⟨a, l, xs, ds, e1, e2, h0, fun z => f (hF l z), h1, Nat.le_trans h2 hL, paired_imp' (fun _ _ h => DatAt.wide hF hB hL (by omega) h) h3⟩))
theorem DatAt.leaf {F : Addr → Prop} {C : Addr} {B L : Nat} {H : Hp} {v : V} {d : Dat} (h : LfAt C B L H v d) : ∀ {n : Nat}, DatAt F C B L n H v d
  | 0 => h
  | _ + 1 => .inl h
section
variable {F : Addr → Prop} {C : Addr} {B L n : Nat} {H : Hp}
theorem DatAt.lint {i : Int} (h : i.natAbs ≤ B) : DatAt F C B L n H (.int i) (.int i) := .leaf (show LfAt C B L H (.int i) (.int i) from ⟨rfl, h⟩)
theorem DatAt.lstr {z : Str} (h : z.length ≤ L) (h2 : ascB z = true) : DatAt F C B L n H (.str z) (.str z) := .leaf (show LfAt C B L H (.str z) (.str z) from ⟨rfl, h, h2⟩)
theorem DatAt.lbl {b : Bool} : DatAt F C B L n H (.bl b) (.bl b) := .leaf (show LfAt C B L H (.bl b) (.bl b) from rfl)
theorem DatAt.lnon : DatAt F C B L n H .non .non := .leaf (show LfAt C B L H .non .non from rfl)
theorem DatAt.lerr {a t : Addr} (h : H a = some (ExN C a t)) (h2 : Ptp H t []) : DatAt F C B L n H (.ref a) .err := .leaf (show LfAt C B L H (.ref a) .err from ⟨a, t, rfl, h, h2⟩)
theorem DatAt.ltup {a : Addr} {xs : List V} {ds : List Dat} (h1 : Ptp H a xs) (h2 : xs.length ≤ L) (h3 : Paired (DatAt F C B L n H) xs ds) : DatAt F C B L (n + 1) H (.ref a) (.tup ds) := .inr (.inl ⟨a, xs, ds, rfl, rfl, h1, h2, h3⟩)
theorem DatAt.llst {a : Addr} {xs : List V} {ds : List Dat} (f : ¬ F a) (h1 : H a = some (.lst xs)) (h2 : xs.length ≤ L) (h3 : Paired (DatAt F C B L n H) xs ds) : DatAt F C B L (n + 1) H (.ref a) (.lst ds) := .inr (.inr (.inl ⟨a, xs, ds, rfl, rfl, f, h1, h2, h3⟩))
theorem DatAt.ldic {a l : Addr} {xs : List V} {ds : List Dat} (h0 : H a = some (.dK [(.inr (Str.ofString "a"), .ref l), (.inl 1, .non)])) (f : ¬ F l) (h1 : H l = some (.lst xs)) (h2 : xs.length ≤ L) (h3 : Paired (DatAt F C B L n H) xs ds) : DatAt F C B L (n + 1) H (.ref a) (.dic ds) := .inr (.inr (.inr ⟨a, l, xs, ds, rfl, rfl, h0, f, h1, h2, h3⟩))
end
mutual
/-- its repr -/
def sh (nm : String) : Dat → Str
  | .non => Str.ofString "None"
  | .bl b => Str.ofString (if b then "True" else "False")
  | .int i => Str.ofString (toString i)
  | .str z => reprText z
  | .tup xs => tupleText (shs nm xs)
  | .lst xs => listText (shs nm xs)
  | .dic xs => dictText [reprText (Str.ofString "a") ++ ": " ++ listText (shs nm xs), Str.ofString (toString (1 : Int)) ++ ": " ++ Str.ofString "None"]
  | .err => PySem.exrText nm
def shs (nm : String) : List Dat → List Str
  | [] => []
  | x :: xs => sh nm x :: shs nm xs
end
mutual
/-- no shorter than its repr -/
def wD : Dat → Nat
  | .non => 10
  | .bl _ => 10
  | .int _ => 60
  | .str z => 15 * z.length + 20
  | .tup xs => 10 + wDs xs
  | .lst xs => 10 + wDs xs
  | .dic xs => 60 + wDs xs
  | .err => 200
def wDs : List Dat → Nat
  | [] => 0
  | x :: xs => wD x + 2 + wDs xs
end
theorem shs_len (nm : String) : ∀ xs : List Dat, (shs nm xs).length = xs.length
  | [] => rfl
  | x :: xs => by
    show (shs nm xs).length + 1 = xs.length + 1
    rw [shs_len nm xs]
theorem wDs_app : ∀ xs ys : List Dat, wDs (xs ++ ys) = wDs xs + wDs ys
  | [], ys => by
    show wDs ys = 0 + wDs ys
    omega
  | x :: xs, ys => by
    show wD x + 2 + wDs (xs ++ ys) = wD x + 2 + wDs xs + wDs ys
    rw [wDs_app xs ys]
    omega
theorem wDs_mem : ∀ {xs : List Dat} {x : Dat}, x ∈ xs → wD x < wDs xs
  | y :: xs, x, h => by
    show wD x < wD y + 2 + wDs xs
    rcases List.mem_cons.mp h with rfl | h
    · omega
    · have := wDs_mem h
      omega
theorem nat_len {n : Nat} {k : Nat} (hk : 0 < k) (h : n < 10 ^ k) : (Str.ofString (toString ((n : Nat) : Int))).length ≤ k := by
  have e := congrArg List.length (TL.tl_num n)
  have l := TL.numL_len hk h
  have : (Str.ofString (toString ((n : Nat) : Int))).length = (TL.tl (Str.ofString (toString ((n : Nat) : Int)))).length := by
    show Array.size _ = List.length (Array.toList _)
    rw [Array.length_toList]
  omega
theorem int_len {i : Int} (h : i.natAbs ≤ 2 ^ 90) : (Str.ofString (toString i)).length ≤ 60 := by
  cases i with
  | ofNat n =>
    have h : n ≤ 2 ^ 90 := h
    exact nat_len (by decide) (Nat.lt_of_le_of_lt h (by decide))
  | negSucc n =>
    have h : n + 1 ≤ 2 ^ 90 := h
    have l := nat_len (n := n + 1) (k := 59) (by decide) (Nat.lt_of_le_of_lt h (by decide))
    have e : toString (Int.negSucc n) = "-" ++ toString (((n + 1 : Nat) : Int)) := rfl
    have e2 : ∀ x : String, (Str.ofString x).length = x.length := fun x => PySem.ofString_length x
    rw [e2] at l ⊢
    rw [e, String.length_append]
    have : "-".length = 1 := rfl
    omega
theorem list_len (ts : List Str) : (listText ts).length ≤ (ts.map (·.length)).sum + 2 * ts.length + 2 := by
  have h := textFrom_len_le ts 0 "["
  show (textFrom 0 "[" ts ++ "]").length ≤ _
  rw [strLen_append]
  have e1 : ("[" : Str).length = 1 := rfl
  have e2 : ("]" : Str).length = 1 := rfl
  omega
theorem tuple_len (ts : List Str) : (tupleText ts).length ≤ (ts.map (·.length)).sum + 2 * ts.length + 3 := by
  have h := StrLaws.join_length_le (", " : Str) ts
  have e0 : (", " : Str).length = 2 := rfl
  unfold tupleText
  rw [strLen_append, strLen_append]
  have e1 : ("(" : Str).length = 1 := rfl
  have e2 : ((if ts.length == 1 then ",)" else ")" : String) : Str).length ≤ 2 := by split <;> decide
  rw [e0] at h
  omega
theorem reprs_len {z : Str} (h : ascB z = true) : (reprText z).length ≤ 15 * z.length + 13 := by
  have lv : (PyData.str z).leavesShort 13 = true := by
    show (z.cps.toList.all fun c => decide (c < 16 ^ 8)) = true
    rw [List.all_eq_true]
    intro c hc
    have := of_decide_eq_true (List.all_eq_true.mp h c hc)
    exact decide_eq_true (Nat.lt_trans this (by decide))
  have := PyData.shown_le 13 (by decide) (.str z) lv
  rw [PyData.shown_str] at this
  exact this
theorem sum_sh {nm : String} {R : V → Dat → Prop} (h : ∀ v d, R v d → (sh nm d).length ≤ wD d) : ∀ {xs : List V} {ds : List Dat}, Paired R xs ds → ((shs nm ds).map (·.length)).sum + 2 * (shs nm ds).length ≤ wDs ds
  | _, _, .nil => Nat.le_refl _
  | _, d :: ds, .cons a t => by
    have h1 := h _ _ a
    have h2 := sum_sh (nm := nm) h t
    show (sh nm d).length + ((shs nm ds).map (·.length)).sum + 2 * ((shs nm ds).length + 1) ≤ wD d + 2 + wDs ds
    omega
theorem DatAt.shlen {nm : String} {F : Addr → Prop} {C : Addr} {L : Nat} {H : Hp} (hn : (PySem.exrText nm).length ≤ 200) : ∀ {n : Nat} {v : V} {d : Dat}, DatAt F C (2 ^ 90) L n H v d → (sh nm d).length ≤ wD d := by
  have lf : ∀ {v : V} {d : Dat}, LfAt C (2 ^ 90) L H v d → (sh nm d).length ≤ wD d := fun {v d} h => by
    cases d with
    | non => show (Str.ofString "None").length ≤ 10; decide +kernel
    | bl b => cases b; { show (Str.ofString "False").length ≤ 10; decide +kernel }; { show (Str.ofString "True").length ≤ 10; decide +kernel }
    | int i => exact int_len h.2
    | str z => have := reprs_len h.2.2; show (reprText z).length ≤ 15 * z.length + 20; omega
    | err => exact hn
    | _ => exact h.elim
  intro n
  induction n with
  | zero => exact fun h => lf h
  | succ n ih =>
    intro v d h
    rcases h with h | ⟨a, xs, ds, e1, rfl, h1, h2, h3⟩ | ⟨a, xs, ds, e1, rfl, f, h1, h2, h3⟩ | ⟨a, l, xs, ds, e1, rfl, h0, f, h1, h2, h3⟩
    · exact lf h
    · have s := sum_sh (nm := nm) (fun _ _ h => ih h) h3
      have := tuple_len (shs nm ds)
      show (tupleText (shs nm ds)).length ≤ 10 + wDs ds
      omega
    · have s := sum_sh (nm := nm) (fun _ _ h => ih h) h3
      have := list_len (shs nm ds)
      show (listText (shs nm ds)).length ≤ 10 + wDs ds
      omega
    · have s := sum_sh (nm := nm) (fun _ _ h => ih h) h3
      have := list_len (shs nm ds)
      show (dictText [reprText (Str.ofString "a") ++ ": " ++ listText (shs nm ds), Str.ofString (toString (1 : Int)) ++ ": " ++ Str.ofString "None"]).length ≤ 60 + wDs ds
      unfold dictText
      rw [strLen_append, strLen_append]
      show _ + ((reprText (Str.ofString "a") ++ ": " ++ listText (shs nm ds)) ++ (", " : Str) ++ (Str.ofString (toString (1 : Int)) ++ ": " ++ Str.ofString "None")).length + _ ≤ _
      rw [strLen_append, strLen_append, strLen_append, strLen_append]
      have a1 : (reprText (Str.ofString "a")).length = 3 := by decide +kernel
      have a2 : (": " : Str).length = 2 := rfl
      have a3 : (", " : Str).length = 2 := rfl
      have a4 : (Str.ofString (toString (1 : Int)) ++ ": " ++ Str.ofString "None").length = 7 := by decide +kernel
      have a5 : ("{" : Str).length = 1 := rfl
      have a6 : ("}" : Str).length = 1 := rfl
      omega
end Kb

namespace Kb
open PySem PySem.Spec PyProof.Rows L2
/-! the text -/
def topS (i : Nat) : Stmt := PySem.Challenge.pw_knownends_k20_whole_thinned_against_all.main.body.getD i (.Pass ⟨0, 0, 0, 0⟩)
/-! facts -/
structure Dn (K : PySem.W.Frag) (mg : Str → Option Value) (nm : Str) (st : Stmt) (ps : List Str) where
  f : Addr
  fd : FuncData
  F : Fun K nm nm st f fd
  g : mg nm = some (.ref f)
  b : Binds K fd ps []
structure Cst (mg : Str → Option Value) (nm : Str) (v : V) where
  u : Value
  g : mg nm = some u
  r : RelV v u
structure Blt (mg : Str → Option Value) : Prop where
  n_len : mg "len" = none
  n_int : mg "int" = none
  n_abs : mg "abs" = none
  n_range : mg "range" = none
  n_isinstance : mg "isinstance" = none
  n_str : mg "str" = none
  n_all : mg "all" = none
  n_tuple : mg "tuple" = none
  n_bool : mg "bool" = none
  n_list : mg "list" = none
  n_sorted : mg "sorted" = none
  n_max : mg "max" = none
  n_min : mg "min" = none
  n_zip : mg "zip" = none
  n_enumerate : mg "enumerate" = none
/-! heaps -/
theorem same_upd {H : Hp} {p : Addr} {o : HO} (h : H p = none) : Same H (upd H p o) := fun b x e => by
  rw [upd_ne (ne_of_none e h)]
  exact e
theorem Same.new {H H1 : Hp} {p : Addr} {o : HO} (x : Same H H1) (h : H1 p = none) : Same H (upd H1 p o) := fun b u e => same_upd h b u (x b u e)
theorem Same.gone {H H1 : Hp} {p : Addr} (x : Same H H1) (h : H1 p = none) : H p = none := by
  cases e : H p with
  | none => rfl
  | some o =>
    have := x _ _ e
    rw [h] at this
    cases this
/-- an object that was new is stored anew -/
theorem Same.put {H H1 : Hp} {p : Addr} {o : HO} (x : Same H H1) (h : H p = none) : Same H (upd H1 p o) := fun b u e => by
  rw [upd_ne (ne_of_none e h)]
  exact x b u e
theorem sql {K : PySem.W.Frag} {H : Hp} {a : Addr} {xs : List V} (h : H a = some (.lst xs)) : SqL K H a xs := .inl (.inl h)
theorem seqT {K : PySem.W.Frag} {H H' : Hp} {a : Addr} {xs : List V} (h : SqT K H a xs) (s : Same H H') : SqT K H' a xs := by
  rcases h with (h | ⟨o, h⟩) | h
  · exact .inl (.inl (s _ _ h))
  · exact .inl (.inr ⟨o, s _ _ h⟩)
  · exact .inr h
theorem tyT {K : PySem.W.Frag} {H : Hp} {a : Addr} {xs : List V} (h : SqT K H a xs) : TyX K H (.ref a) (.type "tuple") := by
  rcases h with (h | ⟨o, h⟩) | ⟨o, its, n, h, c, _⟩
  · exact .base (.tup h)
  · exact .fTuple h
  · exact .kTuple h c
/-- %, the rest as a letter -/
def rModB : R2 := fun x y H Q => ∃ i j, x = .int i ∧ y = .int j ∧ 0 < j ∧ ∀ m : Int, 0 ≤ m → m < j → m = i % j → Q (.int m) H
theorem op_modB {X : Cx} : OpR X (binaryOp .Mod) rModB := fun pins s σ H x y v u Q I rx ry h => by
  obtain ⟨i, j, e1, e2, hj, q⟩ := h
  exact op_mod pins s σ H x y v u Q I rx ry ⟨i, j, e1, e2, hj, q _ (Int.emod_nonneg _ (by omega)) (Int.emod_lt_of_pos _ hj) rfl⟩
theorem cmulR {i j : Int} (h1 : 0 ≤ j) (h2 : j < 10000000000) : CMul i j := .inr ⟨by omega, by omega⟩
theorem cmulL {i j : Int} (h1 : 0 ≤ i) (h2 : i < 10000000000) : CMul i j := .inl ⟨by omega, by omega⟩
theorem paired_at {α β : Type} {F : α → β → Prop} : ∀ {xs : List α} {ys : List β}, Paired F xs ys → ∀ {i : Nat} {x : α}, xs[i]? = some x → ∃ y, ys[i]? = some y ∧ F x y
  | _, _, .nil, _, _, h => nomatch h
  | _, _, .cons h t, 0, _, e => ⟨_, rfl, by cases e; exact h⟩
  | _, _, .cons h t, i + 1, _, e => paired_at t (i := i) e
theorem paired_imp {α β : Type} {F G : α → β → Prop} (h : ∀ a b, F a b → G a b) {xs : List α} {ys : List β} (p : Paired F xs ys) : Paired G xs ys := paired_imp' h p
theorem paired_getl {α β : Type} {F : α → β → Prop} : ∀ {xs : List α} {ys : List β}, Paired F xs ys → ∀ {i : Nat} {x : α} {y : β}, xs[i]? = some x → ys[i]? = some y → F x y
  | _, _, .nil, _, _, _, h, _ => nomatch h
  | _, _, .cons h t, 0, _, _, e, f => by cases e; cases f; exact h
  | _, _, .cons h t, i + 1, _, _, e, f => paired_getl t (i := i) e f
/-- a value's type, errors too -/
def TyE (K : PySem.W.Frag) (H : Hp) (v : V) (t : Value) : Prop := TyX K H v t ∨ ∃ a t0 C, v = .ref a ∧ t = .ref C ∧ H a = some (ExN C a t0) ∧ L2.ExcC K C
def rIsE' (K : PySem.W.Frag) : List V → Hp → VK → Prop := fun xs H Q => ∃ (x c : V) (t u : Value) (b : Bool), xs = [x, c] ∧ ClsV c u ∧ TyE K H x t ∧ PySem.W.kitOne K t u = some b ∧ Q (.bl b) H
theorem call_isD {X : Cx} {K : PySem.W.Frag} (hK : X.K = K) : CallR X (.builtin "isinstance") (rIsE' K) := by
  subst hK
  intro pins s σ H xs us Q I r h
  obtain ⟨x, c, t, u, b, rfl, k, ty | ⟨a, t0, C, rfl, rfl, ha, hC⟩, e, q⟩ := h
  · exact call_isi pins s σ H _ us Q I r ⟨x, c, t, u, b, rfl, k, ty, e, q⟩
  · obtain ⟨u1, u2, rfl, r1, r2⟩ := vals2 r
    have e2 := k.eq r2
    subst e2
    cases r1
    obtain ⟨⟨oe, vs, ho, hz, hd, _⟩, _, _⟩ := I.hok a _ ha
    have J : PySem.W.InstAt s.heap a oe C none := by
      obtain ⟨oc, od, oda, osl⟩ := oe
      obtain ⟨h1, h2⟩ := hz
      dsimp only at h1 h2 hd
      subst h1 h2 hd
      exact ⟨ho, rfl, rfl, trivial⟩
    exact PySem.W.kia_one (PySem.W.handS_kitx_exc hC.hg hC.hk hC.hs hC.hd hC.ha hC.hn hC.ht hC.hm) I.kIn J e (fun z => nomatch z) fun tk => ⟨.bl b, H, I.kept (t' := tk) fun _ _ z => z, rfl, q⟩
def isI : Dat → Bool
  | .int _ => true
  | .bl _ => true
  | _ => false
def isBd : Dat → Bool
  | .bl _ => true
  | _ => false
def isS : Dat → Bool
  | .str _ => true
  | _ => false
def isT : Dat → Bool
  | .tup _ => true
  | _ => false
/-! anything, by its kinds: what a list or a dict holds is not told -/
def LfK (H : Hp) (v : V) : Dat → Prop
  | .non => v = .non
  | .bl b => v = .bl b
  | .int i => v = .int i ∧ i.natAbs ≤ 2 ^ 90
  | .str z => v = .str z ∧ z.length ≤ 5000
  | .lst _ => ∃ a xs, v = .ref a ∧ H a = some (.lst xs)
  | .dic _ => ∃ a k, v = .ref a ∧ H a = some (.dK k)
  | .err => False
  | .tup _ => False
def DtK : Nat → Hp → V → Dat → Prop
  | 0, H, v, d => LfK H v d
  | n + 1, H, v, d => LfK H v d ∨ ∃ a xs ds, v = .ref a ∧ d = .tup ds ∧ Ptp H a xs ∧ xs.length ≤ 5000 ∧ Paired (DtK n H) xs ds
/-- what keeps all that -/
structure KpD (H H' : Hp) : Prop where
  t : ∀ a xs, Ptp H a xs → Ptp H' a xs
  l : ∀ a xs, H a = some (.lst xs) → ∃ ys, H' a = some (.lst ys)
  d : ∀ a k, H a = some (.dK k) → ∃ k', H' a = some (.dK k')
theorem KpD.refl (H : Hp) : KpD H H := ⟨fun _ _ h => h, fun _ _ h => ⟨_, h⟩, fun _ _ h => ⟨_, h⟩⟩
theorem KpD.trans {H H1 H2 : Hp} (x : KpD H H1) (y : KpD H1 H2) : KpD H H2 := ⟨fun a xs h => y.t a xs (x.t a xs h), fun a xs h => let ⟨_, h1⟩ := x.l a xs h; y.l _ _ h1, fun a k h => let ⟨_, h1⟩ := x.d a k h; y.d _ _ h1⟩
theorem kpD_same {H H' : Hp} (s : Same H H') : KpD H H' := ⟨fun a xs h => h.same s, fun a xs h => ⟨_, s _ _ h⟩, fun a k h => ⟨_, s _ _ h⟩⟩
theorem LfK.keep {H H' : Hp} (k : KpD H H') {v : V} : ∀ {d : Dat}, LfK H v d → LfK H' v d
  | .non, h => h
  | .bl _, h => h
  | .int _, h => h
  | .str _, h => h
  | .lst _, ⟨a, xs, e, h⟩ => let ⟨ys, h1⟩ := k.l a xs h; ⟨a, ys, e, h1⟩
  | .dic _, ⟨a, x, e, h⟩ => let ⟨y, h1⟩ := k.d a x h; ⟨a, y, e, h1⟩
  | .err, h => h
  | .tup _, h => h
theorem DtK.keep {H H' : Hp} (k : KpD H H') : ∀ {n : Nat} {v : V} {d : Dat}, DtK n H v d → DtK n H' v d
  | 0, _, _, h => LfK.keep k h
  | n + 1, _, _, h => by
    rcases h with h | ⟨a, xs, ds, e1, e2, h1, h2, h3⟩
    · exact .inl (LfK.keep k h)
    · exact .inr ⟨a, xs, ds, e1, e2, k.t _ _ h1, h2, paired_imp (fun _ _ h => DtK.keep k h) h3⟩
theorem DtK.up : ∀ {n : Nat} {H : Hp} {v : V} {d : Dat}, DtK n H v d → DtK (n + 1) H v d
  | 0, _, _, _, h => .inl h
  | n + 1, _, _, _, h => by
    rcases h with h | ⟨a, xs, ds, e1, e2, h1, h2, h3⟩
    · exact .inl h
    · exact .inr ⟨a, xs, ds, e1, e2, h1, h2, paired_imp (fun _ _ h => DtK.up h) h3⟩
theorem DtK.ups {n m : Nat} {H : Hp} {v : V} {d : Dat} (h : DtK n H v d) (le : n ≤ m) : DtK m H v d := by
  induction le with
  | refl => exact h
  | step _ ih => exact ih.up
/-- anything, as the judges meet it -/
def DtAt (K : PySem.W.Frag) (H : Hp) (v : V) (d : Dat) : Prop := ∃ n : Nat, DtK n H v d
theorem DtAt.keep {K : PySem.W.Frag} {H H' : Hp} {v : V} {d : Dat} (h : DtAt K H v d) (k : KpD H H') : DtAt K H' v d := let ⟨n, h⟩ := h; ⟨n, h.keep k⟩
theorem DtAt.same {K : PySem.W.Frag} {H H' : Hp} {v : V} {d : Dat} (h : DtAt K H v d) (s : Same H H') : DtAt K H' v d := h.keep (kpD_same s)
theorem DtAt.lf {K : PySem.W.Frag} {H : Hp} {v : V} {d : Dat} (h : LfK H v d) : DtAt K H v d := ⟨0, h⟩
theorem DtK.cases {n : Nat} {H : Hp} {v : V} {d : Dat} (h : DtK n H v d) : LfK H v d ∨ ∃ m a xs ds, n = m + 1 ∧ v = .ref a ∧ d = .tup ds ∧ Ptp H a xs ∧ xs.length ≤ 5000 ∧ Paired (DtK m H) xs ds := by
  cases n with
  | zero => exact .inl h
  | succ n =>
    rcases h with h | ⟨a, xs, ds, e1, e2, h1, h2, h3⟩
    · exact .inl h
    · exact .inr ⟨n, a, xs, ds, rfl, e1, e2, h1, h2, h3⟩
/-- the parts of a paired list have one depth -/
theorem dts_depth {K : PySem.W.Frag} {H : Hp} : ∀ {xs : List V} {ds : List Dat}, Paired (DtAt K H) xs ds → ∃ n, Paired (DtK n H) xs ds
  | _, _, .nil => ⟨0, .nil⟩
  | _, _, .cons h t => by
    obtain ⟨n, h⟩ := h
    obtain ⟨m, t⟩ := dts_depth t
    exact ⟨max n m, .cons (h.ups (Nat.le_max_left _ _)) (paired_imp (fun _ _ h => h.ups (Nat.le_max_right _ _)) t)⟩
/-- a plain tuple of such -/
theorem DtAt.mk {K : PySem.W.Frag} {H : Hp} {a : Addr} {xs : List V} {ds : List Dat} (h : Ptp H a xs) (l : xs.length ≤ 5000) (p : Paired (DtAt K H) xs ds) : DtAt K H (.ref a) (.tup ds) := by
  obtain ⟨n, p⟩ := dts_depth p
  exact ⟨n + 1, .inr ⟨a, xs, ds, rfl, rfl, h, l, p⟩⟩
theorem DtAt.ty {K : PySem.W.Frag} {H : Hp} {v : V} {d : Dat} (h : DtAt K H v d) : ∃ t, TyE K H v t ∧ PySem.W.kitOne K t (.type "int") = some (isI d) ∧ PySem.W.kitOne K t (.type "bool") = some (isBd d) ∧ PySem.W.kitOne K t (.type "str") = some (isS d) ∧ PySem.W.kitOne K t (.type "tuple") = some (isT d) := by
  obtain ⟨n, h⟩ := h
  rcases h.cases with h | ⟨m, a, xs, ds, rfl, rfl, rfl, h1, h2, h3⟩
  · cases d with
    | non =>
      cases (show v = .non from h)
      exact ⟨.type "NoneType", .inl (.base .non), kit_ty (show kitB "NoneType" "int" = some false by decide +kernel), kit_ty (show kitB "NoneType" "bool" = some false by decide +kernel), kit_ty (show kitB "NoneType" "str" = some false by decide +kernel), kit_ty (show kitB "NoneType" "tuple" = some false by decide +kernel)⟩
    | bl b =>
      cases (show v = .bl b from h)
      exact ⟨.type "bool", .inl (.base (.bl b)), kit_ty (show kitB "bool" "int" = some true by decide +kernel), kit_ty (show kitB "bool" "bool" = some true by decide +kernel), kit_ty (show kitB "bool" "str" = some false by decide +kernel), kit_ty (show kitB "bool" "tuple" = some false by decide +kernel)⟩
    | int i =>
      cases h.1
      exact ⟨.type "int", .inl (.base (.int i)), kit_ty (show kitB "int" "int" = some true by decide +kernel), kit_ty (show kitB "int" "bool" = some false by decide +kernel), kit_ty (show kitB "int" "str" = some false by decide +kernel), kit_ty (show kitB "int" "tuple" = some false by decide +kernel)⟩
    | str z =>
      cases h.1
      exact ⟨.type "str", .inl (.base (.str z)), kit_ty (show kitB "str" "int" = some false by decide +kernel), kit_ty (show kitB "str" "bool" = some false by decide +kernel), kit_ty (show kitB "str" "str" = some true by decide +kernel), kit_ty (show kitB "str" "tuple" = some false by decide +kernel)⟩
    | lst _ =>
      obtain ⟨a, xs, rfl, h1⟩ := h
      exact ⟨.type "list", .inl (.base (.lst h1)), kit_ty (show kitB "list" "int" = some false by decide +kernel), kit_ty (show kitB "list" "bool" = some false by decide +kernel), kit_ty (show kitB "list" "str" = some false by decide +kernel), kit_ty (show kitB "list" "tuple" = some false by decide +kernel)⟩
    | dic _ =>
      obtain ⟨a, k, rfl, h0⟩ := h
      exact ⟨.type "dict", .inl (.base (.dK h0)), kit_ty (show kitB "dict" "int" = some false by decide +kernel), kit_ty (show kitB "dict" "bool" = some false by decide +kernel), kit_ty (show kitB "dict" "str" = some false by decide +kernel), kit_ty (show kitB "dict" "tuple" = some false by decide +kernel)⟩
    | err => exact h.elim
    | tup _ => exact h.elim
  · exact ⟨.type "tuple", .inl (tyT (K := K) h1.seq), kit_ty (show kitB "tuple" "int" = some false by decide +kernel), kit_ty (show kitB "tuple" "bool" = some false by decide +kernel), kit_ty (show kitB "tuple" "str" = some false by decide +kernel), kit_ty (show kitB "tuple" "tuple" = some true by decide +kernel)⟩
theorem DtAt.tup {K : PySem.W.Frag} {H : Hp} {v : V} {ds : List Dat} (h : DtAt K H v (.tup ds)) : ∃ a xs, v = .ref a ∧ Ptp H a xs ∧ xs.length ≤ 5000 ∧ Paired (DtAt K H) xs ds := by
  obtain ⟨n, h⟩ := h
  rcases h.cases with h | ⟨m, a, xs, ds, rfl, rfl, e, h1, h2, h3⟩
  · exact h.elim
  · cases e
    exact ⟨a, xs, rfl, h1, h2, paired_imp (fun _ _ h => ⟨m, h⟩) h3⟩
theorem DtAt.int {K : PySem.W.Frag} {H : Hp} {v : V} {i : Int} (h : DtAt K H v (.int i)) : v = .int i ∧ i.natAbs ≤ 2 ^ 90 := by
  obtain ⟨n, h⟩ := h
  rcases h.cases with h | ⟨m, a, xs, ds, rfl, rfl, e, _⟩
  · exact h
  · cases e
theorem DtAt.str {K : PySem.W.Frag} {H : Hp} {v : V} {z : Str} (h : DtAt K H v (.str z)) : v = .str z ∧ z.length ≤ 5000 := by
  obtain ⟨n, h⟩ := h
  rcases h.cases with h | ⟨m, a, xs, ds, rfl, rfl, e, _⟩
  · exact h
  · cases e
/-! the judges -/
def intD : Dat → Option Int
  | .int i => some i
  | _ => none
def geI (d : Dat) : Int := (intD d).getD 0
def isRB : Option Int → Bool
  | some i => decide (1 ≤ i) && decide (i ≤ 64)
  | none => false
def isNB : Option Int → Bool
  | some i => decide (0 ≤ i)
  | none => false
def isPB : Option Int → Bool
  | some i => decide (1 ≤ i)
  | none => false
abbrev sP_is_int : Stmt := topS 8
abbrev NP_is_int : List Str := ["thing"]
theorem scP_is_int : FnScope ["thing"] ["thing"] (defScope sP_is_int) := ⟨rfl, rfl, rfl, by decide +kernel, rfl, by decide +kernel, by decide +kernel⟩
abbrev DnIsInt (K : PySem.W.Frag) (mg : Str → Option Value) := Dn K mg "is_int" sP_is_int ["thing"]
abbrev sP_is_number : Stmt := topS 9
abbrev NP_is_number : List Str := ["thing"]
theorem scP_is_number : FnScope ["thing"] ["thing"] (defScope sP_is_number) := ⟨rfl, rfl, rfl, by decide +kernel, rfl, by decide +kernel, by decide +kernel⟩
abbrev DnIsNumber (K : PySem.W.Frag) (mg : Str → Option Value) := Dn K mg "is_number" sP_is_number ["thing"]
abbrev sP_is_room : Stmt := topS 10
abbrev NP_is_room : List Str := ["thing"]
theorem scP_is_room : FnScope ["thing"] ["thing"] (defScope sP_is_room) := ⟨rfl, rfl, rfl, by decide +kernel, rfl, by decide +kernel, by decide +kernel⟩
abbrev DnIsRoom (K : PySem.W.Frag) (mg : Str → Option Value) := Dn K mg "is_room" sP_is_room ["thing"]
section
variable {P : Program} {w : World} {K : PySem.W.Frag} {mg : Str → Option Value} {base : Heap}
/-! is_int .. is_room, of anything -/
def spIsIntD (K : PySem.W.Frag) : Sp := fun vs H Q _ => ∃ (v : V) (d : Dat), vs = [v] ∧ DtAt K H v d ∧ Q (.bl (intD d).isSome) H
theorem ok_is_intD (T : Blt mg) (d : DnIsInt K mg) : FnOk P w K mg base CX0 1 d.f d.fd ["thing"] (spIsIntD K) := by
  refine d.F.ok scP_is_int (fun vs H Q E h => ?_) (fun cdv A outer s H vs Q E hr h => ?_)
  · obtain ⟨v, n, rfl, _⟩ := h
    rfl
  · obtain ⟨v, x, rfl, hx, q⟩ := h
    refine ⟨_, (pss_one (ps_ret (pe_and (pe_callB (call_isD (K := K) rfl) (by rfl) T.n_isinstance (by decide +kernel) (pa_cons (pv 0) (pa_cons (pe_bltn (v := .ty "int") (by rfl) T.n_int (by decide +kernel) rfl) pa_nil))) (pe_one (pe_not (pe_callB (call_isD (K := K) rfl) (by rfl) T.n_isinstance (by decide +kernel) (pa_cons (pv 0) (pa_cons (pe_bltn (v := .ty "bool") (by rfl) T.n_bool (by decide +kernel) rfl) pa_nil)))))))), ?_⟩
    obtain ⟨t, ty, kI, kB, kS, kT⟩ := hx.ty
    refine ⟨v, rfl, v, _, t, _, isI x, rfl, .ty "int", ty, kI, isI x, rfl, ?_⟩
    cases x with
    | int i => exact iteT ⟨_, rfl, _, _, t, _, false, rfl, .ty "bool", ty, kB, false, rfl, q⟩
    | bl b => exact iteT ⟨_, rfl, _, _, t, _, true, rfl, .ty "bool", ty, kB, true, rfl, q⟩
    | _ => exact iteF q
def spIsNumberD (K : PySem.W.Frag) : Sp := fun vs H Q _ => ∃ (v : V) (d : Dat), vs = [v] ∧ DtAt K H v d ∧ Q (.bl (isNB (intD d))) H
theorem ok_is_numberD (T : Blt mg) (dP_is_int : DnIsInt K mg) (d : DnIsNumber K mg) : FnOk P w K mg base CX0 2 d.f d.fd ["thing"] (spIsNumberD K) := by
  have GP_is_int : FnOk P w K mg base CX0 1 dP_is_int.f dP_is_int.fd ["thing"] (spIsIntD K) := ok_is_intD T dP_is_int
  refine d.F.ok scP_is_number (fun vs H Q E h => ?_) (fun cdv A outer s H vs Q E hr h => ?_)
  · obtain ⟨v, n, rfl, _⟩ := h
    rfl
  · obtain ⟨v, x, rfl, hx, q⟩ := h
    refine ⟨_, (pss_one (ps_ret (pe_and (pe_call GP_is_int (hr.mono (by omega)) (by rfl) dP_is_int.g dP_is_int.F.kp dP_is_int.b .nil pass0 (pa_cons (pv 0) pa_nil)) (pe_one (pe_cmpR op_ge (pv 0) pe_int (nomark _)))))), ?_⟩
    refine ⟨v, rfl, v, x, rfl, hx, (intD x).isSome, rfl, ?_⟩
    cases x with
    | int i =>
      obtain ⟨rfl, _⟩ := hx.int
      exact iteT ⟨.int i, rfl, _, _, rfl, rfl, q⟩
    | _ => exact iteF q
def spIsRoomD (K : PySem.W.Frag) : Sp := fun vs H Q _ => ∃ (v : V) (d : Dat), vs = [v] ∧ DtAt K H v d ∧ Q (.bl (isRB (intD d))) H
theorem ok_is_roomD (T : Blt mg) (cM : Cst mg "MOST_ROOM" (.int 64)) (dP_is_int : DnIsInt K mg) (d : DnIsRoom K mg) : FnOk P w K mg base CX0 2 d.f d.fd ["thing"] (spIsRoomD K) := by
  have GP_is_int : FnOk P w K mg base CX0 1 dP_is_int.f dP_is_int.fd ["thing"] (spIsIntD K) := ok_is_intD T dP_is_int
  refine d.F.ok scP_is_room (fun vs H Q E h => ?_) (fun cdv A outer s H vs Q E hr h => ?_)
  · obtain ⟨v, n, rfl, _⟩ := h
    rfl
  · obtain ⟨v, x, rfl, hx, q⟩ := h
    refine ⟨_, (pss_one (ps_ret (pe_and (pe_call GP_is_int (hr.mono (by omega)) (by rfl) dP_is_int.g dP_is_int.F.kp dP_is_int.b .nil pass0 (pa_cons (pv 0) pa_nil)) (pe_one (pe_chain op_le op_le pe_int (pv 0) (pe_glob rfl cM.g cM.r)))))), ?_⟩
    refine ⟨v, rfl, v, x, rfl, hx, (intD x).isSome, rfl, ?_⟩
    cases x with
    | int i =>
      obtain ⟨rfl, _⟩ := hx.int
      have q : Q (.bl (decide (1 ≤ i) && decide (i ≤ 64))) H := q
      refine iteT ⟨.int i, rfl, _, _, rfl, rfl, decide (1 ≤ i), rfl, ite2 (fun e => ⟨_, _, rfl, rfl, ?_⟩) (fun e => ?_)⟩
      · rw [e, Bool.true_and] at q
        exact q
      · rw [show decide (1 ≤ i) = false from by simpa using e, Bool.false_and] at q
        exact q
    | _ => exact iteF q
end
end Kb

/-! a op1 b op2 c op3 d -/
namespace L2
open PySem PySem.Spec PyProof.Rows
section
variable {X : Cx} {a b c d : Expr} {ta tb tc td : TE} {pos : Pos}
def tChain3 (r r' r'' : R2) (ta tb tc td : TE) : TE := fun σ H Q => ta σ H fun x H1 => tb σ H1 fun y H2 => r x y H2 fun z H3 => ∃ k, z = .bl k ∧
  (if k = true then tc σ H3 fun w' H4 => r' y w' H4 fun z' H5 => ∃ k', z' = .bl k' ∧ (if k' = true then td σ H5 fun w2 H6 => r'' w' w2 H6 Q else Q (.bl false) H5) else Q (.bl false) H3)
theorem pe_chain3 {op op' op'' : CmpOp} {r r' r'' : R2} (ho : OpR X (compareOp op) r) (ho' : OpR X (compareOp op') r') (ho'' : OpR X (compareOp op'') r'') (ha : PE X a ta) (hb : PE X b tb) (hc : PE X c tc) (hd : PE X d td)
    (hm : lastMarks [op, op', op''] [b, c, d] = false := by with_unfolding_all rfl) : PE X (.Compare a [op, op', op''] [b, c, d] pos) (tChain3 r r' r'' ta tb tc td) := by
  refine ⟨fun pins s σ H Q I h => ?_⟩
  refine Compare_chain (thn (ha.run pins s σ H _ I h) fun v s1 ⟨x, H1, I1, r1, q1⟩ => chain_link (thn (hb.run pins s1 σ H1 _ I1 q1) fun u s2 ⟨y, H2, I2, r2, q2⟩ =>
    thn (ho pins s2 σ H2 x y v u _ I2 r1 r2 q2) fun d s3 ⟨z, H3, I3, r3, k, e, q3⟩ => ?_)) hm
  subst e
  cases r3
  refine wpAny_truthy_bool ?_
  cases k with
  | false => exact ite_ff ⟨.bl false, H3, I3, rfl, q3⟩
  | true =>
    refine ite_tt (chain_link (thn (hc.run pins s3 σ H3 _ I3 q3) fun w' s4 ⟨z', H4, I4, r4, q4⟩ => thn (ho' pins s4 σ H4 y z' u w' _ I4 r2 r4 q4) fun d s5 ⟨z2, H5, I5, r5, k', e', q5⟩ => ?_))
    subst e'
    cases r5
    refine wpAny_truthy_bool ?_
    cases k' with
    | false => exact ite_ff ⟨.bl false, H5, I5, rfl, q5⟩
    | true => exact ite_tt (chain_last (thn (hd.run pins s5 σ H5 _ I5 q5) fun w2 s6 ⟨z3, H6, I6, r6, q6⟩ => ho'' pins s6 σ H6 z' z3 w' w2 Q I6 r4 r6 q6))
end
end L2

namespace Kb
open PySem PySem.Spec PyProof.Rows L2 RZ
/-! marks and ranks judged, as mathematics -/
structure Mk where
  t : Int
  b : Int
  w : Int
  x : Int
  y : Int
  z : Int
def frD (m : Mk) : Dat := .tup [.int m.t, .int m.b]
def mk2 (m : Mk) : Dat := .tup [frD m, .int m.w, .int m.x, .int m.y, .int m.z]
def lenD : Dat → Nat
  | .tup ks => ks.length
  | _ => 0
def gcB (t b : Int) : Bool := decide (((Nat.gcd t.natAbs b.natAbs : Nat) : Int) = 1)
def frB : Dat → Bool
  | .tup [x, y] => (intD x).isSome && ((intD y).isSome && (decide (1 ≤ geI y) && gcB (geI x) (geI y)))
  | _ => false
def bdB (n a b c d : Int) : Bool := (decide (0 ≤ a) && (decide (a < c) && decide (c ≤ n))) && ((decide (a ≤ b) && (decide (b < d) && decide (d ≤ n))) && decide (c ≤ d))
def mkB (n : Int) : Dat → Bool
  | .tup [f, a, b, c, d] => frB f && ((([a, b, c, d].map fun x => (intD x).isSome).all id) && bdB n (geI a) (geI b) (geI c) (geI d))
  | _ => false
structure FrOk (t b : Int) : Prop where
  b1 : 1 ≤ b
  g : Nat.gcd t.natAbs b.natAbs = 1
structure BdOk (n : Int) (m : Mk) : Prop where
  a0 : 0 ≤ m.w
  ac : m.w < m.y
  cn : m.y ≤ n
  ab : m.w ≤ m.x
  bd : m.x < m.z
  dn : m.z ≤ n
  cd : m.y ≤ m.z
theorem bdB_iff {n : Int} {m : Mk} : bdB n m.w m.x m.y m.z = true ↔ BdOk n m := by
  unfold bdB
  simp only [Bool.and_eq_true, decide_eq_true_eq]
  exact ⟨fun ⟨⟨h1, h2, h3⟩, ⟨h4, h5, h6⟩, h7⟩ => ⟨h1, h2, h3, h4, h5, h6, h7⟩, fun ⟨h1, h2, h3, h4, h5, h6, h7⟩ => ⟨⟨h1, h2, h3⟩, ⟨h4, h5, h6⟩, h7⟩⟩
theorem gcB_iff {t b : Int} : gcB t b = true ↔ Nat.gcd t.natAbs b.natAbs = 1 := by
  unfold gcB
  rw [decide_eq_true_eq]
  omega
theorem frB_is {d : Dat} (h : frB d = true) : ∃ t b, d = .tup [.int t, .int b] ∧ FrOk t b := by
  match d, h with
  | .tup [x, y], h =>
    have h : ((intD x).isSome && ((intD y).isSome && (decide (1 ≤ geI y) && gcB (geI x) (geI y)))) = true := h
    cases x with
    | int t =>
      cases y with
      | int b =>
        have h : (true && (true && (decide (1 ≤ b) && gcB t b))) = true := h
        simp only [Bool.true_and, Bool.and_eq_true, decide_eq_true_eq] at h
        exact ⟨t, b, rfl, h.1, gcB_iff.mp h.2⟩
      | _ => cases h
    | _ => cases h
theorem frB_of {t b : Int} (h : FrOk t b) : frB (.tup [.int t, .int b]) = true := by
  show (true && (true && (decide (1 ≤ b) && gcB t b))) = true
  rw [decide_eq_true h.b1, gcB_iff.mpr h.g]
  rfl
structure MkOk (n : Int) (m : Mk) : Prop where
  fr : FrOk m.t m.b
  bd : BdOk n m
theorem mkB_is {n : Int} {d : Dat} (h : mkB n d = true) : ∃ m, d = mk2 m ∧ MkOk n m := by
  match d, h with
  | .tup [f, a, b, c, e], h =>
    have h : (frB f && ((([a, b, c, e].map fun x => (intD x).isSome).all id) && bdB n (geI a) (geI b) (geI c) (geI e))) = true := h
    rw [Bool.and_eq_true, Bool.and_eq_true] at h
    obtain ⟨h1, h2, h3⟩ := h
    obtain ⟨t, q, rfl, fo⟩ := frB_is h1
    have h2 : ((intD a).isSome && ((intD b).isSome && ((intD c).isSome && ((intD e).isSome && true)))) = true := h2
    cases a with
    | int a =>
      cases b with
      | int b =>
        cases c with
        | int c =>
          cases e with
          | int e => exact ⟨⟨t, q, a, b, c, e⟩, rfl, fo, bdB_iff.mp h3⟩
          | _ => cases h2
        | _ => cases h2
      | _ => cases h2
    | _ => cases h2
theorem mkB_of {n : Int} {m : Mk} (h : MkOk n m) : mkB n (mk2 m) = true := by
  show (frB (.tup [.int m.t, .int m.b]) && (true && bdB n m.w m.x m.y m.z)) = true
  rw [frB_of h.fr, bdB_iff.mpr h.bd]
  rfl
def mkO : Dat → Mk
  | .tup [.tup [.int t, .int b], .int w, .int x, .int y, .int z] => ⟨t, b, w, x, y, z⟩
  | _ => ⟨0, 1, 0, 0, 1, 1⟩
theorem mkO_2 (m : Mk) : mkO (mk2 m) = m := rfl
theorem mkO_is {n : Int} {d : Dat} (h : mkB n d = true) : mk2 (mkO d) = d ∧ MkOk n (mkO d) := by
  obtain ⟨m, rfl, o⟩ := mkB_is h
  exact ⟨rfl, o⟩
def lsB (t b t' b' : Int) : Bool := decide (t * b' < t' * b)
def flB (m o : Mk) : Bool := lsB m.t m.b o.t o.b && (decide (m.y ≤ o.w) && decide (m.z ≤ o.x))
def stB (ms : List Mk) : List Bool := (ms.zip (ms.drop 1)).map fun p => flB p.1 p.2
theorem stB_len (ms : List Mk) : (stB ms).length = min ms.length (ms.drop 1).length := by
  unfold stB
  rw [List.length_map, List.length_zip]
theorem stB_at {ms : List Mk} {i : Nat} {d e : Mk} (h1 : ms[i]? = some d) (h2 : (ms.drop 1)[i]? = some e) : (stB ms)[i]? = some (flB d e) := by
  unfold stB
  rw [List.getElem?_map, (List.getElem?_zip_eq_some (z := (d, e))).mpr ⟨h1, h2⟩]
  rfl
def mksB (n : Dat) : Dat → Bool
  | .tup ds => isNB (intD n) && (ds.all (mkB (geI n)) && (stB (ds.map mkO)).all id)
  | _ => false
def rkB : Dat → Bool
  | .tup [r, n, k] => isRB (intD r) && (mksB n k && decide ((lenD k : Int) ≤ geI r))
  | _ => false
theorem isNB_is {d : Dat} (h : isNB (intD d) = true) : ∃ i, d = .int i ∧ 0 ≤ i := by
  cases d with
  | int i => exact ⟨i, rfl, of_decide_eq_true h⟩
  | _ => cases h
theorem isRB_is {d : Dat} (h : isRB (intD d) = true) : ∃ i, d = .int i ∧ 1 ≤ i ∧ i ≤ 64 := by
  cases d with
  | int i =>
    have h : (decide (1 ≤ i) && decide (i ≤ 64)) = true := h
    rw [Bool.and_eq_true, decide_eq_true_eq, decide_eq_true_eq] at h
    exact ⟨i, rfl, h.1, h.2⟩
  | _ => cases h
structure RkOk (r n : Int) (ms : List Mk) : Prop where
  r1 : 1 ≤ r
  r64 : r ≤ 64
  n0 : 0 ≤ n
  mks : ∀ m ∈ ms, MkOk n m
  st : (stB ms).all id = true
  len : (ms.length : Int) ≤ r
def rk2 (r n : Int) (ms : List Mk) : Dat := .tup [.int r, .int n, .tup (ms.map mk2)]
theorem mks_is {n : Int} {ds : List Dat} (h : ds.all (mkB n) = true) : (ds.map mkO).map mk2 = ds ∧ ∀ m ∈ ds.map mkO, MkOk n m := by
  have h := List.all_eq_true.mp h
  refine ⟨?_, fun m hm => ?_⟩
  · rw [List.map_map]
    conv => rhs; rw [← List.map_id ds]
    exact List.map_congr_left fun d hd => (mkO_is (h d hd)).1
  · obtain ⟨d, hd, rfl⟩ := List.mem_map.mp hm
    exact (mkO_is (h d hd)).2
theorem rkB_is {d : Dat} (h : rkB d = true) : ∃ r n ms, d = rk2 r n ms ∧ RkOk r n ms := by
  match d, h with
  | .tup [x, y, k], h =>
    have h : (isRB (intD x) && (mksB y k && decide ((lenD k : Int) ≤ geI x))) = true := h
    rw [Bool.and_eq_true, Bool.and_eq_true] at h
    obtain ⟨h1, h2, h3⟩ := h
    obtain ⟨r, rfl, r1, r64⟩ := isRB_is h1
    cases k with
    | tup ds =>
      have h2 : (isNB (intD y) && (ds.all (mkB (geI y)) && (stB (ds.map mkO)).all id)) = true := h2
      rw [Bool.and_eq_true, Bool.and_eq_true] at h2
      obtain ⟨h4, h5, h6⟩ := h2
      obtain ⟨n, rfl, n0⟩ := isNB_is h4
      obtain ⟨e, al⟩ := mks_is h5
      have h3 : (ds.length : Int) ≤ r := of_decide_eq_true h3
      refine ⟨r, n, ds.map mkO, ?_, r1, r64, n0, al, h6, by rw [List.length_map]; exact h3⟩
      rw [rk2, e]
    | _ => cases h2
theorem map_mkO (ms : List Mk) : (ms.map mk2).map mkO = ms := by
  rw [List.map_map]
  conv => rhs; rw [← List.map_id ms]
  exact List.map_congr_left fun m _ => rfl
theorem rkB_of {r n : Int} {ms : List Mk} (h : RkOk r n ms) : rkB (rk2 r n ms) = true := by
  show ((decide (1 ≤ r) && decide (r ≤ 64)) && ((decide (0 ≤ n) && ((ms.map mk2).all (mkB n) && (stB ((ms.map mk2).map mkO)).all id)) && decide (((ms.map mk2).length : Int) ≤ r))) = true
  rw [decide_eq_true h.r1, decide_eq_true h.r64, decide_eq_true h.n0, map_mkO, h.st, List.length_map, decide_eq_true h.len, List.all_eq_true.mpr fun d hd => by
    obtain ⟨m, hm, rfl⟩ := List.mem_map.mp hd
    exact mkB_of (h.mks m hm)]
  rfl
/-! small -/
theorem two {α : Type} {xs : List α} (h : xs.length = 2) : ∃ a b, xs = [a, b] := match xs, h with | [a, b], _ => ⟨a, b, rfl⟩
theorem three {α : Type} {xs : List α} (h : xs.length = 3) : ∃ a b c, xs = [a, b, c] := match xs, h with | [a, b, c], _ => ⟨a, b, c, rfl⟩
theorem five {α : Type} {xs : List α} (h : xs.length = 5) : ∃ a b c d e, xs = [a, b, c, d, e] := match xs, h with | [a, b, c, d, e], _ => ⟨a, b, c, d, e, rfl⟩
theorem paired2 {α β : Type} {F : α → β → Prop} {a b : α} {e f : β} (p : Paired F [a, b] [e, f]) : F a e ∧ F b f := by
  cases p with | cons h1 p =>
  cases p with | cons h2 p =>
  exact ⟨h1, h2⟩
theorem paired3 {α β : Type} {F : α → β → Prop} {a b c : α} {e f g : β} (p : Paired F [a, b, c] [e, f, g]) : F a e ∧ F b f ∧ F c g := by
  cases p with | cons h1 p =>
  exact ⟨h1, paired2 p⟩
theorem paired5 {α β : Type} {F : α → β → Prop} {a b c d x : α} {e f g h y : β} (p : Paired F [a, b, c, d, x] [e, f, g, h, y]) : F a e ∧ F b f ∧ F c g ∧ F d h ∧ F x y := by
  cases p with | cons h1 p =>
  cases p with | cons h2 p =>
  exact ⟨h1, h2, paired3 p⟩
theorem frB_long {ds : List Dat} (h : ds.length ≠ 2) : frB (.tup ds) = false := by
  match ds, h with
  | [], _ => rfl
  | [_], _ => rfl
  | [_, _], h => exact absurd rfl h
  | _ :: _ :: _ :: _, _ => rfl
theorem rkB_long {ds : List Dat} (h : ds.length ≠ 3) : rkB (.tup ds) = false := by
  match ds, h with
  | [], _ => rfl
  | [_], _ => rfl
  | [_, _], _ => rfl
  | [_, _, _], h => exact absurd rfl h
  | _ :: _ :: _ :: _ :: _, _ => rfl
theorem mkB_long {n : Int} {ds : List Dat} (h : ds.length ≠ 5) : mkB n (.tup ds) = false := by
  match ds, h with
  | [], _ => rfl
  | [_], _ => rfl
  | [_, _], _ => rfl
  | [_, _, _], _ => rfl
  | [_, _, _, _], _ => rfl
  | [_, _, _, _, _], h => exact absurd rfl h
  | _ :: _ :: _ :: _ :: _ :: _ :: _, _ => rfl
theorem lg90 {n : Nat} (h : n ≤ 2 ^ 90) : n.log2 < 91 := by
  by_cases h0 : n = 0
  · subst h0
    decide
  · rw [Nat.log2_lt h0]
    exact Nat.lt_of_le_of_lt h (by decide)
theorem mulW {i j : Int} (h1 : i.natAbs ≤ 2 ^ 90) (h2 : j.natAbs ≤ 2 ^ 90) : CMulW i j := by
  have a := lg90 h1
  have b := lg90 h2
  show i.natAbs.log2 + j.natAbs.log2 < 1000000
  omega
/-- a right mark, where it stands -/
structure MkAt (H : Hp) (u f : Addr) (m : Mk) : Prop where
  ob : Ptp H u [.ref f, .int m.w, .int m.x, .int m.y, .int m.z]
  fr : Ptp H f [.int m.t, .int m.b]
  sz : m.t.natAbs ≤ 2 ^ 90 ∧ m.b.natAbs ≤ 2 ^ 90
theorem MkAt.same {H H' : Hp} {u f : Addr} {m : Mk} (h : MkAt H u f m) (s : Same H H') : MkAt H' u f m := ⟨h.ob.same s, h.fr.same s, h.sz⟩
theorem mk_at {K : PySem.W.Frag} {H : Hp} {v : V} {m : Mk} (h : DtAt K H v (mk2 m)) : ∃ u f, v = .ref u ∧ MkAt H u f m := by
  obtain ⟨u, xs, rfl, h1, h2, h3⟩ := h.tup
  obtain ⟨x1, x2, x3, x4, x5, rfl⟩ := five (show xs.length = 5 from Paired.length h3)
  obtain ⟨e1, e2, e3, e4, e5⟩ := paired5 h3
  obtain ⟨f, ys, rfl, g1, g2, g3⟩ := DtAt.tup (ds := [.int m.t, .int m.b]) e1
  obtain ⟨y1, y2, rfl⟩ := two (show ys.length = 2 from Paired.length g3)
  obtain ⟨f1, f2⟩ := paired2 g3
  obtain ⟨rfl, _⟩ := e2.int
  obtain ⟨rfl, _⟩ := e3.int
  obtain ⟨rfl, _⟩ := e4.int
  obtain ⟨rfl, _⟩ := e5.int
  obtain ⟨rfl, z1⟩ := f1.int
  obtain ⟨rfl, z2⟩ := f2.int
  exact ⟨u, f, rfl, h1, g1, z1, z2⟩
/-- a < b < c and so on, of ints that are there -/
theorem rd_and {ta tb : TE} {σ : L2.St} {H : Hp} {Q : VK} {x y : Bool} (ha : ∀ Q : VK, Q (.bl x) H → ta σ H Q) (hb : x = true → ∀ Q : VK, Q (.bl y) H → tb σ H Q) (q : Q (.bl (x && y)) H) : tAndV ta tb σ H Q := by
  refine ha _ ⟨x, rfl, ?_⟩
  cases x with
  | true => exact iteT (hb rfl _ q)
  | false => exact iteF q
theorem rd_chain3 {ta tb tc td : TE} {σ : L2.St} {H : Hp} {Q : VK} {i j k l : Int} (ha : ∀ Q : VK, Q (.int i) H → ta σ H Q) (hb : ∀ Q : VK, Q (.int j) H → tb σ H Q) (hc : ∀ Q : VK, Q (.int k) H → tc σ H Q) (hd : ∀ Q : VK, Q (.int l) H → td σ H Q)
    (q : Q (.bl (decide (i ≤ j) && (decide (j < k) && decide (k ≤ l)))) H) : tChain3 (rI0 fun i j => .bl (decide (i ≤ j))) (rI0 fun i j => .bl (decide (i < j))) (rI0 fun i j => .bl (decide (i ≤ j))) ta tb tc td σ H Q := by
  refine ha _ (hb _ ⟨_, _, rfl, rfl, decide (i ≤ j), rfl, ?_⟩)
  cases c1 : decide (i ≤ j) with
  | false =>
    rw [c1, Bool.false_and] at q
    exact iteF q
  | true =>
    rw [c1, Bool.true_and] at q
    refine iteT (hc _ ⟨_, _, rfl, rfl, decide (j < k), rfl, ?_⟩)
    cases c2 : decide (j < k) with
    | false =>
      rw [c2, Bool.false_and] at q
      exact iteF q
    | true =>
      rw [c2, Bool.true_and] at q
      exact iteT (hd _ ⟨_, _, rfl, rfl, q⟩)
theorem rd_bounds {t0 ta tb tc td tn : TE} {σ : L2.St} {H : Hp} {Q : VK} {n a b c d : Int} (h0 : ∀ Q : VK, Q (.int 0) H → t0 σ H Q) (ha : ∀ Q : VK, Q (.int a) H → ta σ H Q) (hb : ∀ Q : VK, Q (.int b) H → tb σ H Q) (hc : ∀ Q : VK, Q (.int c) H → tc σ H Q) (hd : ∀ Q : VK, Q (.int d) H → td σ H Q) (hn : ∀ Q : VK, Q (.int n) H → tn σ H Q)
    (q : Q (.bl (bdB n a b c d)) H) : tAndV (tChain3 (rI0 fun i j => .bl (decide (i ≤ j))) (rI0 fun i j => .bl (decide (i < j))) (rI0 fun i j => .bl (decide (i ≤ j))) t0 ta tc tn) (tAndV (tChain3 (rI0 fun i j => .bl (decide (i ≤ j))) (rI0 fun i j => .bl (decide (i < j))) (rI0 fun i j => .bl (decide (i ≤ j))) ta tb td tn) (tOp (rI0 fun i j => .bl (decide (i ≤ j))) tc td)) σ H Q :=
  rd_and (x := decide (0 ≤ a) && (decide (a < c) && decide (c ≤ n))) (y := (decide (a ≤ b) && (decide (b < d) && decide (d ≤ n))) && decide (c ≤ d)) (fun Q q => rd_chain3 h0 ha hc hn q) (fun _ Q q => rd_and (x := decide (a ≤ b) && (decide (b < d) && decide (d ≤ n))) (y := decide (c ≤ d)) (fun Q q => rd_chain3 ha hb hd hn q) (fun _ Q q => hc _ (hd _ ⟨_, _, rfl, rfl, q⟩)) q) q
theorem rd_boundsV {ia ib ic id iN : Nat} {σ : L2.St} {H : Hp} {Q : VK} {n a b c d : Int} (ha : σ[ia]? = some (some (.int a))) (hb : σ[ib]? = some (some (.int b))) (hc : σ[ic]? = some (some (.int c))) (hd : σ[id]? = some (some (.int d))) (hn : σ[iN]? = some (some (.int n))) (q : Q (.bl (bdB n a b c d)) H) :
    tAndV (tChain3 (rI0 fun i j => .bl (decide (i ≤ j))) (rI0 fun i j => .bl (decide (i < j))) (rI0 fun i j => .bl (decide (i ≤ j))) (tC (.int 0)) (tVar ia) (tVar ic) (tVar iN)) (tAndV (tChain3 (rI0 fun i j => .bl (decide (i ≤ j))) (rI0 fun i j => .bl (decide (i < j))) (rI0 fun i j => .bl (decide (i ≤ j))) (tVar ia) (tVar ib) (tVar id) (tVar iN)) (tOp (rI0 fun i j => .bl (decide (i ≤ j))) (tVar ic) (tVar id))) σ H Q :=
  rd_bounds (fun Q q => q) (fun Q q => ⟨_, ha, q⟩) (fun Q q => ⟨_, hb, q⟩) (fun Q q => ⟨_, hc, q⟩) (fun Q q => ⟨_, hd, q⟩) (fun Q q => ⟨_, hn, q⟩) q
end Kb

namespace Kb
open PySem PySem.Spec PyProof.Rows L2 RZ
abbrev sP_is_fraction : Stmt := topS 12
abbrev NP_is_fraction : List Str := ["thing", "top", "bottom"]
theorem scP_is_fraction : FnScope ["thing", "top", "bottom"] ["thing"] (defScope sP_is_fraction) := ⟨rfl, rfl, rfl, by decide +kernel, rfl, by decide +kernel, by decide +kernel⟩
abbrev DnIsFraction (K : PySem.W.Frag) (mg : Str → Option Value) := Dn K mg "is_fraction" sP_is_fraction ["thing"]
abbrev sP_is_less : Stmt := topS 13
abbrev NP_is_less : List Str := ["one", "other"]
theorem scP_is_less : FnScope ["one", "other"] ["one", "other"] (defScope sP_is_less) := ⟨rfl, rfl, rfl, by decide +kernel, rfl, by decide +kernel, by decide +kernel⟩
abbrev DnIsLess (K : PySem.W.Frag) (mg : Str → Option Value) := Dn K mg "is_less" sP_is_less ["one", "other"]
abbrev NP_is_side : List Str := ["thing"]
abbrev NP_is_place : List Str := ["thing"]
abbrev sP_is_mark : Stmt := topS 17
abbrev NP_is_mark : List Str := ["many", "mark", "_", "a", "b", "c", "d", "bound"]
theorem scP_is_mark : FnScope ["many", "mark", "_", "a", "b", "c", "d", "bound"] ["many", "mark"] (defScope sP_is_mark) := ⟨rfl, rfl, rfl, by decide +kernel, rfl, by decide +kernel, by decide +kernel⟩
abbrev DnIsMark (K : PySem.W.Frag) (mg : Str → Option Value) := Dn K mg "_is_mark" sP_is_mark ["many", "mark"]
abbrev sP_may_follow : Stmt := topS 18
abbrev NP_may_follow : List Str := ["one", "other"]
theorem scP_may_follow : FnScope ["one", "other"] ["one", "other"] (defScope sP_may_follow) := ⟨rfl, rfl, rfl, by decide +kernel, rfl, by decide +kernel, by decide +kernel⟩
abbrev DnMayFollow (K : PySem.W.Frag) (mg : Str → Option Value) := Dn K mg "_may_follow" sP_may_follow ["one", "other"]
abbrev sP_are_marks : Stmt := topS 16
abbrev NP_are_marks : List Str := ["many", "marks", "one", "other", "mark"]
theorem scP_are_marks : FnScope ["many", "marks", "one", "other", "mark"] ["many", "marks"] (defScope sP_are_marks) := ⟨rfl, rfl, rfl, by decide +kernel, rfl, by decide +kernel, by decide +kernel⟩
abbrev DnAreMarks (K : PySem.W.Frag) (mg : Str → Option Value) := Dn K mg "_are_marks" sP_are_marks ["many", "marks"]
abbrev sP_is_ranks : Stmt := topS 15
abbrev NP_is_ranks : List Str := ["thing", "room", "many", "marks"]
theorem scP_is_ranks : FnScope ["thing", "room", "many", "marks"] ["thing"] (defScope sP_is_ranks) := ⟨rfl, rfl, rfl, by decide +kernel, rfl, by decide +kernel, by decide +kernel⟩
abbrev DnIsRanks (K : PySem.W.Frag) (mg : Str → Option Value) := Dn K mg "is_ranks" sP_is_ranks ["thing"]
section
variable {P : Program} {w : World} {K : PySem.W.Frag} {mg : Str → Option Value} {base : Heap}
def spIsFraction (K : PySem.W.Frag) : Sp := fun vs H Q _ => ∃ (v : V) (d : Dat), vs = [v] ∧ DtAt K H v d ∧ Q (.bl (frB d)) H
theorem ok_is_fraction (T : Blt mg) (gG : mg "gcd" = some (.builtin "math.gcd")) (dP_is_int : DnIsInt K mg) (d : DnIsFraction K mg) : FnOk P w K mg base CX0 2 d.f d.fd ["thing"] (spIsFraction K) := by
  have GP_is_int : FnOk P w K mg base CX0 1 dP_is_int.f dP_is_int.fd ["thing"] (spIsIntD K) := ok_is_intD T dP_is_int
  refine d.F.ok scP_is_fraction (fun vs H Q E h => ?_) (fun cdv A outer s H vs Q E hr h => ?_)
  · obtain ⟨v, n, rfl, _⟩ := h
    rfl
  · obtain ⟨v, x, rfl, hx, q⟩ := h
    refine ⟨_, (pss_cons (ps_if (PW.pt (pw_or (pt_not (pt_val (pe_callB (call_isD (K := K) rfl) (by rfl) T.n_isinstance (by decide +kernel) (pa_cons (pv 0) (pa_cons (pe_bltn (v := .ty "tuple") (by rfl) T.n_tuple (by decide +kernel) rfl) pa_nil))))) (pw_or1 (pt_cmpR op_ne (pe_callB call_len_seq (by rfl) T.n_len (by decide +kernel) (pa_cons (pv 0) pa_nil)) pe_int (nomark _)))))
      (pss_one (ps_ret pe_bl))
      pss_nil)
    (pss_cons (ps_asg (pv 0) (pg_tup (by rfl) (pgs_cons (pg_name (i := 1) scP_is_fraction.nd rfl (Or.inl rfl)) (pgs_cons (pg_name (i := 2) scP_is_fraction.nd rfl (Or.inl rfl)) pgs_nil))))
    (pss_one (ps_ret (pe_and (pe_call GP_is_int (hr.mono (by omega)) (by rfl) dP_is_int.g dP_is_int.F.kp dP_is_int.b .nil pass0 (pa_cons (pv 1) pa_nil)) (pe_and (pe_call GP_is_int (hr.mono (by omega)) (by rfl) dP_is_int.g dP_is_int.F.kp dP_is_int.b .nil pass0 (pa_cons (pv 2) pa_nil)) (pe_and (pe_cmpR op_ge (pv 2) pe_int (nomark _)) (pe_one (pe_cmpR op_eq (pe_callBfun cr_gcd (by rfl) gG (pa_cons (pv 1) (pa_cons (pv 2) pa_nil))) pe_int (nomark _)))))))))), ?_⟩
    obtain ⟨t, ty, kI, kB, kS, kT⟩ := hx.ty
    refine ⟨v, rfl, v, _, t, _, isT x, rfl, .ty "tuple", ty, kT, isT x, rfl, ?_⟩
    cases x with
    | tup ds =>
      obtain ⟨a, xs, rfl, h1, h2, h3⟩ := hx.tup
      have hl := Paired.length h3
      refine iteF ⟨.ref a, rfl, a, _, rfl, .inr h1.seq, rfl, ?_⟩
      by_cases h2l : ds.length = 2
      · obtain ⟨d1, d2, rfl⟩ := two h2l
        obtain ⟨x1, x2, rfl⟩ := two (hl.trans h2l)
        obtain ⟨e1, e2⟩ := paired2 h3
        refine ⟨false, rfl, iteF ?_⟩
        refine ⟨.ref a, rfl, a, _, rfl, h1.seq, rfl, _, _, rfl, _, _, rfl, rfl, ?_⟩
        refine ⟨x1, rfl, x1, d1, rfl, e1, (intD d1).isSome, rfl, ?_⟩
        cases d1 with
        | int i =>
          obtain ⟨rfl, _⟩ := e1.int
          refine iteT ⟨x2, rfl, x2, d2, rfl, e2, (intD d2).isSome, rfl, ?_⟩
          cases d2 with
          | int j =>
            obtain ⟨rfl, _⟩ := e2.int
            have q : Q (.bl (decide (1 ≤ j) && gcB i j)) H := q
            refine iteT ⟨.int j, rfl, _, _, rfl, rfl, decide (1 ≤ j), rfl, ?_⟩
            cases c1 : decide (1 ≤ j) with
            | false =>
              rw [c1, Bool.false_and] at q
              exact iteF q
            | true =>
              rw [c1, Bool.true_and] at q
              refine iteT ⟨.int i, rfl, .int j, rfl, i, j, rfl, rfl, ?_⟩
              rw [show decide (V.int ((Nat.gcd i.natAbs j.natAbs : Nat) : Int) = V.int 1) = gcB i j by rw [gcB, dec_int]; rfl]
              exact q
          | _ => exact iteF q
        | _ => exact iteF q
      · rw [frB_long h2l] at q
        refine ⟨true, congrArg V.bl ?_, iteT q⟩
        rw [decide_eq_false (by
          intro z
          injection z with z
          omega)]
        rfl
    | _ => exact iteT (iteT q)
/-! is_less, is_side, is_place -/
def spIsLess (K : PySem.W.Frag) : Sp := fun vs H Q _ => ∃ (a c : Addr) (t b t' b' : Int), vs = [.ref a, .ref c] ∧ Ptp H a [.int t, .int b] ∧ Ptp H c [.int t', .int b'] ∧ (t.natAbs ≤ 2 ^ 90 ∧ b.natAbs ≤ 2 ^ 90) ∧ (t'.natAbs ≤ 2 ^ 90 ∧ b'.natAbs ≤ 2 ^ 90) ∧ Q (.bl (lsB t b t' b')) H
theorem ok_is_less (d : DnIsLess K mg) : FnOk P w K mg base CX0 1 d.f d.fd ["one", "other"] (spIsLess K) := by
  refine d.F.ok scP_is_less (fun vs H Q E h => ?_) (fun cdv A outer s H vs Q E hr h => ?_)
  · obtain ⟨a, c, t, b, t', b', rfl, _⟩ := h
    rfl
  · obtain ⟨a, c, t, b, t', b', rfl, h1, h2, ⟨z1, z2⟩, ⟨z3, z4⟩, q⟩ := h
    refine ⟨_, (pss_one (ps_ret (pe_cmpR op_lt (pe_op op_mulW (pe_ix ix_tup (pv 0) pe_int (fun _ _ => rfl)) (pe_ix ix_tup (pv 1) pe_int (fun _ _ => rfl))) (pe_op op_mulW (pe_ix ix_tup (pv 1) pe_int (fun _ _ => rfl)) (pe_ix ix_tup (pv 0) pe_int (fun _ _ => rfl))) (nomark _)))), ?_⟩
    refine ⟨.ref a, rfl, a, _, _, _, rfl, rfl, h1.seq, atI_nat (j := 0) rfl, .ref c, rfl, c, _, _, _, rfl, rfl, h2.seq, atI_nat (j := 1) rfl, _, _, rfl, rfl, mulW z1 z4, .ref c, rfl, c, _, _, _, rfl, rfl, h2.seq, atI_nat (j := 0) rfl, .ref a, rfl, a, _, _, _, rfl, rfl, h1.seq, atI_nat (j := 1) rfl, _, _, rfl, rfl, mulW z3 z2, _, _, rfl, rfl, q⟩
def sdB : Option Int → Bool
  | some i => decide (0 ≤ i) && decide (i ≤ 1)
  | none => false
def spIsSide (K : PySem.W.Frag) : Sp := fun vs H Q _ => ∃ (v : V) (d : Dat), vs = [v] ∧ DtAt K H v d ∧ Q (.bl (sdB (intD d))) H
/-- of a right place -/
def spIsPlace (K : PySem.W.Frag) : Sp := fun vs H Q _ => ∃ (a f : Addr) (t b s : Int), vs = [.ref a] ∧ Ptp H a [.ref f, .int s] ∧ Ptp H f [.int t, .int b] ∧ (t.natAbs ≤ 2 ^ 90 ∧ b.natAbs ≤ 2 ^ 90) ∧ FrOk t b ∧ 0 ≤ s ∧ s ≤ 1 ∧ Q (.bl true) H
theorem fr_dt {K : PySem.W.Frag} {H : Hp} {f : Addr} {t b : Int} (h : Ptp H f [.int t, .int b]) (z : t.natAbs ≤ 2 ^ 90 ∧ b.natAbs ≤ 2 ^ 90) : DtAt K H (.ref f) (.tup [.int t, .int b]) := DtAt.mk h (by show 2 ≤ 5000; decide) (.cons (.lf ⟨rfl, z.1⟩) (.cons (.lf ⟨rfl, z.2⟩) .nil))
end
end Kb

namespace Kb
open PySem PySem.Spec PyProof.Rows L2 RZ
section
variable {P : Program} {w : World} {K : PySem.W.Frag} {mg : Str → Option Value} {base : Heap}
theorem isI_is {d : Dat} (h : (intD d).isSome = true) : ∃ i, d = .int i := by
  cases d with
  | int i => exact ⟨i, rfl⟩
  | _ => cases h
/-! _is_mark -/
def spIsMark (K : PySem.W.Frag) : Sp := fun vs H Q _ => ∃ (n : Int) (v : V) (d : Dat), vs = [.int n, v] ∧ DtAt K H v d ∧ ∀ H', Same H H' → Q (.bl (mkB n d)) H'
theorem ok_is_mark (T : Blt mg) (gG : mg "gcd" = some (.builtin "math.gcd")) (dP_is_int : DnIsInt K mg) (dP_is_fraction : DnIsFraction K mg) (d : DnIsMark K mg) : FnOk P w K mg base CX0 3 d.f d.fd ["many", "mark"] (spIsMark K) := by
  have GP_is_int : FnOk P w K mg base CX0 1 dP_is_int.f dP_is_int.fd ["thing"] (spIsIntD K) := ok_is_intD T dP_is_int
  have GP_is_fraction : FnOk P w K mg base CX0 2 dP_is_fraction.f dP_is_fraction.fd ["thing"] (spIsFraction K) := ok_is_fraction T gG dP_is_int dP_is_fraction
  refine d.F.ok scP_is_mark (fun vs H Q E h => ?_) (fun cdv A outer s H vs Q E hr h => ?_)
  · obtain ⟨v, n, x, rfl, _⟩ := h
    rfl
  · obtain ⟨n, v, x, rfl, hx, q⟩ := h
    refine ⟨_, (pss_cons (ps_if (PW.pt (pw_or (pt_not (pt_val (pe_callB (call_isD (K := K) rfl) (by rfl) T.n_isinstance (by decide +kernel) (pa_cons (pv 1) (pa_cons (pe_bltn (v := .ty "tuple") (by rfl) T.n_tuple (by decide +kernel) rfl) pa_nil))))) (pw_or (pt_cmpR op_ne (pe_callB call_len_seq (by rfl) T.n_len (by decide +kernel) (pa_cons (pv 1) pa_nil)) pe_int (nomark _)) (pw_or1 (pt_not (pt_val (pe_call GP_is_fraction (hr.mono (by omega)) (by rfl) dP_is_fraction.g dP_is_fraction.F.kp dP_is_fraction.b .nil pass0 (pa_cons (pe_ix ix_tup (pv 1) pe_int (fun _ _ => rfl)) pa_nil))))))))
      (pss_one (ps_ret pe_bl))
      pss_nil)
    (pss_cons (ps_if (pt_not (pt_val (pe_callB (cr_all rfl) (by rfl) T.n_all (by decide +kernel) (pa_cons (pe_lc (own := [("bound", 7)]) (g := gName 7) (tt := tYes) rfl scP_is_mark.nd (pi_tup (pe_slice sl_tupP (pv 1) (po_some pe_int) po_none)) (blkOk_by (N := NP_is_mark) (sc := defScope sP_is_mark) (by decide +kernel)) (fun _ _ _ _ _ => pg_name (i := 7) scP_is_mark.nd rfl (Or.inl rfl)) (fun _ _ _ _ _ => pts_nil) (fun _ _ _ _ _ => (pe_call GP_is_int (hr.mono (by omega)) (by rfl) dP_is_int.g dP_is_int.F.kp dP_is_int.b .nil pass0 (pa_cons (pv 7) pa_nil)))) pa_nil))))
      (pss_one (ps_ret pe_bl))
      pss_nil)
    (pss_cons (ps_asg (pv 1) (pg_tup (by rfl) (pgs_cons (pg_name (i := 2) scP_is_mark.nd rfl (Or.inl rfl)) (pgs_cons (pg_name (i := 3) scP_is_mark.nd rfl (Or.inl rfl)) (pgs_cons (pg_name (i := 4) scP_is_mark.nd rfl (Or.inl rfl)) (pgs_cons (pg_name (i := 5) scP_is_mark.nd rfl (Or.inl rfl)) (pgs_cons (pg_name (i := 6) scP_is_mark.nd rfl (Or.inl rfl)) pgs_nil)))))))
    (pss_one (ps_ret (pe_and (pe_chain3 op_le op_lt op_le pe_int (pv 3) (pv 5) (pv 0)) (pe_and (pe_chain3 op_le op_lt op_le (pv 3) (pv 4) (pv 6) (pv 0)) (pe_one (pe_cmpR op_le (pv 5) (pv 6) (nomark _)))))))))), ?_⟩
    obtain ⟨t, ty, kI, kB, kS, kT⟩ := hx.ty
    refine ⟨v, rfl, v, _, t, _, isT x, rfl, .ty "tuple", ty, kT, isT x, rfl, ?_⟩
    cases x with
    | tup ds =>
      obtain ⟨a, xs, rfl, h1, h2, h3⟩ := hx.tup
      have hl := Paired.length h3
      refine iteF ⟨.ref a, rfl, a, _, rfl, .inr h1.seq, rfl, ?_⟩
      by_cases h2l : ds.length = 5
      · obtain ⟨d1, d2, d3, d4, d5, rfl⟩ := five h2l
        obtain ⟨x1, x2, x3, x4, x5, rfl⟩ := five (hl.trans h2l)
        obtain ⟨e1, e2, e3, e4, e5⟩ := paired5 h3
        have q : ∀ H', Same H H' → Q (.bl (frB d1 && ((([d2, d3, d4, d5].map fun x => (intD x).isSome).all id) && bdB n (geI d2) (geI d3) (geI d4) (geI d5)))) H' := q
        refine ⟨false, rfl, iteF ?_⟩
        refine ⟨.ref a, rfl, a, _, _, _, rfl, rfl, h1.seq, atI_nat (j := 0) rfl, x1, d1, rfl, e1, frB d1, rfl, ?_⟩
        cases c1 : frB d1 with
        | false =>
          rw [c1, Bool.false_and] at q
          exact iteT (q H (Same.refl H))
        | true =>
          rw [c1, Bool.true_and] at q
          refine iteF ⟨.ref a, rfl, 1, rfl, a, _, rfl, h1, fun p H2 s2 hp => ?_⟩
          rw [cut_from1] at hp
          have hp : Ptp H2 p [x2, x3, x4, x5] := hp
          refine ⟨p, rfl, ⟨_, hp.seq⟩, fun D nD => ?_⟩
          have h3' : Paired (DtAt K H) [x2, x3, x4, x5] [d2, d3, d4, d5] := .cons e2 (.cons e3 (.cons e4 (.cons e5 .nil)))
          refine lc_tup (xs := [x2, x3, x4, x5]) (fun i H3 => Same H2 H3 ∧ H3 D = some (.lst ((([d2, d3, d4, d5].take i).map fun x => (intD x).isSome).map V.bl))) ⟨same_upd nD, upd_same⟩ (fun i H3 _ h3 => (hp.same h3.1).seq) (fun i u H3 hu g3 => ?_) (fun H3 g3 => ?_)
          · obtain ⟨e, he, hat⟩ := paired_at h3' hu
            obtain ⟨s3, hD⟩ := g3
            refine ⟨rfl, u, rfl, u, e, rfl, (hat.same s2).same s3, _, hD, ?_, Same.put s3 nD, ?_⟩
            · rw [List.length_map, List.length_map, List.length_take, sizeLine_eq]
              have : [d2, d3, d4, d5].length = 4 := rfl
              omega
            · rw [upd_same, List.take_add_one, he, List.map_append, List.map_append]
              rfl
          obtain ⟨s3, hD⟩ := g3
          have s23 := s2.trans s3
          refine ⟨D, ([d2, d3, d4, d5].map fun x => (intD x).isSome), rfl, sql hD, ([d2, d3, d4, d5].map fun x => (intD x).isSome).all id, rfl, ?_⟩
          cases c2 : ([d2, d3, d4, d5].map fun x => (intD x).isSome).all id with
          | false =>
            rw [c2, Bool.false_and] at q
            exact iteT (q H3 s23)
          | true =>
            rw [c2, Bool.true_and] at q
            have c2 : ((intD d2).isSome && ((intD d3).isSome && ((intD d4).isSome && ((intD d5).isSome && true)))) = true := c2
            simp only [Bool.and_eq_true] at c2
            obtain ⟨k2, k3, k4, k5, _⟩ := c2
            obtain ⟨i2, rfl⟩ := isI_is k2
            obtain ⟨i3, rfl⟩ := isI_is k3
            obtain ⟨i4, rfl⟩ := isI_is k4
            obtain ⟨i5, rfl⟩ := isI_is k5
            obtain ⟨rfl, _⟩ := e2.int
            obtain ⟨rfl, _⟩ := e3.int
            obtain ⟨rfl, _⟩ := e4.int
            obtain ⟨rfl, _⟩ := e5.int
            refine iteF ⟨.ref a, rfl, a, _, rfl, (h1.same s23).seq, rfl, _, _, rfl, _, _, rfl, _, _, rfl, _, _, rfl, _, _, rfl, rfl, ?_⟩
            exact rd_boundsV (ia := 3) (ib := 4) (ic := 5) (id := 6) (iN := 0) rfl rfl rfl rfl rfl (q H3 s23)
      · have q := q H (Same.refl H)
        rw [mkB_long h2l] at q
        refine ⟨true, congrArg V.bl ?_, iteT q⟩
        rw [decide_eq_false (by
          intro z
          injection z with z
          omega)]
        rfl
    | _ => exact iteT (iteT (q H (Same.refl H)))
/-! _may_follow -/
def spMayFollow (K : PySem.W.Frag) : Sp := fun vs H Q _ => ∃ (u u' f f' : Addr) (m o : Mk), vs = [.ref u, .ref u'] ∧ MkAt H u f m ∧ MkAt H u' f' o ∧ Q (.bl (flB m o)) H
theorem ok_may_follow (dP_is_less : DnIsLess K mg) (d : DnMayFollow K mg) : FnOk P w K mg base CX0 2 d.f d.fd ["one", "other"] (spMayFollow K) := by
  have GP_is_less : FnOk P w K mg base CX0 1 dP_is_less.f dP_is_less.fd ["one", "other"] (spIsLess K) := ok_is_less dP_is_less
  refine d.F.ok scP_may_follow (fun vs H Q E h => ?_) (fun cdv A outer s H vs Q E hr h => ?_)
  · obtain ⟨u, u', f, f', m, o, rfl, _⟩ := h
    rfl
  · obtain ⟨u, u', f, f', m, o, rfl, h1, h2, q⟩ := h
    refine ⟨_, (pss_one (ps_ret (pe_and (pe_call GP_is_less (hr.mono (by omega)) (by rfl) dP_is_less.g dP_is_less.F.kp dP_is_less.b .nil pass0 (pa_cons (pe_ix ix_tup (pv 0) pe_int (fun _ _ => rfl)) (pa_cons (pe_ix ix_tup (pv 1) pe_int (fun _ _ => rfl)) pa_nil))) (pe_and (pe_cmpR op_le (pe_ix ix_tup (pv 0) pe_int (fun _ _ => rfl)) (pe_ix ix_tup (pv 1) pe_int (fun _ _ => rfl)) (nomark _)) (pe_one (pe_cmpR op_le (pe_ix ix_tup (pv 0) pe_int (fun _ _ => rfl)) (pe_ix ix_tup (pv 1) pe_int (fun _ _ => rfl)) (nomark _))))))), ?_⟩
    refine rd_and (x := lsB m.t m.b o.t o.b) (y := decide (m.y ≤ o.w) && decide (m.z ≤ o.x)) (fun Q q => ?_) (fun _ Q q => rd_and (x := decide (m.y ≤ o.w)) (y := decide (m.z ≤ o.x)) (fun Q q => ?_) (fun _ Q q => ?_) q) q
    · exact ⟨.ref u, rfl, u, _, _, _, rfl, rfl, h1.ob.seq, atI_nat (j := 0) rfl, .ref u', rfl, u', _, _, _, rfl, rfl, h2.ob.seq, atI_nat (j := 0) rfl, f, f', _, _, _, _, rfl, h1.fr, h2.fr, h1.sz, h2.sz, q⟩
    · exact ⟨.ref u, rfl, u, _, _, _, rfl, rfl, h1.ob.seq, atI_nat (j := 3) rfl, .ref u', rfl, u', _, _, _, rfl, rfl, h2.ob.seq, atI_nat (j := 1) rfl, _, _, rfl, rfl, q⟩
    · exact ⟨.ref u, rfl, u, _, _, _, rfl, rfl, h1.ob.seq, atI_nat (j := 4) rfl, .ref u', rfl, u', _, _, _, rfl, rfl, h2.ob.seq, atI_nat (j := 2) rfl, _, _, rfl, rfl, q⟩
/-! _are_marks -/
def spAreMarks (K : PySem.W.Frag) : Sp := fun vs H Q _ => ∃ (v u : V) (n d : Dat), vs = [v, u] ∧ DtAt K H v n ∧ DtAt K H u d ∧ ∀ H', Same H H' → Q (.bl (mksB n d)) H'
theorem ok_are_marks (T : Blt mg) (gG : mg "gcd" = some (.builtin "math.gcd")) (dP_is_int : DnIsInt K mg) (dP_is_number : DnIsNumber K mg) (dP_is_fraction : DnIsFraction K mg) (dP_is_less : DnIsLess K mg) (dP_is_mark : DnIsMark K mg) (dP_may_follow : DnMayFollow K mg) (d : DnAreMarks K mg) : FnOk P w K mg base CX0 4 d.f d.fd ["many", "marks"] (spAreMarks K) := by
  have GP_is_number : FnOk P w K mg base CX0 2 dP_is_number.f dP_is_number.fd ["thing"] (spIsNumberD K) := ok_is_numberD T dP_is_int dP_is_number
  have GP_is_mark : FnOk P w K mg base CX0 3 dP_is_mark.f dP_is_mark.fd ["many", "mark"] (spIsMark K) := ok_is_mark T gG dP_is_int dP_is_fraction dP_is_mark
  have GP_may_follow : FnOk P w K mg base CX0 2 dP_may_follow.f dP_may_follow.fd ["one", "other"] (spMayFollow K) := ok_may_follow dP_is_less dP_may_follow
  refine d.F.ok scP_are_marks (fun vs H Q E h => ?_) (fun cdv A outer s H vs Q E hr h => ?_)
  · obtain ⟨v, u, n, x, rfl, _⟩ := h
    rfl
  · obtain ⟨v, u, n, x, rfl, hn, hx, q⟩ := h
    refine ⟨_, (pss_cons (ps_if (PW.pt (pw_or (pt_not (pt_val (pe_call GP_is_number (hr.mono (by omega)) (by rfl) dP_is_number.g dP_is_number.F.kp dP_is_number.b .nil pass0 (pa_cons (pv 0) pa_nil)))) (pw_or1 (pt_not (pt_val (pe_callB (call_isD (K := K) rfl) (by rfl) T.n_isinstance (by decide +kernel) (pa_cons (pv 1) (pa_cons (pe_bltn (v := .ty "tuple") (by rfl) T.n_tuple (by decide +kernel) rfl) pa_nil))))))))
      (pss_one (ps_ret pe_bl))
      pss_nil)
    (pss_cons (ps_if (pt_not (pt_val (pe_callB (cr_all rfl) (by rfl) T.n_all (by decide +kernel) (pa_cons (pe_lc (own := [("mark", 4)]) (g := gName 4) (tt := tYes) rfl scP_are_marks.nd (pi_tup (pv 1)) (blkOk_by (N := NP_are_marks) (sc := defScope sP_are_marks) (by decide +kernel)) (fun _ _ _ _ _ => pg_name (i := 4) scP_are_marks.nd rfl (Or.inl rfl)) (fun _ _ _ _ _ => pts_nil) (fun _ _ _ _ _ => (pe_call GP_is_mark (hr.mono (by omega)) (by rfl) dP_is_mark.g dP_is_mark.F.kp dP_is_mark.b .nil pass0 (pa_cons (pv 0) (pa_cons (pv 4) pa_nil))))) pa_nil))))
      (pss_one (ps_ret pe_bl))
      pss_nil)
    (pss_one (ps_ret (pe_callB (cr_all rfl) (by rfl) T.n_all (by decide +kernel) (pa_cons (pe_lc (own := [("one", 2), ("other", 3)]) (g := gTup K 2 (gCons (gName 2) (gCons (gName 3) gNil))) (tt := tYes) rfl scP_are_marks.nd (pi_zipA (by rfl) T.n_zip (pa_cons (pv 1) (pa_cons (pe_slice sl_tupP (pv 1) (po_some pe_int) po_none) pa_nil))) (blkOk_by (N := NP_are_marks) (sc := defScope sP_are_marks) (by decide +kernel)) (fun _ _ _ _ _ => pg_tup (by rfl) (pgs_cons (pg_name (i := 2) scP_are_marks.nd rfl (Or.inl rfl)) (pgs_cons (pg_name (i := 3) scP_are_marks.nd rfl (Or.inl rfl)) pgs_nil))) (fun _ _ _ _ _ => pts_nil) (fun _ _ _ _ _ => (pe_call GP_may_follow (hr.mono (by omega)) (by rfl) dP_may_follow.g dP_may_follow.F.kp dP_may_follow.b .nil pass0 (pa_cons (pv 2) (pa_cons (pv 3) pa_nil))))) pa_nil)))))), ?_⟩
    refine ⟨v, rfl, v, n, rfl, hn, isNB (intD n), rfl, ?_⟩
    cases cn : isNB (intD n) with
    | false =>
      have e0 : mksB n x = false := by
        cases x with
        | tup ds => show (isNB (intD n) && _) = false; rw [cn]; rfl
        | _ => rfl
      rw [e0] at q
      exact iteT (iteT (q H (Same.refl H)))
    | true =>
      obtain ⟨i, rfl, i0⟩ := isNB_is cn
      obtain ⟨rfl, _⟩ := hn.int
      obtain ⟨t, ty, kI, kB, kS, kT⟩ := hx.ty
      refine iteF ⟨u, rfl, u, _, t, _, isT x, rfl, .ty "tuple", ty, kT, isT x, rfl, ?_⟩
      cases x with
      | tup ds =>
        obtain ⟨a, xs, rfl, h1, h2, h3⟩ := hx.tup
        have hl := Paired.length h3
        have q : ∀ H', Same H H' → Q (.bl (isNB (intD (.int i)) && (ds.all (mkB i) && (stB (ds.map mkO)).all id))) H' := q
        rw [cn, Bool.true_and] at q
        refine iteF ⟨.ref a, rfl, a, rfl, ⟨_, h1.seq⟩, fun D nD => ?_⟩
        refine lc_tup (xs := xs) (fun j H3 => Same H H3 ∧ H3 D = some (.lst (((ds.take j).map (mkB i)).map V.bl))) ⟨same_upd nD, upd_same⟩ (fun j H3 _ h3 => (h1.same h3.1).seq) (fun j u H3 hu g3 => ?_) (fun H3 g3 => ?_)
        · obtain ⟨e, he, hat⟩ := paired_at h3 hu
          obtain ⟨s3, hD⟩ := g3
          refine ⟨rfl, .int i, rfl, u, rfl, i, u, e, rfl, hat.same s3, fun H4 s4 => ⟨_, s4 _ _ hD, ?_, Same.put (s3.trans s4) nD, ?_⟩⟩
          · rw [List.length_map, List.length_map, List.length_take, sizeLine_eq]
            omega
          · rw [upd_same, List.take_add_one, he, List.map_append, List.map_append]
            rfl
        · obtain ⟨s3, hD⟩ := g3
          rw [hl, List.take_length] at hD
          refine ⟨D, _, rfl, sql hD, ds.all (mkB i), congrArg V.bl (by rw [List.all_map]; rfl), ?_⟩
          cases ct : ds.all (mkB i) with
          | false =>
            rw [ct, Bool.false_and] at q
            exact iteT (q H3 s3)
          | true =>
            rw [ct, Bool.true_and] at q
            refine iteF ⟨.ref a, rfl, .ref a, rfl, 1, rfl, a, _, rfl, h1.same s3, fun p H5 s35 hp => ?_⟩
            rw [cut_from1] at hp
            have s5 := s3.trans s35
            refine ⟨a, p, xs, xs.drop 1, rfl, .inr ⟨(h1.same s5).seq, hp.seq, fun D2 nD2 => ?_⟩⟩
            refine lc_it (walk_zipTg (K := K) (xs := xs) (ys := xs.drop 1) rfl) (fun j H7 => Same H H7 ∧ Ptp H7 p (xs.drop 1) ∧ H7 D2 = some (.lst (((stB (ds.map mkO)).take j).map V.bl))) ⟨Same.new s5 nD2, hp.same (same_upd nD2), upd_same⟩ (fun j H7 _ h7 => ⟨(h1.same h7.1).seq, h7.2.1.seq⟩) (fun j v H7 H8 hj h7 y => ?_) (fun H7 h7 => ?_)
            · obtain ⟨s7, hp7, hD7⟩ := h7
              obtain ⟨TT, x1, x2, rfl, nT, rfl, hx1, hx2⟩ := y
              obtain ⟨d1, hd1, at1⟩ := paired_at h3 hx1
              have hx2' : (xs.drop 1)[j]? = some x2 := hx2
              rw [List.getElem?_drop] at hx2'
              obtain ⟨d2, hd2, at2⟩ := paired_at h3 hx2'
              have hd2' : (ds.drop 1)[j]? = some d2 := by rw [List.getElem?_drop]; exact hd2
              have c1 := (mkO_is (List.all_eq_true.mp ct d1 (List.mem_of_getElem? hd1))).1
              have c2 := (mkO_is (List.all_eq_true.mp ct d2 (List.mem_of_getElem? hd2))).1
              have sT : Same H (upd H7 TT (.tup [x1, x2])) := Same.new s7 nT
              have at1 := at1.same sT
              have at2 := at2.same sT
              rw [← c1] at at1
              rw [← c2] at at2
              obtain ⟨u1, f1, rfl, m1⟩ := mk_at at1
              obtain ⟨u2, f2, rfl, m2⟩ := mk_at at2
              have DT : D2 ≠ TT := ne_of_none hD7 nT
              have hst := stB_at (ms := ds.map mkO) (i := j) (d := mkO d1) (e := mkO d2) (by rw [List.getElem?_map, hd1]; rfl) (by rw [← List.map_drop, List.getElem?_map, hd2']; rfl)
              refine ⟨TT, _, rfl, .inl (.inl upd_same), rfl, _, _, rfl, _, _, rfl, rfl, rfl, .ref u1, rfl, .ref u2, rfl, u1, u2, f1, f2, _, _, rfl, m1, m2, _, by rw [upd_ne DT]; exact hD7, ?_, Same.put sT (Same.gone s5 nD2), (hp7.same (same_upd nT)).upd (hp.ne nD2), ?_⟩
              · have := stB_len (ds.map mkO)
                rw [List.length_map, List.length_take, sizeLine_eq]
                rw [List.length_map] at this
                omega
              · rw [upd_same, List.take_add_one, hst, List.map_append]
                rfl
            · obtain ⟨s7, _, hD7⟩ := h7
              have el : min xs.length (xs.drop 1).length = (stB (ds.map mkO)).length := by
                rw [stB_len, List.length_drop, List.length_drop, List.length_map, hl]
              rw [el, List.take_length] at hD7
              exact ⟨D2, _, rfl, sql hD7, q H7 s7⟩
      | _ => exact iteT (q H (Same.refl H))
/-! is_ranks -/
def spIsRanks (K : PySem.W.Frag) : Sp := fun vs H Q _ => ∃ (v : V) (d : Dat), vs = [v] ∧ DtAt K H v d ∧ ∀ H', Same H H' → Q (.bl (rkB d)) H'
theorem ok_is_ranks (T : Blt mg) (gG : mg "gcd" = some (.builtin "math.gcd")) (cM : Cst mg "MOST_ROOM" (.int 64)) (dP_is_int : DnIsInt K mg) (dP_is_number : DnIsNumber K mg) (dP_is_room : DnIsRoom K mg) (dP_is_fraction : DnIsFraction K mg) (dP_is_less : DnIsLess K mg) (dP_is_mark : DnIsMark K mg) (dP_may_follow : DnMayFollow K mg) (dP_are_marks : DnAreMarks K mg) (d : DnIsRanks K mg) : FnOk P w K mg base CX0 5 d.f d.fd ["thing"] (spIsRanks K) := by
  have GP_is_room : FnOk P w K mg base CX0 2 dP_is_room.f dP_is_room.fd ["thing"] (spIsRoomD K) := ok_is_roomD T cM dP_is_int dP_is_room
  have GP_are_marks : FnOk P w K mg base CX0 4 dP_are_marks.f dP_are_marks.fd ["many", "marks"] (spAreMarks K) := ok_are_marks T gG dP_is_int dP_is_number dP_is_fraction dP_is_less dP_is_mark dP_may_follow dP_are_marks
  refine d.F.ok scP_is_ranks (fun vs H Q E h => ?_) (fun cdv A outer s H vs Q E hr h => ?_)
  · obtain ⟨v, n, rfl, _⟩ := h
    rfl
  · obtain ⟨v, x, rfl, hx, q⟩ := h
    refine ⟨_, (pss_cons (ps_if (PW.pt (pw_or (pt_not (pt_val (pe_callB (call_isD (K := K) rfl) (by rfl) T.n_isinstance (by decide +kernel) (pa_cons (pv 0) (pa_cons (pe_bltn (v := .ty "tuple") (by rfl) T.n_tuple (by decide +kernel) rfl) pa_nil))))) (pw_or1 (pt_cmpR op_ne (pe_callB call_len_seq (by rfl) T.n_len (by decide +kernel) (pa_cons (pv 0) pa_nil)) pe_int (nomark _)))))
      (pss_one (ps_ret pe_bl))
      pss_nil)
    (pss_cons (ps_asg (pv 0) (pg_tup (by rfl) (pgs_cons (pg_name (i := 1) scP_is_ranks.nd rfl (Or.inl rfl)) (pgs_cons (pg_name (i := 2) scP_is_ranks.nd rfl (Or.inl rfl)) (pgs_cons (pg_name (i := 3) scP_is_ranks.nd rfl (Or.inl rfl)) pgs_nil)))))
    (pss_one (ps_ret (pe_and (pe_call GP_is_room (hr.mono (by omega)) (by rfl) dP_is_room.g dP_is_room.F.kp dP_is_room.b .nil pass0 (pa_cons (pv 1) pa_nil)) (pe_and (pe_call GP_are_marks (hr.mono (by omega)) (by rfl) dP_are_marks.g dP_are_marks.F.kp dP_are_marks.b .nil pass0 (pa_cons (pv 2) (pa_cons (pv 3) pa_nil))) (pe_one (pe_cmpR op_le (pe_callB call_len_seq (by rfl) T.n_len (by decide +kernel) (pa_cons (pv 3) pa_nil)) (pv 1) (nomark _))))))))), ?_⟩
    obtain ⟨t, ty, kI, kB, kS, kT⟩ := hx.ty
    refine ⟨v, rfl, v, _, t, _, isT x, rfl, .ty "tuple", ty, kT, isT x, rfl, ?_⟩
    cases x with
    | tup ds =>
      obtain ⟨a, xs, rfl, h1, h2, h3⟩ := hx.tup
      have hl := Paired.length h3
      refine iteF ⟨.ref a, rfl, a, _, rfl, .inr h1.seq, rfl, ?_⟩
      by_cases h2l : ds.length = 3
      · obtain ⟨d1, d2, d3, rfl⟩ := three h2l
        obtain ⟨x1, x2, x3, rfl⟩ := three (hl.trans h2l)
        obtain ⟨e1, e2, e3⟩ := paired3 h3
        have q : ∀ H', Same H H' → Q (.bl (isRB (intD d1) && (mksB d2 d3 && decide ((lenD d3 : Int) ≤ geI d1)))) H' := q
        refine ⟨false, rfl, iteF ?_⟩
        refine ⟨.ref a, rfl, a, _, rfl, h1.seq, rfl, _, _, rfl, _, _, rfl, _, _, rfl, rfl, ?_⟩
        refine ⟨x1, rfl, x1, d1, rfl, e1, isRB (intD d1), rfl, ?_⟩
        cases c1 : isRB (intD d1) with
        | false =>
          rw [c1, Bool.false_and] at q
          exact iteF (q H (Same.refl H))
        | true =>
          rw [c1, Bool.true_and] at q
          refine iteT ⟨x2, rfl, x3, rfl, x2, x3, d2, d3, rfl, e2, e3, fun H1 s1 => ⟨mksB d2 d3, rfl, ?_⟩⟩
          cases c2 : mksB d2 d3 with
          | false =>
            rw [c2, Bool.false_and] at q
            exact iteF (q H1 s1)
          | true =>
            rw [c2, Bool.true_and] at q
            obtain ⟨r, rfl, _⟩ := isRB_is c1
            obtain ⟨rfl, _⟩ := e1.int
            cases d3 with
            | tup ks =>
              obtain ⟨b, ys, rfl, g1, g2, g3⟩ := e3.tup
              refine iteT ⟨.ref b, rfl, b, _, rfl, .inr (g1.same s1).seq, .int r, rfl, _, _, rfl, rfl, ?_⟩
              rw [Paired.length g3]
              exact q H1 s1
            | _ => cases c2
      · have q := q H (Same.refl H)
        rw [rkB_long h2l] at q
        refine ⟨true, congrArg V.bl ?_, iteT q⟩
        rw [decide_eq_false (by
          intro z
          injection z with z
          omega)]
        rfl
    | _ => exact iteT (iteT (q H (Same.refl H)))
end
end Kb

namespace Kb
open PySem PySem.Spec PyProof.Rows L2 RZ
abbrev sgcd : Stmt := topS 28
abbrev Ngcd : List Str := ["_law_one_here", "_law_other", "_law_k"]
theorem scgcd : FnScope ["_law_one_here", "_law_other", "_law_k"] ["_law_one_here", "_law_other"] (defScope sgcd) := ⟨rfl, rfl, rfl, by decide +kernel, rfl, by decide +kernel, by decide +kernel⟩
abbrev Dngcd (K : PySem.W.Frag) (mg : Str → Option Value) := Dn K mg "_law_gcd" sgcd ["_law_one_here", "_law_other"]
abbrev Nis_int : List Str := ["_law_thing"]
abbrev Nis_fraction : List Str := ["_law_thing"]
abbrev Nis_mark : List Str := ["_law_thing", "_law_many", "_law_a", "_law_b", "_law_c", "_law_d", "_law_one_here"]
abbrev Nare_ranks : List Str := ["_law_thing", "_law_one_here", "_law_other", "_law_mark"]
theorem cut_neg1 (xs : List V) : cutV xs none (some (-1)) = xs.take (xs.length - 1) := by
  unfold cutV
  rw [HT.sIx_none, List.drop_zero, Nat.sub_zero]
  congr 1
  show (if (-1 : Int) < 0 then ((-1 : Int) + (xs.length : Int)).toNat else min (-1 : Int).toNat xs.length) = xs.length - 1
  rw [if_pos (by decide)]
  omega
/-- the sum of steps: two of them halve the product -/
structure GI (g i x y : Nat) : Prop where
  g : Nat.gcd x y = g
  sz : y = 0 ∨ (i = 0 ∧ x ≤ 2 ^ 92 ∧ y ≤ 2 ^ 92) ∨ (1 ≤ i ∧ y ≤ x ∧ x * y * 2 ^ (i - 1) ≤ 2 ^ 184)
theorem GI.step {g i x y : Nat} (h : GI g i x y) (y0 : y ≠ 0) : GI g (i + 1) y (x % y) := by
  refine ⟨by rw [← h.g, Nat.gcd_comm x y, Nat.gcd_rec y x, Nat.gcd_comm], .inr (.inr ⟨by omega, Nat.le_of_lt (Nat.mod_lt _ (by omega)), ?_⟩)⟩
  rw [Nat.add_sub_cancel]
  rcases h.sz with h0 | ⟨rfl, h1, h2⟩ | ⟨h1, h2, h3⟩
  · exact absurd h0 y0
  · rw [Nat.pow_zero, Nat.mul_one]
    have : x % y ≤ x := Nat.mod_le _ _
    calc y * (x % y) ≤ 2 ^ 92 * 2 ^ 92 := Nat.mul_le_mul h2 (by omega)
      _ = 2 ^ 184 := by decide
  · obtain ⟨k, rfl⟩ : ∃ k, i = k + 1 := ⟨i - 1, by omega⟩
    rw [Nat.add_sub_cancel] at h3
    have hr : 2 * (x % y) ≤ x := by
      have h5 := Nat.mod_lt x (show y > 0 by omega)
      have h6 := Nat.mod_add_div x y
      have h7 : 1 ≤ x / y := (Nat.one_le_div_iff (by omega)).mpr h2
      have h8 : y * 1 ≤ y * (x / y) := Nat.mul_le_mul_left y h7
      omega
    calc y * (x % y) * 2 ^ (k + 1) = (2 * (x % y)) * y * 2 ^ k := by rw [Nat.pow_succ]; simp only [Nat.mul_comm, Nat.mul_left_comm, Nat.mul_assoc]
      _ ≤ x * y * 2 ^ k := Nat.mul_le_mul_right _ (Nat.mul_le_mul_right _ hr)
      _ ≤ 2 ^ 184 := h3
theorem GI.done {g x y : Nat} (h : GI g 400 x y) : x = g := by
  have e : y = 0 := by
    rcases h.sz with h0 | ⟨h1, _⟩ | ⟨_, h2, h3⟩
    · exact h0
    · exact absurd h1 (by decide)
    · refine Classical.byContradiction fun y0 => ?_
      have h4 : 1 * 1 ≤ x * y := Nat.mul_le_mul (by omega) (by omega)
      have h5 : 1 * 2 ^ (400 - 1) ≤ x * y * 2 ^ (400 - 1) := Nat.mul_le_mul_right _ h4
      exact absurd (Nat.le_trans h5 h3) (by decide)
  have := h.g
  rw [e, Nat.gcd_zero_right] at this
  exact this
section
variable {P : Program} {w : World} {K : PySem.W.Frag} {mg : Str → Option Value} {base : Heap}
/-! _law_gcd -/
def spGcd : Sp := fun vs H Q _ => ∃ a b : Int, vs = [.int a, .int b] ∧ 0 ≤ b ∧ a.natAbs ≤ 2 ^ 92 ∧ b.natAbs ≤ 2 ^ 92 ∧ Q (.int ((Nat.gcd a.natAbs b.natAbs : Nat) : Int)) H
theorem ok_gcd (T : Blt mg) (d : Dngcd K mg) : FnOk P w K mg base CX0 1 d.f d.fd ["_law_one_here", "_law_other"] spGcd := by
  refine d.F.ok scgcd (fun vs H Q E h => ?_) (fun cdv A outer s H vs Q E hr h => ?_)
  · obtain ⟨a, b, rfl, _⟩ := h
    rfl
  · obtain ⟨a, b, rfl, b0, ha, hb, q⟩ := h
    refine ⟨_, (pss_cons (ps_set (i := 0) scgcd.nd rfl (Or.inl rfl) (pe_callB call_abs (by rfl) T.n_abs (by decide +kernel) (pa_cons (pv 0) pa_nil)))
    (pss_cons (ps_for PassesOwn.never rfl (pi_range1 (by rfl) T.n_range (pa_cons pe_int pa_nil)) (pg_name (i := 2) scgcd.nd rfl (Or.inl rfl))
      (pss_cons (ps_if (pt_cmpR op_eq (pv 1) pe_int (nomark _))
        (pss_one ps_break)
        pss_nil)
      (pss_one (ps_par (i := 0) (j := 1) (by rfl) scgcd.nd rfl rfl (by decide) rfl rfl (pa_cons (pv 1) (pa_cons (pe_op op_modB (pe_callTy call_int1 (by rfl) T.n_int (by decide +kernel) (pa_cons (pv 0) pa_nil)) (pv 1)) pa_nil)) (by rfl)))))
    (pss_one (ps_ret (pv 0))))), ?_⟩
    obtain ⟨y, rfl⟩ : ∃ y : Nat, b = (y : Int) := ⟨b.toNat, by omega⟩
    refine ⟨.int a, rfl, a, rfl, ?_⟩
    rw [show (if a < 0 then -a else a) = ((a.natAbs : Nat) : Int) by split <;> omega]
    rw [Int.natAbs_natCast] at hb q
    generalize a.natAbs = x at ha q ⊢
    refine ⟨400, rfl, by decide, by decide, ?_⟩
    refine for_range (lo := 0) (n := 400) (fun i σ H2 => ∃ (x' y' : Nat) (k : Option V), σ = [some (.int (x' : Int)), some (.int (y' : Int)), k] ∧ H2 = H ∧ GI (Nat.gcd x y) i x' y') ⟨x, y, none, rfl, rfl, rfl, .inr (.inl ⟨rfl, ha, hb⟩)⟩ ?_ ?_
    · rintro i σ H2 hi ⟨x', y', k, rfl, rfl, g⟩
      refine ⟨.int (y' : Int), rfl, rfl, decide ((y' : Int) = 0), by rw [dec_int]; rfl, ?_⟩
      by_cases y0 : y' = 0
      · subst y0
        refine iteT ?_
        have e : x' = Nat.gcd x y := by
          have := g.g
          rw [Nat.gcd_zero_right] at this
          exact this
        rw [← e] at q
        exact ⟨_, rfl, q⟩
      · rw [decide_eq_false (by omega)]
        refine iteF ?_
        refine ⟨.int (y' : Int), rfl, .int (x' : Int), rfl, .inl ⟨_, rfl, .int (y' : Int), rfl, _, _, rfl, rfl, by omega, fun m m0 m1 em => ?_⟩⟩
        subst em
        exact ⟨_, _, rfl, y', x' % y', some (.int (0 + (i : Int))), rfl, rfl, g.step y0⟩
    · rintro σ H2 ⟨x', y', k, rfl, rfl, g⟩
      rw [← g.done] at q
      exact ⟨_, rfl, q⟩
/-! _law_is_int .. -/
def spIsIntL (K : PySem.W.Frag) : Sp := fun vs H Q _ => ∃ (v : V) (d : Dat), vs = [v] ∧ DtAt K H v d ∧ Q (.bl (intD d).isSome) H
def spIsMarkL (K : PySem.W.Frag) : Sp := fun vs H Q _ => ∃ (n : Int) (v : V) (d : Dat), vs = [v, .int n] ∧ DtAt K H v d ∧ ∀ H', Same H H' → Q (.bl (mkB n d)) H'
end
end Kb

namespace Kb
open PySem PySem.Spec PyProof.Rows L2 RZ
theorem rkB_no2 {d1 d2 d3 : Dat} (h : (intD d2).isSome = false) : rkB (.tup [d1, d2, d3]) = false := by
  have e : mksB d2 d3 = false := by
    cases d3 with
    | tup ds =>
      show (isNB (intD d2) && _) = false
      cases d2 with
      | int i => cases h
      | _ => rfl
    | _ => rfl
  show (isRB (intD d1) && (mksB d2 d3 && _)) = false
  rw [e, Bool.false_and, Bool.and_false]
theorem map_at {α β : Type} {f : α → β} {l : List α} {i : Nat} {y : β} (h : (l.map f)[i]? = some y) : ∃ x, l[i]? = some x ∧ f x = y := by
  rw [List.getElem?_map] at h
  cases e : l[i]? with
  | none => rw [e] at h; cases h
  | some x => rw [e] at h; exact ⟨x, rfl, Option.some.inj h⟩
theorem rd_chain2 {ta tb tc : TE} {σ : L2.St} {H : Hp} {Q : VK} {i j k : Int} (ha : ∀ Q : VK, Q (.int i) H → ta σ H Q) (hb : ∀ Q : VK, Q (.int j) H → tb σ H Q) (hc : ∀ Q : VK, Q (.int k) H → tc σ H Q)
    (q : Q (.bl (decide (i ≤ j) && decide (j ≤ k))) H) : tChain (rI0 fun i j => .bl (decide (i ≤ j))) (rI0 fun i j => .bl (decide (i ≤ j))) ta tb tc σ H Q := by
  refine ha _ (hb _ ⟨_, _, rfl, rfl, decide (i ≤ j), rfl, ?_⟩)
  cases c1 : decide (i ≤ j) with
  | false =>
    rw [c1, Bool.false_and] at q
    exact iteF q
  | true =>
    rw [c1, Bool.true_and] at q
    exact iteT (hc _ ⟨_, _, rfl, rfl, q⟩)
theorem flB_iff {m o : Mk} : flB m o = true ↔ (m.t * o.b < o.t * m.b) ∧ m.y ≤ o.w ∧ m.z ≤ o.x := by
  unfold flB lsB
  rw [Bool.and_eq_true, Bool.and_eq_true, decide_eq_true_eq, decide_eq_true_eq, decide_eq_true_eq]
theorem st_all {ms : List Mk} : (stB ms).all id = true ↔ ∀ i m o, ms[i]? = some m → ms[i + 1]? = some o → flB m o = true := by
  rw [List.all_eq_true]
  constructor
  · intro h i m o h1 h2
    exact h _ (List.mem_of_getElem? (stB_at h1 (by rw [List.getElem?_drop, Nat.add_comm]; exact h2)))
  · intro h b hb
    obtain ⟨i, hi⟩ := List.getElem?_of_mem hb
    unfold stB at hi
    rw [List.getElem?_map] at hi
    cases hz : (ms.zip (ms.drop 1))[i]? with
    | none =>
      rw [hz] at hi
      cases hi
    | some p =>
      rw [hz] at hi
      cases hi
      obtain ⟨m, o⟩ := p
      obtain ⟨h1, h2⟩ := List.getElem?_zip_eq_some.mp hz
      rw [List.getElem?_drop, Nat.add_comm] at h2
      exact h i m o h1 h2
section
variable {P : Program} {w : World} {K : PySem.W.Frag} {mg : Str → Option Value} {base : Heap}
end
end Kb

namespace Kb
open PySem PySem.Spec PyProof.Rows L2 RZ
abbrev shat : Stmt := topS 24
abbrev Nhat : List Str := ["_law_cell", "_law_k", "_law_wide", "_law_number_here"]
theorem schat : FnScope ["_law_cell", "_law_k", "_law_wide", "_law_number_here"] ["_law_cell", "_law_k"] (defScope shat) := ⟨rfl, rfl, rfl, by decide +kernel, rfl, by decide +kernel, by decide +kernel⟩
abbrev Dnhat (K : PySem.W.Frag) (mg : Str → Option Value) := Dn K mg "_law_hat" shat ["_law_cell", "_law_k"]
abbrev sdraw : Stmt := topS 25
abbrev Ndraw : List Str := ["_law_hat_here", "_law_many", "_law_digit"]
theorem scdraw : FnScope ["_law_hat_here", "_law_many", "_law_digit"] ["_law_hat_here", "_law_many"] (defScope sdraw) := ⟨rfl, rfl, rfl, by decide +kernel, rfl, by decide +kernel, by decide +kernel⟩
abbrev Dndraw (K : PySem.W.Frag) (mg : Str → Option Value) := Dn K mg "_law_draw" sdraw ["_law_hat_here", "_law_many"]
abbrev sany : Stmt := topS 27
abbrev Nany : List Str := ["_law_hat_here", "_law_things"]
theorem scany : FnScope ["_law_hat_here", "_law_things"] ["_law_hat_here", "_law_things"] (defScope sany) := ⟨rfl, rfl, rfl, by decide +kernel, rfl, by decide +kernel, by decide +kernel⟩
abbrev Dnany (K : PySem.W.Frag) (mg : Str → Option Value) := Dn K mg "_law_any" sany ["_law_hat_here", "_law_things"]
abbrev svalue : Stmt := topS 29
abbrev Nvalue : List Str := ["_law_key", "_law_scale", "_law_shared"]
theorem scvalue : FnScope ["_law_key", "_law_scale", "_law_shared"] ["_law_key"] (defScope svalue) := ⟨rfl, rfl, rfl, by decide +kernel, rfl, by decide +kernel, by decide +kernel⟩
abbrev Dnvalue (K : PySem.W.Frag) (mg : Str → Option Value) := Dn K mg "_law_value" svalue ["_law_key"]
abbrev Nbetween : List Str := ["_law_one_here", "_law_other", "_law_shared"]
abbrev snumber : Stmt := topS 30
abbrev Nnumber : List Str := ["_law_hat_here", "_law_bottom", "_law_kind", "_law_top"]
theorem scnumber : FnScope ["_law_hat_here", "_law_bottom", "_law_kind", "_law_top"] ["_law_hat_here"] (defScope snumber) := ⟨rfl, rfl, rfl, by decide +kernel, rfl, by decide +kernel, by decide +kernel⟩
abbrev Dnnumber (K : PySem.W.Frag) (mg : Str → Option Value) := Dn K mg "_law_number" snumber ["_law_hat_here"]
/-- all but the hand stays -/
def Exw (a : Addr) (H H' : Hp) : Prop := ∀ b o, b ≠ a → H b = some o → H' b = some o
theorem Exw.refl (a : Addr) (H : Hp) : Exw a H H := fun _ _ _ h => h
theorem Exw.trans {a : Addr} {H H1 H2 : Hp} (x : Exw a H H1) (y : Exw a H1 H2) : Exw a H H2 := fun b o n h => y b o n (x b o n h)
theorem Exw.up {a : Addr} {H H1 : Hp} {u : HO} (x : Exw a H H1) : Exw a H (upd H1 a u) := fun b o n h => by
  rw [upd_ne n]
  exact x b o n h
theorem Exw.same {a : Addr} {H H1 H2 : Hp} (x : Exw a H H1) (y : Same H1 H2) : Exw a H H2 := fun b o n h => y b o (x b o n h)
theorem Same.exw {a : Addr} {H H1 : Hp} (x : Same H H1) : Exw a H H1 := fun b o _ h => x b o h
theorem Exw.new {a p : Addr} {H H1 : Hp} {u : HO} (x : Exw a H H1) (h : H1 p = none) : Exw a H (upd H1 p u) := x.same (same_upd h)
theorem Exw.gone {a p : Addr} {H H1 : Hp} (x : Exw a H H1) (ne : p ≠ a) (h : H1 p = none) : H p = none := by
  cases e : H p with
  | none => rfl
  | some o => rw [x _ _ ne e] at h; cases h
/-- an object that was new is stored anew -/
theorem Exw.put {a p : Addr} {H H1 : Hp} {u : HO} (x : Exw a H H1) (h : H p = none) : Exw a H (upd H1 p u) := fun b o n e => by
  rw [upd_ne (ne_of_none e h)]
  exact x b o n e
theorem rd_ix {K : PySem.W.Frag} {σ : L2.St} {H : Hp} {Q : VK} {a : Addr} {xs : List V} {v : V} {n : Nat} (k : Nat) (h0 : σ[n]? = some (some (.ref a))) (hS : SqL K H a xs) (hv : xs[k]? = some v) (q : Q v H) :
    tOp (rIxL K) (tVar n) (tC (.int (k : Int))) σ H Q := ⟨.ref a, h0, a, xs, k, v, rfl, rfl, hS, atI_nat hv, q⟩
theorem rd_set {H : Hp} {σ : L2.St} {a : Addr} {xs : List V} {v : V} {n : Nat} (k : Nat) {R : L2.St → Hp → Prop} (h0 : σ[n]? = some (some (.ref a))) (h : H a = some (.lst xs)) (hk : k < xs.length) (q : R σ (upd H a (.lst (xs.set k v)))) :
    gSub (tVar n) (tC (.int (k : Int))) rSetL v σ H R := ⟨.ref a, h0, a, xs, k, k, rfl, rfl, h, by unfold ixN; rw [if_pos (by omega), if_pos (by omega)]; simp, q⟩
/-- the hat: its number, its state -/
def Ht (a : Addr) (H : Hp) : Prop := ∃ n s : Int, H a = some (.lst [.int n, .int s]) ∧ 0 ≤ n
theorem Ht.same {a : Addr} {H H' : Hp} (h : Ht a H) (s : Same H H') : Ht a H' := let ⟨n, x, e, p⟩ := h; ⟨n, x, s _ _ e, p⟩
theorem Ht.nea {a p : Addr} {H : Hp} (h : Ht a H) (hp : H p = none) : p ≠ a := by
  obtain ⟨n, x, e, _⟩ := h
  exact (ne_of_none e hp).symm
theorem Ht.put {a p : Addr} {H : Hp} {u : HO} (h : Ht a H) (n : p ≠ a) : Ht a (upd H p u) := by
  obtain ⟨m, x, e, q⟩ := h
  exact ⟨m, x, by rw [upd_ne n.symm]; exact e, q⟩
theorem Exw.at {a b : Addr} {H H' : Hp} {o : HO} (x : Exw a H H') (h : Ht a H) (hb : H b = some o) (hl : ∀ xs, o ≠ .lst xs) : H' b = some o := by
  obtain ⟨n, s, e1, _⟩ := h
  exact x b o (ne_of hb e1 (hl _)) hb
theorem kpD_exw {a : Addr} {H H' : Hp} (x : Exw a H H') (w : Ht a H) (w' : Ht a H') : KpD H H' :=
  ⟨fun b xs ⟨o, e, d⟩ => ⟨o, x.at w e (by intro _ z; cases z), d⟩, fun b xs e => by
    by_cases h : b = a
    · subst h
      obtain ⟨n, s, e1, _⟩ := w'
      exact ⟨_, e1⟩
    · exact ⟨_, x b _ h e⟩, fun b k e => ⟨_, x.at w e (by intro _ z; cases z)⟩⟩
theorem cmW {i j : Int} (h : i.natAbs.log2 + j.natAbs.log2 < 1000000) : CMulW i j := h
/-! fractions in lowest terms -/
def gcI (n S : Int) : Int := ((Nat.gcd n.natAbs S.natAbs : Nat) : Int)
def frT (n S : Int) : Int := n / gcI n S
def frN (n S : Int) : Int := S / gcI n S
theorem gcI_pos {n S : Int} (h : 0 < S) : 0 < gcI n S := by
  have : 0 < Nat.gcd n.natAbs S.natAbs := Nat.gcd_pos_of_pos_right _ (by omega)
  show (0 : Int) < ((Nat.gcd n.natAbs S.natAbs : Nat) : Int)
  omega
theorem frT_mul {n S : Int} : frT n S * gcI n S = n := Int.ediv_mul_cancel (Int.ofNat_dvd_left.mpr (Nat.gcd_dvd_left _ _))
theorem frN_mul {n S : Int} : frN n S * gcI n S = S := Int.ediv_mul_cancel (Int.ofNat_dvd_left.mpr (Nat.gcd_dvd_right _ _))
theorem frN_pos {n S : Int} (h : 0 < S) : 1 ≤ frN n S := by
  have g := gcI_pos (n := n) h
  have e := frN_mul (n := n) (S := S)
  by_cases c : 1 ≤ frN n S
  · exact c
  · have : frN n S * gcI n S ≤ 0 * gcI n S := Int.mul_le_mul_of_nonneg_right (by omega) (by omega)
    omega
theorem natAbs_mul_gcd {a g n : Int} (g0 : 0 < g) (e : a * g = n) : a.natAbs * g.natAbs = n.natAbs := by rw [← e, Int.natAbs_mul]
theorem fr_ok {n S : Int} (h : 0 < S) : FrOk (frT n S) (frN n S) := by
  refine ⟨frN_pos h, ?_⟩
  have g := gcI_pos (n := n) h
  have e1 := natAbs_mul_gcd g (frT_mul (n := n) (S := S))
  have e2 := natAbs_mul_gcd g (frN_mul (n := n) (S := S))
  have eg : (gcI n S).natAbs = Nat.gcd n.natAbs S.natAbs := Int.natAbs_natCast _
  rw [eg] at e1 e2
  have gp : 0 < Nat.gcd n.natAbs S.natAbs := Nat.gcd_pos_of_pos_right _ (by omega)
  have := Nat.gcd_mul_right (frT n S).natAbs (Nat.gcd n.natAbs S.natAbs) (frN n S).natAbs
  rw [e1, e2] at this
  exact Nat.eq_of_mul_eq_mul_right gp (by omega)
theorem fr_le {n S : Int} (h : 0 < S) : (frT n S).natAbs ≤ n.natAbs ∧ (frN n S).natAbs ≤ S.natAbs := by
  have g := gcI_pos (n := n) h
  have e1 := natAbs_mul_gcd g (frT_mul (n := n) (S := S))
  have e2 := natAbs_mul_gcd g (frN_mul (n := n) (S := S))
  have gp : 1 ≤ (gcI n S).natAbs := by omega
  constructor
  · have := Nat.mul_le_mul_left (frT n S).natAbs gp
    omega
  · have := Nat.mul_le_mul_left (frN n S).natAbs gp
    omega
theorem fr_cross {n S m S' : Int} : n * S' = (frT n S * frN m S') * (gcI n S * gcI m S') ∧ m * S = (frT m S' * frN n S) * (gcI n S * gcI m S') := by
  constructor
  · conv => lhs; rw [← frT_mul (n := n) (S := S), ← frN_mul (n := m) (S := S')]
    simp only [Int.mul_comm, Int.mul_left_comm, Int.mul_assoc]
  · conv => lhs; rw [← frT_mul (n := m) (S := S'), ← frN_mul (n := n) (S := S)]
    simp only [Int.mul_comm, Int.mul_left_comm, Int.mul_assoc]
theorem fr_lt {n S m S' : Int} (h : 0 < S) (h' : 0 < S') : frT n S * frN m S' < frT m S' * frN n S ↔ n * S' < m * S := by
  obtain ⟨e1, e2⟩ := fr_cross (n := n) (S := S) (m := m) (S' := S')
  have gp : 0 < gcI n S * gcI m S' := Int.mul_pos (gcI_pos h) (gcI_pos h')
  rw [e1, e2]
  exact (Int.mul_lt_mul_right gp).symm
theorem fr_eq {n S m S' : Int} (e1 : frT n S = frT m S') (e2 : frN n S = frN m S') : n * S' = m * S := by
  obtain ⟨h1, h2⟩ := fr_cross (n := n) (S := S) (m := m) (S' := S')
  rw [h1, h2, e1, e2]
def scl : Int := 2688840
section
variable {P : Program} {w : World} {K : PySem.W.Frag} {mg : Str → Option Value} {base : Heap}
/-! _law_hat -/
def spHat : Sp := fun vs H Q _ => ∃ c k : Int, vs = [.int c, .int k] ∧ ∀ H' p, Same H H' → H p = none → Ht p H' → Q (.ref p) H'
theorem ok_hat (T : Blt mg) (d : Dnhat K mg) : FnOk P w K mg base CX0 1 d.f d.fd ["_law_cell", "_law_k"] spHat := by
  refine d.F.ok schat (fun vs H Q E h => ?_) (fun cdv A outer s H vs Q E hr h => ?_)
  · obtain ⟨c, k, rfl, _⟩ := h
    rfl
  · obtain ⟨c, k, rfl, q⟩ := h
    refine ⟨_, (pss_cons (ps_set (i := 2) schat.nd rfl (Or.inl rfl) (pe_op op_mulW (pe_op op_mulW (pe_op op_mulW (pe_op op_pow pe_int pe_int) (pe_op op_pow pe_int pe_int)) (pe_op op_pow pe_int pe_int)) (pe_op op_pow pe_int pe_int)))
    (pss_cons (ps_set (i := 3) schat.nd rfl (Or.inl rfl) (pe_op op_modB (pe_callTy call_int1 (by rfl) T.n_int (by decide +kernel) (pa_cons (pv 0) pa_nil)) (pv 2)))
    (pss_cons (ps_if (pt_cmpR op_ge (pv 3) (pe_op op_pow pe_int pe_int) (nomark _))
      (pss_one (ps_ret (pe_lst (pa_cons (pv 3) (pa_cons (pe_op op_add (pe_op op_modB (pe_callTy call_int1 (by rfl) T.n_int (by decide +kernel) (pa_cons (pv 3) pa_nil)) pe_int) (pv 1)) pa_nil)))))
      pss_nil)
    (pss_one (ps_ret (pe_lst (pa_cons pe_int (pa_cons (pe_op op_modB (pe_op op_add (pe_op op_add (pe_op op_mul (pe_op op_modB (pe_callTy call_int1 (by rfl) T.n_int (by decide +kernel) (pa_cons (pv 3) pa_nil)) pe_int) pe_int) (pe_op op_mul pe_int (pv 1))) pe_int) pe_int) pa_nil)))))))), ?_⟩
    refine ⟨_, _, rfl, rfl, ⟨by decide, by decide, by decide⟩, _, _, rfl, rfl, ⟨by decide, by decide, by decide⟩, _, _, rfl, rfl, cmW (by decide +kernel), _, _, rfl, rfl, ⟨by decide, by decide, by decide⟩, _, _, rfl, rfl, cmW (by decide +kernel), _, _, rfl, rfl, ⟨by decide, by decide, by decide⟩, _, _, rfl, rfl, cmW (by decide +kernel), ?_⟩
    refine ⟨.int c, rfl, .inl ⟨_, rfl, _, rfl, _, _, rfl, rfl, (by decide +kernel), fun m m0 m1 _ => ?_⟩⟩
    clear m1
    refine ⟨.int m, rfl, _, _, rfl, rfl, ⟨by decide, by decide, by decide⟩, _, _, rfl, rfl, _, rfl, ite2 (fun _ => ?_) fun _ => ?_⟩
    · refine ⟨.int m, rfl, .int m, rfl, .inl ⟨_, rfl, _, _, rfl, rfl, (by decide : (0 : Int) < 2147483563), fun x _ _ _ => ⟨.int k, rfl, _, _, rfl, rfl, (by show 2 ≤ sizeLine; decide), fun p np => ?_⟩⟩⟩
      exact q _ p (same_upd np) np ⟨_, _, upd_same, m0⟩
    · refine ⟨.int m, rfl, .inl ⟨_, rfl, _, _, rfl, rfl, (by decide : (0 : Int) < 2147483647), fun x x0 x1 _ => ⟨_, _, rfl, rfl, cmulL x0 (by omega), .int k, rfl, _, _, rfl, rfl, cmulL (by decide) (by decide), _, _, rfl, rfl, _, _, rfl, rfl, _, _, rfl, rfl, (by decide : (0 : Int) < 2147483647), fun y _ _ _ => ⟨(by show 2 ≤ sizeLine; decide), fun p np => ?_⟩⟩⟩⟩
      exact q _ p (same_upd np) np ⟨_, _, upd_same, Int.le_refl 0⟩
/-! _law_draw -/
def spDraw : Sp := fun vs H Q _ => ∃ (a : Addr) (n : Int), vs = [.ref a, .int n] ∧ Ht a H ∧ 0 < n ∧ n.natAbs.log2 < 9000 ∧ ∀ H' (r : Int), Exw a H H' → Ht a H' → 0 ≤ r → r < n → Q (.int r) H'
theorem ok_draw (T : Blt mg) (d : Dndraw K mg) : FnOk P w K mg base CX0 1 d.f d.fd ["_law_hat_here", "_law_many"] spDraw := by
  refine d.F.ok scdraw (fun vs H Q E h => ?_) (fun cdv A outer s H vs Q E hr h => ?_)
  · obtain ⟨a, n, rfl, _⟩ := h
    rfl
  · obtain ⟨a, n, rfl, hw, hn0, hn1, q⟩ := h
    refine ⟨_, (pss_cons (ps_if (pt_cmpR op_gt (pe_ix ix_list (pv 0) pe_int (fun _ _ => rfl)) pe_int (nomark _))
      (pss_cons (ps_set (i := 2) scdraw.nd rfl (Or.inl rfl) (pe_op op_modB (pe_callTy call_int1 (by rfl) T.n_int (by decide +kernel) (pa_cons (pe_ix ix_list (pv 0) pe_int (fun _ _ => rfl)) pa_nil)) (pv 1)))
      (pss_cons (ps_asg (pe_op op_fdivW (pe_ix ix_list (pv 0) pe_int (fun _ _ => rfl)) (pv 1)) (pg_sub (pv 0) pe_int set_list))
      (pss_one (ps_ret (pv 2)))))
      pss_nil)
    (pss_cons (ps_asg (pe_op op_modB (pe_op op_add (pe_op op_mul (pe_callTy call_int1 (by rfl) T.n_int (by decide +kernel) (pa_cons (pe_ix ix_list (pv 0) pe_int (fun _ _ => rfl)) pa_nil)) pe_int) pe_int) pe_int) (pg_sub (pv 0) pe_int set_list))
    (pss_cons (ps_asg (pe_op op_modB (pe_op op_add (pe_op op_mul (pe_callTy call_int1 (by rfl) T.n_int (by decide +kernel) (pa_cons (pe_ix ix_list (pv 0) pe_int (fun _ _ => rfl)) pa_nil)) (pe_op op_add (pe_op op_modB (pe_op op_fdiv (pe_ix ix_list (pv 0) pe_int (fun _ _ => rfl)) pe_int) pe_int) pe_int)) pe_int) pe_int) (pg_sub (pv 0) pe_int set_list))
    (pss_one (ps_ret (pe_op op_modB (pe_op op_fdiv (pe_ix ix_list (pv 0) pe_int (fun _ _ => rfl)) pe_int) (pv 1))))))), ?_⟩
    obtain ⟨u, s, ea, u0⟩ := hw
    refine rd_ix 0 rfl (sql ea) rfl ⟨_, _, rfl, rfl, _, rfl, ite2 (fun _ => ?_) fun _ => ?_⟩
    · refine rd_ix 0 rfl (sql ea) rfl (.inl ⟨_, rfl, .int n, rfl, _, _, rfl, rfl, hn0, fun r r0 r1 _ => ?_⟩)
      refine rd_ix 0 rfl (sql ea) rfl ⟨.int n, rfl, _, _, rfl, rfl, ⟨hn0, hn1⟩, rd_set 0 rfl ea (by decide : 0 < 2) ⟨.int r, rfl, ?_⟩⟩
      exact q _ r (Exw.refl a H).up ⟨u / n, s, upd_same, Int.ediv_nonneg u0 (by omega)⟩ r0 r1
    · refine rd_ix 1 rfl (sql ea) rfl (.inl ⟨_, rfl, _, _, rfl, rfl, cmulR (by decide) (by decide), _, _, rfl, rfl, _, _, rfl, rfl, (by decide : (0 : Int) < 2147483647), fun x a0 a1 _ => rd_set 1 rfl ea (by decide : 1 < 2) ?_⟩)
      have ea1 : (upd H a (.lst [.int u, .int x])) a = some (.lst [.int u, .int x]) := upd_same
      have x4 : Exw a H (upd H a (.lst [.int u, .int x])) := (Exw.refl a H).up
      show tSeq _ _ _ _ (upd H a (.lst [.int u, .int x]))
      generalize upd H a (.lst [.int u, .int x]) = H4 at ea1 x4 ⊢
      refine rd_ix 1 rfl (sql ea1) rfl (.inl ⟨_, rfl, rd_ix 1 rfl (sql ea1) rfl ⟨_, _, rfl, rfl, ⟨by decide, by decide⟩, _, _, rfl, rfl, (by decide : (0 : Int) < 65521), fun y y0 y1 _ => ⟨_, _, rfl, rfl, _, _, rfl, rfl, cmulR (by omega) (by omega), _, _, rfl, rfl, _, _, rfl, rfl, (by decide : (0 : Int) < 2147483629), fun z z0 z1 _ => rd_set 1 rfl ea1 (by decide : 1 < 2) ?_⟩⟩⟩)
      have ea2 : (upd H4 a (.lst ([V.int u, V.int x].set 1 (.int z)))) a = some (.lst [.int u, .int z]) := upd_same
      have x5 : Exw a H (upd H4 a (.lst ([V.int u, V.int x].set 1 (.int z)))) := x4.up
      generalize upd H4 a (.lst ([V.int u, V.int x].set 1 (.int z))) = H5 at ea2 x5 ⊢
      refine rd_ix 1 rfl (sql ea2) rfl ⟨_, _, rfl, rfl, ⟨by decide, by decide⟩, .int n, rfl, _, _, rfl, rfl, hn0, fun r r0 r1 _ => ?_⟩
      exact q H5 r x5 ⟨u, z, ea2, u0⟩ r0 r1
/-! _law_any -/
def spAny : Sp := fun vs H Q _ => ∃ (a l : Addr) (xs : List V), vs = [.ref a, .ref l] ∧ Ht a H ∧ l ≠ a ∧ H l = some (.lst xs) ∧ 0 < xs.length ∧ xs.length ≤ 100000 ∧ ∀ H' x, Exw a H H' → Ht a H' → x ∈ xs → Q x H'
theorem ok_any (T : Blt mg) (ddraw : Dndraw K mg) (d : Dnany K mg) : FnOk P w K mg base CX0 2 d.f d.fd ["_law_hat_here", "_law_things"] spAny := by
  have Gdraw : FnOk P w K mg base CX0 1 ddraw.f ddraw.fd ["_law_hat_here", "_law_many"] spDraw := ok_draw T ddraw
  refine d.F.ok scany (fun vs H Q E h => ?_) (fun cdv A outer s H vs Q E hr h => ?_)
  · obtain ⟨a, l, xs, rfl, _⟩ := h
    rfl
  · obtain ⟨a, l, xs, rfl, hw, la, hl, h0, h1, q⟩ := h
    refine ⟨_, (pss_one (ps_ret (pe_ix ix_list (pv 1) (pe_call Gdraw (hr.mono (by omega)) (by rfl) ddraw.g ddraw.F.kp ddraw.b .nil pass0 (pa_cons (pv 0) (pa_cons (pe_callB call_len_seq (by rfl) T.n_len (by decide +kernel) (pa_cons (pv 1) pa_nil)) pa_nil))) (fun _ _ => rfl)))), ?_⟩
    refine ⟨.ref l, rfl, .ref a, rfl, .ref l, rfl, l, _, rfl, .inl (sql hl), a, (xs.length : Int), rfl, hw, by omega, ?_, fun H1 k x1 w1 k0 k1 => ?_⟩
    · rw [Int.natAbs_natCast]
      exact Nat.lt_of_lt_of_le (lg90 (Nat.le_trans h1 (by decide))) (by decide)
    obtain ⟨kn, rfl⟩ := Int.eq_ofNat_of_zero_le k0
    have hk : kn < xs.length := by omega
    exact ⟨l, _, _, _, rfl, rfl, sql (x1 _ _ la hl), atI_nat (j := kn) (List.getElem?_eq_getElem hk), q H1 _ x1 w1 (List.getElem_mem hk)⟩
/-! _law_value, _law_between -/
theorem fr_cw {n S : Int} (h : 0 < S) (hS : S < 10000000) : CDivW n (gcI n S) := by
  refine ⟨gcI_pos h, ?_⟩
  have : (gcI n S).natAbs ≤ 2 ^ 90 := by
    show ((Nat.gcd n.natAbs S.natAbs : Nat) : Int).natAbs ≤ 2 ^ 90
    rw [Int.natAbs_natCast]
    have := Nat.le_of_dvd (by omega) (Nat.gcd_dvd_right n.natAbs S.natAbs)
    omega
  exact Nat.lt_of_lt_of_le (lg90 this) (by decide)
def spValue : Sp := fun vs H Q _ => ∃ k : Int, vs = [.int k] ∧ k.natAbs ≤ 2 ^ 90 ∧ ∀ H' p, Same H H' → Ptp H' p [.int (frT k scl), .int (frN k scl)] → Q (.ref p) H'
theorem ok_value (T : Blt mg) (dgcd : Dngcd K mg) (d : Dnvalue K mg) : FnOk P w K mg base CX0 2 d.f d.fd ["_law_key"] spValue := by
  have Ggcd : FnOk P w K mg base CX0 1 dgcd.f dgcd.fd ["_law_one_here", "_law_other"] spGcd := ok_gcd T dgcd
  refine d.F.ok scvalue (fun vs H Q E h => ?_) (fun cdv A outer s H vs Q E hr h => ?_)
  · obtain ⟨k, rfl, _⟩ := h
    rfl
  · obtain ⟨k, rfl, hk, q⟩ := h
    refine ⟨_, (pss_cons (ps_set (i := 1) scvalue.nd rfl (Or.inl rfl) pe_int)
    (pss_cons (ps_set (i := 2) scvalue.nd rfl (Or.inl rfl) (pe_call Ggcd (hr.mono (by omega)) (by rfl) dgcd.g dgcd.F.kp dgcd.b .nil pass0 (pa_cons (pv 0) (pa_cons (pv 1) pa_nil))))
    (pss_one (ps_ret (pe_tupF (pa_cons (pe_op op_fdivW (pv 0) (pv 2)) (pa_cons (pe_op op_fdivW (pv 1) (pv 2)) pa_nil))))))), ?_⟩
    refine ⟨.int k, rfl, .int scl, rfl, k, scl, rfl, by decide, by omega, by decide, ?_⟩
    have cw : CDivW k (gcI k scl) := fr_cw (by decide) (by decide)
    refine ⟨.int k, rfl, .int (gcI k scl), rfl, _, _, rfl, rfl, cw, .int scl, rfl, .int (gcI k scl), rfl, _, _, rfl, rfl, cw, (by show 2 ≤ sizeLine; decide), fun p o np ho => ?_⟩
    exact q _ p (same_upd np) ⟨o, upd_same, ho⟩
def spBetween : Sp := fun vs H Q _ => ∃ k m : Int, vs = [.int k, .int m] ∧ (k + m).natAbs ≤ 2 ^ 90 ∧ ∀ H' p, Same H H' → Ptp H' p [.int (frT (k + m) (2 * scl)), .int (frN (k + m) (2 * scl))] → Q (.ref p) H'
end
end Kb

/-! sorted(d), d a dict by ints, any number of them -/
namespace L2
open PySem PySem.Spec PyProof.Rows SrtZ SrtO
section
variable {X : Cx}
def rSortedDIL : List V → Hp → VK → Prop := fun vs H Q => ∃ (d : Addr) (kvs : List (Key × V)) (ks : List Int), vs = [V.ref d] ∧ H d = some (.dK kvs) ∧ kvs.map (·.1) = ks.map Sum.inl ∧
  ∀ (ys : List Int) (l : Addr), ys.Perm ks → ys.Pairwise (· ≤ ·) → H l = none → Q (.ref l) (upd H l (.lst (ys.map V.int)))
theorem keys_ints {P : Program} {w : World} {xs' : List (Key × Value)} {kvs : List (Key × V)} {ks : List Int} (rel : KV kvs xs') (hks : kvs.map (·.1) = ks.map Sum.inl) {vs : List Value} (hl : vs.length = xs'.length) (hv : ∀ (j : Nat) (v : Value), vs[j]? = some v → ∃ k x, xs'[j]? = some (k, x) ∧ (mixKind P w).is k v = true) : IntsAre vs ks := by
  have hkeys : xs'.map (·.1) = ks.map Sum.inl := rel.keys.symm.trans hks
  have l2 : vs.length = ks.length := by
    have := congrArg List.length hkeys
    rw [List.length_map, List.length_map] at this
    rw [hl, this]
  refine ints_each l2 fun j v e => ?_
  obtain ⟨k, x, e1, e2⟩ := hv j v e
  have e3 : (xs'.map (·.1))[j]? = some k := by rw [List.getElem?_map, e1]; rfl
  rw [hkeys, List.getElem?_map] at e3
  cases e4 : ks[j]? with
  | none => rw [e4] at e3; cases e3
  | some y =>
    rw [e4] at e3
    have e5 : Sum.inl y = k := Option.some.inj e3
    subst e5
    rcases keyIs_shape (show keyIs (Sum.inl y) v = true from e2) with ⟨i, t, ek, ev⟩ | ⟨z, t, ek, ev⟩
    · cases ek
      exact ⟨y, t, rfl, ev⟩
    · cases ek
theorem intsAre_len {vs : List Value} {ks : List Int} (h : IntsAre vs ks) : vs.length = ks.length := by
  have := iv_ints h
  rw [← this, List.length_map]
theorem cr_sortedDIL (hc : X.calm = true) : CallR X (.builtin "sorted") rSortedDIL := by
  intro pins s σ H xs us Q I r h
  obtain ⟨d, kvs, ks, rfl, ha, hks, q⟩ := h
  obtain rfl := Vals.ref1 r
  obtain ⟨z, hd, xs', rel, dd⟩ := dk_of I.hok ha
  obtain ⟨ep, hat⟩ := dd.dictAt
  have l1 : kvs.length = xs'.length := Paired.length rel
  have hz : xs'.length ≤ sizeLine := by omega
  have lk : ks.length = kvs.length := by
    have := congrArg List.length hks
    rw [List.length_map, List.length_map] at this
    omega
  refine sorted_col (x := .ref d) (b := false) (kw := []) (ltv := fun _ => ltIv) (P := fun _ _ vs => IntsAre vs ks)
    plain_rev (args_sorted1 _) (fun _ => args_list_sort _) (fun R hR => ?_) (fun _ _ _ _ => swo_int) (fun h' _ vs hP => ?_) (fun h' tk vs hP h2 h₁ c hb keep => ints_sortable hP h2) (fun h' tk vs out h2 hk hP h1 hb hk2 hat => ?_)
  · refine PySem.W.kdu_collect (A := X.A.in1) (PySem.W.kdl_dict (knd := mixKind X.prog X.w) (kvs := xs') (ep := ep) (d := d) hd) (I.ok.hd hc) hat hz fun h' tk acc hk hacc => hR h' tk _ hk (keys_ints rel hks (by rw [Array.length_toList]; exact hacc.1) fun j v e => hacc.2 j v (by rw [← Array.getElem?_toList]; exact e))
  · rw [intsAre_len hP]
    omega
  · obtain ⟨n, hat⟩ := hat
    rw [if_neg (by decide)] at hb
    obtain ⟨k1, k2, k3⟩ := ints_out hP h1 hb
    have hlen : ((out.map iv).map V.int).length ≤ sizeLine := by
      rw [List.length_map, k2.length_eq]
      omega
    have gone : s.heap.get? h'.objs.size = none := by
      cases e : s.heap.get? h'.objs.size with
      | none => rfl
      | some o => exact absurd (Heap.lt_size (hk _ _ e)) (Nat.lt_irrefl _)
    have hn := I.hok.gone gone
    exact ⟨.ref h'.objs.size, upd H h'.objs.size (.lst ((out.map iv).map V.int)), I.laidN (t' := tk) (fun c o e => hk2 c o (hk c o e)) gone hn ⟨hlen, out, n, vals_of_ints k1, hat⟩, rfl, q _ _ k2 k3 hn⟩
end
end L2

namespace Kb
open PySem PySem.Spec PyProof.Rows L2 RZ
abbrev smarks : Stmt := topS 33
abbrev Nmarks : List Str := ["_law_hat_here", "_law_many", "_law_keys", "_law_k", "_law_found", "_law_low", "_law_high", "_law_wide", "_law_key", "_law_a", "_law_b", "_law_c", "_law_d"]
theorem scmarks : FnScope ["_law_hat_here", "_law_many", "_law_keys", "_law_k", "_law_found", "_law_low", "_law_high", "_law_wide", "_law_key", "_law_a", "_law_b", "_law_c", "_law_d"] ["_law_hat_here", "_law_many"] (defScope smarks) := ⟨rfl, rfl, rfl, by decide +kernel, rfl, by decide +kernel, by decide +kernel⟩
abbrev Dnmarks (K : PySem.W.Frag) (mg : Str → Option Value) := Dn K mg "_law_marks" smarks ["_law_hat_here", "_law_many"]
theorem kpD_list {H : Hp} {d : Addr} {xs ys : List V} (h : H d = some (.lst xs)) : KpD H (upd H d (.lst ys)) :=
  ⟨fun b zs ⟨o, e, z⟩ => ⟨o, by rw [upd_ne (ne_of e h (by intro z; cases z))]; exact e, z⟩, fun b zs e => by
    by_cases hb : b = d
    · subst hb
      exact ⟨ys, upd_same⟩
    · exact ⟨zs, by rw [upd_ne hb]; exact e⟩, fun b x e => ⟨x, by rw [upd_ne (ne_of e h (by intro z; cases z))]; exact e⟩⟩
theorem putK_keys {kvs : List (Key × V)} {ks : List Int} {s : Int} {v : V} (e : kvs.map (·.1) = ks.map Sum.inl) : (s ∈ ks → (putK kvs (Sum.inl s) v).map (·.1) = ks.map Sum.inl) ∧ (s ∉ ks → (putK kvs (Sum.inl s) v).map (·.1) = (ks ++ [s]).map Sum.inl) := by
  have hany : (kvs.any fun kv => decide (kv.1 = (Sum.inl s : Key))) = true ↔ s ∈ ks := by
    rw [List.any_eq_true]
    constructor
    · rintro ⟨x, hx, h⟩
      have : x.1 ∈ kvs.map (·.1) := List.mem_map.mpr ⟨x, hx, rfl⟩
      rw [e, of_decide_eq_true h] at this
      obtain ⟨t, ht, h2⟩ := List.mem_map.mp this
      cases h2
      exact ht
    · intro h
      have : (Sum.inl s : Key) ∈ kvs.map (·.1) := by rw [e]; exact List.mem_map.mpr ⟨s, h, rfl⟩
      obtain ⟨x, hx, h2⟩ := List.mem_map.mp this
      exact ⟨x, hx, decide_eq_true h2⟩
  constructor
  · intro h
    unfold putK
    rw [if_pos (hany.mpr h), List.map_map, ← e]
    refine List.map_congr_left fun x _ => ?_
    show (if x.1 = _ then _ else _ : Key × V).1 = x.1
    split <;> rfl
  · intro h
    unfold putK
    rw [if_neg (fun z => h (hany.mp z)), List.map_append, List.map_append, e]
    rfl

/-- what the law draws: key, bounds -/
structure Fd where
  k : Int
  w : Int
  x : Int
  y : Int
  z : Int
def Fd.m (f : Fd) : Mk := ⟨frT f.k scl, frN f.k scl, f.w, f.x, f.y, f.z⟩
def FdAt (H : Hp) (v : V) (f : Fd) : Prop := ∃ u, v = .ref u ∧ Ptp H u [.int f.k, .int f.w, .int f.x, .int f.y, .int f.z]
theorem FdAt.keep {H H' : Hp} {v : V} {f : Fd} (h : FdAt H v f) (k : KpD H H') : FdAt H' v f := let ⟨u, e, p⟩ := h; ⟨u, e, k.t _ _ p⟩
structure FsOk (n : Int) (fs : List Fd) : Prop where
  bd : ∀ f ∈ fs, BdOk n f.m
  ky : fs.Pairwise (fun f g => f.k < g.k)
  ad : ∀ i f g, fs[i]? = some f → fs[i + 1]? = some g → f.y ≤ g.w ∧ f.z ≤ g.x
  kb : ∀ f ∈ fs, f.k.natAbs ≤ 2 ^ 89
  n0 : 0 ≤ n
  n1 : n ≤ 2 ^ 40
  len : fs.length ≤ 150
/-- so far -/
structure FsUp (i : Nat) (low high : Int) (fs : List Fd) : Prop where
  each : ∀ f ∈ fs, 0 ≤ f.w ∧ f.w < f.y ∧ f.w ≤ f.x ∧ f.x < f.z ∧ f.y ≤ f.z ∧ f.y ≤ low ∧ f.z ≤ high
  ad : ∀ i f g, fs[i]? = some f → fs[i + 1]? = some g → f.y ≤ g.w ∧ f.z ≤ g.x
  l0 : 0 ≤ low
  lh : low ≤ high
  hb : high ≤ i * 500000000
theorem FsUp.add {i : Nat} {low high : Int} {fs : List Fd} (h : FsUp i low high fs) {f : Fd} (h1 : low ≤ f.w) (h2 : f.w < f.y) (h3 : f.w ≤ f.x) (h4 : f.x < f.z) (h5 : f.y ≤ f.z) (h6 : high ≤ f.x) (h7 : f.z ≤ (i + 1 : Nat) * 500000000) : FsUp (i + 1) f.y f.z (fs ++ [f]) := by
  have l0 := h.l0
  have lh := h.lh
  refine ⟨fun g hg => ?_, fun j g g' e1 e2 => ?_, by omega, h5, h7⟩
  · rcases List.mem_append.mp hg with hg | hg
    · obtain ⟨a1, a2, a3, a4, a5, a6, a7⟩ := h.each g hg
      exact ⟨a1, a2, a3, a4, a5, by omega, by omega⟩
    · rw [List.mem_singleton.mp hg]
      exact ⟨by omega, h2, h3, h4, h5, Int.le_refl _, Int.le_refl _⟩
  · by_cases hj : j + 1 < fs.length
    · rw [List.getElem?_append_left (by omega)] at e1
      rw [List.getElem?_append_left hj] at e2
      exact h.ad j g g' e1 e2
    · have hj2 : j + 1 = fs.length := by
        have := (List.getElem?_eq_some_iff.mp e2).1
        rw [List.length_append, List.length_singleton] at this
        omega
      rw [List.getElem?_append_left (by omega)] at e1
      rw [hj2, List.getElem?_append_right (by omega), Nat.sub_self] at e2
      cases e2
      obtain ⟨a1, a2, a3, a4, a5, a6, a7⟩ := h.each g (List.mem_of_getElem? e1)
      exact ⟨by omega, by omega⟩
theorem FsUp.done {i : Nat} {low high n : Int} {fs : List Fd} (h : FsUp i low high fs) (hi : i ≤ 150) (hn : high ≤ n) (hn2 : n ≤ high + 1000000000) {ys : List Int} (e : fs.map Fd.k = ys) (asc : ys.Pairwise (· < ·)) (kb : ∀ k ∈ ys, k.natAbs ≤ 2 ^ 89) (len : ys.length ≤ 150) : FsOk n fs := by
  have hb := h.hb
  have l0 := h.l0
  have lh := h.lh
  have p40 : (2 : Int) ^ 40 = 1099511627776 := by decide
  refine ⟨fun f hf => ?_, ?_, h.ad, fun f hf => kb _ (by rw [← e]; exact List.mem_map.mpr ⟨f, hf, rfl⟩), by omega, by omega, by rw [← e, List.length_map] at len; exact len⟩
  · obtain ⟨a1, a2, a3, a4, a5, a6, a7⟩ := h.each f hf
    exact ⟨a1, a2, by show f.y ≤ n; omega, a3, a4, by show f.z ≤ n; omega, a5⟩
  · rw [← e] at asc
    exact List.pairwise_map.mp asc
theorem paired_app {α β : Type} {F : α → β → Prop} : ∀ {xs : List α} {ys : List β} {zs : List α} {ws : List β}, Paired F xs ys → Paired F zs ws → Paired F (xs ++ zs) (ys ++ ws)
  | _, _, _, _, .nil, h => h
  | _, _, _, _, .cons a t, h => .cons a (paired_app t h)
def mxI (i j : Int) : Int := if j > i then j else i
theorem mxI_ge (i j : Int) : i ≤ mxI i j ∧ j ≤ mxI i j ∧ (mxI i j = i ∨ mxI i j = j) := by
  unfold mxI
  split <;> omega
section
variable {P : Program} {w : World} {K : PySem.W.Frag} {mg : Str → Option Value} {base : Heap}
/-! _law_number -/
def spNumber : Sp := fun vs H Q _ => ∃ a : Addr, vs = [.ref a] ∧ Ht a H ∧ ∀ H' (k : Int), Exw a H H' → Ht a H' → k.natAbs ≤ 2 ^ 89 → Q (.int k) H'
theorem ok_number (T : Blt mg) (ddraw : Dndraw K mg) (dany : Dnany K mg) (d : Dnnumber K mg) : FnOk P w K mg base CX0 3 d.f d.fd ["_law_hat_here"] spNumber := by
  have Gdraw : FnOk P w K mg base CX0 1 ddraw.f ddraw.fd ["_law_hat_here", "_law_many"] spDraw := ok_draw T ddraw
  have Gany : FnOk P w K mg base CX0 2 dany.f dany.fd ["_law_hat_here", "_law_things"] spAny := ok_any T ddraw dany
  refine d.F.ok scnumber (fun vs H Q E h => ?_) (fun cdv A outer s H vs Q E hr h => ?_)
  · obtain ⟨a, rfl, _⟩ := h
    rfl
  · obtain ⟨a, rfl, w0, q⟩ := h
    refine ⟨_, (pss_cons (ps_set (i := 1) scnumber.nd rfl (Or.inl rfl) (pe_call Gany (hr.mono (by omega)) (by rfl) dany.g dany.F.kp dany.b .nil pass0 (pa_cons (pv 0) (pa_cons (pe_lst (pa_cons pe_int (pa_cons pe_int (pa_cons pe_int (pa_cons pe_int (pa_cons pe_int (pa_cons pe_int (pa_cons pe_int (pa_cons pe_int (pa_cons pe_int (pa_cons pe_int (pa_cons pe_int (pa_cons pe_int (pa_cons pe_int (pa_cons pe_int pa_nil))))))))))))))) pa_nil))))
    (pss_cons (ps_set (i := 2) scnumber.nd rfl (Or.inl rfl) (pe_call Gdraw (hr.mono (by omega)) (by rfl) ddraw.g ddraw.F.kp ddraw.b .nil pass0 (pa_cons (pv 0) (pa_cons pe_int pa_nil))))
    (C8.pss_cut (ps_if (pt_cmpR op_lt (pv 2) pe_int (nomark _))
      (pss_one (ps_set (i := 3) scnumber.nd rfl (Or.inl rfl) (pe_op op_sub (pe_call Gdraw (hr.mono (by omega)) (by rfl) ddraw.g ddraw.F.kp ddraw.b .nil pass0 (pa_cons (pv 0) (pa_cons pe_int pa_nil))) pe_int)))
      (pss_one (ps_if (pt_cmpR op_lt (pv 2) pe_int (nomark _))
        (pss_one (ps_set (i := 3) scnumber.nd rfl (Or.inl rfl) (pe_op op_sub (pe_call Gdraw (hr.mono (by omega)) (by rfl) ddraw.g ddraw.F.kp ddraw.b .nil pass0 (pa_cons (pv 0) (pa_cons pe_int pa_nil))) pe_int)))
        (pss_one (ps_set (i := 3) scnumber.nd rfl (Or.inl rfl) (pe_op op_sub (pe_call Gdraw (hr.mono (by omega)) (by rfl) ddraw.g ddraw.F.kp ddraw.b .nil pass0 (pa_cons (pv 0) (pa_cons (pe_op op_mul pe_int (pe_op op_pow pe_int pe_int)) pa_nil))) (pe_op op_pow pe_int pe_int)))))))
    (pss_one (ps_ret (pe_op op_mul (pv 3) (pe_op op_fdiv pe_int (pv 1)))))))), ?_⟩
    refine ⟨.ref a, rfl, (by show 14 ≤ sizeLine; decide), fun l nl => ?_⟩
    have s1 := same_upd (o := .lst [.int 1, .int 1, .int 1, .int 1, .int 1, .int 2, .int 3, .int 4, .int 5, .int 7, .int 9, .int 11, .int 97, .int 27720]) nl
    refine ⟨a, l, _, rfl, w0.same s1, w0.nea nl, upd_same, (by show 0 < 14; decide), (by show 14 ≤ 100000; decide), fun H1 v x1 w1 hv => ?_⟩
    obtain ⟨b, rfl, b1, b2⟩ : ∃ b : Int, v = .int b ∧ 1 ≤ b ∧ b ≤ 27720 := by
      simp only [List.mem_cons, List.not_mem_nil, or_false] at hv
      rcases hv with rfl | rfl | rfl | rfl | rfl | rfl | rfl | rfl | rfl | rfl | rfl | rfl | rfl | rfl <;> exact ⟨_, rfl, by decide, by decide⟩
    clear hv
    have x01 : Exw a H H1 := (Same.exw s1).trans x1
    refine ⟨.ref a, rfl, a, 6, rfl, w1, by decide, by decide, fun H2 k x2 w2 _ _ => ?_⟩
    have x02 := x01.trans x2
    refine ⟨fun σ H3 => ∃ t : Int, σ = [some (.ref a), some (.int b), some (.int k), some (.int t)] ∧ Exw a H H3 ∧ Ht a H3 ∧ t.natAbs ≤ 10 ^ 20, ?_, ?_⟩
    · refine ⟨.int k, rfl, _, _, rfl, rfl, _, rfl, ite2 (fun _ => ?_) fun _ => ⟨.int k, rfl, _, _, rfl, rfl, _, rfl, ite2 (fun _ => ?_) fun _ => ?_⟩⟩
      · refine ⟨.ref a, rfl, a, 7, rfl, w2, by decide, by decide, fun H3 r x3 w3 r0 r1 => ⟨_, _, rfl, rfl, _, rfl, x02.trans x3, w3, ?_⟩⟩
        have : (10 : Nat) ^ 20 = 100000000000000000000 := by decide
        omega
      · refine ⟨.ref a, rfl, a, 61, rfl, w2, by decide, by decide, fun H3 r x3 w3 r0 r1 => ⟨_, _, rfl, rfl, _, rfl, x02.trans x3, w3, ?_⟩⟩
        have : (10 : Nat) ^ 20 = 100000000000000000000 := by decide
        omega
      · refine ⟨.ref a, rfl, _, _, rfl, rfl, ⟨by decide, by decide, by decide⟩, _, _, rfl, rfl, cmulL (by decide) (by decide), a, _, rfl, w2, by decide +kernel, by decide +kernel, fun H3 r x3 w3 r0 r1 => ⟨_, _, rfl, rfl, ⟨by decide, by decide, by decide⟩, _, _, rfl, rfl, _, rfl, x02.trans x3, w3, ?_⟩⟩
        have e2 : (2 : Int) * 10 ^ (Int.toNat 20) = 200000000000000000000 := by decide
        have e3 : (10 : Int) ^ (Int.toNat 20) = 100000000000000000000 := by decide
        rw [e2] at r1
        rw [e3]
        have : (10 : Nat) ^ 20 = 100000000000000000000 := by decide
        omega
    · rintro σ H3 ⟨t, rfl, x3, w3, ht⟩
      have hq0 : 0 ≤ 2688840 / b := Int.ediv_nonneg (by decide) (by omega)
      have hq1 : 2688840 / b ≤ 2688840 := Int.ediv_le_self b (by decide)
      refine ⟨.int t, rfl, .int b, rfl, _, _, rfl, rfl, ⟨by omega, by omega⟩, _, _, rfl, rfl, cmulR hq0 (by omega), ?_⟩
      refine q H3 _ x3 w3 ?_
      rw [Int.natAbs_mul]
      calc t.natAbs * (2688840 / b).natAbs ≤ 10 ^ 20 * 2688840 := Nat.mul_le_mul ht (by omega)
        _ ≤ 2 ^ 89 := by decide
/-! _law_marks -/
def spMarks : Sp := fun vs H Q _ => ∃ (a : Addr) (n0 : Nat), vs = [.ref a, .int (n0 : Int)] ∧ Ht a H ∧ n0 ≤ 150 ∧ ∀ H' p l n us fs, Exw a H H' → Ht a H' → l ≠ a → Ptp H' p [.int n, .ref l] → H' l = some (.lst us) → Paired (FdAt H') us fs → FsOk n fs → fs.length ≤ n0 → Q (.ref p) H'
theorem ok_marks (T : Blt mg) (ddraw : Dndraw K mg) (dany : Dnany K mg) (dnumber : Dnnumber K mg) (d : Dnmarks K mg) : FnOk P w K mg base CX0 4 d.f d.fd ["_law_hat_here", "_law_many"] spMarks := by
  have Gdraw : FnOk P w K mg base CX0 1 ddraw.f ddraw.fd ["_law_hat_here", "_law_many"] spDraw := ok_draw T ddraw
  have Gany : FnOk P w K mg base CX0 2 dany.f dany.fd ["_law_hat_here", "_law_things"] spAny := ok_any T ddraw dany
  have Gnumber : FnOk P w K mg base CX0 3 dnumber.f dnumber.fd ["_law_hat_here"] spNumber := ok_number T ddraw dany dnumber
  refine d.F.ok scmarks (fun vs H Q E h => ?_) (fun cdv A outer s H vs Q E hr h => ?_)
  · obtain ⟨a, n, rfl, _⟩ := h
    rfl
  · obtain ⟨a, n0, rfl, w0, hn0, q⟩ := h
    have hu := hu_of hr
    refine ⟨_, (pss_cons (ps_set (i := 2) scmarks.nd rfl (Or.inl rfl) pe_dnewK)
    (pss_cons (ps_for PassesOwn.never rfl (pi_range1 (by rfl) T.n_range (pa_cons (pv 1) pa_nil)) (pg_name (i := 3) scmarks.nd rfl (Or.inl rfl))
      (pss_one (ps_dput hu (pv 2) (pe_call Gnumber (hr.mono (by omega)) (by rfl) dnumber.g dnumber.F.kp dnumber.b .nil pass0 (pa_cons (pv 0) pa_nil)) pe_bl rfl)))
    (pss_cons (ps_set (i := 4) scmarks.nd rfl (Or.inl rfl) (pe_lst pa_nil))
    (pss_cons (ps_set (i := 5) scmarks.nd rfl (Or.inl rfl) pe_int)
    (pss_cons (ps_set (i := 6) scmarks.nd rfl (Or.inl rfl) pe_int)
    (pss_cons (ps_set (i := 7) scmarks.nd rfl (Or.inl rfl) (pe_call Gany (hr.mono (by omega)) (by rfl) dany.g dany.F.kp dany.b .nil pass0 (pa_cons (pv 0) (pa_cons (pe_lst (pa_cons pe_int (pa_cons pe_int (pa_cons pe_int (pa_cons pe_int (pa_cons (pe_op op_pow pe_int pe_int) pa_nil)))))) pa_nil))))
    (pss_cons (ps_for PassesOwn.never rfl (pi_list (pe_callB (cr_sortedDIL rfl) (by rfl) T.n_sorted (by decide +kernel) (pa_cons (pv 2) pa_nil))) (pg_name (i := 8) scmarks.nd rfl (Or.inl rfl))
      (pss_cons (ps_set (i := 9) scmarks.nd rfl (Or.inl rfl) (pe_op op_add (pv 5) (pe_call Gdraw (hr.mono (by omega)) (by rfl) ddraw.g ddraw.F.kp ddraw.b .nil pass0 (pa_cons (pv 0) (pa_cons (pv 7) pa_nil)))))
      (pss_cons (ps_set (i := 10) scmarks.nd rfl (Or.inl rfl) (pe_op op_add (pe_callB (call_max2 rfl) (by rfl) T.n_max (by decide +kernel) (pa_cons (pv 9) (pa_cons (pv 6) pa_nil))) (pe_call Gdraw (hr.mono (by omega)) (by rfl) ddraw.g ddraw.F.kp ddraw.b .nil pass0 (pa_cons (pv 0) (pa_cons (pv 7) pa_nil)))))
      (pss_cons (ps_set (i := 11) scmarks.nd rfl (Or.inl rfl) (pe_op op_add (pe_op op_add (pv 9) pe_int) (pe_call Gdraw (hr.mono (by omega)) (by rfl) ddraw.g ddraw.F.kp ddraw.b .nil pass0 (pa_cons (pv 0) (pa_cons (pv 7) pa_nil)))))
      (pss_cons (ps_set (i := 12) scmarks.nd rfl (Or.inl rfl) (pe_op op_add (pe_callB (call_max2 rfl) (by rfl) T.n_max (by decide +kernel) (pa_cons (pe_op op_add (pv 10) pe_int) (pa_cons (pv 11) pa_nil))) (pe_call Gdraw (hr.mono (by omega)) (by rfl) ddraw.g ddraw.F.kp ddraw.b .nil pass0 (pa_cons (pv 0) (pa_cons (pv 7) pa_nil)))))
      (pss_cons (ps_expr (pe_bm PySem.F.plainAttrs_list PySem.F.slot_list_append PySem.F.type_list_append mt_append (pv 4) (pa_cons (pe_tupF (pa_cons (pv 8) (pa_cons (pv 9) (pa_cons (pv 10) (pa_cons (pv 11) (pa_cons (pv 12) pa_nil)))))) pa_nil)))
      (pss_cons (ps_set (i := 5) scmarks.nd rfl (Or.inl rfl) (pv 11))
      (pss_one (ps_set (i := 6) scmarks.nd rfl (Or.inl rfl) (pv 12))))))))))
    (pss_one (ps_ret (pe_tupF (pa_cons (pe_op op_add (pv 6) (pe_call Gdraw (hr.mono (by omega)) (by rfl) ddraw.g ddraw.F.kp ddraw.b .nil pass0 (pa_cons (pv 0) (pa_cons (pv 7) pa_nil)))) (pa_cons (pv 4) pa_nil)))))))))))), ?_⟩
    intro p np
    have pa := w0.nea np
    refine ⟨.int (n0 : Int), rfl, n0, rfl, by omega, by omega, ?_⟩
    rw [Int.toNat_natCast]
    refine for_range (lo := 0) (n := n0) (fun i σ H3 => ∃ (y3 : Option V) (kvs : List (Key × V)) (ks : List Int), σ = [some (.ref a), some (.int (n0 : Int)), some (.ref p), y3, none, none, none, none, none, none, none, none, none] ∧ Exw a H H3 ∧ Ht a H3 ∧ H3 p = some (.dK kvs) ∧ kvs.map (·.1) = ks.map Sum.inl ∧ ks.Nodup ∧ ks.length ≤ i ∧ ∀ k ∈ ks, k.natAbs ≤ 2 ^ 89)
      ⟨none, [], [], rfl, (Exw.refl a H).new np, w0.put pa, upd_same, rfl, List.nodup_nil, Nat.le_refl _, fun _ h => nomatch h⟩ ?_ ?_
    · rintro i σ H3 hi ⟨y3, kvs, ks, rfl, x3, w3, hp, hks, nd, hl, hkb⟩
      refine ⟨.ref p, rfl, .ref a, rfl, a, rfl, w3, fun H4 k x4 w4 hk => ?_⟩
      have hp4 := x4 _ _ pa hp
      have lk : kvs.length = ks.length := by
        have := congrArg List.length hks
        rw [List.length_map, List.length_map] at this
        exact this
      refine ⟨p, _, rfl, DPut.k (k := Sum.inl k) hp4 (by rw [sizeLine_eq]; omega), ?_⟩
      obtain ⟨k1, k2⟩ := putK_keys (s := k) (v := V.bl true) hks
      by_cases hm : k ∈ ks
      · exact ⟨_, _, ks, rfl, (x3.trans x4).put np, w4.put pa, upd_same, k1 hm, nd, by omega, hkb⟩
      · refine ⟨_, _, ks ++ [k], rfl, (x3.trans x4).put np, w4.put pa, upd_same, k2 hm, ?_, by rw [List.length_append, List.length_singleton]; omega, fun j hj => ?_⟩
        · rw [List.nodup_append]
          exact ⟨nd, (by simp), fun x hx y hy => by rw [List.mem_singleton.mp hy]; exact fun z => hm (z ▸ hx)⟩
        · rcases List.mem_append.mp hj with hj | hj
          · exact hkb j hj
          · rw [List.mem_singleton.mp hj]
            exact hk
    rintro σ H3 ⟨y3, kvs, ks, rfl, x3, w3, hp, hks, nd, hl, hkb⟩
    refine ⟨(by show 0 ≤ sizeLine; decide), fun L nL => ?_⟩
    have La := w3.nea nL
    have w4 := w3.put (u := .lst []) La
    have x4 : Exw a H (upd H3 L (.lst [])) := x3.new nL
    have hp4 := same_upd (o := .lst []) nL _ _ hp
    have hL4 : (upd H3 L (.lst [])) L = some (.lst []) := upd_same
    generalize upd H3 L (.lst []) = H4 at w4 x4 hp4 hL4 ⊢
    refine ⟨.ref a, rfl, _, _, rfl, rfl, ⟨by decide, by decide, by decide⟩, (by show 5 ≤ sizeLine; decide), fun l5 nl5 => ?_⟩
    have s5 := same_upd (o := .lst [.int 1, .int 2, .int 3, .int 6, .int (10 ^ (Int.toNat 8))]) nl5
    refine ⟨a, l5, _, rfl, w4.same s5, w4.nea nl5, upd_same, (by show 0 < 5; decide), (by show 5 ≤ 100000; decide), fun H6 v x6 w6 hv => ?_⟩
    obtain ⟨W, rfl, W1, W2⟩ : ∃ b : Int, v = .int b ∧ 1 ≤ b ∧ b ≤ 100000000 := by
      simp only [List.mem_cons, List.not_mem_nil, or_false] at hv
      rcases hv with rfl | rfl | rfl | rfl | rfl <;> exact ⟨_, rfl, by decide, by decide⟩
    clear hv
    have hL6 := x6 _ _ La (s5 _ _ hL4)
    have hp6 := x6 _ _ pa (s5 _ _ hp4)
    have x06 := (x4.same s5).trans x6
    clear x4 hL4 hp4 w4 s5
    refine ⟨.ref p, rfl, p, kvs, ks, rfl, hp6, hks, fun ys l7 perm srt nl7 => ?_⟩
    have s7 := same_upd (o := .lst (ys.map V.int)) nl7
    have h7 : (upd H6 l7 (.lst (ys.map V.int))) l7 = some (.lst (ys.map V.int)) := upd_same
    have l7a := w6.nea nl7
    have x07 := x06.same s7
    have w7 := w6.same s7
    have hL7 := s7 _ _ hL6
    have lL7 : l7 ≠ L := (ne_of_none hL6 nl7).symm
    generalize upd H6 l7 (.lst (ys.map V.int)) = H7 at h7 x07 w7 hL7 ⊢
    have asc : ys.Pairwise (· < ·) := by
      have hnd : ys.Nodup := perm.nodup_iff.mpr nd
      exact (List.Pairwise.and srt hnd).imp fun {x y} h => by
        have := h.1
        have := h.2
        omega
    have ylen : ys.length ≤ 150 := by rw [perm.length_eq]; omega
    have hyb : ∀ k ∈ ys, k.natAbs ≤ 2 ^ 89 := fun k hk => hkb k (perm.mem_iff.mp hk)
    refine ⟨l7, rfl, ⟨_, sql h7⟩, ?_⟩
    have HL : H L = none := x3.gone La nL
    have lgW : W.natAbs.log2 < 9000 := Nat.lt_of_lt_of_le (lg90 (by omega)) (by decide)
    have W0 : 0 < W := by omega
    have stp : ∀ (H8 H9 : Hp) (us : List V) (fs : List Fd), Exw a H8 H9 → Ht a H8 → Ht a H9 → (Exw a H H8 ∧ H8 l7 = some (.lst (ys.map V.int)) ∧ H8 L = some (.lst us) ∧ Paired (FdAt H8) us fs) → (Exw a H H9 ∧ H9 l7 = some (.lst (ys.map V.int)) ∧ H9 L = some (.lst us) ∧ Paired (FdAt H9) us fs) :=
      fun H8 H9 us fs x w8 w9 ⟨e1, e2, e3, e4⟩ => ⟨e1.trans x, x _ _ l7a e2, x _ _ La e3, paired_imp (fun _ _ h => h.keep (kpD_exw x w8 w9)) e4⟩
    refine for_list (xs := ys.map V.int) (fun i σ H8 => ∃ (y8 y9 y10 y11 y12 : Option V) (low high : Int) (us : List V) (fs : List Fd), σ = [some (.ref a), some (.int (n0 : Int)), some (.ref p), y3, some (.ref L), some (.int low), some (.int high), some (.int W), y8, y9, y10, y11, y12] ∧ Ht a H8 ∧ (Exw a H H8 ∧ H8 l7 = some (.lst (ys.map V.int)) ∧ H8 L = some (.lst us) ∧ Paired (FdAt H8) us fs) ∧ fs.map Fd.k = ys.take i ∧ FsUp i low high fs)
      ⟨none, none, none, none, none, 0, 0, [], [], rfl, w7, ⟨x07, h7, hL7, .nil⟩, rfl, ⟨fun _ h => (nomatch h), fun _ _ _ h _ => (nomatch h), Int.le_refl _, Int.le_refl _, by omega⟩⟩
      (fun i σ H8 _ ⟨_, _, _, _, _, _, _, _, _, _, _, e, _⟩ => sql e.2.1) ?_ ?_
    · rintro i v σ H8 hi ⟨y8, y9, y10, y11, y12, low, high, us, fs, rfl, w8, env, hfk, up⟩
      obtain ⟨key, hkey, rfl⟩ := map_at hi
      have hi64 : i < 150 := by
        have := (List.getElem?_eq_some_iff.mp hkey).1
        omega
      refine ⟨.int low, rfl, .ref a, rfl, .int W, rfl, a, W, rfl, w8, W0, lgW, fun H9 r1 x9 w9 p1 q1 => ⟨_, _, rfl, rfl, ?_⟩⟩
      have env := stp _ _ _ _ x9 w8 w9 env
      dsimp only
      generalize ha1 : low + r1 = a1
      refine ⟨.int a1, rfl, .int high, rfl, a1, high, rfl, .ref a, rfl, .int W, rfl, a, W, rfl, w9, W0, lgW, fun H10 r2 x10 w10 p2 q2 => ⟨_, _, rfl, rfl, ?_⟩⟩
      have env := stp _ _ _ _ x10 w9 w10 env
      dsimp only
      rw [show (if high > a1 then high else a1) = mxI a1 high from rfl]
      obtain ⟨m1, m2, m3⟩ := mxI_ge a1 high
      generalize mxI a1 high = mx at m1 m2 m3 ⊢
      generalize hb1 : mx + r2 = b1
      refine ⟨.int a1, rfl, _, _, rfl, rfl, .ref a, rfl, .int W, rfl, a, W, rfl, w10, W0, lgW, fun H11 r3 x11 w11 p3 q3 => ⟨_, _, rfl, rfl, ?_⟩⟩
      have env := stp _ _ _ _ x11 w10 w11 env
      dsimp only
      generalize hc1 : a1 + 1 + r3 = c1
      refine ⟨.int b1, rfl, _, _, rfl, rfl, .int c1, rfl, _, _, rfl, .ref a, rfl, .int W, rfl, a, W, rfl, w11, W0, lgW, fun H12 r4 x12 w12 p4 q4 => ⟨_, _, rfl, rfl, ?_⟩⟩
      have env := stp _ _ _ _ x12 w11 w12 env
      dsimp only
      rw [show (if c1 > b1 + 1 then c1 else b1 + 1) = mxI (b1 + 1) c1 from rfl]
      obtain ⟨m4, m5, m6⟩ := mxI_ge (b1 + 1) c1
      generalize mxI (b1 + 1) c1 = mx2 at m4 m5 m6 ⊢
      generalize hd1 : mx2 + r4 = d1
      refine ⟨.ref L, rfl, .inl ⟨rfl, _, sql env.2.2.1⟩, .int key, rfl, .int a1, rfl, .int b1, rfl, .int c1, rfl, .int d1, rfl, (by show 5 ≤ sizeLine; decide), fun t o nt ho => ?_⟩
      have sT := same_upd (o := .frz o (.tup [.int key, .int a1, .int b1, .int c1, .int d1])) nt
      have hT : Ptp (upd H12 t (.frz o (.tup [.int key, .int a1, .int b1, .int c1, .int d1]))) t [.int key, .int a1, .int b1, .int c1, .int d1] := ⟨o, upd_same, ho⟩
      have w13 := w12.same sT
      have env := stp _ _ _ _ (Same.exw sT) w12 w13 env
      generalize upd H12 t (.frz o (.tup [.int key, .int a1, .int b1, .int c1, .int d1])) = H13 at hT w13 env ⊢
      obtain ⟨x13, h713, hL13, pr⟩ := env
      have ul : us.length = i := by
        rw [Paired.length pr, ← List.length_map (f := Fd.k), hfk, List.length_take]
        have := (List.getElem?_eq_some_iff.mp hkey).1
        omega
      refine ⟨L, us, .ref t, rfl, rfl, hL13, by rw [sizeLine_eq]; omega, ?_⟩
      have kp : KpD H13 (upd H13 L (.lst (us ++ [.ref t]))) := kpD_list hL13
      refine ⟨.int c1, rfl, .int d1, rfl, _, _, _, _, _, c1, d1, us ++ [.ref t], fs ++ [⟨key, a1, b1, c1, d1⟩], rfl, w13.put La, ⟨x13.put HL, by rw [upd_ne lL7]; exact h713, upd_same, ?_⟩, ?_, ?_⟩
      · exact paired_app (paired_imp (fun _ _ h => h.keep kp) pr) (.cons ⟨t, rfl, kp.t _ _ hT⟩ .nil)
      · rw [List.map_append, hfk, List.take_add_one, hkey]
        rfl
      · have hb := up.hb
        have lh := up.lh
        exact up.add (f := ⟨key, a1, b1, c1, d1⟩) (by show low ≤ a1; omega) (by show a1 < c1; omega) (by show a1 ≤ b1; omega) (by show b1 < d1; omega) (by show c1 ≤ d1; omega) (by show high ≤ b1; omega) (by show d1 ≤ _; omega)
    · rintro σ H8 ⟨y8, y9, y10, y11, y12, low, high, us, fs, rfl, w8, env, hfk, up⟩
      rw [List.length_map, List.take_length] at hfk
      rw [List.length_map] at up
      refine ⟨.int high, rfl, .ref a, rfl, .int W, rfl, a, W, rfl, w8, W0, lgW, fun H9 r1 x9 w9 p1 q1 => ⟨_, _, rfl, rfl, .ref L, rfl, (by show 2 ≤ sizeLine; decide), fun t o nt ho => ?_⟩⟩
      obtain ⟨x9', _, hL9, pr⟩ := stp _ _ _ _ x9 w8 w9 env
      have sT := same_upd (o := .frz o (.tup [.int (high + r1), .ref L])) nt
      exact q _ t L (high + r1) us fs (x9'.same sT) (w9.same sT) La ⟨o, upd_same, ho⟩ (sT _ _ hL9) (paired_imp (fun _ _ h => h.keep (kpD_same sT)) pr) (up.done ylen (by omega) (by omega) hfk asc hyb ylen) (by rw [← List.length_map (f := Fd.k), hfk, perm.length_eq]; exact hl)
end
end Kb

namespace Kb
open PySem PySem.Spec PyProof.Rows L2 RZ
abbrev sas_told : Stmt := topS 34
abbrev Nas_told : List Str := ["_law_room", "_law_many", "_law_marks_here", "_law_mark"]
theorem scas_told : FnScope ["_law_room", "_law_many", "_law_marks_here", "_law_mark"] ["_law_room", "_law_many", "_law_marks_here"] (defScope sas_told) := ⟨rfl, rfl, rfl, by decide +kernel, rfl, by decide +kernel, by decide +kernel⟩
abbrev Dnas_told (K : PySem.W.Frag) (mg : Str → Option Value) := Dn K mg "_law_as_told" sas_told ["_law_room", "_law_many", "_law_marks_here"]

def rTupT (K : PySem.W.Frag) : List V → Hp → VK → Prop := fun xs H Q => ∃ a ys, xs = [V.ref a] ∧ SqT K H a ys ∧ Q (.ref a) H
theorem call_tupleTK {X : Cx} : CallR X (.type "tuple") (rTupT X.K) := call_tupleT
/-- right data of any kind -/
def OkV (K : PySem.W.Frag) (H : Hp) (v : V) : Prop := ∃ d, DtAt K H v d
section
variable {P : Program} {w : World} {K : PySem.W.Frag} {mg : Str → Option Value} {base : Heap}
theorem OkV.keep {H H' : Hp} {v : V} (h : OkV K H v) (k : KpD H H') : OkV K H' v := let ⟨d, h⟩ := h; ⟨d, h.keep k⟩
theorem OkV.same {H H' : Hp} {v : V} (h : OkV K H v) (s : Same H H') : OkV K H' v := h.keep (kpD_same s)
theorem okv_list {H : Hp} : ∀ {xs : List V}, (∀ v ∈ xs, OkV K H v) → ∃ ds, Paired (DtAt K H) xs ds
  | [], _ => ⟨[], .nil⟩
  | v :: xs, h => by
    obtain ⟨d, hd⟩ := h v List.mem_cons_self
    obtain ⟨ds, hds⟩ := okv_list fun u hu => h u (List.mem_cons_of_mem _ hu)
    exact ⟨d :: ds, .cons hd hds⟩
theorem okv_tup {H : Hp} {p : Addr} {xs : List V} (h : Ptp H p xs) (l : xs.length ≤ 5000) (o : ∀ v ∈ xs, OkV K H v) : OkV K H (.ref p) := by
  obtain ⟨ds, hds⟩ := okv_list o
  exact ⟨_, DtAt.mk h l hds⟩
theorem okv_int {H : Hp} {i : Int} (h : i.natAbs ≤ 2 ^ 90) : OkV K H (.int i) := ⟨.int i, .lf ⟨rfl, h⟩⟩
theorem okv_bl {H : Hp} {b : Bool} : OkV K H (.bl b) := ⟨.bl b, .lf rfl⟩
theorem okv_non {H : Hp} : OkV K H .non := ⟨.non, .lf rfl⟩
theorem okv_lst {H : Hp} {l : Addr} {xs : List V} (h : H l = some (.lst xs)) : OkV K H (.ref l) := ⟨.lst [], .lf ⟨l, xs, rfl, h⟩⟩
theorem okv_parts {H : Hp} {v : V} {ds : List Dat} (h : DtAt K H v (.tup ds)) : ∃ p xs, v = .ref p ∧ Ptp H p xs ∧ xs.length = ds.length ∧ ∀ u ∈ xs, OkV K H u := by
  obtain ⟨p, xs, rfl, h1, _, h3⟩ := h.tup
  exact ⟨p, xs, rfl, h1, Paired.length h3, fun u hu => by
    obtain ⟨i, hi⟩ := List.getElem?_of_mem hu
    obtain ⟨d, _, hd⟩ := paired_at h3 hi
    exact ⟨d, hd⟩⟩
theorem cut_mem {xs : List V} {lo hi : Option Int} {v : V} (h : v ∈ cutV xs lo hi) : v ∈ xs := List.mem_of_mem_drop (List.mem_of_mem_take h)
/-! _law_as_told -/
theorem fd_sz {n : Int} {fs : List Fd} (h : FsOk n fs) {f : Fd} (hf : f ∈ fs) : (frT f.k scl).natAbs ≤ 2 ^ 89 ∧ (frN f.k scl).natAbs ≤ 2 ^ 89 ∧ f.w.natAbs ≤ 2 ^ 41 ∧ f.x.natAbs ≤ 2 ^ 41 ∧ f.y.natAbs ≤ 2 ^ 41 ∧ f.z.natAbs ≤ 2 ^ 41 := by
  have b := h.bd f hf
  have k := h.kb f hf
  obtain ⟨l1, l2⟩ := fr_le (n := f.k) (S := scl) (by decide)
  have e : scl.natAbs = 2688840 := rfl
  have n1 := h.n1
  have p40 : (2 : Int) ^ 40 = 1099511627776 := by decide
  have p41 : (2 : Nat) ^ 41 = 2199023255552 := by decide
  have a1 : 0 ≤ f.w := b.a0
  have a2 : f.w < f.y := b.ac
  have a3 : f.y ≤ n := b.cn
  have a4 : f.w ≤ f.x := b.ab
  have a5 : f.x < f.z := b.bd
  have a6 : f.z ≤ n := b.dn
  exact ⟨by omega, by omega, by omega, by omega, by omega, by omega⟩
def spAsTold (K : PySem.W.Frag) : Sp := fun vs H Q _ => ∃ (r n : Int) (l : Addr) (us : List V) (fs : List Fd), vs = [.int r, .int n, .ref l] ∧ 1 ≤ r ∧ r ≤ 64 ∧ H l = some (.lst us) ∧ Paired (FdAt H) us fs ∧ FsOk n fs ∧ ∀ H' p, Same H H' → DtAt K H' (.ref p) (rk2 r n (fs.map Fd.m)) → Q (.ref p) H'
theorem ok_as_told (T : Blt mg) (dgcd : Dngcd K mg) (dvalue : Dnvalue K mg) (d : Dnas_told K mg) : FnOk P w K mg base CX0 3 d.f d.fd ["_law_room", "_law_many", "_law_marks_here"] (spAsTold K) := by
  have Gvalue : FnOk P w K mg base CX0 2 dvalue.f dvalue.fd ["_law_key"] spValue := ok_value T dgcd dvalue
  refine d.F.ok scas_told (fun vs H Q E h => ?_) (fun cdv A outer s H vs Q E hr h => ?_)
  · obtain ⟨r, n, l, us, fs, rfl, _⟩ := h
    rfl
  · obtain ⟨r, n, l, us, fs, rfl, r1, r64, hl, pr, ok, q⟩ := h
    refine ⟨_, (pss_one (ps_ret (pe_tupF (pa_cons (pv 0) (pa_cons (pv 1) (pa_cons (pe_callTy call_tupleF (by rfl) T.n_tuple (by decide +kernel) (pa_cons (pe_lc (own := [("_law_mark", 3)]) (g := gName 3) (tt := tYes) rfl scas_told.nd (pi_list (pv 2)) (blkOk_by (N := Nas_told) (sc := defScope sas_told) (by decide +kernel)) (fun _ _ _ _ _ => pg_name (i := 3) scas_told.nd rfl (Or.inl rfl)) (fun _ _ _ _ _ => pts_nil) (fun _ _ _ _ _ => (pe_op op_catP (pe_tupF (pa_cons (pe_call Gvalue (hr.mono (by omega)) (by rfl) dvalue.g dvalue.F.kp dvalue.b .nil pass0 (pa_cons (pe_ix (r := rIxT K) ix_tup (pv 3) pe_int (fun _ _ => rfl)) pa_nil)) pa_nil)) (pe_callTy (r := rTupT K) call_tupleTK (by rfl) T.n_tuple (by decide +kernel) (pa_cons (pe_slice (r := rSlP K) sl_tupP (pv 3) (po_some pe_int) po_none) pa_nil))))) pa_nil)) pa_nil)))))), ?_⟩
    refine ⟨.int r, rfl, .int n, rfl, .ref l, rfl, l, rfl, ⟨_, sql hl⟩, fun D nD => ?_⟩
    have fl : us.length = fs.length := Paired.length pr
    refine lc_list (xs := us) (fun i H3 => Same H H3 ∧ ∃ ws, H3 D = some (.lst ws) ∧ Paired (DtAt K H3) ws ((fs.take i).map fun f => mk2 f.m)) ⟨same_upd nD, [], upd_same, .nil⟩ (fun i H3 _ h3 => sql (h3.1 _ _ hl)) (fun i u H3 hu g3 => ?_) (fun H3 g3 => ?_)
    · obtain ⟨f, hf, t0, rfl, hp⟩ := paired_at pr hu
      obtain ⟨s3, ws, hD, pw⟩ := g3
      have hfm := List.mem_of_getElem? hf
      obtain ⟨z1, z2, z3, z4, z5, z6⟩ := fd_sz ok hfm
      have hk := ok.kb f hfm
      have hp3 := hp.same s3
      refine ⟨rfl, .ref t0, rfl, t0, _, _, _, rfl, rfl, hp3.seq, atI_nat (j := 0) rfl, f.k, rfl, by omega, fun H4 pv s4 hpv => ⟨(by show 1 ≤ sizeLine; decide), fun t o nt ho => ?_⟩⟩
      have s5 := same_upd (o := .frz o (.tup [.ref pv])) nt
      have ht : Ptp (upd H4 t (.frz o (.tup [.ref pv]))) t [.ref pv] := ⟨o, upd_same, ho⟩
      have s35 := s4.trans s5
      have hpv5 := hpv.same s5
      generalize upd H4 t (.frz o (.tup [.ref pv])) = H5 at ht s35 hpv5 ⊢
      refine ⟨.ref t0, rfl, 1, rfl, t0, _, rfl, hp3.same s35, fun p2 H6 s6 hp2 => ?_⟩
      rw [cut_from1] at hp2
      refine ⟨p2, _, rfl, hp2.seq, t, p2, _, _, rfl, rfl, ht.same s6, hp2, (by show 1 + 4 ≤ sizeLine; decide), fun p3 H7 s7 hp7 => ?_⟩
      have s37 := (s35.trans s6).trans s7
      have hpv7 := (hpv5.same s6).same s7
      have hp7 : Ptp H7 p3 [.ref pv, .int f.w, .int f.x, .int f.y, .int f.z] := hp7
      have dm : DtAt K H7 (.ref p3) (mk2 f.m) := DtAt.mk hp7 (by show 5 ≤ 5000; decide) (.cons (fr_dt hpv7 ⟨by show (frT f.k scl).natAbs ≤ _; omega, by show (frN f.k scl).natAbs ≤ _; omega⟩) (.cons (.lf ⟨rfl, by show f.w.natAbs ≤ _; omega⟩) (.cons (.lf ⟨rfl, by show f.x.natAbs ≤ _; omega⟩) (.cons (.lf ⟨rfl, by show f.y.natAbs ≤ _; omega⟩) (.cons (.lf ⟨rfl, by show f.z.natAbs ≤ _; omega⟩) .nil)))))
      have hD7 := s37 _ _ hD
      have kp : KpD H7 (upd H7 D (.lst (ws ++ [.ref p3]))) := kpD_list hD7
      have wl : ws.length ≤ i := by
        rw [Paired.length pw, List.length_map, List.length_take]
        omega
      have il := (List.getElem?_eq_some_iff.mp hf).1
      have := ok.len
      refine ⟨ws, hD7, by rw [sizeLine_eq]; omega, Same.put (s3.trans s37) nD, ws ++ [.ref p3], upd_same, ?_⟩
      rw [List.take_add_one, hf, List.map_append]
      exact paired_app (paired_imp (fun _ _ h => (h.same s37).keep kp) pw) (.cons (dm.keep kp) .nil)
    · obtain ⟨s3, ws, hD, pw⟩ := g3
      rw [fl, List.take_length] at pw
      refine ⟨D, ws, rfl, sql hD, fun l2 o2 n2 ho2 => ⟨(by show 3 ≤ sizeLine; decide), fun t o nt ho => ?_⟩⟩
      have s4 := same_upd (o := .frz o2 (.tup ws)) n2
      have h4 : Ptp (upd H3 l2 (.frz o2 (.tup ws))) l2 ws := ⟨o2, upd_same, ho2⟩
      generalize upd H3 l2 (.frz o2 (.tup ws)) = H4 at s4 h4 nt ⊢
      have s5 := same_upd (o := .frz o (.tup [.int r, .int n, .ref l2])) nt
      have wl : ws.length ≤ 150 := by
        rw [Paired.length pw, List.length_map]
        exact ok.len
      have n0 := ok.n0
      have n1 := ok.n1
      have p40 : (2 : Int) ^ 40 = 1099511627776 := by decide
      refine q _ t ((s3.trans s4).trans s5) ?_
      rw [rk2, List.map_map]
      exact DtAt.mk ⟨o, upd_same, ho⟩ (by show 3 ≤ 5000; decide) (.cons (.lf ⟨rfl, by omega⟩) (.cons (.lf ⟨rfl, by omega⟩) (.cons (DtAt.mk (h4.same s5) (by omega) (paired_imp (fun _ _ h => (h.same s4).same s5) pw)) .nil)))
end
end Kb

namespace Kb
open PySem PySem.Spec PyProof.Rows L2 RZ SrtR
abbrev NP_bare_ranks : List Str := ["room"]
abbrev NP_ends_at : List Str := ["ranks", "place", "_", "many", "marks", "value", "side", "low", "mark"]
abbrev sP_openness : Stmt := topS 22
abbrev NP_openness : List Str := ["ranks", "_", "many", "marks", "lows", "highs", "mark", "low", "high"]
theorem scP_openness : FnScope ["ranks", "_", "many", "marks", "lows", "highs", "mark", "low", "high"] ["ranks"] (defScope sP_openness) := ⟨rfl, rfl, rfl, by decide +kernel, rfl, by decide +kernel, by decide +kernel⟩
abbrev DnOpenness (K : PySem.W.Frag) (mg : Str → Option Value) := Dn K mg "openness" sP_openness ["ranks"]
section
variable {X : Cx} {pos : Pos} {x : Str} {p : Pos}
/-- C(), C an own class of errors without own __init__ -/
theorem pmk_bare {C : Addr} {bmB : List Value} {B newId initId : String} (F : ExcBaseFacts B newId initId bmB) (isExc : PySem.W.excIn X.K C bmB newId = true) (at_ : X.mg x = some (.ref C)) (kept : PySem.W.keepIn X.K (.ref C) = true) (may : Raises X (.ref C)) (gl : Gl X x)
    (nodebug : (x == ("__debug__" : Str)) = false := by decide) : PMk X (.Call (.Name x p) [] [] pos) (fun _ H Q => Q (.ref C) none H) := by
  intro pins s σ H Q I h
  refine wpAny_Call_Name_kw (ld_glob I gl at_ ?_ nodebug)
  refine PySem.W.callWith_K0 I.kIn kept ?_
  obtain ⟨_, _, _, _, _, _, _, _, _, _, _, _, _, _, _, _, _, isC, names, noInit, tail⟩ := exc_obj I.kIn isExc
  exact wpAny_call_exc_subT F tail isC names noInit (fun h' e' made => mk_of I made may h (I.hok.gone made.new)) (Nat.zero_le _)
end
/-- an own class of errors -/
structure TxE (K : PySem.W.Frag) (mg : Str → Option Value) (nm : Str) where
  C : Addr
  gC : mg nm = some (.ref C)
  exc : PySem.W.excIn K C [.type "ValueError", .type "Exception", .type "BaseException", .type "object"] "ValueError.__new__" = true
  kp : PySem.W.keepIn K (.ref C) = true
  sub : PySem.W.subIn K (.ref C) (.type "BaseException") = some true
  ty : PySem.W.typeIn K (.ref C) = some (.type "type")
  isC : ExcC K C


/-! what is read out of ranks, as mathematics -/
def endsM : Int → List Mk → Int → Int → Int → Int → Int × Int
  | low, [], n, _, _, _ => (low, n)
  | low, m :: ms, n, t, b, sd => if m.t = t ∧ m.b = b then (if sd = 1 then (m.y, m.z) else (m.w, m.x)) else if lsB t b m.t m.b = true then (low, m.x) else endsM m.y ms n t b sd
def gapsM : Int → List Mk → Int → List Int
  | low, [], n => [n - low]
  | low, m :: ms, n => (m.x - low) :: gapsM m.y ms n
theorem gaps_zip : ∀ (low : Int) (ms : List Mk) (n : Int), gapsM low ms n = ((low :: ms.map Mk.y).zip (ms.map Mk.x ++ [n])).map fun p => p.2 - p.1
  | _, [], _ => rfl
  | low, m :: ms, n => by
    show (m.x - low) :: gapsM m.y ms n = (m.x - low) :: (((m.y :: ms.map Mk.y).zip (ms.map Mk.x ++ [n])).map fun p => p.2 - p.1)
    rw [gaps_zip m.y ms n]
theorem gaps_len : ∀ (low : Int) (ms : List Mk) (n : Int), (gapsM low ms n).length = ms.length + 1
  | _, [], _ => rfl
  | _, m :: ms, n => congrArg (· + 1) (gaps_len m.y ms n)
theorem gaps_at {low n : Int} {ms : List Mk} {i : Nat} {l h : Int} (h1 : (low :: ms.map Mk.y)[i]? = some l) (h2 : (ms.map Mk.x ++ [n])[i]? = some h) : (gapsM low ms n)[i]? = some (h - l) := by
  rw [gaps_zip, List.getElem?_map, (List.getElem?_zip_eq_some (z := (l, h))).mpr ⟨h1, h2⟩]
  rfl
theorem eq_fr {t b t' b' : Int} : PyData.eqv (.tuple [.int t, .int b]) (.tuple [.int t', .int b']) = decide (t = t' ∧ b = b') := by
  show ((t == t') && ((b == b') && true)) = decide (t = t' ∧ b = b')
  rw [Bool.and_true, Bool.eq_iff_iff, Bool.and_eq_true, beq_iff_eq, beq_iff_eq, decide_eq_true_eq]
theorem rk_parts {K : PySem.W.Frag} {H : Hp} {v : V} {r n : Int} {ms : List Mk} (h : DtAt K H v (rk2 r n ms)) : ∃ p b ks, v = .ref p ∧ Ptp H p [.int r, .int n, .ref b] ∧ Ptp H b ks ∧ Paired (DtAt K H) ks (ms.map mk2) := by
  obtain ⟨p, xs, rfl, hp, _, h3⟩ := h.tup
  obtain ⟨x1, x2, x3, rfl⟩ := three (show xs.length = 3 from Paired.length h3)
  obtain ⟨e1, e2, e3⟩ := paired3 h3
  obtain ⟨rfl, _⟩ := e1.int
  obtain ⟨rfl, bn⟩ := e2.int
  obtain ⟨b, ks, rfl, hb, _, hk⟩ := e3.tup
  exact ⟨p, b, ks, rfl, hp, hb, hk⟩
section
variable {P : Program} {w : World} {K : PySem.W.Frag} {mg : Str → Option Value} {base : Heap}
/-! bare_ranks, of a right room -/
def spBareRanks (K : PySem.W.Frag) : Sp := fun vs H Q _ => ∃ r : Int, vs = [.int r] ∧ 1 ≤ r ∧ r ≤ 64 ∧ ∀ H' p, Same H H' → DtAt K H' (.ref p) (.tup [.int r, .int 0, .tup []]) → Q (.ref p) H'
/-! ends_at -/
def spEndsAt (K : PySem.W.Frag) (C : Addr) : Sp := fun vs H Q E => ∃ (v : V) (d : Dat) (pl f : Addr) (t b sd : Int), vs = [v, .ref pl] ∧ DtAt K H v d ∧ Ptp H pl [.ref f, .int sd] ∧ Ptp H f [.int t, .int b] ∧ (t.natAbs ≤ 2 ^ 90 ∧ b.natAbs ≤ 2 ^ 90) ∧ FrOk t b ∧ 0 ≤ sd ∧ sd ≤ 1 ∧
  (rkB d = false → ∀ H', Same H H' → E (.ref C) none H') ∧ (∀ r n ms, d = rk2 r n ms → RkOk r n ms → ∀ H' p, Same H H' → Ptp H' p [.int (endsM 0 ms n t b sd).1, .int (endsM 0 ms n t b sd).2] → Q (.ref p) H')
/-! openness -/
def spOpenness (K : PySem.W.Frag) (C : Addr) : Sp := fun vs H Q E => ∃ (v : V) (d : Dat), vs = [v] ∧ DtAt K H v d ∧
  (rkB d = false → ∀ H', Same H H' → E (.ref C) none H') ∧ (∀ r n ms, d = rk2 r n ms → RkOk r n ms → ∀ H' m, Same H H' → m ∈ gapsM 0 ms n → (∀ y ∈ gapsM 0 ms n, y ≤ m) → Q (.int m) H')
theorem ok_openness (T : Blt mg) (gG : mg "gcd" = some (.builtin "math.gcd")) (EK : TxE K mg "NoRanks") (cM : Cst mg "MOST_ROOM" (.int 64)) (dP_is_int : DnIsInt K mg) (dP_is_number : DnIsNumber K mg) (dP_is_room : DnIsRoom K mg) (dP_is_fraction : DnIsFraction K mg) (dP_is_less : DnIsLess K mg) (dP_is_mark : DnIsMark K mg) (dP_may_follow : DnMayFollow K mg) (dP_are_marks : DnAreMarks K mg) (dP_is_ranks : DnIsRanks K mg) (d : DnOpenness K mg) :
    FnOk P w K mg base (L2.CX P w) 6 d.f d.fd ["ranks"] (spOpenness K EK.C) := by
  have GP_is_ranks : FnOk P w K mg base CX0 5 dP_is_ranks.f dP_is_ranks.fd ["thing"] (spIsRanks K) := ok_is_ranks T gG cM dP_is_int dP_is_number dP_is_room dP_is_fraction dP_is_less dP_is_mark dP_may_follow dP_are_marks dP_is_ranks
  refine d.F.okX scP_openness (fun vs H Q E h => ?_) (fun cdv A outer s H vs Q E hr h => ?_)
  · obtain ⟨v, dd, rfl, _⟩ := h
    rfl
  · obtain ⟨v, dd, rfl, hv, q1, q2⟩ := h
    refine ⟨_, (pss_cons (ps_if (pt_not (pt_val (pe_call GP_is_ranks (hr.mono (by omega)) (by rfl) dP_is_ranks.g dP_is_ranks.F.kp dP_is_ranks.b .nil pass0 (pa_cons (pv 0) pa_nil))))
      (pss_one (ps_raise rfl (takes_of rfl rfl rfl rfl) (pmk_bare PySem.F.excBase_ValueError EK.exc EK.gC EK.kp (raises_own EK.sub EK.ty) rfl)))
      pss_nil)
    (pss_cons (ps_asg (pv 0) (pg_tup (by rfl) (pgs_cons (pg_name (i := 1) scP_openness.nd rfl (Or.inl rfl)) (pgs_cons (pg_name (i := 2) scP_openness.nd rfl (Or.inl rfl)) (pgs_cons (pg_name (i := 3) scP_openness.nd rfl (Or.inl rfl)) pgs_nil)))))
    (pss_cons (ps_set (i := 4) scP_openness.nd rfl (Or.inl rfl) (pe_op op_cat (pe_lst (pa_cons pe_int pa_nil)) (pe_lc (own := [("mark", 6)]) (g := gName 6) (tt := tYes) rfl scP_openness.nd (pi_tup (pv 3)) (blkOk_by (N := NP_openness) (sc := defScope sP_openness) (by decide +kernel)) (fun _ _ _ _ _ => pg_name (i := 6) scP_openness.nd rfl (Or.inl rfl)) (fun _ _ _ _ _ => pts_nil) (fun _ _ _ _ _ => (pe_ix (r := rIxT K) ix_tup (pv 6) pe_int (fun _ _ => rfl))))))
    (pss_cons (ps_set (i := 5) scP_openness.nd rfl (Or.inl rfl) (pe_op op_cat (pe_lc (own := [("mark", 6)]) (g := gName 6) (tt := tYes) rfl scP_openness.nd (pi_tup (pv 3)) (blkOk_by (N := NP_openness) (sc := defScope sP_openness) (by decide +kernel)) (fun _ _ _ _ _ => pg_name (i := 6) scP_openness.nd rfl (Or.inl rfl)) (fun _ _ _ _ _ => pts_nil) (fun _ _ _ _ _ => (pe_ix (r := rIxT K) ix_tup (pv 6) pe_int (fun _ _ => rfl)))) (pe_lst (pa_cons (pv 2) pa_nil))))
    (pss_one (ps_ret (pe_callB (cr_max rfl) (by rfl) T.n_max (by decide +kernel) (pa_cons (pe_lc (own := [("low", 7), ("high", 8)]) (g := gTup K 2 (gCons (gName 7) (gCons (gName 8) gNil))) (tt := tYes) rfl scP_openness.nd (pi_zipA (by rfl) T.n_zip (pa_cons (pv 4) (pa_cons (pv 5) pa_nil))) (blkOk_by (N := NP_openness) (sc := defScope sP_openness) (by decide +kernel)) (fun _ _ _ _ _ => pg_tup (by rfl) (pgs_cons (pg_name (i := 7) scP_openness.nd rfl (Or.inl rfl)) (pgs_cons (pg_name (i := 8) scP_openness.nd rfl (Or.inl rfl)) pgs_nil))) (fun _ _ _ _ _ => pts_nil) (fun _ _ _ _ _ => (pe_op op_sub (pv 8) (pv 7)))) pa_nil)))))))), ?_⟩
    refine ⟨v, rfl, v, dd, rfl, hv, fun H1 s01 => ⟨rkB dd, rfl, ?_⟩⟩
    cases cd : rkB dd with
    | false => exact iteT (q1 cd H1 s01)
    | true =>
      obtain ⟨r, n, ms, rfl, ok⟩ := rkB_is cd
      have q := q2 r n ms rfl ok
      obtain ⟨p, bb, ks, rfl, hp, hb, hk⟩ := rk_parts (hv.same s01)
      have kl : ks.length = ms.length := by rw [Paired.length hk, List.length_map]
      have ml := ok.len
      have r64 := ok.r64
      refine iteF ⟨.ref p, rfl, p, _, rfl, hp.seq, rfl, _, _, rfl, _, _, rfl, _, _, rfl, rfl, ?_⟩
      -- lows
      refine ⟨(by show 1 ≤ sizeLine; decide), fun l1 nl1 => ?_⟩
      have s1 := same_upd (o := .lst [.int 0]) nl1
      have hl1 : (upd H1 l1 (.lst [.int 0])) l1 = some (.lst [.int 0]) := upd_same
      generalize upd H1 l1 (.lst [.int 0]) = H2 at s1 hl1 ⊢
      refine ⟨.ref bb, rfl, bb, rfl, ⟨_, (hb.same s1).seq⟩, fun D nD => ?_⟩
      refine lc_tup (xs := ks) (fun i H3 => Same H2 H3 ∧ H3 D = some (.lst (((ms.take i).map Mk.y).map V.int))) ⟨same_upd nD, upd_same⟩ (fun i H3 _ h3 => ((hb.same s1).same h3.1).seq) (fun i x H3 hi g3 => ?_) (fun H3 g3 => ?_)
      · obtain ⟨s3, hD⟩ := g3
        obtain ⟨dm, hdm, atm⟩ := paired_at hk hi
        obtain ⟨m, hm, rfl⟩ := map_at hdm
        obtain ⟨u, fm, rfl, hu⟩ := mk_at ((atm.same s1).same s3)
        refine ⟨rfl, .ref u, rfl, u, _, _, _, rfl, rfl, hu.ob.seq, atI_nat (j := 3) rfl, _, hD, ?_, Same.put s3 nD, ?_⟩
        · rw [List.length_map, List.length_map, List.length_take, sizeLine_eq]
          omega
        · rw [upd_same, List.take_add_one, hm, List.map_append, List.map_append]
          rfl
      obtain ⟨s3, hD⟩ := g3
      rw [kl, List.take_length] at hD
      refine ⟨l1, D, _, _, rfl, rfl, s3 _ _ hl1, hD, by rw [sizeLine_eq, List.length_map, List.length_map]; show 1 + ms.length ≤ _; omega, fun l4 nl4 => ?_⟩
      have s4 := same_upd (o := .lst ([.int 0] ++ (ms.map Mk.y).map V.int)) nl4
      have hl4 : (upd H3 l4 (.lst ([.int 0] ++ (ms.map Mk.y).map V.int))) l4 = some (.lst (((0 : Int) :: ms.map Mk.y).map V.int)) := upd_same
      have s14 := (s1.trans s3).trans s4
      generalize upd H3 l4 (.lst ([.int 0] ++ (ms.map Mk.y).map V.int)) = H4 at hl4 s14 ⊢
      -- highs
      refine ⟨.ref bb, rfl, bb, rfl, ⟨_, (hb.same s14).seq⟩, fun D2 nD2 => ?_⟩
      refine lc_tup (xs := ks) (fun i H5 => Same H4 H5 ∧ H5 D2 = some (.lst (((ms.take i).map Mk.x).map V.int))) ⟨same_upd nD2, upd_same⟩ (fun i H5 _ h5 => ((hb.same s14).same h5.1).seq) (fun i x H5 hi g5 => ?_) (fun H5 g5 => ?_)
      · obtain ⟨s5, hD2⟩ := g5
        obtain ⟨dm, hdm, atm⟩ := paired_at hk hi
        obtain ⟨m, hm, rfl⟩ := map_at hdm
        obtain ⟨u, fm, rfl, hu⟩ := mk_at ((atm.same s14).same s5)
        refine ⟨rfl, .ref u, rfl, u, _, _, _, rfl, rfl, hu.ob.seq, atI_nat (j := 2) rfl, _, hD2, ?_, Same.put s5 nD2, ?_⟩
        · rw [List.length_map, List.length_map, List.length_take, sizeLine_eq]
          omega
        · rw [upd_same, List.take_add_one, hm, List.map_append, List.map_append]
          rfl
      obtain ⟨s5, hD2⟩ := g5
      rw [kl, List.take_length] at hD2
      refine ⟨.int n, rfl, (by show 1 ≤ sizeLine; decide), fun l6 nl6 => ?_⟩
      have s6 := same_upd (o := .lst [.int n]) nl6
      have hl6 : (upd H5 l6 (.lst [.int n])) l6 = some (.lst [.int n]) := upd_same
      generalize upd H5 l6 (.lst [.int n]) = H6 at s6 hl6 ⊢
      refine ⟨D2, l6, _, _, rfl, rfl, s6 _ _ hD2, hl6, by rw [sizeLine_eq, List.length_map, List.length_map]; show ms.length + 1 ≤ _; omega, fun l7 nl7 => ?_⟩
      have s7 := same_upd (o := .lst ((ms.map Mk.x).map V.int ++ [.int n])) nl7
      have hl7 : (upd H6 l7 (.lst ((ms.map Mk.x).map V.int ++ [.int n]))) l7 = some (.lst ((ms.map Mk.x ++ [n]).map V.int)) := by rw [upd_same, List.map_append]; rfl
      have s47 := (s5.trans s6).trans s7
      have hl47 := s47 _ _ hl4
      have s17 := s14.trans s47
      generalize upd H6 l7 (.lst ((ms.map Mk.x).map V.int ++ [.int n])) = H7 at hl7 hl47 s17 ⊢
      -- the widest
      refine ⟨.ref l4, rfl, .ref l7, rfl, l4, l7, _, _, rfl, .inl ⟨sql hl47, sql hl7, fun D3 nD3 => ?_⟩⟩
      have n4 : l4 ≠ D3 := ne_of_none hl47 nD3
      have n7 : l7 ≠ D3 := ne_of_none hl7 nD3
      refine lc_it (walk_zip (K := K) (xs := ((0 : Int) :: ms.map Mk.y).map V.int) (ys := (ms.map Mk.x ++ [n]).map V.int) rfl) (fun i H8 => Same H7 H8 ∧ H8 D3 = some (.lst (((gapsM 0 ms n).take i).map V.int))) ⟨same_upd nD3, upd_same⟩ (fun i H8 _ h8 => ⟨sql (h8.1 _ _ hl47), sql (h8.1 _ _ hl7)⟩) (fun i v H8 H9 hi h8 y => ?_) (fun H8 h8 => ?_)
      · obtain ⟨s8, hD3⟩ := h8
        obtain ⟨TT, u1, u2, rfl, nT, rfl, hx1, hx2⟩ := y
        obtain ⟨lo, hlo, rfl⟩ := map_at hx1
        obtain ⟨hi', hhi, rfl⟩ := map_at hx2
        have DT : D3 ≠ TT := ne_of_none hD3 nT
        have hg := gaps_at hlo hhi
        refine ⟨TT, _, rfl, .inl (.inl upd_same), rfl, _, _, rfl, _, _, rfl, rfl, rfl, .int hi', rfl, .int lo, rfl, _, _, rfl, rfl, _, by rw [upd_ne DT]; exact hD3, ?_, Same.put (Same.new s8 nT) nD3, ?_⟩
        · have := gaps_len 0 ms n
          rw [List.length_map, List.length_take, sizeLine_eq]
          omega
        · rw [upd_same, List.take_add_one, hg, List.map_append]
          rfl
      · obtain ⟨s8, hD3⟩ := h8
        have gl := gaps_len 0 ms n
        have el : min (((0 : Int) :: ms.map Mk.y).map V.int).length ((ms.map Mk.x ++ [n]).map V.int).length = (gapsM 0 ms n).length := by
          rw [gl, List.length_map, List.length_map, List.length_cons, List.length_append, List.length_map, List.length_map, List.length_singleton]
          omega
        rw [el, List.take_length] at hD3
        exact ⟨D3, gapsM 0 ms n, rfl, sql hD3, by omega, fun m hm hmx => q H8 m ((s01.trans s17).trans s8) hm hmx⟩
end
end Kb

namespace Kb
open PySem PySem.Spec PyProof.Rows L2 RZ
abbrev ssame : Stmt := topS 26
abbrev Nsame : List Str := ["_law_actual", "_law_due", "_law_one_here", "_law_other"]
theorem scsame : FnScope ["_law_actual", "_law_due", "_law_one_here", "_law_other"] ["_law_actual", "_law_due"] (defScope ssame) := ⟨rfl, rfl, rfl, by decide +kernel, rfl, by decide +kernel, by decide +kernel⟩
abbrev Dnsame (K : PySem.W.Frag) (mg : Str → Option Value) := Dn K mg "_law_same" ssame ["_law_actual", "_law_due"]
/-- ints and tuples of such -/
def plI : Nat → Dat → Bool
  | _, .int _ => true
  | n + 1, .tup ds => ds.all (plI n)
  | _, _ => false
section
variable {P : Program} {w : World} {K : PySem.W.Frag} {mg : Str → Option Value} {base : Heap}
def spSame (K : PySem.W.Frag) (n : Nat) : Sp := fun vs H Q _ => ∃ (x y : V) (d : Dat), vs = [x, y] ∧ DtAt K H x d ∧ DtAt K H y d ∧ plI n d = true ∧ ∀ H', Same H H' → Q (.bl true) H'
def spSame' (K : PySem.W.Frag) : Nat → Sp
  | 0 => fun _ _ _ _ => False
  | n + 1 => spSame K n
theorem ok_same' (T : Blt mg) (dsame : Dnsame K mg) (n : Nat) (Gsame : FnOk P w K mg base CX0 (n + 1) dsame.f dsame.fd ["_law_actual", "_law_due"] (spSame' K n)) : FnOk P w K mg base CX0 (n + 2) dsame.f dsame.fd ["_law_actual", "_law_due"] (spSame K n) := by
  refine dsame.F.ok scsame (fun vs H Q E h => ?_) (fun cdv A outer s H vs Q E hr h => ?_)
  · obtain ⟨x, y, d, rfl, _⟩ := h
    rfl
  · obtain ⟨x, y, d, rfl, hx, hy, hp, q⟩ := h
    refine ⟨_, (pss_cons (ps_if (pt_val (pe_callB (call_isD (K := K) rfl) (by rfl) T.n_isinstance (by decide +kernel) (pa_cons (pv 1) (pa_cons (pe_bltn (v := .ty "tuple") (by rfl) T.n_tuple (by decide +kernel) rfl) pa_nil))))
      (pss_cons (ps_if (PW.pt (pw_or (pt_not (pt_val (pe_callB (call_isD (K := K) rfl) (by rfl) T.n_isinstance (by decide +kernel) (pa_cons (pv 0) (pa_cons (pe_bltn (v := .ty "tuple") (by rfl) T.n_tuple (by decide +kernel) rfl) pa_nil))))) (pw_or1 (pt_cmpR op_ne (pe_callB call_len_seq (by rfl) T.n_len (by decide +kernel) (pa_cons (pv 0) pa_nil)) (pe_callB call_len_seq (by rfl) T.n_len (by decide +kernel) (pa_cons (pv 1) pa_nil)) (nomark _)))))
        (pss_one (ps_ret pe_bl))
        pss_nil)
      (pss_cons (ps_for PassesOwn.never rfl (pi_zipA (by rfl) T.n_zip (pa_cons (pv 0) (pa_cons (pv 1) pa_nil))) (pg_tup (by rfl) (pgs_cons (pg_name (i := 2) scsame.nd rfl (Or.inl rfl)) (pgs_cons (pg_name (i := 3) scsame.nd rfl (Or.inl rfl)) pgs_nil)))
        (pss_one (ps_if (pt_not (pt_val (pe_call Gsame (hr.mono (by omega)) (by rfl) dsame.g dsame.F.kp dsame.b .nil pass0 (pa_cons (pv 2) (pa_cons (pv 3) pa_nil)))))
          (pss_one (ps_ret pe_bl))
          pss_nil)))
      (pss_one (ps_ret pe_bl))))
      pss_nil)
    (pss_cons (ps_if (pt_cmpR op_isN (pv 1) pe_non (nomark _))
      (pss_one (ps_ret (pe_cmpR op_isN (pv 0) pe_non (nomark _))))
      pss_nil)
    (pss_cons (ps_if (pt_val (pe_callB (call_isD (K := K) rfl) (by rfl) T.n_isinstance (by decide +kernel) (pa_cons (pv 1) (pa_cons (pe_bltn (v := .ty "str") (by rfl) T.n_str (by decide +kernel) rfl) pa_nil))))
      (pss_one (ps_ret (pe_and (pe_callB (call_isD (K := K) rfl) (by rfl) T.n_isinstance (by decide +kernel) (pa_cons (pv 0) (pa_cons (pe_bltn (v := .ty "str") (by rfl) T.n_str (by decide +kernel) rfl) pa_nil))) (pe_one (pe_cmpR op_eq (pv 0) (pv 1) (nomark _))))))
      pss_nil)
    (pss_one (ps_ret (pe_and (pe_callB (call_isD (K := K) rfl) (by rfl) T.n_isinstance (by decide +kernel) (pa_cons (pv 0) (pa_cons (pe_bltn (v := .ty "int") (by rfl) T.n_int (by decide +kernel) rfl) pa_nil))) (pe_and (pe_not (pe_callB (call_isD (K := K) rfl) (by rfl) T.n_isinstance (by decide +kernel) (pa_cons (pv 0) (pa_cons (pe_bltn (v := .ty "bool") (by rfl) T.n_bool (by decide +kernel) rfl) pa_nil)))) (pe_one (pe_cmpR op_eq (pv 0) (pv 1) (nomark _)))))))))), ?_⟩
    obtain ⟨t, ty, kI, kB, kS, kT⟩ := hy.ty
    obtain ⟨t', ty', kI', kB', kS', kT'⟩ := hx.ty
    refine ⟨y, rfl, y, _, t, _, isT d, rfl, .ty "tuple", ty, kT, isT d, rfl, ?_⟩
    cases d with
    | int i =>
      obtain ⟨rfl, _⟩ := hx.int
      obtain ⟨rfl, _⟩ := hy.int
      refine iteF ⟨.int i, rfl, rfl, false, rfl, iteF ?_⟩
      refine ⟨.int i, rfl, .int i, _, t, _, false, rfl, .ty "str", ty, kS, false, rfl, iteF ?_⟩
      refine ⟨.int i, rfl, .int i, _, t', _, true, rfl, .ty "int", ty', kI', true, rfl, iteT ?_⟩
      refine ⟨.int i, rfl, .int i, _, t', _, false, rfl, .ty "bool", ty', kB', false, rfl, true, rfl, iteT ?_⟩
      refine ⟨.int i, rfl, .int i, rfl, rfl, ?_⟩
      rw [decide_eq_true rfl]
      exact q H (Same.refl H)
    | tup ds =>
      cases n with
      | zero => cases hp
      | succ n =>
        have hp : ds.all (plI n) = true := hp
        obtain ⟨a, xs, rfl, h1, l1, h3⟩ := hx.tup
        obtain ⟨b, ys, rfl, g1, _, g3⟩ := hy.tup
        have xl := Paired.length h3
        have yl := Paired.length g3
        refine iteT ⟨.ref a, rfl, .ref a, _, t', _, true, rfl, .ty "tuple", ty', kT', true, rfl, iteF ?_⟩
        refine ⟨.ref a, rfl, a, _, rfl, .inr h1.seq, .ref b, rfl, b, _, rfl, .inr g1.seq, rfl, false, congrArg V.bl ?_, iteF ?_⟩
        · rw [xl, yl, decide_eq_true rfl]
          rfl
        refine ⟨.ref a, rfl, .ref b, rfl, a, b, xs, ys, rfl, .inr ⟨h1.seq, g1.seq, ?_⟩⟩
        refine for_it (walk_zipTg (K := K) (xs := xs) (ys := ys) rfl) (fun i σ H2 => ∃ y2 y3 : Option V, σ = [some (.ref a), some (.ref b), y2, y3] ∧ Same H H2) ⟨none, none, rfl, Same.refl H⟩ (fun i σ H2 _ ⟨_, _, _, s2⟩ => ⟨(h1.same s2).seq, (g1.same s2).seq⟩) ?_ ?_
        · rintro i v σ H2 H3 hi ⟨y2, y3, rfl, s2⟩ ⟨TT, u1, u2, rfl, nT, rfl, hx1, hx2⟩
          have hx1 : xs[i]? = some u1 := hx1
          have hx2 : ys[i]? = some u2 := hx2
          obtain ⟨e, he, at1⟩ := paired_at h3 hx1
          have at2 := paired_getl g3 hx2 he
          have sT : Same H (upd H2 TT (.tup [u1, u2])) := Same.new s2 nT
          refine ⟨TT, _, rfl, .inl (.inl upd_same), rfl, _, _, rfl, _, _, rfl, rfl, ?_⟩
          refine ⟨u1, rfl, u2, rfl, u1, u2, e, rfl, at1.same sT, at2.same sT, List.all_eq_true.mp hp e (List.mem_of_getElem? he), fun H4 s4 => ⟨true, rfl, iteF ?_⟩⟩
          exact ⟨_, _, rfl, sT.trans s4⟩
        · rintro σ H2 ⟨y2, y3, rfl, s2⟩
          exact q H2 s2
    | _ => cases n <;> cases hp
theorem ok_same (T : Blt mg) (dsame : Dnsame K mg) : ∀ n : Nat, FnOk P w K mg base CX0 (n + 1) dsame.f dsame.fd ["_law_actual", "_law_due"] (spSame' K n)
  | 0 => dsame.F.ok scsame (fun _ _ _ _ h => h.elim) (fun _ _ _ _ _ _ _ _ _ h => h.elim)
  | n + 1 => ok_same' T dsame n (ok_same T dsame n)
end
/-! where a number stands among the marks -/
def lowAt (low : Int) (fs : List Fd) : Nat → Int
  | 0 => low
  | p + 1 => match fs[p]? with
    | some f => f.y
    | none => low
theorem ends_skip {num S n sd : Int} (hS : 0 < S) : ∀ (p : Nat) (fs : List Fd) (low : Int), p ≤ fs.length → (∀ j f, j < p → fs[j]? = some f → f.k * S < num * scl) →
    endsM low (fs.map Fd.m) n (frT num S) (frN num S) sd = endsM (lowAt low fs p) ((fs.drop p).map Fd.m) n (frT num S) (frN num S) sd
  | 0, _, _, _, _ => rfl
  | p + 1, [], _, h, _ => absurd h (by simp)
  | p + 1, f :: fs, low, h, hb => by
    have h0 := hb 0 f (Nat.zero_lt_succ p) rfl
    have e1 : ¬ (f.m.t = frT num S ∧ f.m.b = frN num S) := fun z => by
      have := fr_eq (n := f.k) (S := scl) (m := num) (S' := S) z.1 z.2
      omega
    have e2 : lsB (frT num S) (frN num S) f.m.t f.m.b = false := by
      refine decide_eq_false fun z => ?_
      have := (fr_lt (n := num) (S := S) (m := f.k) (S' := scl) hS (by decide)).mp z
      omega
    show (if f.m.t = frT num S ∧ f.m.b = frN num S then _ else if lsB (frT num S) (frN num S) f.m.t f.m.b = true then _ else endsM f.y (fs.map Fd.m) n (frT num S) (frN num S) sd) = _
    rw [if_neg e1, e2, if_neg Bool.noConfusion, ends_skip hS p fs f.y (by simpa using h) fun j g hj hg => hb (j + 1) g (by omega) hg]
    congr 1
    cases p with
    | zero => rfl
    | succ p =>
      show (match fs[p]? with | some f => f.y | none => _) = (match (f :: fs)[p + 1]? with | some f => f.y | none => _)
      have hl : p < fs.length := by
        rw [List.length_cons] at h
        omega
      rw [List.getElem?_cons_succ, List.getElem?_eq_getElem hl]
/-- at a mark -/
theorem ends_at_key {n sd : Int} {fs : List Fd} {i : Nat} {f : Fd} (asc : fs.Pairwise fun f g => f.k < g.k) (hi : fs[i]? = some f) : endsM 0 (fs.map Fd.m) n (frT f.k scl) (frN f.k scl) sd = if sd = 1 then (f.y, f.z) else (f.w, f.x) := by
  have il := (List.getElem?_eq_some_iff.mp hi).1
  rw [ends_skip (by decide) i fs 0 (by omega) fun j g hj hg => by
    have : g.k < f.k := by
      obtain ⟨hj', e1⟩ := List.getElem?_eq_some_iff.mp hg
      obtain ⟨hi', e2⟩ := List.getElem?_eq_some_iff.mp hi
      rw [← e1, ← e2]
      exact List.pairwise_iff_getElem.mp asc j i hj' hi' hj
    exact Int.mul_lt_mul_of_pos_right this (by decide)]
  have hd : fs.drop i = f :: fs.drop (i + 1) := by
    obtain ⟨hlt, e⟩ := List.getElem?_eq_some_iff.mp hi
    rw [List.drop_eq_getElem_cons hlt, e]
  rw [hd]
  show (if f.m.t = frT f.k scl ∧ f.m.b = frN f.k scl then (if sd = 1 then (f.m.y, f.m.z) else (f.m.w, f.m.x)) else _) = _
  rw [if_pos ⟨rfl, rfl⟩]
  rfl
/-- right before mark i -/
theorem ends_before {num S n sd : Int} (hS : 0 < S) {fs : List Fd} {i : Nat} {f : Fd} (hi : fs[i]? = some f) (hb : ∀ j g, j < i → fs[j]? = some g → g.k * S < num * scl) (ha : num * scl < f.k * S) : endsM 0 (fs.map Fd.m) n (frT num S) (frN num S) sd = (lowAt 0 fs i, f.x) := by
  have il := (List.getElem?_eq_some_iff.mp hi).1
  rw [ends_skip hS i fs 0 (by omega) hb]
  have hd : fs.drop i = f :: fs.drop (i + 1) := by
    obtain ⟨hlt, e⟩ := List.getElem?_eq_some_iff.mp hi
    rw [List.drop_eq_getElem_cons hlt, e]
  rw [hd]
  have e1 : ¬ (f.m.t = frT num S ∧ f.m.b = frN num S) := fun z => by
    have := fr_eq (n := f.k) (S := scl) (m := num) (S' := S) z.1 z.2
    omega
  have e2 : lsB (frT num S) (frN num S) f.m.t f.m.b = true := decide_eq_true ((fr_lt (n := num) (S := S) (m := f.k) (S' := scl) hS (by decide)).mpr ha)
  show (if f.m.t = frT num S ∧ f.m.b = frN num S then _ else if lsB (frT num S) (frN num S) f.m.t f.m.b = true then (_, f.m.x) else _) = _
  rw [if_neg e1, e2, if_pos rfl]
  rfl
/-- behind all -/
theorem ends_behind {num S n sd : Int} (hS : 0 < S) {fs : List Fd} (hb : ∀ j g, j < fs.length → fs[j]? = some g → g.k * S < num * scl) : endsM 0 (fs.map Fd.m) n (frT num S) (frN num S) sd = (lowAt 0 fs fs.length, n) := by
  rw [ends_skip hS fs.length fs 0 (Nat.le_refl _) hb, List.drop_length]
  rfl
end Kb

namespace Kb
/-! the greedy choice, as the law takes it: what is still chosen, the level reached, the mark held -/
def finT (n g L : Int) : Option Fd → Option (List Fd)
  | some h => if n - L ≤ g then some [] else if n - h.y ≤ g then some [h] else none
  | none => if n - L ≤ g then some [] else none
def stp (n g : Int) : Int → Option Fd → List Fd → Option (List Fd)
  | L, h, [] => finT n g L h
  | L, none, m :: ms => if n - L ≤ g then some [] else if m.x - L ≤ g then stp n g L (some m) ms else none
  | L, some h, m :: ms => if n - L ≤ g then some [] else if m.x - L ≤ g then stp n g L (some m) ms else if n - h.y ≤ g then some [h] else if m.x - h.y ≤ g then (stp n g h.y (some m) ms).map (h :: ·) else none
/-- a choice whose gaps are at most g -/
def good (n g : Int) : Int → List Fd → Prop
  | L, [] => n - L ≤ g
  | L, s :: S => s.x - L ≤ g ∧ good n g s.y S
theorem stp_enough {n g L : Int} {h : Option Fd} {ms : List Fd} (e : n - L ≤ g) : stp n g L h ms = some [] := by
  cases ms with
  | nil => cases h <;> exact if_pos e
  | cons m ms => cases h <;> exact if_pos e
theorem stp_go {n g L : Int} {h : Option Fd} {m : Fd} {ms : List Fd} (e : ¬ n - L ≤ g) (em : m.x - L ≤ g) : stp n g L h (m :: ms) = stp n g L (some m) ms := by
  cases h with
  | none =>
    show (if n - L ≤ g then some [] else if m.x - L ≤ g then stp n g L (some m) ms else none) = _
    rw [if_neg e, if_pos em]
  | some h =>
    show (if n - L ≤ g then some [] else if m.x - L ≤ g then stp n g L (some m) ms else _) = _
    rw [if_neg e, if_pos em]
/-- where the run ends the held mark is taken -/
theorem stp_take {n g L : Int} {h : Fd} {ms : List Fd} (e : ¬ n - L ≤ g) (em : ∀ m r, ms = m :: r → ¬ m.x - L ≤ g) : stp n g L (some h) ms = (stp n g h.y none ms).map (h :: ·) := by
  cases ms with
  | nil =>
    show (if n - L ≤ g then some [] else if n - h.y ≤ g then some [h] else none) = Option.map (h :: ·) (if n - h.y ≤ g then some [] else none)
    rw [if_neg e]
    split <;> rfl
  | cons m ms =>
    show (if n - L ≤ g then some [] else if m.x - L ≤ g then stp n g L (some m) ms else if n - h.y ≤ g then some [h] else if m.x - h.y ≤ g then (stp n g h.y (some m) ms).map (h :: ·) else none) = Option.map (h :: ·) (if n - h.y ≤ g then some [] else if m.x - h.y ≤ g then stp n g h.y (some m) ms else none)
    rw [if_neg e, if_neg (em m ms rfl)]
    split
    · rfl
    · split <;> rfl
theorem stp_none {n g L : Int} {ms : List Fd} (e : ¬ n - L ≤ g) (em : ∀ m r, ms = m :: r → ¬ m.x - L ≤ g) : stp n g L none ms = none := by
  cases ms with
  | nil => exact if_neg e
  | cons m ms =>
    show (if n - L ≤ g then some [] else if m.x - L ≤ g then stp n g L (some m) ms else none) = none
    rw [if_neg e, if_neg (em m ms rfl)]
/-- marks go up -/
abbrev Up (ms : List Fd) : Prop := ms.Pairwise fun f f' => f.x ≤ f'.x ∧ f.y ≤ f'.y
/-- greedy is best -/
theorem greedy {n g : Int} : ∀ (ms : List Fd), Up ms →
    (∀ (L L' : Int) (S : List Fd), S.Sublist ms → good n g L' S → L' ≤ L → ∃ l, stp n g L none ms = some l ∧ l.length ≤ S.length) ∧
    (∀ (L L' : Int) (h : Fd) (S : List Fd), (∀ m ∈ ms, h.y ≤ m.y) → S.Sublist ms → good n g L' S → L' ≤ h.y → ∃ l, stp n g L (some h) ms = some l ∧ l.length ≤ S.length + 1) ∧
    (∀ (L L' : Int) (h s : Fd) (S : List Fd), (s :: S).Sublist ms → good n g L' (s :: S) → L' ≤ L → ∃ l, stp n g L (some h) ms = some l ∧ l.length ≤ S.length + 1) := by
  intro ms
  induction ms with
  | nil =>
    intro _
    refine ⟨fun L L' S hS hg hL => ?_, fun L L' h S _ hS hg hL => ?_, fun L L' h s S hS _ _ => ?_⟩
    · cases hS
      have hg : n - L' ≤ g := hg
      exact ⟨[], stp_enough (by omega), Nat.le_refl _⟩
    · cases hS
      have hg : n - L' ≤ g := hg
      by_cases e : n - L ≤ g
      · exact ⟨[], stp_enough e, Nat.zero_le _⟩
      · refine ⟨[h], ?_, Nat.le_refl _⟩
        show (if n - L ≤ g then some [] else if n - h.y ≤ g then some [h] else none) = _
        rw [if_neg e, if_pos (by omega)]
    · cases hS
  | cons m ms ih =>
    intro up
    obtain ⟨hm, up'⟩ := List.pairwise_cons.mp up
    obtain ⟨iA, iB, iC⟩ := ih up'
    have A : ∀ (L L' : Int) (S : List Fd), S.Sublist (m :: ms) → good n g L' S → L' ≤ L → ∃ l, stp n g L none (m :: ms) = some l ∧ l.length ≤ S.length := fun L L' S hS hg hL => by
      by_cases e : n - L ≤ g
      · exact ⟨[], stp_enough e, Nat.zero_le _⟩
      · cases S with
        | nil =>
          have hg : n - L' ≤ g := hg
          omega
        | cons s S =>
          have hg' : s.x - L' ≤ g ∧ good n g s.y S := hg
          cases hS with
          | cons _ hS =>
            have sm : s ∈ ms := hS.subset List.mem_cons_self
            have := (hm s sm).1
            rw [stp_go e (by omega)]
            exact iC L L' m s S hS hg hL
          | cons_cons _ hS =>
            rw [stp_go e (by omega)]
            exact iB L m.y m S (fun x hx => (hm x hx).2) hS hg'.2 (Int.le_refl _)
    refine ⟨A, fun L L' h S hh hS hg hL => ?_, fun L L' h s S hS hg hL => ?_⟩
    · by_cases e : n - L ≤ g
      · exact ⟨[], stp_enough e, Nat.zero_le _⟩
      · by_cases em : m.x - L ≤ g
        · rw [stp_go e em]
          have hy := hh m List.mem_cons_self
          cases hS with
          | cons _ hS => exact iB L L' m S (fun x hx => (hm x hx).2) hS hg (by omega)
          | cons_cons _ hS =>
            rename_i S'
            have hg' : m.x - L' ≤ g ∧ good n g m.y S' := hg
            obtain ⟨l, e1, e2⟩ := iB L m.y m S' (fun x hx => (hm x hx).2) hS hg'.2 (Int.le_refl _)
            exact ⟨l, e1, by rw [List.length_cons]; omega⟩
        · obtain ⟨l, e1, e2⟩ := A h.y L' S hS hg hL
          refine ⟨h :: l, ?_, by rw [List.length_cons]; omega⟩
          rw [stp_take e (fun m' r z => by cases z; exact em), e1]
          rfl
    · have hg' : s.x - L' ≤ g ∧ good n g s.y S := hg
      by_cases e : n - L ≤ g
      · exact ⟨[], stp_enough e, Nat.zero_le _⟩
      · cases hS with
        | cons _ hS =>
          have sm : s ∈ ms := hS.subset List.mem_cons_self
          have := (hm s sm).1
          rw [stp_go e (by omega)]
          exact iC L L' m s S hS hg hL
        | cons_cons _ hS =>
          rw [stp_go e (by omega)]
          exact iB L m.y m S (fun x hx => (hm x hx).2) hS hg'.2 (Int.le_refl _)
/-- what greedy takes is a choice with gaps of at most g -/
theorem stp_good {n g : Int} : ∀ (ms : List Fd) (L : Int) (h : Option Fd) (l : List Fd), (∀ f, h = some f → f.x - L ≤ g) → stp n g L h ms = some l → good n g L l ∧ l.Sublist (h.toList ++ ms)
  | [], L, none, l, _, e => by
    have e : (if n - L ≤ g then some [] else none) = some l := e
    by_cases c : n - L ≤ g
    · rw [if_pos c] at e
      cases e
      exact ⟨c, List.nil_sublist _⟩
    · rw [if_neg c] at e
      cases e
  | [], L, some h, l, hx, e => by
    have e : (if n - L ≤ g then some [] else if n - h.y ≤ g then some [h] else none) = some l := e
    by_cases c : n - L ≤ g
    · rw [if_pos c] at e
      cases e
      exact ⟨c, List.nil_sublist _⟩
    · rw [if_neg c] at e
      by_cases c2 : n - h.y ≤ g
      · rw [if_pos c2] at e
        cases e
        exact ⟨⟨hx h rfl, c2⟩, List.Sublist.refl _⟩
      · rw [if_neg c2] at e
        cases e
  | m :: ms, L, none, l, _, e => by
    have e : (if n - L ≤ g then some [] else if m.x - L ≤ g then stp n g L (some m) ms else none) = some l := e
    by_cases c : n - L ≤ g
    · rw [if_pos c] at e
      cases e
      exact ⟨c, List.nil_sublist _⟩
    · rw [if_neg c] at e
      by_cases c2 : m.x - L ≤ g
      · rw [if_pos c2] at e
        exact stp_good ms L (some m) l (fun f hf => by cases hf; exact c2) e
      · rw [if_neg c2] at e
        cases e
  | m :: ms, L, some h, l, hx, e => by
    have e : (if n - L ≤ g then some [] else if m.x - L ≤ g then stp n g L (some m) ms else if n - h.y ≤ g then some [h] else if m.x - h.y ≤ g then (stp n g h.y (some m) ms).map (h :: ·) else none) = some l := e
    by_cases c : n - L ≤ g
    · rw [if_pos c] at e
      cases e
      exact ⟨c, List.nil_sublist _⟩
    · rw [if_neg c] at e
      by_cases c2 : m.x - L ≤ g
      · rw [if_pos c2] at e
        obtain ⟨g1, g2⟩ := stp_good ms L (some m) l (fun f hf => by cases hf; exact c2) e
        exact ⟨g1, g2.cons h⟩
      · rw [if_neg c2] at e
        by_cases c3 : n - h.y ≤ g
        · rw [if_pos c3] at e
          cases e
          exact ⟨⟨hx h rfl, c3⟩, List.Sublist.cons_cons h (List.nil_sublist _)⟩
        · rw [if_neg c3] at e
          by_cases c4 : m.x - h.y ≤ g
          · rw [if_pos c4] at e
            cases e2 : stp n g h.y (some m) ms with
            | none => rw [e2] at e; cases e
            | some l' =>
              rw [e2] at e
              cases e
              obtain ⟨g1, g2⟩ := stp_good ms h.y (some m) l' (fun f hf => by cases hf; exact c4) e2
              exact ⟨⟨hx h rfl, g1⟩, g2.cons_cons h⟩
          · rw [if_neg c4] at e
            cases e
/-- a choice within some bound stays within a greater one -/
theorem good.up {n g g' : Int} (h : g ≤ g') : ∀ {S : List Fd} {L : Int}, good n g L S → good n g' L S
  | [], L, e => by
    have e : n - L ≤ g := e
    show n - L ≤ g'
    omega
  | s :: S, L, e => by
    have e' : s.x - L ≤ g ∧ good n g s.y S := e
    exact ⟨by omega, good.up h e'.2⟩
/-- can so many marks do? -/
def canT (n : Int) (room : Nat) (ms : List Fd) (g : Int) : Prop := ∃ l, stp n g 0 none ms = some l ∧ l.length ≤ room
theorem can_iff {n g : Int} {room : Nat} {ms : List Fd} (up : Up ms) : canT n room ms g ↔ ∃ S : List Fd, S.Sublist ms ∧ S.length ≤ room ∧ good n g 0 S := by
  constructor
  · rintro ⟨l, e, hl⟩
    obtain ⟨g1, g2⟩ := stp_good ms 0 none l (fun _ h => nomatch h) e
    exact ⟨l, g2, hl, g1⟩
  · rintro ⟨S, h1, h2, h3⟩
    obtain ⟨l, e, hl⟩ := (greedy ms up).1 0 0 S h1 h3 (Int.le_refl 0)
    exact ⟨l, e, by omega⟩
theorem can_up {n g g' : Int} {room : Nat} {ms : List Fd} (up : Up ms) (h : g ≤ g') (c : canT n room ms g) : canT n room ms g' := by
  obtain ⟨S, h1, h2, h3⟩ := (can_iff up).mp c
  exact (can_iff up).mpr ⟨S, h1, h2, h3.up h⟩
end Kb

namespace Kb
/-! the widest gap of a choice, as the law counts it -/
def opn (n : Int) : Int → Int → List Fd → Int
  | W, L, [] => mxI W (n - L)
  | W, L, m :: ms => opn n (mxI W (m.x - L)) m.y ms
theorem mxI_le {i j B : Int} : mxI i j ≤ B ↔ i ≤ B ∧ j ≤ B := by
  obtain ⟨a, b, c⟩ := mxI_ge i j
  constructor
  · intro h
    exact ⟨by omega, by omega⟩
  · rintro ⟨h1, h2⟩
    omega
theorem opn_le {n g : Int} : ∀ {S : List Fd} {W L : Int}, opn n W L S ≤ g ↔ W ≤ g ∧ good n g L S
  | [], W, L => mxI_le
  | m :: ms, W, L => by
    show opn n (mxI W (m.x - L)) m.y ms ≤ g ↔ W ≤ g ∧ (m.x - L ≤ g ∧ good n g m.y ms)
    rw [opn_le, mxI_le, and_assoc]
theorem opn_ge {n : Int} : ∀ {S : List Fd} {W L : Int}, W ≤ opn n W L S := fun {S W L} => (opn_le.mp (Int.le_refl _)).1
/-- the least gap that so many marks can do -/
structure IsH (n : Int) (room : Nat) (ms : List Fd) (H : Int) : Prop where
  h0 : 0 ≤ H
  can : canT n room ms H
  least : ∀ g, 0 ≤ g → g < H → ¬ canT n room ms g
theorem IsH.one {n : Int} {room : Nat} {ms : List Fd} {H H' : Int} (h : IsH n room ms H) (h' : IsH n room ms H') : H = H' := by
  by_cases c : H < H'
  · exact absurd h.can (h'.least H h.h0 c)
  · by_cases c' : H' < H
    · exact absurd h'.can (h.least H' h'.h0 c')
    · omega
/-- any choice of so many is at least as wide -/
theorem IsH.le {n : Int} {room : Nat} {ms : List Fd} {H : Int} (up : Up ms) (h : IsH n room ms H) {S : List Fd} (h1 : S.Sublist ms) (h2 : S.length ≤ room) : H ≤ opn n 0 0 S := by
  by_cases c : H ≤ opn n 0 0 S
  · exact c
  · exact absurd ((can_iff up).mpr ⟨S, h1, h2, (opn_le.mp (Int.le_refl (opn n 0 0 S))).2⟩) (h.least _ opn_ge (by omega))
/-- the greedy choice is just so wide -/
theorem IsH.eq {n : Int} {room : Nat} {ms : List Fd} {H : Int} (up : Up ms) (h : IsH n room ms H) {l : List Fd} (e : stp n H 0 none ms = some l) : l.length ≤ room ∧ l.Sublist ms ∧ opn n 0 0 l = H := by
  obtain ⟨l', e', hl⟩ := h.can
  rw [e] at e'
  cases e'
  obtain ⟨g1, g2⟩ := stp_good ms 0 none l (fun _ h => nomatch h) e
  have a := h.le up g2 hl
  have b := opn_le.mpr ⟨h.h0, g1⟩
  exact ⟨hl, g2, by omega⟩
/-- a bound by the widest gap of all -/
theorem room_bound {n D q : Int} (q1 : 1 ≤ q) : ∀ (k : Nat),
    (∀ (ms : List Fd) (L : Int), good n D L ms → n - L ≤ D + q - 1 + k * q → ∃ S : List Fd, S.Sublist ms ∧ S.length ≤ k ∧ good n (D + q - 1) L S)
  | 0, ms, L, _, h => ⟨[], List.nil_sublist _, Nat.le_refl _, by show n - L ≤ D + q - 1; omega⟩
  | k + 1, ms, L, hg, h => by
    have ih := room_bound (n := n) (D := D) q1 k
    by_cases e : n - L ≤ D + q - 1
    · exact ⟨[], List.nil_sublist _, Nat.zero_le _, e⟩
    · -- the run
      have run : ∀ (r : List Fd) (m : Fd), m.x - L ≤ D + q - 1 → good n D m.y r → ∃ S : List Fd, S.Sublist (m :: r) ∧ S.length ≤ k + 1 ∧ good n (D + q - 1) L S := by
        intro r
        induction r with
        | nil =>
          intro m hm hr
          have hr : n - m.y ≤ D := hr
          exact ⟨[m], List.Sublist.refl _, by show 1 ≤ k + 1; omega, hm, by show n - m.y ≤ D + q - 1; omega⟩
        | cons m' r ihr =>
          intro m hm hr
          have hr' : m'.x - m.y ≤ D ∧ good n D m'.y r := hr
          by_cases c : m'.x - L ≤ D + q - 1
          · obtain ⟨S, h1, h2, h3⟩ := ihr m' c hr'.2
            exact ⟨S, h1.cons m, h2, h3⟩
          · have hk : ((k + 1 : Nat) : Int) * q = k * q + q := by
              rw [Int.natCast_add, Int.add_mul]
              omega
            rw [hk] at h
            obtain ⟨S, h1, h2, h3⟩ := ih (m' :: r) m.y hr (by omega)
            exact ⟨m :: S, h1.cons_cons m, by rw [List.length_cons]; omega, hm, h3⟩
      cases ms with
      | nil =>
        have hg : n - L ≤ D := hg
        omega
      | cons m r =>
        have hg' : m.x - L ≤ D ∧ good n D m.y r := hg
        exact run r m (by omega) hg'.2
theorem IsH.bound {n : Int} {room : Nat} {ms : List Fd} {H : Int} (up : Up ms) (h : IsH n room ms H) (r1 : 1 ≤ room) (n1 : 1 ≤ n) : H ≤ opn n 0 0 ms + (n + (room : Int) - 1) / (room : Int) - 1 := by
  have hr : (0 : Int) < (room : Int) := by omega
  have q0 := Int.mul_ediv_add_emod (n + (room : Int) - 1) (room : Int)
  have q1 := Int.emod_lt_of_pos (n + (room : Int) - 1) hr
  have q2 := Int.emod_nonneg (n + (room : Int) - 1) (show (room : Int) ≠ 0 by omega)
  generalize (n + (room : Int) - 1) / (room : Int) = q at q0 ⊢
  generalize (n + (room : Int) - 1) % (room : Int) = m at q0 q1 q2
  have hq : 1 ≤ q := by
    by_cases c : 1 ≤ q
    · exact c
    · have : (room : Int) * q ≤ (room : Int) * 0 := Int.mul_le_mul_of_nonneg_left (by omega) (by omega)
      omega
  have hD := (opn_le.mp (Int.le_refl (opn n 0 0 ms))).2
  have h0 : 0 ≤ opn n 0 0 ms := opn_ge
  have hc : (room : Int) * q = q * (room : Int) := Int.mul_comm _ _
  have hc2 : ((room : Nat) : Int) * q = (room : Int) * q := rfl
  obtain ⟨S, h1, h2, h3⟩ := room_bound hq room ms 0 hD (by omega)
  by_cases c : H ≤ opn n 0 0 ms + q - 1
  · exact c
  · exact absurd ((can_iff up).mpr ⟨S, h1, h2, h3⟩) (h.least _ (by omega) (by omega))
/-- marks that are drawn go up -/
theorem FsOk.up {n : Int} {fs : List Fd} (ok : FsOk n fs) : Up fs := by
  have key : ∀ (d i : Nat) (f g : Fd), fs[i]? = some f → fs[i + 1 + d]? = some g → f.x ≤ g.x ∧ f.y ≤ g.y := by
    intro d
    induction d with
    | zero =>
      intro i f g h1 h2
      obtain ⟨a, b⟩ := ok.ad i f g h1 h2
      have bf := ok.bd f (List.mem_of_getElem? h1)
      have bg := ok.bd g (List.mem_of_getElem? h2)
      have c1 : f.x < f.z := bf.bd
      have c2 : g.w < g.y := bg.ac
      omega
    | succ d ih =>
      intro i f g h1 h2
      have hl : i + 1 < fs.length := by
        have := (List.getElem?_eq_some_iff.mp h2).1
        omega
      have hm := List.getElem?_eq_getElem hl
      have a := ih (i + 1) _ g hm (by rw [← h2]; congr 1; omega)
      obtain ⟨b1, b2⟩ := ok.ad i f _ h1 hm
      have bf := ok.bd f (List.mem_of_getElem? h1)
      have bm := ok.bd _ (List.mem_of_getElem? hm)
      have c1 : f.x < f.z := bf.bd
      have c2 : fs[i + 1].w < fs[i + 1].y := bm.ac
      omega
  refine List.pairwise_iff_getElem.mpr fun i j hi hj hij => ?_
  exact key (j - i - 1) i _ _ (List.getElem?_eq_getElem hi) (by rw [show i + 1 + (j - i - 1) = j by omega]; exact List.getElem?_eq_getElem hj)
end Kb

namespace Kb
/-! the choices by masks -/
def selM : Nat → List Fd → List Fd
  | _, [] => []
  | k, m :: ms => if k % 2 = 1 then m :: selM (k / 2) ms else selM (k / 2) ms
theorem sel_sub : ∀ (ms : List Fd) (k : Nat), (selM k ms).Sublist ms
  | [], _ => List.Sublist.refl _
  | m :: ms, k => by
    show (if k % 2 = 1 then m :: selM (k / 2) ms else selM (k / 2) ms).Sublist (m :: ms)
    split
    · exact (sel_sub ms (k / 2)).cons_cons m
    · exact (sel_sub ms (k / 2)).cons m
theorem sel_all : ∀ {S ms : List Fd}, S.Sublist ms → ∃ k, k < 2 ^ ms.length ∧ selM k ms = S := by
  intro S ms h
  induction h with
  | slnil => exact ⟨0, by decide, rfl⟩
  | @cons S ms m _ ih =>
    obtain ⟨k, h1, h2⟩ := ih
    refine ⟨2 * k, by rw [List.length_cons, Nat.pow_succ]; omega, ?_⟩
    show (if 2 * k % 2 = 1 then _ else selM (2 * k / 2) ms) = S
    rw [if_neg (by omega), show 2 * k / 2 = k by omega]
    exact h2
  | @cons_cons S ms m _ ih =>
    obtain ⟨k, h1, h2⟩ := ih
    refine ⟨2 * k + 1, by rw [List.length_cons, Nat.pow_succ]; omega, ?_⟩
    show (if (2 * k + 1) % 2 = 1 then m :: selM ((2 * k + 1) / 2) ms else _) = m :: S
    rw [if_pos (by omega), show (2 * k + 1) / 2 = k by omega, h2]
/-- one mark more -/
theorem sel_snoc : ∀ (ms : List Fd) (k : Nat) (m : Fd), selM k (ms ++ [m]) = if k / 2 ^ ms.length % 2 = 1 then selM k ms ++ [m] else selM k ms
  | [], k, m => by
    show (if k % 2 = 1 then [m] else []) = if k / 2 ^ 0 % 2 = 1 then [] ++ [m] else []
    rw [Nat.pow_zero, Nat.div_one]
    rfl
  | a :: ms, k, m => by
    have e : k / 2 ^ (ms.length + 1) = k / 2 / 2 ^ ms.length := by rw [Nat.pow_succ, Nat.mul_comm, Nat.div_div_eq_div_mul]
    show (if k % 2 = 1 then a :: selM (k / 2) (ms ++ [m]) else selM (k / 2) (ms ++ [m])) = if k / 2 ^ (ms.length + 1) % 2 = 1 then (if k % 2 = 1 then a :: selM (k / 2) ms else selM (k / 2) ms) ++ [m] else (if k % 2 = 1 then a :: selM (k / 2) ms else selM (k / 2) ms)
    rw [sel_snoc ms (k / 2) m, e]
    split <;> split <;> rfl
/-- the least over the masks below i, from n -/
def leastM (n : Int) (room : Nat) (ms : List Fd) : Nat → Int
  | 0 => n
  | i + 1 => if (selM i ms).length ≤ room then (let o := opn n 0 0 (selM i ms); if o < leastM n room ms i then o else leastM n room ms i) else leastM n room ms i
theorem least_le {n : Int} {room : Nat} {ms : List Fd} : ∀ (i : Nat), leastM n room ms i ≤ n ∧ ∀ j, j < i → (selM j ms).length ≤ room → leastM n room ms i ≤ opn n 0 0 (selM j ms)
  | 0 => ⟨Int.le_refl _, fun j h => absurd h (Nat.not_lt_zero _)⟩
  | i + 1 => by
    obtain ⟨h1, h2⟩ := least_le (n := n) (room := room) (ms := ms) i
    have e : leastM n room ms (i + 1) = if (selM i ms).length ≤ room then (if opn n 0 0 (selM i ms) < leastM n room ms i then opn n 0 0 (selM i ms) else leastM n room ms i) else leastM n room ms i := rfl
    have a : leastM n room ms (i + 1) ≤ leastM n room ms i := by
      rw [e]
      split
      · split <;> omega
      · omega
    refine ⟨by omega, fun j hj hr => ?_⟩
    by_cases z : j = i
    · subst z
      rw [e, if_pos hr]
      split <;> omega
    · have := h2 j (by omega) hr
      omega
theorem least_ge {n : Int} {room : Nat} {ms : List Fd} {H : Int} (hn : H ≤ n) (hs : ∀ S : List Fd, S.Sublist ms → S.length ≤ room → H ≤ opn n 0 0 S) : ∀ (i : Nat), H ≤ leastM n room ms i
  | 0 => hn
  | i + 1 => by
    have ih := least_ge hn hs i
    show H ≤ if (selM i ms).length ≤ room then (if opn n 0 0 (selM i ms) < leastM n room ms i then opn n 0 0 (selM i ms) else leastM n room ms i) else leastM n room ms i
    split
    · rename_i hr
      have := hs _ (sel_sub ms i) hr
      split <;> omega
    · exact ih
theorem IsH.least_eq {n : Int} {room : Nat} {ms : List Fd} {H : Int} (n0 : 0 ≤ n) (up : Up ms) (h : IsH n room ms H) : leastM n room ms (2 ^ ms.length) = H := by
  obtain ⟨l, e, _⟩ := h.can
  obtain ⟨h1, h2, h3⟩ := h.eq up e
  obtain ⟨k, hk, es⟩ := sel_all h2
  have a := (least_le (n := n) (room := room) (ms := ms) (2 ^ ms.length)).2 k hk (by rw [es]; exact h1)
  rw [es, h3] at a
  have hn : H ≤ n := by
    by_cases c : H ≤ n
    · exact c
    · exact absurd ⟨[], stp_enough (by omega), Nat.zero_le _⟩ (h.least n n0 (by omega))
  have b := least_ge hn (fun S hS hr => h.le up hS hr) (2 ^ ms.length)
  omega
end Kb

namespace Kb
open PySem PySem.Spec PyProof.Rows L2 RZ
abbrev sopen : Stmt := topS 35
abbrev Nopen : List Str := ["_law_many", "_law_marks_here", "_law_widest", "_law_last", "_law_mark"]
theorem scopen : FnScope ["_law_many", "_law_marks_here", "_law_widest", "_law_last", "_law_mark"] ["_law_many", "_law_marks_here"] (defScope sopen) := ⟨rfl, rfl, rfl, by decide +kernel, rfl, by decide +kernel, by decide +kernel⟩
abbrev Dnopen (K : PySem.W.Frag) (mg : Str → Option Value) := Dn K mg "_law_open" sopen ["_law_many", "_law_marks_here"]
section
variable {P : Program} {w : World} {K : PySem.W.Frag} {mg : Str → Option Value} {base : Heap}
def spOpen (K : PySem.W.Frag) : Sp := fun vs H Q _ => ∃ (n : Int) (l : Addr) (us : List V) (fs : List Fd), vs = [.int n, .ref l] ∧ SqL K H l us ∧ Paired (FdAt H) us fs ∧ Q (.int (opn n 0 0 fs)) H
theorem opn_snoc {n : Int} : ∀ {fs : List Fd} {W L : Int}, opn n W L fs = mxI (fs.foldl (fun p m => (mxI p.1 (m.x - p.2), m.y)) (W, L)).1 (n - (fs.foldl (fun p m => (mxI p.1 (m.x - p.2), m.y)) (W, L)).2)
  | [], _, _ => rfl
  | m :: ms, W, L => opn_snoc (fs := ms) (W := mxI W (m.x - L)) (L := m.y)
theorem ok_open (T : Blt mg) (d : Dnopen K mg) : FnOk P w K mg base CX0 1 d.f d.fd ["_law_many", "_law_marks_here"] (spOpen K) := by
  refine d.F.ok scopen (fun vs H Q E h => ?_) (fun cdv A outer s H vs Q E hr h => ?_)
  · obtain ⟨n, l, us, fs, rfl, _⟩ := h
    rfl
  · obtain ⟨n, l, us, fs, rfl, hl, pr, q⟩ := h
    refine ⟨_, (pss_cons (ps_set (i := 2) scopen.nd rfl (Or.inl rfl) pe_int)
    (pss_cons (ps_set (i := 3) scopen.nd rfl (Or.inl rfl) pe_int)
    (pss_cons (ps_for PassesOwn.never rfl (pi_list (pv 1)) (pg_name (i := 4) scopen.nd rfl (Or.inl rfl))
      (pss_cons (ps_set (i := 2) scopen.nd rfl (Or.inl rfl) (pe_callB (call_max2 rfl) (by rfl) T.n_max (by decide +kernel) (pa_cons (pv 2) (pa_cons (pe_op op_sub (pe_ix ix_tup (pv 4) pe_int (fun _ _ => rfl)) (pv 3)) pa_nil))))
      (pss_one (ps_set (i := 3) scopen.nd rfl (Or.inl rfl) (pe_ix ix_tup (pv 4) pe_int (fun _ _ => rfl))))))
    (pss_one (ps_ret (pe_callB (call_max2 rfl) (by rfl) T.n_max (by decide +kernel) (pa_cons (pv 2) (pa_cons (pe_op op_sub (pv 0) (pv 3)) pa_nil)))))))), ?_⟩
    refine ⟨.ref l, rfl, l, rfl, ⟨_, hl⟩, ?_⟩
    have ul : us.length = fs.length := Paired.length pr
    refine for_list (xs := us) (fun i σ H2 => ∃ (W L : Int) (y : Option V), σ = [some (.int n), some (.ref l), some (.int W), some (.int L), y] ∧ H = H2 ∧ (fs.take i).foldl (fun p m => (mxI p.1 (m.x - p.2), m.y)) ((0 : Int), (0 : Int)) = (W, L))
      ⟨0, 0, none, rfl, rfl, rfl⟩ (fun i σ H2 _ ⟨_, _, _, _, e, _⟩ => by rw [← e]; exact hl) ?_ ?_
    · rintro i v σ H2 hi ⟨W, L, y, rfl, rfl, e⟩
      obtain ⟨f, hf, u, rfl, hu⟩ := paired_at pr hi
      refine ⟨.int W, rfl, .ref u, rfl, u, _, _, _, rfl, rfl, hu.seq, atI_nat (j := 2) rfl, .int L, rfl, _, _, rfl, rfl, _, _, rfl, ?_⟩
      refine ⟨.ref u, rfl, u, _, _, _, rfl, rfl, hu.seq, atI_nat (j := 3) rfl, ?_⟩
      refine ⟨mxI W (f.x - L), f.y, _, rfl, rfl, ?_⟩
      rw [List.take_add_one, hf, List.foldl_append, e]
      rfl
    · rintro σ H2 ⟨W, L, y, rfl, rfl, e⟩
      rw [ul, List.take_length] at e
      refine ⟨.int W, rfl, .int n, rfl, .int L, rfl, _, _, rfl, rfl, _, _, rfl, ?_⟩
      rw [opn_snoc, e] at q
      exact q
end
end Kb

namespace Kb
open PySem PySem.Spec PyProof.Rows L2 RZ
abbrev ssteps : Stmt := topS 31
abbrev Nsteps : List Str := ["_law_marks_here", "_law_many", "_law_most", "_law_kept", "_law_last", "_law_held", "_law_mark"]
theorem scsteps : FnScope ["_law_marks_here", "_law_many", "_law_most", "_law_kept", "_law_last", "_law_held", "_law_mark"] ["_law_marks_here", "_law_many", "_law_most"] (defScope ssteps) := ⟨rfl, rfl, rfl, by decide +kernel, rfl, by decide +kernel, by decide +kernel⟩
abbrev Dnsteps (K : PySem.W.Frag) (mg : Str → Option Value) := Dn K mg "_law_steps" ssteps ["_law_marks_here", "_law_many", "_law_most"]
def HdAt (H : Hp) (v : V) : Option Fd → Prop
  | none => v = .non
  | some f => FdAt H v f
theorem HdAt.keep {H H' : Hp} {v : V} : ∀ {o : Option Fd}, HdAt H v o → KpD H H' → HdAt H' v o
  | none, h, _ => h
  | some _, h, k => FdAt.keep h k
section
variable {P : Program} {w : World} {K : PySem.W.Frag} {mg : Str → Option Value} {base : Heap}
def spSteps (K : PySem.W.Frag) : Sp := fun vs H Q _ => ∃ (l : Addr) (n g : Int) (us : List V) (fs : List Fd), vs = [.ref l, .int n, .int g] ∧ SqL K H l us ∧ H l = some (.lst us) ∧ Paired (FdAt H) us fs ∧ fs.length ≤ 150 ∧
  (∀ r, stp n g 0 none fs = some r → ∀ H' p ws, Same H H' → H' p = some (.lst ws) → Paired (FdAt H') ws r → Q (.ref p) H') ∧ (stp n g 0 none fs = none → ∀ H', Same H H' → Q .non H')
theorem ok_steps (T : Blt mg) (d : Dnsteps K mg) : FnOk P w K mg base CX0 1 d.f d.fd ["_law_marks_here", "_law_many", "_law_most"] (spSteps K) := by
  refine d.F.ok scsteps (fun vs H Q E h => ?_) (fun cdv A outer s H vs Q E hr h => ?_)
  · obtain ⟨l, n, g, us, fs, rfl, _⟩ := h
    rfl
  · obtain ⟨l, n, g, us, fs, rfl, hS, hl, pr, fl, q1, q2⟩ := h
    refine ⟨_, (pss_cons (ps_set (i := 3) scsteps.nd rfl (Or.inl rfl) (pe_lst pa_nil))
    (pss_cons (ps_set (i := 4) scsteps.nd rfl (Or.inl rfl) pe_int)
    (pss_cons (ps_set (i := 5) scsteps.nd rfl (Or.inl rfl) pe_non)
    (C8.pss_cut (ps_for PassesOwn.never rfl (pi_list (pv 0)) (pg_name (i := 6) scsteps.nd rfl (Or.inl rfl))
      (pss_cons (ps_if (pt_cmpR op_le (pe_op op_sub (pv 1) (pv 4)) (pv 2) (nomark _))
        (pss_one ps_break)
        pss_nil)
      (C8.pss_cut (ps_if (PW.pt (pw_and (pt_cmpR op_notN (pv 5) pe_non (nomark _)) (pw_and1 (pt_cmpR op_gt (pe_op op_sub (pe_ix ix_tup (pv 6) pe_int (fun _ _ => rfl)) (pv 4)) (pv 2) (nomark _)))))
        (pss_cons (ps_expr (pe_bm PySem.F.plainAttrs_list PySem.F.slot_list_append PySem.F.type_list_append mt_append (pv 3) (pa_cons (pv 5) pa_nil)))
        (pss_cons (ps_set (i := 4) scsteps.nd rfl (Or.inl rfl) (pe_ix ix_tup (pv 5) pe_int (fun _ _ => rfl)))
        (pss_cons (ps_set (i := 5) scsteps.nd rfl (Or.inl rfl) pe_non)
        (pss_one (ps_if (pt_cmpR op_le (pe_op op_sub (pv 1) (pv 4)) (pv 2) (nomark _))
          (pss_one ps_break)
          pss_nil)))))
        pss_nil)
      (pss_cons (ps_if (pt_cmpR op_gt (pe_op op_sub (pe_ix ix_tup (pv 6) pe_int (fun _ _ => rfl)) (pv 4)) (pv 2) (nomark _))
        (pss_one (ps_ret pe_non))
        pss_nil)
      (pss_one (ps_set (i := 5) scsteps.nd rfl (Or.inl rfl) (pv 6)))))))
    (C8.pss_cut (ps_if (PW.pt (pw_and (pt_cmpR op_gt (pe_op op_sub (pv 1) (pv 4)) (pv 2) (nomark _)) (pw_and1 (pt_cmpR op_notN (pv 5) pe_non (nomark _)))))
      (pss_cons (ps_expr (pe_bm PySem.F.plainAttrs_list PySem.F.slot_list_append PySem.F.type_list_append mt_append (pv 3) (pa_cons (pv 5) pa_nil)))
      (pss_one (ps_set (i := 4) scsteps.nd rfl (Or.inl rfl) (pe_ix ix_tup (pv 5) pe_int (fun _ _ => rfl)))))
      pss_nil)
    (pss_cons (ps_if (pt_cmpR op_gt (pe_op op_sub (pv 1) (pv 4)) (pv 2) (nomark _))
      (pss_one (ps_ret pe_non))
      pss_nil)
    (pss_one (ps_ret (pv 3))))))))), ?_⟩
    have ul : us.length = fs.length := Paired.length pr
    refine ⟨(by show 0 ≤ sizeLine; decide), fun k nk => ?_⟩
    have s1 := same_upd (o := .lst []) nk
    have hk1 : (upd H k (.lst [])) k = some (.lst []) := upd_same
    generalize upd H k (.lst []) = H1 at s1 hk1 ⊢
    have eo : ∀ o : Option (List Fd), o.map (([] : List Fd) ++ ·) = o := fun o => by cases o <;> rfl
    -- the walk
    refine ⟨fun σ H2 => ∃ (L : Int) (hv y6 : _) (held : Option Fd) (ws : List V) (acc : List Fd), σ = [some (.ref l), some (.int n), some (.int g), some (.ref k), some (.int L), some hv, y6] ∧ Same H H2 ∧ H2 k = some (.lst ws) ∧ Paired (FdAt H2) ws acc ∧ HdAt H2 hv held ∧ acc.length ≤ 150 ∧ stp n g 0 none fs = (finT n g L held).map (acc ++ ·), ?_, ?_⟩
    · refine ⟨.ref l, rfl, l, rfl, ⟨_, sql (s1 _ _ hl)⟩, ?_⟩
      refine for_list (xs := us) (fun i σ H2 => ∃ (L : Int) (hv : V) (y6 : Option V) (held : Option Fd) (ws : List V) (acc : List Fd), σ = [some (.ref l), some (.int n), some (.int g), some (.ref k), some (.int L), some hv, y6] ∧ Same H H2 ∧ H2 k = some (.lst ws) ∧ Paired (FdAt H2) ws acc ∧ HdAt H2 hv held ∧ acc.length ≤ i ∧ stp n g 0 none fs = (stp n g L held (fs.drop i)).map (acc ++ ·))
        ⟨0, .non, none, none, [], [], rfl, s1, hk1, .nil, rfl, Nat.le_refl _, (eo _).symm⟩ (fun i σ H2 _ ⟨_, _, _, _, _, _, _, s2, _⟩ => sql (s2 _ _ hl)) ?_ ?_
      · rintro i v σ H2 hi ⟨L, hv, y6, held, ws, acc, rfl, s2, hk, pw, hh, al, he⟩
        obtain ⟨f, hf, u, rfl, hu0⟩ := paired_at pr hi
        have il := (List.getElem?_eq_some_iff.mp hf).1
        have hd : fs.drop i = f :: fs.drop (i + 1) := by
          obtain ⟨hlt, e⟩ := List.getElem?_eq_some_iff.mp hf
          rw [List.drop_eq_getElem_cons hlt, e]
        rw [hd] at he
        refine ⟨.int n, rfl, .int L, rfl, _, _, rfl, rfl, .int g, rfl, _, _, rfl, rfl, decide (n - L ≤ g), rfl, ?_⟩
        by_cases c : n - L ≤ g
        · rw [decide_eq_true c]
          refine iteT ⟨L, hv, _, held, ws, acc, rfl, s2, hk, pw, hh, by omega, ?_⟩
          rw [he, stp_enough c]
          cases held <;> (show _ = Option.map (acc ++ ·) (if n - L ≤ g then some [] else _); rw [if_pos c])
        · rw [decide_eq_false c]
          refine iteF ?_
          refine ⟨fun σ H3 => ∃ (L : Int) (hv : V) (held : Option Fd) (ws : List V) (acc : List Fd), σ = [some (.ref l), some (.int n), some (.int g), some (.ref k), some (.int L), some hv, some (.ref u)] ∧ Same H H3 ∧ H3 k = some (.lst ws) ∧ Paired (FdAt H3) ws acc ∧ HdAt H3 hv held ∧ acc.length ≤ i + 1 ∧ stp n g 0 none fs = (stp n g L held (f :: fs.drop (i + 1))).map (acc ++ ·) ∧ ¬ n - L ≤ g ∧ (held = none ∨ f.x - L ≤ g), ?_, ?_⟩
          · have hu := hu0.same s2
            cases held with
            | none =>
              cases (show hv = .non from hh)
              exact ⟨.non, rfl, rfl, false, rfl, iteF ⟨L, .non, none, ws, acc, rfl, s2, hk, pw, rfl, by omega, he, c, .inl rfl⟩⟩
            | some h =>
              obtain ⟨uh, rfl, hph⟩ := (show FdAt H2 hv h from hh)
              refine ⟨.ref uh, rfl, rfl, true, rfl, iteT ?_⟩
              refine ⟨.ref u, rfl, u, _, _, _, rfl, rfl, hu.seq, atI_nat (j := 2) rfl, .int L, rfl, _, _, rfl, rfl, .int g, rfl, _, _, rfl, rfl, decide (g < f.x - L), rfl, ?_⟩
              by_cases cx : f.x - L ≤ g
              · rw [decide_eq_false (by omega)]
                exact iteF ⟨L, _, some h, ws, acc, rfl, s2, hk, pw, ⟨uh, rfl, hph⟩, by omega, he, c, .inr cx⟩
              · rw [decide_eq_true (by omega)]
                have wl := Paired.length pw
                refine iteT ⟨.ref k, rfl, .inl ⟨rfl, _, sql hk⟩, .ref uh, rfl, k, ws, .ref uh, rfl, rfl, hk, by rw [sizeLine_eq]; omega, ?_⟩
                have s3 : Same H (upd H2 k (.lst (ws ++ [.ref uh]))) := Same.put s2 nk
                have hk3 : (upd H2 k (.lst (ws ++ [.ref uh]))) k = some (.lst (ws ++ [.ref uh])) := upd_same
                have kp : KpD H2 (upd H2 k (.lst (ws ++ [.ref uh]))) := kpD_list hk
                have pw3 : Paired (FdAt (upd H2 k (.lst (ws ++ [.ref uh])))) (ws ++ [.ref uh]) (acc ++ [h]) := paired_app (paired_imp (fun _ _ h => h.keep kp) pw) (.cons ⟨uh, rfl, kp.t _ _ hph⟩ .nil)
                have hp3 := kp.t _ _ hph
                generalize upd H2 k (.lst (ws ++ [.ref uh])) = H3 at s3 hk3 pw3 hp3 ⊢
                have he3 : stp n g 0 none fs = (stp n g h.y none (f :: fs.drop (i + 1))).map ((acc ++ [h]) ++ ·) := by
                  rw [he, stp_take c (fun m r z => by cases z; exact cx)]
                  cases stp n g h.y none (f :: fs.drop (i + 1)) with
                  | none => rfl
                  | some o => show some (acc ++ h :: o) = some ((acc ++ [h]) ++ o); rw [List.append_assoc]; rfl
                have al3 : (acc ++ [h]).length ≤ i + 1 := by rw [List.length_append, List.length_singleton]; omega
                refine ⟨.ref uh, rfl, uh, _, _, _, rfl, rfl, hp3.seq, atI_nat (j := 3) rfl, ?_⟩
                refine ⟨.int n, rfl, .int h.y, rfl, _, _, rfl, rfl, .int g, rfl, _, _, rfl, rfl, decide (n - h.y ≤ g), rfl, ?_⟩
                by_cases c2 : n - h.y ≤ g
                · rw [decide_eq_true c2]
                  refine iteT ⟨h.y, .non, _, none, _, _, rfl, s3, hk3, pw3, rfl, by omega, ?_⟩
                  rw [he3, stp_enough c2]
                  show _ = Option.map _ (if n - h.y ≤ g then some [] else none)
                  rw [if_pos c2]
                · rw [decide_eq_false c2]
                  exact iteF ⟨h.y, .non, none, _, _, rfl, s3, hk3, pw3, rfl, al3, he3, c2, .inl rfl⟩
          · rintro σ H3 ⟨L, hv, held, ws, acc, rfl, s3, hk, pw, hh, al, he, c, hx⟩
            have hu := hu0.same s3
            refine ⟨.ref u, rfl, u, _, _, _, rfl, rfl, hu.seq, atI_nat (j := 2) rfl, .int L, rfl, _, _, rfl, rfl, .int g, rfl, _, _, rfl, rfl, decide (g < f.x - L), rfl, ?_⟩
            by_cases cx : f.x - L ≤ g
            · rw [decide_eq_false (by omega)]
              refine iteF ⟨.ref u, rfl, ?_⟩
              refine ⟨L, _, _, some f, ws, acc, rfl, s3, hk, pw, ⟨u, rfl, hu⟩, al, ?_⟩
              rw [he, stp_go c cx]
            · rw [decide_eq_true (by omega)]
              refine iteT (q2 ?_ H3 s3)
              rcases hx with rfl | hx
              · rw [he, stp_none c (fun m r z => by cases z; exact cx)]
                rfl
              · exact absurd hx cx
      · rintro σ H2 ⟨L, hv, y6, held, ws, acc, rfl, s2, hk, pw, hh, al, he⟩
        rw [ul, List.drop_length] at he
        exact ⟨L, hv, y6, held, ws, acc, rfl, s2, hk, pw, hh, by omega, he⟩
    · rintro σ H2 ⟨L, hv, y6, held, ws, acc, rfl, s2, hk, pw, hh, al, he⟩
      refine ⟨fun σ H3 => ∃ (L : Int) (hv : V) (ws : List V) (acc : List Fd), σ = [some (.ref l), some (.int n), some (.int g), some (.ref k), some (.int L), some hv, y6] ∧ Same H H3 ∧ H3 k = some (.lst ws) ∧ Paired (FdAt H3) ws acc ∧ stp n g 0 none fs = if n - L ≤ g then some acc else none, ?_, ?_⟩
      · refine ⟨.int n, rfl, .int L, rfl, _, _, rfl, rfl, .int g, rfl, _, _, rfl, rfl, decide (g < n - L), rfl, ?_⟩
        by_cases c : n - L ≤ g
        · rw [decide_eq_false (by omega)]
          refine iteF ⟨L, hv, ws, acc, rfl, s2, hk, pw, ?_⟩
          rw [he, if_pos c]
          cases held <;> (show Option.map (acc ++ ·) (if n - L ≤ g then some [] else _) = _; rw [if_pos c]; show some (acc ++ []) = some acc; rw [List.append_nil])
        · rw [decide_eq_true (by omega)]
          refine iteT ?_
          cases held with
          | none =>
            cases (show hv = .non from hh)
            refine ⟨.non, rfl, rfl, false, rfl, iteF ⟨L, .non, ws, acc, rfl, s2, hk, pw, ?_⟩⟩
            rw [he, if_neg c]
            show Option.map (acc ++ ·) (if n - L ≤ g then some [] else none) = none
            rw [if_neg c]
            rfl
          | some h =>
            obtain ⟨uh, rfl, hph⟩ := (show FdAt H2 hv h from hh)
            have wl := Paired.length pw
            refine ⟨.ref uh, rfl, rfl, true, rfl, iteT ⟨.ref k, rfl, .inl ⟨rfl, _, sql hk⟩, .ref uh, rfl, k, ws, .ref uh, rfl, rfl, hk, by rw [sizeLine_eq]; omega, ?_⟩⟩
            have s3 : Same H (upd H2 k (.lst (ws ++ [.ref uh]))) := Same.put s2 nk
            have hk3 : (upd H2 k (.lst (ws ++ [.ref uh]))) k = some (.lst (ws ++ [.ref uh])) := upd_same
            have kp : KpD H2 (upd H2 k (.lst (ws ++ [.ref uh]))) := kpD_list hk
            have pw3 : Paired (FdAt (upd H2 k (.lst (ws ++ [.ref uh])))) (ws ++ [.ref uh]) (acc ++ [h]) := paired_app (paired_imp (fun _ _ h => h.keep kp) pw) (.cons ⟨uh, rfl, kp.t _ _ hph⟩ .nil)
            have hp3 := kp.t _ _ hph
            generalize upd H2 k (.lst (ws ++ [.ref uh])) = H3 at s3 hk3 pw3 hp3 ⊢
            refine ⟨.ref uh, rfl, uh, _, _, _, rfl, rfl, hp3.seq, atI_nat (j := 3) rfl, ?_⟩
            refine ⟨h.y, _, _, _, rfl, s3, hk3, pw3, ?_⟩
            rw [he]
            show Option.map (acc ++ ·) (if n - L ≤ g then some [] else if n - h.y ≤ g then some [h] else none) = _
            rw [if_neg c]
            by_cases c2 : n - h.y ≤ g
            · rw [if_pos c2, if_pos c2]
              rfl
            · rw [if_neg c2, if_neg c2]
              rfl
      · rintro σ H3 ⟨L, hv, ws, acc, rfl, s3, hk, pw, he⟩
        refine ⟨.int n, rfl, .int L, rfl, _, _, rfl, rfl, .int g, rfl, _, _, rfl, rfl, decide (g < n - L), rfl, ?_⟩
        by_cases c : n - L ≤ g
        · rw [decide_eq_false (by omega)]
          rw [if_pos c] at he
          exact iteF ⟨.ref k, rfl, q1 acc he H3 k ws s3 hk pw⟩
        · rw [decide_eq_true (by omega)]
          rw [if_neg c] at he
          exact iteT (q2 he H3 s3)
end
end Kb

namespace Kb
open PySem PySem.Spec PyProof.Rows L2 RZ
abbrev sthinned : Stmt := topS 32
abbrev Nthinned : List Str := ["_law_room", "_law_many", "_law_marks_here", "_law_low", "_law_high", "_law_turn", "_law_middle", "_law_kept"]
theorem scthinned : FnScope ["_law_room", "_law_many", "_law_marks_here", "_law_low", "_law_high", "_law_turn", "_law_middle", "_law_kept"] ["_law_room", "_law_many", "_law_marks_here"] (defScope sthinned) := ⟨rfl, rfl, rfl, by decide +kernel, rfl, by decide +kernel, by decide +kernel⟩
abbrev Dnthinned (K : PySem.W.Frag) (mg : Str → Option Value) := Dn K mg "_law_thinned" sthinned ["_law_room", "_law_many", "_law_marks_here"]
section
variable {P : Program} {w : World} {K : PySem.W.Frag} {mg : Str → Option Value} {base : Heap}
/-- of more marks than there is room for -/
def spThinned (K : PySem.W.Frag) : Sp := fun vs H Q _ => ∃ (room : Nat) (n : Int) (l : Addr) (us : List V) (fs : List Fd), vs = [.int (room : Int), .int n, .ref l] ∧ H l = some (.lst us) ∧ Paired (FdAt H) us fs ∧ fs.length ≤ 150 ∧ room < fs.length ∧ 0 ≤ n ∧ n ≤ 2 ^ 41 ∧ Up fs ∧
  ∀ g r, IsH n room fs g → stp n g 0 none fs = some r → ∀ H' p ws, Same H H' → H' p = some (.lst ws) → Paired (FdAt H') ws r → Q (.ref p) H'
theorem isH_of {n low high : Int} {room : Nat} {fs : List Fd} (up : Up fs) (h1 : low < high) (h2 : high - low ≤ 1) (h3 : -1 ≤ low) (hc : canT n room fs high) (hl : low = -1 ∨ ¬ canT n room fs low) : IsH n room fs high := by
  refine ⟨by omega, hc, fun g g0 gh hg => ?_⟩
  rcases hl with hl | hl
  · omega
  · exact hl (can_up up (by omega) hg)
theorem ok_thinnedL (T : Blt mg) (dsteps : Dnsteps K mg) (d : Dnthinned K mg) : FnOk P w K mg base CX0 2 d.f d.fd ["_law_room", "_law_many", "_law_marks_here"] (spThinned K) := by
  have Gsteps : FnOk P w K mg base CX0 1 dsteps.f dsteps.fd ["_law_marks_here", "_law_many", "_law_most"] (spSteps K) := ok_steps T dsteps
  refine d.F.ok scthinned (fun vs H Q E h => ?_) (fun cdv A outer s H vs Q E hr h => ?_)
  · obtain ⟨room, n, l, us, fs, rfl, _⟩ := h
    rfl
  · obtain ⟨room, n, l, us, fs, rfl, hl, pr, fl, rl, n0, n1, up, q⟩ := h
    refine ⟨_, (pss_cons (ps_if (pt_cmpR op_le (pe_callB call_len_seq (by rfl) T.n_len (by decide +kernel) (pa_cons (pv 2) pa_nil)) (pv 0) (nomark _))
      (pss_one (ps_ret (pe_callTy call_list_of (by rfl) T.n_list (by decide +kernel) (pa_cons (pv 2) pa_nil))))
      pss_nil)
    (pss_cons (ps_set (i := 3) scthinned.nd rfl (Or.inl rfl) (pe_un un_neg pe_int))
    (pss_cons (ps_set (i := 4) scthinned.nd rfl (Or.inl rfl) (pv 1))
    (pss_cons (ps_for PassesOwn.never rfl (pi_range1 (by rfl) T.n_range (pa_cons pe_int pa_nil)) (pg_name (i := 5) scthinned.nd rfl (Or.inl rfl))
      (pss_one (ps_if (pt_cmpR op_gt (pe_op op_sub (pv 4) (pv 3)) pe_int (nomark _))
        (pss_cons (ps_set (i := 6) scthinned.nd rfl (Or.inl rfl) (pe_op op_fdiv (pe_op op_add (pv 3) (pv 4)) pe_int))
        (pss_cons (ps_set (i := 7) scthinned.nd rfl (Or.inl rfl) (pe_call Gsteps (hr.mono (by omega)) (by rfl) dsteps.g dsteps.F.kp dsteps.b .nil pass0 (pa_cons (pv 2) (pa_cons (pv 1) (pa_cons (pv 6) pa_nil)))))
        (pss_one (ps_if (PW.pt (pw_and (pt_cmpR op_notN (pv 7) pe_non (nomark _)) (pw_and1 (pt_cmpR op_le (pe_callB call_len_seq (by rfl) T.n_len (by decide +kernel) (pa_cons (pv 7) pa_nil)) (pv 0) (nomark _)))))
          (pss_one (ps_set (i := 4) scthinned.nd rfl (Or.inl rfl) (pv 6)))
          (pss_one (ps_set (i := 3) scthinned.nd rfl (Or.inl rfl) (pv 6)))))))
        pss_nil)))
    (pss_one (ps_ret (pe_call Gsteps (hr.mono (by omega)) (by rfl) dsteps.g dsteps.F.kp dsteps.b .nil pass0 (pa_cons (pv 2) (pa_cons (pv 1) (pa_cons (pv 4) pa_nil)))))))))), ?_⟩
    have ul : us.length = fs.length := Paired.length pr
    refine ⟨.ref l, rfl, l, _, rfl, .inl (sql hl), .int (room : Int), rfl, _, _, rfl, rfl, false, congrArg V.bl (decide_eq_false (by omega)), iteF ?_⟩
    refine ⟨_, rfl, .int n, rfl, 60, rfl, by decide, by decide, ?_⟩
    have start0 : n - -1 ≤ ((2 ^ (60 - 0) : Nat) : Int) := by
      have e : ((2 ^ (60 - 0) : Nat) : Int) = 1152921504606846976 := by decide
      rw [e]
      have : (2 : Int) ^ 41 = 2199023255552 := by decide
      omega
    refine for_range (lo := 0) (n := 60) (fun i σ H2 => ∃ (low high : Int) (y5 y6 y7 : Option V), σ = [some (.int (room : Int)), some (.int n), some (.ref l), some (.int low), some (.int high), y5, y6, y7] ∧ Same H H2 ∧ low < high ∧ -1 ≤ low ∧ high ≤ n ∧ high - low ≤ ((2 ^ (60 - i) : Nat) : Int) ∧ canT n room fs high ∧ (low = -1 ∨ ¬ canT n room fs low))
      ⟨-1, n, none, none, none, rfl, Same.refl H, by omega, Int.le_refl _, Int.le_refl _, start0, ⟨[], stp_enough (by omega), Nat.zero_le _⟩, .inl rfl⟩ ?_ ?_
    · rintro i σ H2 hi ⟨low, high, y5, y6, y7, rfl, s2, k1, k2, k3, k4, hc, hn⟩
      obtain ⟨e, he, he2⟩ : ∃ e : Nat, 2 ^ (60 - i) = 2 * e ∧ 2 ^ (60 - (i + 1)) = e := ⟨2 ^ (60 - (i + 1)), by rw [show 60 - i = (60 - (i + 1)) + 1 by omega, Nat.pow_succ]; omega, rfl⟩
      have e1 : 1 ≤ e := by rw [← he2]; exact Nat.one_le_two_pow
      rw [he] at k4
      refine ⟨.int high, rfl, .int low, rfl, _, _, rfl, rfl, _, _, rfl, rfl, decide ((1 : Int) < high - low), rfl, ?_⟩
      by_cases c : (1 : Int) < high - low
      · rw [decide_eq_true c]
        refine iteT ⟨.int low, rfl, .int high, rfl, _, _, rfl, rfl, _, _, rfl, rfl, ⟨by decide, by decide⟩, ?_⟩
        have md1 : low < (low + high) / 2 := by omega
        have md2 : (low + high) / 2 < high := by omega
        have md3 : high - (low + high) / 2 ≤ e := by omega
        have md4 : (low + high) / 2 - low ≤ e := by omega
        dsimp only
        generalize (low + high) / 2 = mid at md1 md2 md3 md4 ⊢
        refine ⟨.ref l, rfl, .int n, rfl, .int mid, rfl, l, n, mid, us, fs, rfl, sql (s2 _ _ hl), s2 _ _ hl, paired_imp (fun _ _ h => h.keep (kpD_same s2)) pr, fl, fun r er H3 p ws s3 hp pw => ?_, fun er H3 s3 => ?_⟩
        · have wl := Paired.length pw
          refine ⟨.ref p, rfl, rfl, true, rfl, iteT ⟨.ref p, rfl, p, _, rfl, .inl (sql hp), .int (room : Int), rfl, _, _, rfl, rfl, decide ((ws.length : Int) ≤ (room : Int)), rfl, ?_⟩⟩
          by_cases c2 : r.length ≤ room
          · rw [decide_eq_true (by omega)]
            exact iteT ⟨.int mid, rfl, low, mid, _, _, _, rfl, s2.trans s3, md1, k2, by omega, by rw [he2]; omega, ⟨r, er, c2⟩, hn⟩
          · rw [decide_eq_false (by omega)]
            exact iteF ⟨.int mid, rfl, mid, high, _, _, _, rfl, s2.trans s3, md2, by omega, k3, by rw [he2]; omega, hc, .inr fun ⟨r', er', hr'⟩ => by
              rw [er] at er'
              cases er'
              exact c2 hr'⟩
        · exact ⟨.non, rfl, rfl, false, rfl, iteF ⟨.int mid, rfl, mid, high, _, _, _, rfl, s2.trans s3, md2, by omega, k3, by rw [he2]; omega, hc, .inr fun ⟨r', er', hr'⟩ => by
              rw [er] at er'
              cases er'⟩⟩
      · rw [decide_eq_false c]
        exact iteF ⟨low, high, _, _, _, rfl, s2, k1, k2, k3, by rw [he2]; omega, hc, hn⟩
    · rintro σ H2 ⟨low, high, y5, y6, y7, rfl, s2, k1, k2, k3, k4, hc, hn⟩
      have ih : IsH n room fs high := isH_of up k1 (by simpa using k4) k2 hc hn
      refine ⟨.ref l, rfl, .int n, rfl, .int high, rfl, l, n, high, us, fs, rfl, sql (s2 _ _ hl), s2 _ _ hl, paired_imp (fun _ _ h => h.keep (kpD_same s2)) pr, fl, fun r er H3 p ws s3 hp pw => ?_, fun er H3 s3 => ?_⟩
      · exact q high r ih er H3 p ws (s2.trans s3) hp pw
      · obtain ⟨r, er', _⟩ := hc
        rw [er] at er'
        cases er'
end
end Kb

namespace Kb
open PySem PySem.Spec PyProof.Rows L2 RZ
abbrev sP_chosen : Stmt := topS 21
abbrev NP_chosen : List Str := ["room", "many", "marks", "gap", "found", "level", "at", "first"]
theorem scP_chosen : FnScope ["room", "many", "marks", "gap", "found", "level", "at", "first"] ["room", "many", "marks", "gap"] (defScope sP_chosen) := ⟨rfl, rfl, rfl, by decide +kernel, rfl, by decide +kernel, by decide +kernel⟩
abbrev DnChosen (K : PySem.W.Frag) (mg : Str → Option Value) := Dn K mg "_chosen" sP_chosen ["room", "many", "marks", "gap"]
section
variable {P : Program} {w : World} {K : PySem.W.Frag} {mg : Str → Option Value} {base : Heap}
/-- the told marks, as the program chooses among them -/
def spChosen (K : PySem.W.Frag) : Sp := fun vs H Q _ => ∃ (room : Nat) (n g : Int) (b : Addr) (ks : List V) (fs : List Fd), vs = [.int (room : Int), .int n, .ref b, .int g] ∧ Ptp H b ks ∧ Paired (DtAt K H) ks (fs.map fun f => mk2 f.m) ∧ fs.length ≤ 150 ∧
  (∀ r, stp n g 0 none fs = some r → r.length ≤ room → ∀ H' p ws, Same H H' → H' p = some (.lst ws) → Paired (DtAt K H') ws (r.map fun f => mk2 f.m) → Q (.ref p) H') ∧ (¬ canT n room fs g → ∀ H', Same H H' → Q .non H')
theorem ok_chosen (T : Blt mg) (d : DnChosen K mg) : FnOk P w K mg base CX0 1 d.f d.fd ["room", "many", "marks", "gap"] (spChosen K) := by
  refine d.F.ok scP_chosen (fun vs H Q E h => ?_) (fun cdv A outer s H vs Q E hr h => ?_)
  · obtain ⟨room, n, g, b, ks, fs, rfl, _⟩ := h
    rfl
  · obtain ⟨room, n, g, b, ks, fs, rfl, hb, pr, fl, q1, q2⟩ := h
    refine ⟨_, (pss_cons (ps_set (i := 4) scP_chosen.nd rfl (Or.inl rfl) (pe_lst pa_nil))
    (pss_cons (ps_set (i := 5) scP_chosen.nd rfl (Or.inl rfl) pe_int)
    (pss_cons (ps_set (i := 6) scP_chosen.nd rfl (Or.inl rfl) pe_int)
    (pss_cons (ps_while PassesOwn.never (pt_cmpR op_gt (pe_op op_sub (pv 1) (pv 5)) (pv 3) (nomark _))
      (pss_cons (ps_set (i := 7) scP_chosen.nd rfl (Or.inl rfl) (pv 6))
      (pss_cons (ps_while PassesOwn.never (PW.pt (pw_and (pt_cmpR op_lt (pv 6) (pe_callB call_len_seq (by rfl) T.n_len (by decide +kernel) (pa_cons (pv 2) pa_nil)) (nomark _)) (pw_and1 (pt_cmpR op_le (pe_op op_sub (pe_ix ix_tup (pe_ix ix_tup (pv 2) (pv 6) (fun _ _ => rfl)) pe_int (fun _ _ => rfl)) (pv 5)) (pv 3) (nomark _)))))
        (pss_one (ps_aug (i := 6) scP_chosen.nd rfl (Or.inl rfl) pe_int ip_add)))
      (pss_cons (ps_if (PW.pt (pw_or (pt_cmpR op_eq (pv 6) (pv 7) (nomark _)) (pw_or1 (pt_cmpR op_eq (pe_callB call_len_seq (by rfl) T.n_len (by decide +kernel) (pa_cons (pv 4) pa_nil)) (pv 0) (nomark _)))))
        (pss_one (ps_ret pe_non))
        pss_nil)
      (pss_cons (ps_expr (pe_bm PySem.F.plainAttrs_list PySem.F.slot_list_append PySem.F.type_list_append mt_append (pv 4) (pa_cons (pe_ix ix_tup (pv 2) (pe_op op_sub (pv 6) pe_int) (fun _ _ => rfl)) pa_nil)))
      (pss_one (ps_set (i := 5) scP_chosen.nd rfl (Or.inl rfl) (pe_ix ix_tup (pe_ix ix_tup (pv 2) (pe_op op_sub (pv 6) pe_int) (fun _ _ => rfl)) pe_int (fun _ _ => rfl)))))))))
    (pss_one (ps_ret (pv 4))))))), ?_⟩
    have kl : ks.length = fs.length := by rw [Paired.length pr, List.length_map]
    refine ⟨(by show 0 ≤ sizeLine; decide), fun k nk => ?_⟩
    have s1 := same_upd (o := .lst []) nk
    have hk1 : (upd H k (.lst [])) k = some (.lst []) := upd_same
    generalize upd H k (.lst []) = H1 at s1 hk1 ⊢
    have eo : ∀ o : Option (List Fd), o.map (([] : List Fd) ++ ·) = o := fun o => by cases o <;> rfl
    refine ⟨fun m σ H2 => ∃ (L : Int) (at' : Nat) (y7 : Option V) (ws : List V) (acc : List Fd), σ = [some (.int (room : Int)), some (.int n), some (.ref b), some (.int g), some (.ref k), some (.int L), some (.int (at' : Int)), y7] ∧ Same H H2 ∧ H2 k = some (.lst ws) ∧ Paired (DtAt K H2) ws (acc.map fun f => mk2 f.m) ∧ at' ≤ fs.length ∧ acc.length ≤ room ∧ acc.length ≤ at' ∧ stp n g 0 none fs = (stp n g L none (fs.drop at')).map (acc ++ ·) ∧ m = fs.length - at', ⟨_, 0, 0, none, [], [], rfl, s1, hk1, .nil, Nat.zero_le _, Nat.zero_le _, Nat.le_refl _, (eo _).symm, rfl⟩, ?_⟩
    rintro m σ H2 ⟨L, at', y7, ws, acc, rfl, s2, hk, pw, ha, hr', haa, he, rfl⟩
    refine ⟨.int n, rfl, .int L, rfl, _, _, rfl, rfl, .int g, rfl, _, _, rfl, rfl, decide (g < n - L), rfl, ?_⟩
    by_cases c : n - L ≤ g
    · rw [decide_eq_false (by omega)]
      rw [stp_enough c] at he
      have he : stp n g 0 none fs = some (acc ++ []) := he
      rw [List.append_nil] at he
      exact iteF ⟨.ref k, rfl, q1 acc he hr' H2 k ws s2 hk pw⟩
    · rw [decide_eq_true (by omega)]
      refine iteT ⟨fun σ H' => ∃ m', m' < fs.length - at' ∧ (∃ (L : Int) (at' : Nat) (y7 : Option V) (ws : List V) (acc : List Fd), σ = [some (.int (room : Int)), some (.int n), some (.ref b), some (.int g), some (.ref k), some (.int L), some (.int (at' : Int)), y7] ∧ Same H H' ∧ H' k = some (.lst ws) ∧ Paired (DtAt K H') ws (acc.map fun f => mk2 f.m) ∧ at' ≤ fs.length ∧ acc.length ≤ room ∧ acc.length ≤ at' ∧ stp n g 0 none fs = (stp n g L none (fs.drop at')).map (acc ++ ·) ∧ m' = fs.length - at'), fun _ _ h => h, ?_⟩
      refine ⟨.int (at' : Int), rfl, ?_⟩
      refine ⟨fun m σ H3 => ∃ j : Nat, H2 = H3 ∧ σ = [some (.int (room : Int)), some (.int n), some (.ref b), some (.int g), some (.ref k), some (.int L), some (.int (j : Int)), some (.int (at' : Int))] ∧ at' ≤ j ∧ j ≤ fs.length ∧ (j = at' ∨ ∃ h, fs[j - 1]? = some h ∧ at' < j ∧ stp n g L none (fs.drop at') = stp n g L (some h) (fs.drop j)) ∧ m = fs.length - j, ⟨_, at', rfl, rfl, Nat.le_refl _, ha, .inl rfl, rfl⟩, ?_⟩
      rintro m σ H3 ⟨j, rfl, rfl, j1, j2, hj, rfl⟩
      refine ⟨.int (j : Int), rfl, .ref b, rfl, b, _, rfl, .inr (hb.same s2).seq, _, _, rfl, rfl, decide ((j : Int) < (ks.length : Int)), rfl, ?_⟩
      by_cases cj : j < fs.length
      · rw [decide_eq_true (by omega)]
        have hkj : ks[j]? = some (ks[j]'(by omega)) := List.getElem?_eq_getElem (by omega)
        obtain ⟨dm, hdm, atm⟩ := paired_at pr hkj
        obtain ⟨f, hf, rfl⟩ := map_at hdm
        obtain ⟨u, fu, hu0, hu⟩ := mk_at (atm.same s2)
        rw [hu0] at hkj
        have hd : fs.drop j = f :: fs.drop (j + 1) := by
          obtain ⟨hlt, e⟩ := List.getElem?_eq_some_iff.mp hf
          rw [List.drop_eq_getElem_cons hlt, e]
        refine iteT ⟨.ref b, rfl, .int (j : Int), rfl, b, _, _, _, rfl, rfl, (hb.same s2).seq, atI_nat hkj, u, _, _, _, rfl, rfl, hu.ob.seq, atI_nat (j := 2) rfl, .int L, rfl, _, _, rfl, rfl, .int g, rfl, _, _, rfl, rfl, decide (f.x - L ≤ g), rfl, ?_⟩
        by_cases cx : f.x - L ≤ g
        · rw [decide_eq_true cx]
          refine iteT ⟨fun σ H' => ∃ m', m' < fs.length - j ∧ (∃ j : Nat, H2 = H' ∧ σ = [some (.int (room : Int)), some (.int n), some (.ref b), some (.int g), some (.ref k), some (.int L), some (.int (j : Int)), some (.int (at' : Int))] ∧ at' ≤ j ∧ j ≤ fs.length ∧ (j = at' ∨ ∃ h, fs[j - 1]? = some h ∧ at' < j ∧ stp n g L none (fs.drop at') = stp n g L (some h) (fs.drop j)) ∧ m' = fs.length - j), fun _ _ h => h, ?_⟩
          refine ⟨.int (j : Int), rfl, _, _, rfl, rfl, ?_⟩
          refine ⟨_, by omega, j + 1, rfl, rfl, by omega, cj, .inr ⟨f, hf, by omega, ?_⟩, rfl⟩
          rcases hj with hj | ⟨h, hh, hlt, hst⟩
          · subst hj
            rw [hd, stp_go c cx]
          · rw [hst, hd, stp_go c cx]
        · rw [decide_eq_false cx]
          refine iteF ?_
          have hend : ∀ m r, fs.drop j = m :: r → ¬ m.x - L ≤ g := fun m r z => by rw [hd] at z; cases z; exact cx
          rcases hj with hj | ⟨h, hh, hlt, hst⟩
          · subst hj
            refine ⟨.int (j : Int), rfl, .int (j : Int), rfl, rfl, true, congrArg V.bl (decide_eq_true rfl), iteT (q2 ?_ H2 s2)⟩
            rintro ⟨r, er, _⟩
            rw [he, stp_none c hend] at er
            cases er
          · have hne : ¬ ((j : Int) = (at' : Int)) := by omega
            refine ⟨.int (j : Int), rfl, .int (at' : Int), rfl, rfl, false, congrArg V.bl (by rw [dec_int]; exact decide_eq_false hne), iteF ?_⟩
            have hk2 : ks[j - 1]? = some (ks[j - 1]'(by omega)) := List.getElem?_eq_getElem (by omega)
            obtain ⟨dm, hdm, atm⟩ := paired_at pr hk2
            obtain ⟨h', hh', rfl⟩ := map_at hdm
            rw [hh] at hh'
            cases hh'
            obtain ⟨u, fu, hu0, hu⟩ := mk_at (atm.same s2)
            rw [hu0] at hk2
            have atu : DtAt K H2 (.ref u) (mk2 h.m) := by rw [← hu0]; exact atm.same s2
            have he2 : stp n g 0 none fs = (stp n g h.y none (fs.drop j)).map ((acc ++ [h]) ++ ·) := by
              rw [he, hst, stp_take c hend]
              cases stp n g h.y none (fs.drop j) with
              | none => rfl
              | some o => show some (acc ++ h :: o) = some ((acc ++ [h]) ++ o); rw [List.append_assoc]; rfl
            have wl : ws.length = acc.length := by rw [Paired.length pw, List.length_map]
            refine ⟨.ref k, rfl, k, ws, rfl, .inl (sql hk), .int (room : Int), rfl, rfl, decide ((ws.length : Int) = (room : Int)), by rw [dec_int]; rfl, ?_⟩
            by_cases cr : acc.length = room
            · rw [decide_eq_true (by omega)]
              refine iteT (q2 ?_ H2 s2)
              rintro ⟨r, er, hr2⟩
              rw [he2] at er
              cases e3 : stp n g h.y none (fs.drop j) with
              | none => rw [e3] at er; cases er
              | some o =>
                rw [e3] at er
                cases er
                rw [List.length_append, List.length_append, List.length_singleton] at hr2
                omega
            · rw [decide_eq_false (by omega)]
              have ej : ((j : Nat) : Int) - 1 = ((j - 1 : Nat) : Int) := by omega
              have hix : atI ks ((j : Int) - 1) = some (.ref u) := by rw [ej]; exact atI_nat hk2
              refine iteF ⟨.ref k, rfl, .inl ⟨rfl, _, sql hk⟩, .ref b, rfl, .int (j : Int), rfl, _, _, rfl, rfl, b, _, _, _, rfl, rfl, (hb.same s2).seq, hix, k, ws, .ref u, rfl, rfl, hk, by rw [sizeLine_eq]; omega, ?_⟩
              have s3 : Same H (upd H2 k (.lst (ws ++ [.ref u]))) := Same.put s2 nk
              have hk3 : (upd H2 k (.lst (ws ++ [.ref u]))) k = some (.lst (ws ++ [.ref u])) := upd_same
              have kp : KpD H2 (upd H2 k (.lst (ws ++ [.ref u]))) := kpD_list hk
              have pw3 : Paired (DtAt K (upd H2 k (.lst (ws ++ [.ref u])))) (ws ++ [.ref u]) ((acc ++ [h]).map fun f => mk2 f.m) := by
                rw [List.map_append]
                exact paired_app (paired_imp (fun _ _ h => h.keep kp) pw) (.cons (atu.keep kp) .nil)
              have hu3 := kp.t _ _ hu.ob
              generalize upd H2 k (.lst (ws ++ [.ref u])) = H3 at s3 hk3 pw3 hu3 ⊢
              refine ⟨.ref b, rfl, .int (j : Int), rfl, _, _, rfl, rfl, b, _, _, _, rfl, rfl, (hb.same s3).seq, hix, u, _, _, _, rfl, rfl, hu3.seq, atI_nat (j := 3) rfl, ?_⟩
              exact ⟨_, by omega, h.y, j, _, _, acc ++ [h], rfl, s3, hk3, pw3, j2, by rw [List.length_append, List.length_singleton]; omega, by rw [List.length_append, List.length_singleton]; omega, he2, rfl⟩
      · rw [decide_eq_false (by omega)]
        refine iteF ?_
        have hend : ∀ m r, fs.drop j = m :: r → ¬ m.x - L ≤ g := fun m r z => by rw [List.drop_eq_nil_of_le (by omega)] at z; cases z
        rcases hj with hj | ⟨h, hh, hlt, hst⟩
        · subst hj
          refine ⟨.int (j : Int), rfl, .int (j : Int), rfl, rfl, true, congrArg V.bl (decide_eq_true rfl), iteT (q2 ?_ H2 s2)⟩
          rintro ⟨r, er, _⟩
          rw [he, stp_none c hend] at er
          cases er
        · have hne : ¬ ((j : Int) = (at' : Int)) := by omega
          refine ⟨.int (j : Int), rfl, .int (at' : Int), rfl, rfl, false, congrArg V.bl (by rw [dec_int]; exact decide_eq_false hne), iteF ?_⟩
          have hk2 : ks[j - 1]? = some (ks[j - 1]'(by omega)) := List.getElem?_eq_getElem (by omega)
          obtain ⟨dm, hdm, atm⟩ := paired_at pr hk2
          obtain ⟨h', hh', rfl⟩ := map_at hdm
          rw [hh] at hh'
          cases hh'
          obtain ⟨u, fu, hu0, hu⟩ := mk_at (atm.same s2)
          rw [hu0] at hk2
          have atu : DtAt K H2 (.ref u) (mk2 h.m) := by rw [← hu0]; exact atm.same s2
          have he2 : stp n g 0 none fs = (stp n g h.y none (fs.drop j)).map ((acc ++ [h]) ++ ·) := by
            rw [he, hst, stp_take c hend]
            cases stp n g h.y none (fs.drop j) with
            | none => rfl
            | some o => show some (acc ++ h :: o) = some ((acc ++ [h]) ++ o); rw [List.append_assoc]; rfl
          have wl : ws.length = acc.length := by rw [Paired.length pw, List.length_map]
          refine ⟨.ref k, rfl, k, ws, rfl, .inl (sql hk), .int (room : Int), rfl, rfl, decide ((ws.length : Int) = (room : Int)), by rw [dec_int]; rfl, ?_⟩
          by_cases cr : acc.length = room
          · rw [decide_eq_true (by omega)]
            refine iteT (q2 ?_ H2 s2)
            rintro ⟨r, er, hr2⟩
            rw [he2] at er
            cases e3 : stp n g h.y none (fs.drop j) with
            | none => rw [e3] at er; cases er
            | some o =>
              rw [e3] at er
              cases er
              rw [List.length_append, List.length_append, List.length_singleton] at hr2
              omega
          · rw [decide_eq_false (by omega)]
            have ej : ((j : Nat) : Int) - 1 = ((j - 1 : Nat) : Int) := by omega
            have hix : atI ks ((j : Int) - 1) = some (.ref u) := by rw [ej]; exact atI_nat hk2
            refine iteF ⟨.ref k, rfl, .inl ⟨rfl, _, sql hk⟩, .ref b, rfl, .int (j : Int), rfl, _, _, rfl, rfl, b, _, _, _, rfl, rfl, (hb.same s2).seq, hix, k, ws, .ref u, rfl, rfl, hk, by rw [sizeLine_eq]; omega, ?_⟩
            have s3 : Same H (upd H2 k (.lst (ws ++ [.ref u]))) := Same.put s2 nk
            have hk3 : (upd H2 k (.lst (ws ++ [.ref u]))) k = some (.lst (ws ++ [.ref u])) := upd_same
            have kp : KpD H2 (upd H2 k (.lst (ws ++ [.ref u]))) := kpD_list hk
            have pw3 : Paired (DtAt K (upd H2 k (.lst (ws ++ [.ref u])))) (ws ++ [.ref u]) ((acc ++ [h]).map fun f => mk2 f.m) := by
              rw [List.map_append]
              exact paired_app (paired_imp (fun _ _ h => h.keep kp) pw) (.cons (atu.keep kp) .nil)
            have hu3 := kp.t _ _ hu.ob
            generalize upd H2 k (.lst (ws ++ [.ref u])) = H3 at s3 hk3 pw3 hu3 ⊢
            refine ⟨.ref b, rfl, .int (j : Int), rfl, _, _, rfl, rfl, b, _, _, _, rfl, rfl, (hb.same s3).seq, hix, u, _, _, _, rfl, rfl, hu3.seq, atI_nat (j := 3) rfl, ?_⟩
            exact ⟨_, by omega, h.y, j, _, _, acc ++ [h], rfl, s3, hk3, pw3, j2, by rw [List.length_append, List.length_singleton]; omega, by rw [List.length_append, List.length_singleton]; omega, he2, rfl⟩
end
end Kb

namespace Kb
open PySem PySem.Spec PyProof.Rows L2 RZ
abbrev sP_thin : Stmt := topS 20
abbrev NP_thin : List Str := ["room", "many", "marks", "low", "high", "middle"]
theorem scP_thin : FnScope ["room", "many", "marks", "low", "high", "middle"] ["room", "many", "marks"] (defScope sP_thin) := ⟨rfl, rfl, rfl, by decide +kernel, rfl, by decide +kernel, by decide +kernel⟩
abbrev DnThin (K : PySem.W.Frag) (mg : Str → Option Value) := Dn K mg "_thin" sP_thin ["room", "many", "marks"]
section
variable {P : Program} {w : World} {K : PySem.W.Frag} {mg : Str → Option Value} {base : Heap}
def spThin (K : PySem.W.Frag) : Sp := fun vs H Q _ => ∃ (room : Nat) (n : Int) (b : Addr) (ks : List V) (fs : List Fd), vs = [.int (room : Int), .int n, .ref b] ∧ Ptp H b ks ∧ Paired (DtAt K H) ks (fs.map fun f => mk2 f.m) ∧ fs.length ≤ 150 ∧ room ≤ 64 ∧ 0 ≤ n ∧ n ≤ 2 ^ 41 ∧ Up fs ∧
  (fs.length ≤ room → ∀ H' p, Same H H' → DtAt K H' (.ref p) (rk2 room n (fs.map Fd.m)) → Q (.ref p) H') ∧
  (∀ g r, room < fs.length → IsH n room fs g → stp n g 0 none fs = some r → ∀ H' p, Same H H' → DtAt K H' (.ref p) (rk2 room n (r.map Fd.m)) → Q (.ref p) H')
theorem ok_thin (T : Blt mg) (dP_chosen : DnChosen K mg) (d : DnThin K mg) : FnOk P w K mg base CX0 2 d.f d.fd ["room", "many", "marks"] (spThin K) := by
  have GP_chosen : FnOk P w K mg base CX0 1 dP_chosen.f dP_chosen.fd ["room", "many", "marks", "gap"] (spChosen K) := ok_chosen T dP_chosen
  refine d.F.ok scP_thin (fun vs H Q E h => ?_) (fun cdv A outer s H vs Q E hr h => ?_)
  · obtain ⟨room, n, b, ks, fs, rfl, _⟩ := h
    rfl
  · obtain ⟨room, n, b, ks, fs, rfl, hb, pr, fl, r64, n0, n1, up, q1, q2⟩ := h
    refine ⟨_, (pss_cons (ps_if (pt_cmpR op_le (pe_callB call_len_seq (by rfl) T.n_len (by decide +kernel) (pa_cons (pv 2) pa_nil)) (pv 0) (nomark _))
      (pss_one (ps_ret (pe_tupF (pa_cons (pv 0) (pa_cons (pv 1) (pa_cons (pe_callTy call_tupleT (by rfl) T.n_tuple (by decide +kernel) (pa_cons (pv 2) pa_nil)) pa_nil))))))
      pss_nil)
    (pss_cons (ps_set (i := 3) scP_thin.nd rfl (Or.inl rfl) (pe_un un_neg pe_int))
    (pss_cons (ps_set (i := 4) scP_thin.nd rfl (Or.inl rfl) (pv 1))
    (pss_cons (ps_while PassesOwn.never (pt_cmpR op_gt (pe_op op_sub (pv 4) (pv 3)) pe_int (nomark _))
      (pss_cons (ps_set (i := 5) scP_thin.nd rfl (Or.inl rfl) (pe_op op_fdiv (pe_op op_add (pv 3) (pv 4)) pe_int))
      (pss_one (ps_if (pt_cmpR op_isN (pe_call GP_chosen (hr.mono (by omega)) (by rfl) dP_chosen.g dP_chosen.F.kp dP_chosen.b .nil pass0 (pa_cons (pv 0) (pa_cons (pv 1) (pa_cons (pv 2) (pa_cons (pv 5) pa_nil))))) pe_non (nomark _))
        (pss_one (ps_set (i := 3) scP_thin.nd rfl (Or.inl rfl) (pv 5)))
        (pss_one (ps_set (i := 4) scP_thin.nd rfl (Or.inl rfl) (pv 5)))))))
    (pss_one (ps_ret (pe_tupF (pa_cons (pv 0) (pa_cons (pv 1) (pa_cons (pe_callTy call_tupleF (by rfl) T.n_tuple (by decide +kernel) (pa_cons (pe_call GP_chosen (hr.mono (by omega)) (by rfl) dP_chosen.g dP_chosen.F.kp dP_chosen.b .nil pass0 (pa_cons (pv 0) (pa_cons (pv 1) (pa_cons (pv 2) (pa_cons (pv 4) pa_nil))))) pa_nil)) pa_nil)))))))))), ?_⟩
    have kl : ks.length = fs.length := by rw [Paired.length pr, List.length_map]
    have p41 : (2 : Int) ^ 41 = 2199023255552 := by decide
    have p90 : (2 : Nat) ^ 90 = 1237940039285380274899124224 := by decide
    have mkd : ∀ (G : Hp) (p q : Addr) (ws : List V) (r : List Fd), Ptp G p [.int (room : Int), .int n, .ref q] → Ptp G q ws → Paired (DtAt K G) ws (r.map fun f => mk2 f.m) → r.length ≤ 150 → DtAt K G (.ref p) (rk2 room n (r.map Fd.m)) := fun G p q ws r hp hq pw rl => by
      rw [rk2, List.map_map]
      have wl : ws.length = r.length := by rw [Paired.length pw, List.length_map]
      exact DtAt.mk hp (by show 3 ≤ 5000; decide) (.cons (.lf ⟨rfl, by omega⟩) (.cons (.lf ⟨rfl, by omega⟩) (.cons (DtAt.mk hq (by omega) pw) .nil)))
    refine ⟨.ref b, rfl, b, _, rfl, .inr hb.seq, .int (room : Int), rfl, _, _, rfl, rfl, decide ((ks.length : Int) ≤ (room : Int)), rfl, ?_⟩
    by_cases c : fs.length ≤ room
    · rw [decide_eq_true (by omega)]
      refine iteT ⟨.int (room : Int), rfl, .int n, rfl, .ref b, rfl, b, _, rfl, hb.seq, (by show 3 ≤ sizeLine; decide), fun t o nt ho => ?_⟩
      have s1 := same_upd (o := .frz o (.tup [.int (room : Int), .int n, .ref b])) nt
      exact q1 c _ t s1 (mkd _ t b ks fs ⟨o, upd_same, ho⟩ (hb.same s1) (paired_imp (fun _ _ h => h.same s1) pr) fl)
    · rw [decide_eq_false (by omega)]
      refine iteF ⟨_, rfl, .int n, rfl, ?_⟩
      refine ⟨fun m σ H2 => ∃ (low high : Int) (y5 : Option V), σ = [some (.int (room : Int)), some (.int n), some (.ref b), some (.int low), some (.int high), y5] ∧ Same H H2 ∧ low < high ∧ -1 ≤ low ∧ high ≤ n ∧ canT n room fs high ∧ (low = -1 ∨ ¬ canT n room fs low) ∧ m = (high - low).toNat,
        ⟨_, -1, n, none, rfl, Same.refl H, by omega, Int.le_refl _, Int.le_refl _, ⟨[], stp_enough (by omega), Nat.zero_le _⟩, .inl rfl, rfl⟩, ?_⟩
      rintro m σ H2 ⟨low, high, y5, rfl, s2, k1, k2, k3, hc, hn, rfl⟩
      refine ⟨.int high, rfl, .int low, rfl, _, _, rfl, rfl, _, _, rfl, rfl, decide ((1 : Int) < high - low), rfl, ?_⟩
      by_cases cc : (1 : Int) < high - low
      · rw [decide_eq_true cc]
        refine iteT ⟨fun σ H' => ∃ m', m' < (high - low).toNat ∧ (∃ (low high : Int) (y5 : Option V), σ = [some (.int (room : Int)), some (.int n), some (.ref b), some (.int low), some (.int high), y5] ∧ Same H H' ∧ low < high ∧ -1 ≤ low ∧ high ≤ n ∧ canT n room fs high ∧ (low = -1 ∨ ¬ canT n room fs low) ∧ m' = (high - low).toNat), fun _ _ h => h, ?_⟩
        refine ⟨.int low, rfl, .int high, rfl, _, _, rfl, rfl, _, _, rfl, rfl, ⟨by decide, by decide⟩, ?_⟩
        have md1 : low < (low + high) / 2 := by omega
        have md2 : (low + high) / 2 < high := by omega
        dsimp only
        generalize (low + high) / 2 = mid at md1 md2 ⊢
        refine ⟨.int (room : Int), rfl, .int n, rfl, .ref b, rfl, .int mid, rfl, room, n, mid, b, ks, fs, rfl, hb.same s2, paired_imp (fun _ _ h => h.same s2) pr, fl, fun r er hr2 H3 p ws s3 hp pw => ?_, fun hno H3 s3 => ?_⟩
        · refine ⟨rfl, false, rfl, iteF ⟨.int mid, rfl, ?_⟩⟩
          exact ⟨_, by omega, low, mid, _, rfl, s2.trans s3, md1, k2, by omega, ⟨r, er, hr2⟩, hn, rfl⟩
        · refine ⟨rfl, true, rfl, iteT ⟨.int mid, rfl, ?_⟩⟩
          exact ⟨_, by omega, mid, high, _, rfl, s2.trans s3, md2, by omega, k3, hc, .inr hno, rfl⟩
      · rw [decide_eq_false cc]
        have ih : IsH n room fs high := isH_of up k1 (by omega) k2 hc hn
        obtain ⟨r0, er0, hr0⟩ := hc
        refine iteF ⟨.int (room : Int), rfl, .int n, rfl, .int (room : Int), rfl, .int n, rfl, .ref b, rfl, .int high, rfl, room, n, high, b, ks, fs, rfl, hb.same s2, paired_imp (fun _ _ h => h.same s2) pr, fl, fun r er hr2 H3 p ws s3 hp pw => ?_, fun hno => absurd ⟨r0, er0, hr0⟩ hno⟩
        refine ⟨p, ws, rfl, sql hp, fun t4 o4 n4 ho4 => ⟨(by show 3 ≤ sizeLine; decide), fun t o nt ho => ?_⟩⟩
        have s4 := same_upd (o := .frz o4 (.tup ws)) n4
        have h4 : Ptp (upd H3 t4 (.frz o4 (.tup ws))) t4 ws := ⟨o4, upd_same, ho4⟩
        generalize upd H3 t4 (.frz o4 (.tup ws)) = H4 at s4 h4 nt ⊢
        have s5 := same_upd (o := .frz o (.tup [.int (room : Int), .int n, .ref t4])) nt
        exact q2 high r (by omega) ih er _ t (((s2.trans s3).trans s4).trans s5) (mkd _ t t4 ws r ⟨o, upd_same, ho⟩ (h4.same s5) (paired_imp (fun _ _ h => (h.same s4).same s5) pw) (by omega))
end
end Kb

namespace Kb
open PySem PySem.Spec PyProof.Rows L2 RZ
abbrev sP_thinned : Stmt := topS 19
abbrev NP_thinned : List Str := ["room", "many", "marks"]
theorem scP_thinned : FnScope ["room", "many", "marks"] ["room", "many", "marks"] (defScope sP_thinned) := ⟨rfl, rfl, rfl, by decide +kernel, rfl, by decide +kernel, by decide +kernel⟩
abbrev DnThinned (K : PySem.W.Frag) (mg : Str → Option Value) := Dn K mg "thinned" sP_thinned ["room", "many", "marks"]
/-- marks that are drawn are right ones -/
theorem mks_right {n : Int} {fs : List Fd} (ok : FsOk n fs) : mksB (.int n) (.tup (fs.map fun f => mk2 f.m)) = true := by
  have e0 : (fs.map fun f => mk2 f.m) = (fs.map Fd.m).map mk2 := by rw [List.map_map]; rfl
  show (decide (0 ≤ n) && ((fs.map fun f => mk2 f.m).all (mkB n) && (stB ((fs.map fun f => mk2 f.m).map mkO)).all id)) = true
  rw [decide_eq_true ok.n0, Bool.true_and, List.all_eq_true.mpr fun d hd => by
    obtain ⟨f, hf, rfl⟩ := List.mem_map.mp hd
    exact mkB_of ⟨fr_ok (by decide), ok.bd f hf⟩, Bool.true_and, e0, map_mkO]
  refine st_all.mpr fun i m o h1 h2 => ?_
  obtain ⟨f, hf, rfl⟩ := map_at h1
  obtain ⟨g, hg, rfl⟩ := map_at h2
  obtain ⟨a1, a2⟩ := ok.ad i f g hf hg
  have kk : f.k < g.k := by
    obtain ⟨hi', e1⟩ := List.getElem?_eq_some_iff.mp hf
    obtain ⟨hj', e2⟩ := List.getElem?_eq_some_iff.mp hg
    rw [← e1, ← e2]
    exact List.pairwise_iff_getElem.mp ok.ky i (i + 1) hi' hj' (by omega)
  have sclv : scl = 2688840 := rfl
  exact flB_iff.mpr ⟨(fr_lt (by decide) (by decide)).mpr (by rw [sclv]; omega), a1, a2⟩
section
variable {P : Program} {w : World} {K : PySem.W.Frag} {mg : Str → Option Value} {base : Heap}
/-- of a right room and right marks -/
def spThinnedP (K : PySem.W.Frag) : Sp := fun vs H Q _ => ∃ (room : Nat) (n : Int) (b : Addr) (ks : List V) (fs : List Fd), vs = [.int (room : Int), .int n, .ref b] ∧ Ptp H b ks ∧ Paired (DtAt K H) ks (fs.map fun f => mk2 f.m) ∧ FsOk n fs ∧ 1 ≤ room ∧ room ≤ 64 ∧
  (fs.length ≤ room → ∀ H' p, Same H H' → DtAt K H' (.ref p) (rk2 room n (fs.map Fd.m)) → Q (.ref p) H') ∧
  (∀ g r, room < fs.length → IsH n room fs g → stp n g 0 none fs = some r → ∀ H' p, Same H H' → DtAt K H' (.ref p) (rk2 room n (r.map Fd.m)) → Q (.ref p) H')
theorem ok_thinnedP (T : Blt mg) (gG : mg "gcd" = some (.builtin "math.gcd")) (cM : Cst mg "MOST_ROOM" (.int 64)) (dP_is_int : DnIsInt K mg) (dP_is_number : DnIsNumber K mg) (dP_is_room : DnIsRoom K mg) (dP_is_fraction : DnIsFraction K mg) (dP_is_less : DnIsLess K mg) (dP_is_mark : DnIsMark K mg) (dP_may_follow : DnMayFollow K mg) (dP_are_marks : DnAreMarks K mg) (dP_chosen : DnChosen K mg) (dP_thin : DnThin K mg) (d : DnThinned K mg) :
    FnOk P w K mg base CX0 5 d.f d.fd ["room", "many", "marks"] (spThinnedP K) := by
  have GP_is_room : FnOk P w K mg base CX0 2 dP_is_room.f dP_is_room.fd ["thing"] (spIsRoomD K) := ok_is_roomD T cM dP_is_int dP_is_room
  have GP_are_marks : FnOk P w K mg base CX0 4 dP_are_marks.f dP_are_marks.fd ["many", "marks"] (spAreMarks K) := ok_are_marks T gG dP_is_int dP_is_number dP_is_fraction dP_is_less dP_is_mark dP_may_follow dP_are_marks
  have GP_thin : FnOk P w K mg base CX0 2 dP_thin.f dP_thin.fd ["room", "many", "marks"] (spThin K) := ok_thin T dP_chosen dP_thin
  refine d.F.ok scP_thinned (fun vs H Q E h => ?_) (fun cdv A outer s H vs Q E hr h => ?_)
  · obtain ⟨room, n, b, ks, fs, rfl, _⟩ := h
    rfl
  · obtain ⟨room, n, b, ks, fs, rfl, hb, pr, ok, r1, r64, q1, q2⟩ := h
    refine ⟨_, (pss_cons (ps_if (pt_not (pt_val (pe_call GP_is_room (hr.mono (by omega)) (by rfl) dP_is_room.g dP_is_room.F.kp dP_is_room.b .nil pass0 (pa_cons (pv 0) pa_nil))))
      (pss_one ps_never)
      pss_nil)
    (pss_cons (ps_if (pt_not (pt_val (pe_call GP_are_marks (hr.mono (by omega)) (by rfl) dP_are_marks.g dP_are_marks.F.kp dP_are_marks.b .nil pass0 (pa_cons (pv 1) (pa_cons (pv 2) pa_nil)))))
      (pss_one ps_never)
      pss_nil)
    (pss_one (ps_ret (pe_call GP_thin (hr.mono (by omega)) (by rfl) dP_thin.g dP_thin.F.kp dP_thin.b .nil pass0 (pa_cons (pv 0) (pa_cons (pv 1) (pa_cons (pv 2) pa_nil)))))))), ?_⟩
    have n0 := ok.n0
    have n1 := ok.n1
    have fl := ok.len
    have p40 : (2 : Int) ^ 40 = 1099511627776 := by decide
    have p41 : (2 : Int) ^ 41 = 2199023255552 := by decide
    have kl : ks.length = fs.length := by rw [Paired.length pr, List.length_map]
    refine ⟨.int (room : Int), rfl, .int (room : Int), .int (room : Int), rfl, .lf ⟨rfl, by omega⟩, true, congrArg V.bl ?_, iteF ?_⟩
    · show (decide ((1 : Int) ≤ room) && decide ((room : Int) ≤ 64)) = true
      rw [decide_eq_true (by omega), decide_eq_true (by omega)]
      rfl
    refine ⟨.int n, rfl, .ref b, rfl, .int n, .ref b, .int n, _, rfl, .lf ⟨rfl, by omega⟩, DtAt.mk hb (by omega) pr, fun H1 s1 => ⟨true, congrArg V.bl (mks_right ok), iteF ?_⟩⟩
    refine ⟨.int (room : Int), rfl, .int n, rfl, .ref b, rfl, room, n, b, ks, fs, rfl, hb.same s1, paired_imp (fun _ _ h => h.same s1) pr, fl, r64, n0, by omega, ok.up, fun c H2 p s2 h => q1 c H2 p (s1.trans s2) h, fun g r c ih er H2 p s2 h => q2 g r c ih er H2 p (s1.trans s2) h⟩
end
end Kb

namespace Kb
open PySem PySem.Spec PyProof.Rows L2 RZ
abbrev sleast : Stmt := topS 36
abbrev Nleast : List Str := ["_law_room", "_law_many", "_law_marks_here", "_law_least_here", "_law_mask", "_law_some", "_law_k"]
theorem scleast : FnScope ["_law_room", "_law_many", "_law_marks_here", "_law_least_here", "_law_mask", "_law_some", "_law_k"] ["_law_room", "_law_many", "_law_marks_here"] (defScope sleast) := ⟨rfl, rfl, rfl, by decide +kernel, rfl, by decide +kernel, by decide +kernel⟩
abbrev Dnleast (K : PySem.W.Frag) (mg : Str → Option Value) := Dn K mg "_law_least" sleast ["_law_room", "_law_many", "_law_marks_here"]
section
variable {P : Program} {w : World} {K : PySem.W.Frag} {mg : Str → Option Value} {base : Heap}
def spLeast (K : PySem.W.Frag) : Sp := fun vs H Q _ => ∃ (room : Nat) (n : Int) (l : Addr) (us : List V) (fs : List Fd), vs = [.int (room : Int), .int n, .ref l] ∧ H l = some (.lst us) ∧ Paired (FdAt H) us fs ∧ fs.length ≤ 9 ∧ ∀ H', Same H H' → Q (.int (leastM n room fs (2 ^ fs.length))) H'
theorem ok_least (T : Blt mg) (dopen : Dnopen K mg) (d : Dnleast K mg) : FnOk P w K mg base CX0 2 d.f d.fd ["_law_room", "_law_many", "_law_marks_here"] (spLeast K) := by
  have Gopen : FnOk P w K mg base CX0 1 dopen.f dopen.fd ["_law_many", "_law_marks_here"] (spOpen K) := ok_open T dopen
  refine d.F.ok scleast (fun vs H Q E h => ?_) (fun cdv A outer s H vs Q E hr h => ?_)
  · obtain ⟨room, n, l, us, fs, rfl, _⟩ := h
    rfl
  · obtain ⟨room, n, l, us, fs, rfl, hl, pr, fl, q⟩ := h
    refine ⟨_, (pss_cons (ps_set (i := 3) scleast.nd rfl (Or.inl rfl) (pv 1))
    (pss_cons (ps_for PassesOwn.never rfl (pi_range1 (by rfl) T.n_range (pa_cons (pe_op op_shl pe_int (pe_callB call_len_seq (by rfl) T.n_len (by decide +kernel) (pa_cons (pv 2) pa_nil))) pa_nil)) (pg_name (i := 4) scleast.nd rfl (Or.inr rfl))
      (pss_cons (ps_setLc (i := 5) (own := [("_law_k", 6)]) (g := gName 6) rfl scleast.nd rfl rfl (sw_true rfl rfl rfl (by decide +kernel)) (pi_range1 (by rfl) T.n_range (pa_cons (pe_callB call_len_seq (by rfl) T.n_len (by decide +kernel) (pa_cons (pv 2) pa_nil)) pa_nil)) (blkOk_by (N := Nleast) (sc := defScope sleast) (by decide +kernel)) (fun _ _ _ _ _ => pg_name (i := 6) scleast.nd rfl (Or.inl rfl)) (fun _ _ _ _ _ => pts_one (pt_cmpR op_eq (pe_op op_modB (pe_op op_shr (pv 4) (pv 6)) pe_int) pe_int (nomark _))) (fun _ _ _ _ _ => (pe_ix (r := rIxL K) ix_list (pv 2) (pv 6) (fun _ _ => rfl))))
      (pss_one (ps_if (pt_cmpR op_le (pe_callB call_len_seq (by rfl) T.n_len (by decide +kernel) (pa_cons (pv 5) pa_nil)) (pv 0) (nomark _))
        (pss_one (ps_set (i := 3) scleast.nd rfl (Or.inl rfl) (pe_callB (call_min2 rfl) (by rfl) T.n_min (by decide +kernel) (pa_cons (pv 3) (pa_cons (pe_call Gopen (hr.mono (by omega)) (by rfl) dopen.g dopen.F.kp dopen.b .nil pass0 (pa_cons (pv 1) (pa_cons (pv 5) pa_nil))) pa_nil)))))
        pss_nil))))
    (pss_one (ps_ret (pv 3))))), ?_⟩
    have ul : us.length = fs.length := Paired.length pr
    have en : (1 : Int) * 2 ^ ((us.length : Int)).toNat = ((2 ^ fs.length : Nat) : Int) := by rw [Int.toNat_natCast, Int.one_mul, ul, Int.natCast_pow]; rfl
    have eb : 2 ^ fs.length ≤ 2 ^ 9 := Nat.pow_le_pow_right (by decide) fl
    have e9 : (2 : Nat) ^ 9 = 512 := by decide
    rw [e9] at eb
    have b0 : (0 : Int) ≤ ((2 ^ fs.length : Nat) : Int) := Int.natCast_nonneg _
    have b1 : ((2 ^ fs.length : Nat) : Int) ≤ 512 := Int.ofNat_le.mpr eb
    refine ⟨.int n, rfl, .ref l, rfl, l, us, rfl, .inl (sql hl), _, _, rfl, rfl, ⟨by omega, by omega, by decide⟩, ?_⟩
    refine ⟨((2 ^ fs.length : Nat) : Int), congrArg (fun v => [V.int v]) en, Int.le_trans (by decide) b0, Int.lt_of_le_of_lt b1 (by decide), ?_⟩
    rw [Int.toNat_natCast]
    refine for_range (lo := 0) (n := 2 ^ fs.length) (fun i σ H2 => ∃ (W : Int) (y4 y5 y6 : Option V), σ = [some (.int (room : Int)), some (.int n), some (.ref l), some (.int W), y4, y5, y6] ∧ Same H H2 ∧ W = leastM n room fs i) ⟨n, none, none, none, rfl, Same.refl H, rfl⟩ ?_ ?_
    · rintro i σ H2 hi ⟨W, y4, y5, y6, rfl, s2, hW⟩
      refine ⟨.ref l, rfl, l, us, rfl, .inl (sql (s2 _ _ hl)), us.length, rfl, by omega, by omega, fun D nD => ?_⟩
      rw [Int.toNat_natCast]
      refine lc_range (lo := 0) (n := us.length) (fun k H3 => Same H2 H3 ∧ ∃ ws, H3 D = some (.lst ws) ∧ Paired (FdAt H) ws (selM i (fs.take k)) ∧ ws.length ≤ k) ⟨same_upd nD, [], upd_same, (by show Paired _ [] (selM i []); exact .nil), Nat.le_refl _⟩ (fun k H3 hk g3 => ?_) (fun H3 g3 => ?_)
      · obtain ⟨s3, ws, hD, pw, wl⟩ := g3
        have huk : us[k]? = some us[k] := List.getElem?_eq_getElem hk
        obtain ⟨f, hf, hfa⟩ := paired_at pr huk
        have et : fs.take (k + 1) = fs.take k ++ [f] := by rw [List.take_add_one, hf]; rfl
        have ek : (fs.take k).length = k := by rw [List.length_take]; omega
        have es := sel_snoc (fs.take k) i f
        rw [ek, ← et] at es
        refine ⟨rfl, .int (0 + (i : Int)), rfl, .int (0 + (k : Int)), rfl, _, _, rfl, rfl, (by show (0 : Int) ≤ 0 + (k : Int); omega), _, _, rfl, rfl, (by decide : (0 : Int) < 2), fun m m0 m1 em => ?_⟩
        have em2 : m = ((i / 2 ^ k % 2 : Nat) : Int) := by
          rw [em, Int.zero_add, Int.zero_add, Int.toNat_natCast]
          norm_cast
        refine ⟨rfl, decide (m = 1), by rw [dec_int]; rfl, ?_⟩
        by_cases c : i / 2 ^ k % 2 = 1
        · rw [if_pos c] at es
          rw [decide_eq_true (by rw [em2, c]; rfl)]
          refine iteT ⟨.ref l, rfl, .int (0 + (k : Int)), rfl, l, us, _, _, rfl, rfl, sql (s3 _ _ (s2 _ _ hl)), (by rw [Int.zero_add]; exact atI_nat huk), ws, hD, by rw [sizeLine_eq]; omega, Same.put s3 nD, ws ++ [us[k]], upd_same, ?_, by rw [List.length_append, List.length_singleton]; omega⟩
          rw [es]
          exact paired_app pw (.cons hfa .nil)
        · rw [if_neg c] at es
          rw [decide_eq_false (by rw [em2]; omega)]
          exact iteF ⟨s3, ws, hD, by rw [es]; exact pw, by omega⟩
      · obtain ⟨s3, ws, hD, pw, wl⟩ := g3
        rw [ul, List.take_length] at pw
        have sl : ws.length = (selM i fs).length := Paired.length pw
        have s23 := s2.trans s3
        have pw3 : Paired (FdAt H3) ws (selM i fs) := paired_imp (fun _ _ h => h.keep (kpD_same s23)) pw
        refine ⟨.ref D, rfl, D, ws, rfl, .inl (sql hD), .int (room : Int), rfl, _, _, rfl, rfl, decide ((ws.length : Int) ≤ (room : Int)), rfl, ?_⟩
        have el : leastM n room fs (i + 1) = if (selM i fs).length ≤ room then (if opn n 0 0 (selM i fs) < leastM n room fs i then opn n 0 0 (selM i fs) else leastM n room fs i) else leastM n room fs i := rfl
        by_cases c : (selM i fs).length ≤ room
        · rw [if_pos c] at el
          rw [decide_eq_true (by omega)]
          refine iteT ⟨.int W, rfl, .int n, rfl, .ref D, rfl, n, D, ws, selM i fs, rfl, sql hD, pw3, _, _, rfl, ?_⟩
          refine ⟨_, _, _, _, rfl, s23, ?_⟩
          rw [el, hW]
        · rw [if_neg c] at el
          rw [decide_eq_false (by omega)]
          exact iteF ⟨W, _, _, _, rfl, s23, by rw [el]; exact hW⟩
    · rintro σ H2 ⟨W, y4, y5, y6, rfl, s2, hW⟩
      rw [← hW] at q
      exact ⟨_, rfl, q H2 s2⟩
end
end Kb

namespace Kb
open PySem PySem.Spec PyProof.Rows L2 RZ SrtR
abbrev sone : Stmt := topS 37
abbrev None : List Str := ["_law_hat_here", "_law_size", "_law_great", "_law_many", "_law_marks_here", "_law_room", "_law_given", "_law_told", "_law_least_here", "_law_kept", "_law_less"]
theorem scone : FnScope ["_law_hat_here", "_law_size", "_law_great", "_law_many", "_law_marks_here", "_law_room", "_law_given", "_law_told", "_law_least_here", "_law_kept", "_law_less"] ["_law_hat_here"] (defScope sone) := ⟨rfl, rfl, rfl, by decide +kernel, rfl, by decide +kernel, by decide +kernel⟩
abbrev Dnone (K : PySem.W.Frag) (mg : Str → Option Value) := Dn K mg "_law_one" sone ["_law_hat_here"]
theorem mk2_map_inj {ms ms' : List Mk} (h : ms.map mk2 = ms'.map mk2) : ms = ms' := by
  have := congrArg (List.map mkO) h
  rw [map_mkO, map_mkO] at this
  exact this
theorem rk2_inj {r n r' n' : Int} {ms ms' : List Mk} (h : rk2 r n ms = rk2 r' n' ms') : r = r' ∧ n = n' ∧ ms = ms' := by
  unfold rk2 at h
  injection h with h
  injection h with h1 h
  injection h with h2 h
  injection h with h3 _
  injection h1 with h1
  injection h2 with h2
  injection h3 with h3
  exact ⟨h1, h2, mk2_map_inj h3⟩
/-! drawn marks, some of them -/
theorem FsOk.pw {n : Int} {fs : List Fd} (ok : FsOk n fs) : fs.Pairwise fun f g => f.y ≤ g.w ∧ f.z ≤ g.x := by
  have key : ∀ (d i : Nat) (f g : Fd), fs[i]? = some f → fs[i + 1 + d]? = some g → f.y ≤ g.w ∧ f.z ≤ g.x := by
    intro d
    induction d with
    | zero => exact fun i f g h1 h2 => ok.ad i f g h1 h2
    | succ d ih =>
      intro i f g h1 h2
      have hl : i + 1 < fs.length := by
        have := (List.getElem?_eq_some_iff.mp h2).1
        omega
      have hm := List.getElem?_eq_getElem hl
      have a := ih (i + 1) _ g hm (by rw [← h2]; congr 1; omega)
      obtain ⟨b1, b2⟩ := ok.ad i f _ h1 hm
      have bm := ok.bd _ (List.mem_of_getElem? hm)
      have c1 : fs[i + 1].x < fs[i + 1].z := bm.bd
      have c2 : fs[i + 1].w < fs[i + 1].y := bm.ac
      omega
  refine List.pairwise_iff_getElem.mpr fun i j hi hj hij => ?_
  exact key (j - i - 1) i _ _ (List.getElem?_eq_getElem hi) (by rw [show i + 1 + (j - i - 1) = j by omega]; exact List.getElem?_eq_getElem hj)
theorem FsOk.sub {n : Int} {fs r : List Fd} (ok : FsOk n fs) (h : r.Sublist fs) : FsOk n r := by
  have pw := ok.pw.sublist h
  refine ⟨fun f hf => ok.bd f (h.subset hf), ok.ky.sublist h, fun i f g e1 e2 => ?_, fun f hf => ok.kb f (h.subset hf), ok.n0, ok.n1, Nat.le_trans h.length_le ok.len⟩
  obtain ⟨h1, rfl⟩ := List.getElem?_eq_some_iff.mp e1
  obtain ⟨h2, rfl⟩ := List.getElem?_eq_some_iff.mp e2
  exact List.pairwise_iff_getElem.mp pw i (i + 1) h1 h2 (by omega)
theorem FsOk.rk {n : Int} {fs : List Fd} {r : Nat} (ok : FsOk n fs) (r1 : 1 ≤ r) (r64 : r ≤ 64) (h : fs.length ≤ r) : RkOk (r : Int) n (fs.map Fd.m) := by
  have e0 : (fs.map fun f => mk2 f.m) = (fs.map Fd.m).map mk2 := by rw [List.map_map]; rfl
  have m := mks_right ok
  have m : (decide (0 ≤ n) && ((fs.map fun f => mk2 f.m).all (mkB n) && (stB ((fs.map fun f => mk2 f.m).map mkO)).all id)) = true := m
  rw [e0, map_mkO, Bool.and_eq_true, Bool.and_eq_true] at m
  refine ⟨by omega, by omega, ok.n0, fun k hk => ?_, m.2.2, by rw [List.length_map]; omega⟩
  have := (mks_is m.2.1).2
  rw [map_mkO] at this
  exact this k hk
theorem good_0 {n g : Int} : ∀ {S : List Fd} {L : Int}, good n g L S → (∀ f ∈ S, f.y ≤ n) → L ≤ n → 0 ≤ g
  | [], L, h, _, hL => by
    have h : n - L ≤ g := h
    omega
  | s :: S, L, h, hb, _ => good_0 (S := S) h.2 (fun f hf => hb f (List.mem_cons_of_mem _ hf)) (hb s List.mem_cons_self)
theorem good_gaps {n g : Int} : ∀ {S : List Fd} {L : Int}, good n g L S ↔ ∀ y ∈ gapsM L (S.map Fd.m) n, y ≤ g
  | [], L => by
    show n - L ≤ g ↔ ∀ y ∈ [n - L], y ≤ g
    rw [List.forall_mem_singleton]
  | s :: S, L => by
    show (s.x - L ≤ g ∧ good n g s.y S) ↔ ∀ y ∈ (s.x - L) :: gapsM s.y (S.map Fd.m) n, y ≤ g
    rw [List.forall_mem_cons, good_gaps]
theorem open_gaps {n : Int} {r : List Fd} {m : Int} (ok : FsOk n r) (hm : m ∈ gapsM 0 (r.map Fd.m) n) (hx : ∀ y ∈ gapsM 0 (r.map Fd.m) n, y ≤ m) : m = opn n 0 0 r := by
  have h1 := (opn_le.mp (Int.le_refl (opn n 0 0 r))).2
  have h2 := good_gaps.mp h1 m hm
  have g := good_gaps.mpr hx
  have h3 := opn_le.mpr ⟨good_0 g (fun f hf => (ok.bd f hf).cn) ok.n0, g⟩
  omega
theorem pl_rk {r n : Int} {ms : List Mk} : plI 4 (rk2 r n ms) = true := by
  have h : (ms.map mk2).all (plI 2) = true := List.all_eq_true.mpr fun d hd => by
    obtain ⟨m, _, rfl⟩ := List.mem_map.mp hd
    rfl
  show (true && (true && ((ms.map mk2).all (plI 2) && true))) = true
  rw [h]
  rfl
section
variable {P : Program} {w : World} {K : PySem.W.Frag} {mg : Str → Option Value} {base : Heap}
def spOne : Sp := fun vs H Q _ => ∃ a : Addr, vs = [.ref a] ∧ Ht a H ∧ ∀ H', Exw a H H' → Q (.bl true) H'
theorem ok_one (T : Blt mg) (gG : mg "gcd" = some (.builtin "math.gcd")) (EK : TxE K mg "NoRanks") (cM : Cst mg "MOST_ROOM" (.int 64)) (dP_is_int : DnIsInt K mg) (dP_is_number : DnIsNumber K mg) (dP_is_room : DnIsRoom K mg) (dP_is_fraction : DnIsFraction K mg) (dP_is_less : DnIsLess K mg) (dP_is_ranks : DnIsRanks K mg) (dP_are_marks : DnAreMarks K mg) (dP_is_mark : DnIsMark K mg) (dP_may_follow : DnMayFollow K mg) (dP_openness : DnOpenness K mg) (dP_chosen : DnChosen K mg) (dP_thin : DnThin K mg) (dP_thinned : DnThinned K mg) (ddraw : Dndraw K mg) (dsame : Dnsame K mg) (dany : Dnany K mg) (dgcd : Dngcd K mg) (dvalue : Dnvalue K mg) (dnumber : Dnnumber K mg) (dmarks : Dnmarks K mg) (das_told : Dnas_told K mg) (dsteps : Dnsteps K mg) (dthinned : Dnthinned K mg) (dopen : Dnopen K mg) (dleast : Dnleast K mg) (d : Dnone K mg) : FnOk P w K mg base CX0 7 d.f d.fd ["_law_hat_here"] spOne := by
  have Gdraw : FnOk P w K mg base CX0 1 ddraw.f ddraw.fd ["_law_hat_here", "_law_many"] spDraw := ok_draw T ddraw
  have Gany : FnOk P w K mg base CX0 2 dany.f dany.fd ["_law_hat_here", "_law_things"] spAny := ok_any T ddraw dany
  have Gmarks : FnOk P w K mg base CX0 4 dmarks.f dmarks.fd ["_law_hat_here", "_law_many"] spMarks := ok_marks T ddraw dany dnumber dmarks
  have Gas_told : FnOk P w K mg base CX0 3 das_told.f das_told.fd ["_law_room", "_law_many", "_law_marks_here"] (spAsTold K) := ok_as_told T dgcd dvalue das_told
  have GP_is_ranks : FnOk P w K mg base CX0 5 dP_is_ranks.f dP_is_ranks.fd ["thing"] (spIsRanks K) := ok_is_ranks T gG cM dP_is_int dP_is_number dP_is_room dP_is_fraction dP_is_less dP_is_mark dP_may_follow dP_are_marks dP_is_ranks
  have Gsame : FnOk P w K mg base CX0 6 dsame.f dsame.fd ["_law_actual", "_law_due"] (spSame K 4) := ok_same T dsame 5
  have GP_openness : FnOk P w K mg base (L2.CX P w) 6 dP_openness.f dP_openness.fd ["ranks"] (spOpenness K EK.C) := ok_openness T gG EK cM dP_is_int dP_is_number dP_is_room dP_is_fraction dP_is_less dP_is_mark dP_may_follow dP_are_marks dP_is_ranks dP_openness
  have GP_thinned : FnOk P w K mg base CX0 5 dP_thinned.f dP_thinned.fd ["room", "many", "marks"] (spThinnedP K) := ok_thinnedP T gG cM dP_is_int dP_is_number dP_is_room dP_is_fraction dP_is_less dP_is_mark dP_may_follow dP_are_marks dP_chosen dP_thin dP_thinned
  have Gopen : FnOk P w K mg base CX0 1 dopen.f dopen.fd ["_law_many", "_law_marks_here"] (spOpen K) := ok_open T dopen
  have Gsteps : FnOk P w K mg base CX0 1 dsteps.f dsteps.fd ["_law_marks_here", "_law_many", "_law_most"] (spSteps K) := ok_steps T dsteps
  have Gthinned : FnOk P w K mg base CX0 2 dthinned.f dthinned.fd ["_law_room", "_law_many", "_law_marks_here"] (spThinned K) := ok_thinnedL T dsteps dthinned
  have Gleast : FnOk P w K mg base CX0 2 dleast.f dleast.fd ["_law_room", "_law_many", "_law_marks_here"] (spLeast K) := ok_least T dopen dleast
  refine d.F.ok scone (fun vs H Q E h => ?_) (fun cdv A outer s H vs Q E hr h => ?_)
  · obtain ⟨a, rfl, _⟩ := h
    rfl
  · obtain ⟨a, rfl, w0, q⟩ := h
    refine ⟨_, (pss_cons (ps_set (i := 1) scone.nd rfl (Or.inl rfl) (pe_call Gany (hr.mono (by omega)) (by rfl) dany.g dany.F.kp dany.b .nil pass0 (pa_cons (pv 0) (pa_cons (pe_lst (pa_cons pe_int (pa_cons pe_int (pa_cons pe_int (pa_cons pe_int (pa_cons pe_int (pa_cons pe_int (pa_cons pe_int (pa_cons pe_int (pa_cons pe_int (pa_cons pe_int pa_nil))))))))))) pa_nil))))
    (pss_cons (ps_set (i := 2) scone.nd rfl (Or.inl rfl) (pe_cmpR op_eq (pe_call Gdraw (hr.mono (by omega)) (by rfl) ddraw.g ddraw.F.kp ddraw.b .nil pass0 (pa_cons (pv 0) (pa_cons pe_int pa_nil))) pe_int (nomark _)))
    (C8.pss_cut (ps_if (pt_val (pv 2))
      (pss_one (ps_set (i := 1) scone.nd rfl (Or.inl rfl) (pe_op op_add pe_int (pe_call Gdraw (hr.mono (by omega)) (by rfl) ddraw.g ddraw.F.kp ddraw.b .nil pass0 (pa_cons (pv 0) (pa_cons pe_int pa_nil))))))
      pss_nil)
    (pss_cons (ps_asg (pe_call Gmarks (hr.mono (by omega)) (by rfl) dmarks.g dmarks.F.kp dmarks.b .nil pass0 (pa_cons (pv 0) (pa_cons (pv 1) pa_nil))) (pg_tup (by rfl) (pgs_cons (pg_name (i := 3) scone.nd rfl (Or.inl rfl)) (pgs_cons (pg_name (i := 4) scone.nd rfl (Or.inl rfl)) pgs_nil))))
    (pss_cons (ps_set (i := 5) scone.nd rfl (Or.inl rfl) (pe_call Gany (hr.mono (by omega)) (by rfl) dany.g dany.F.kp dany.b .nil pass0 (pa_cons (pv 0) (pa_cons (pe_lst (pa_cons pe_int (pa_cons pe_int (pa_cons pe_int (pa_cons pe_int (pa_cons pe_int (pa_cons pe_int (pa_cons pe_int (pa_cons pe_int (pa_cons pe_int pa_nil)))))))))) pa_nil))))
    (C8.pss_cut (ps_if (pt_val (pv 2))
      (pss_one (ps_set (i := 5) scone.nd rfl (Or.inl rfl) (pe_call Gany (hr.mono (by omega)) (by rfl) dany.g dany.F.kp dany.b .nil pass0 (pa_cons (pv 0) (pa_cons (pe_lst (pa_cons pe_int (pa_cons pe_int (pa_cons pe_int (pa_cons pe_int (pa_cons pe_int pa_nil)))))) pa_nil)))))
      pss_nil)
    (C8.pss_cut (ps_if (pt_cmpR op_eq (pe_call Gdraw (hr.mono (by omega)) (by rfl) ddraw.g ddraw.F.kp ddraw.b .nil pass0 (pa_cons (pv 0) (pa_cons pe_int pa_nil))) pe_int (nomark _))
      (pss_one (ps_set (i := 5) scone.nd rfl (Or.inl rfl) (pe_callB (call_max2 rfl) (by rfl) T.n_max (by decide +kernel) (pa_cons pe_int (pa_cons (pe_callB (call_min2 rfl) (by rfl) T.n_min (by decide +kernel) (pa_cons pe_int (pa_cons (pe_op op_sub (pe_callB call_len_seq (by rfl) T.n_len (by decide +kernel) (pa_cons (pv 4) pa_nil)) (pe_call Gdraw (hr.mono (by omega)) (by rfl) ddraw.g ddraw.F.kp ddraw.b .nil pass0 (pa_cons (pv 0) (pa_cons pe_int pa_nil)))) pa_nil))) pa_nil)))))
      pss_nil)
    (pss_cons (ps_set (i := 6) scone.nd rfl (Or.inl rfl) (pe_ix ix_tup (pe_call Gas_told (hr.mono (by omega)) (by rfl) das_told.g das_told.F.kp das_told.b .nil pass0 (pa_cons (pv 5) (pa_cons (pv 3) (pa_cons (pv 4) pa_nil)))) pe_int (fun _ _ => rfl)))
    (pss_cons (ps_set (i := 7) scone.nd rfl (Or.inl rfl) (pe_call GP_thinned (hr.mono (by omega)) (by rfl) dP_thinned.g dP_thinned.F.kp dP_thinned.b .nil pass0 (pa_cons (pv 5) (pa_cons (pv 3) (pa_cons (pv 6) pa_nil)))))
    (pss_cons (ps_if (pt_cmpR op_le (pe_callB call_len_seq (by rfl) T.n_len (by decide +kernel) (pa_cons (pv 4) pa_nil)) (pv 5) (nomark _))
      (pss_one (ps_ret (pe_call Gsame (hr.mono (by omega)) (by rfl) dsame.g dsame.F.kp dsame.b .nil pass0 (pa_cons (pv 7) (pa_cons (pe_tupF (pa_cons (pv 5) (pa_cons (pv 3) (pa_cons (pv 6) pa_nil)))) pa_nil)))))
      pss_nil)
    (pss_cons (ps_set (i := 8) scone.nd rfl (Or.inl rfl) (pe_call Gopen (hr.mono (by omega)) (by rfl) dopen.g dopen.F.kp dopen.b .nil pass0 (pa_cons (pv 3) (pa_cons (pe_call Gthinned (hr.mono (by omega)) (by rfl) dthinned.g dthinned.F.kp dthinned.b .nil pass0 (pa_cons (pv 5) (pa_cons (pv 3) (pa_cons (pv 4) pa_nil)))) pa_nil))))
    (C8.pss_cut (ps_if (pt_not (pt_val (pv 2)))
      (pss_one (ps_set (i := 8) scone.nd rfl (Or.inl rfl) (pe_call Gleast (hr.mono (by omega)) (by rfl) dleast.g dleast.F.kp dleast.b .nil pass0 (pa_cons (pv 5) (pa_cons (pv 3) (pa_cons (pv 4) pa_nil))))))
      pss_nil)
    (pss_cons (ps_set (i := 9) scone.nd rfl (Or.inl rfl) (pe_call Gsteps (hr.mono (by omega)) (by rfl) dsteps.g dsteps.F.kp dsteps.b .nil pass0 (pa_cons (pv 4) (pa_cons (pv 3) (pa_cons (pv 8) pa_nil)))))
    (pss_cons (ps_if (PW.pt (pw_or (pt_cmpR op_isN (pv 9) pe_non (nomark _)) (pw_or (pt_cmpR op_gt (pe_callB call_len_seq (by rfl) T.n_len (by decide +kernel) (pa_cons (pv 9) pa_nil)) (pv 5) (nomark _)) (pw_or1 (pt_not (pt_val (pe_call Gsame (hr.mono (by omega)) (by rfl) dsame.g dsame.F.kp dsame.b .nil pass0 (pa_cons (pv 7) (pa_cons (pe_call Gas_told (hr.mono (by omega)) (by rfl) das_told.g das_told.F.kp das_told.b .nil pass0 (pa_cons (pv 5) (pa_cons (pv 3) (pa_cons (pv 9) pa_nil)))) pa_nil)))))))))
      (pss_one (ps_ret pe_bl))
      pss_nil)
    (pss_cons (ps_set (i := 10) scone.nd rfl (Or.inl rfl) (pe_call Gsteps (hr.mono (by omega)) (by rfl) dsteps.g dsteps.F.kp dsteps.b .nil pass0 (pa_cons (pv 4) (pa_cons (pv 3) (pa_cons (pe_op op_sub (pv 8) pe_int) pa_nil)))))
    (pss_cons (ps_if (PW.pt (pw_or (PW.pt (pw_and (pt_cmpR op_notN (pv 10) pe_non (nomark _)) (pw_and1 (pt_cmpR op_le (pe_callB call_len_seq (by rfl) T.n_len (by decide +kernel) (pa_cons (pv 10) pa_nil)) (pv 5) (nomark _))))) (pw_or1 (pt_cmpR op_notBl (pe_call GP_is_ranks (hr.mono (by omega)) (by rfl) dP_is_ranks.g dP_is_ranks.F.kp dP_is_ranks.b .nil pass0 (pa_cons (pv 7) pa_nil)) pe_bl (nomark _)))))
      (pss_one (ps_ret pe_bl))
      pss_nil)
    (pss_cons (ps_if (pt_not (pt_val (pe_call Gsame (hr.mono (by omega)) (by rfl) dsame.g dsame.F.kp dsame.b .nil pass0 (pa_cons (pe_callS GP_openness (hr.mono (by omega)) rfl dP_openness.g dP_openness.F.kp dP_openness.b (fun σ => passAt L2.takes0 σ) (pa_cons (pv 7) pa_nil)) (pa_cons (pv 8) pa_nil)))))
      (pss_one (ps_ret pe_bl))
      pss_nil)
    (pss_one (ps_ret (pe_cmpR op_le (pv 8) (pe_op op_sub (pe_op op_add (pe_call Gopen (hr.mono (by omega)) (by rfl) dopen.g dopen.F.kp dopen.b .nil pass0 (pa_cons (pv 3) (pa_cons (pv 4) pa_nil))) (pe_op op_fdiv (pe_op op_sub (pe_op op_add (pv 3) (pv 5)) pe_int) (pv 5))) pe_int) (nomark _))))))))))))))))))))), ?_⟩
    refine ⟨.ref a, rfl, (by show 10 ≤ sizeLine; decide), fun l1 nl1 => ?_⟩
    have s1 := same_upd (o := .lst [.int 0, .int 1, .int 2, .int 3, .int 4, .int 5, .int 6, .int 7, .int 8, .int 9]) nl1
    refine ⟨a, l1, _, rfl, w0.same s1, w0.nea nl1, upd_same, (by show 0 < 10; decide), (by show 10 ≤ 100000; decide), fun H1 v1 x1 w1 hv1 => ?_⟩
    obtain ⟨k, rfl, hk1, hk2⟩ : ∃ k : Nat, v1 = .int (k : Int) ∧ 0 ≤ k ∧ k ≤ 9 := by
      simp only [List.mem_cons, List.not_mem_nil, or_false] at hv1
      rcases hv1 with rfl | rfl | rfl | rfl | rfl | rfl | rfl | rfl | rfl | rfl
      · exact ⟨0, rfl, by decide, by decide⟩
      · exact ⟨1, rfl, by decide, by decide⟩
      · exact ⟨2, rfl, by decide, by decide⟩
      · exact ⟨3, rfl, by decide, by decide⟩
      · exact ⟨4, rfl, by decide, by decide⟩
      · exact ⟨5, rfl, by decide, by decide⟩
      · exact ⟨6, rfl, by decide, by decide⟩
      · exact ⟨7, rfl, by decide, by decide⟩
      · exact ⟨8, rfl, by decide, by decide⟩
      · exact ⟨9, rfl, by decide, by decide⟩
    clear hv1
    have x01 := (Same.exw (a := a) s1).trans x1
    refine ⟨.ref a, rfl, a, 10, rfl, w1, by decide, by decide, fun H2 gr x2 w2 _ _ => ⟨rfl, ?_⟩⟩
    generalize decide (V.int gr = V.int 0) = great
    have x02 := x01.trans x2
    -- the size
    refine ⟨fun σ H3 => ∃ k : Nat, σ = [some (.ref a), some (.int (k : Int)), some (.bl great), none, none, none, none, none, none, none, none] ∧ Exw a H H3 ∧ Ht a H3 ∧ k ≤ 150 ∧ (great = false → k ≤ 9), ?_, ?_⟩
    · refine ⟨.bl great, rfl, great, rfl, ?_⟩
      cases great with
      | true =>
        refine iteT ⟨.ref a, rfl, a, 76, rfl, w2, by decide, by decide, fun H3 r x3 w3 r0 r1 => ⟨_, _, rfl, rfl, ?_⟩⟩
        obtain ⟨m, hm⟩ := Int.eq_ofNat_of_zero_le (show (0 : Int) ≤ 65 + r by omega)
        dsimp only
        rw [hm]
        exact ⟨m, rfl, x02.trans x3, w3, by omega, fun z => nomatch z⟩
      | false => exact iteF ⟨k, rfl, x02, w2, by omega, fun _ => hk2⟩
    rintro σ H3 ⟨k, rfl, x03, w3, k150, k9⟩
    clear x01 x02 x1 x2 w1 w2 s1 nl1
    refine ⟨.ref a, rfl, .int (k : Int), rfl, a, k, rfl, w3, k150, fun H4 p l4 n us fs x4 w4 la hp hl pr ok fk => ?_⟩
    have x04 := x03.trans x4
    refine ⟨p, _, rfl, hp.seq, rfl, _, _, rfl, _, _, rfl, rfl, ?_⟩
    have ul : us.length = fs.length := Paired.length pr
    have fl := ok.len
    refine ⟨.ref a, rfl, (by show 9 ≤ sizeLine; decide), fun l5 nl5 => ?_⟩
    have s5 := same_upd (o := .lst [.int 1, .int 1, .int 2, .int 2, .int 3, .int 4, .int 5, .int 8, .int 64]) nl5
    refine ⟨a, l5, _, rfl, w4.same s5, w4.nea nl5, upd_same, (by show 0 < 9; decide), (by show 9 ≤ 100000; decide), fun H5 v5 x5 w5 hv5 => ?_⟩
    obtain ⟨R0, rfl, hR01, hR02⟩ : ∃ k : Nat, v5 = .int (k : Int) ∧ 1 ≤ k ∧ k ≤ 64 := by
      simp only [List.mem_cons, List.not_mem_nil, or_false] at hv5
      rcases hv5 with rfl | rfl | rfl | rfl | rfl | rfl | rfl | rfl | rfl
      · exact ⟨1, rfl, by decide, by decide⟩
      · exact ⟨1, rfl, by decide, by decide⟩
      · exact ⟨2, rfl, by decide, by decide⟩
      · exact ⟨2, rfl, by decide, by decide⟩
      · exact ⟨3, rfl, by decide, by decide⟩
      · exact ⟨4, rfl, by decide, by decide⟩
      · exact ⟨5, rfl, by decide, by decide⟩
      · exact ⟨8, rfl, by decide, by decide⟩
      · exact ⟨64, rfl, by decide, by decide⟩
    clear hv5
    have x45 := (Same.exw (a := a) s5).trans x5
    refine ⟨fun σ H6 => ∃ R : Nat, σ = [some (.ref a), some (.int (k : Int)), some (.bl great), some (.int n), some (.ref l4), some (.int (R : Int)), none, none, none, none, none] ∧ Exw a H4 H6 ∧ Ht a H6 ∧ 1 ≤ R ∧ R ≤ 64, ?_, ?_⟩
    · refine ⟨.bl great, rfl, great, rfl, ?_⟩
      cases great with
      | true =>
        refine iteT ?_
        refine ⟨.ref a, rfl, (by show 5 ≤ sizeLine; decide), fun l6 nl6 => ?_⟩
        have s6 := same_upd (o := .lst [.int 1, .int 7, .int 20, .int 63, .int 64]) nl6
        refine ⟨a, l6, _, rfl, w5.same s6, w5.nea nl6, upd_same, (by show 0 < 5; decide), (by show 5 ≤ 100000; decide), fun H6 v6 x6 w6 hv6 => ?_⟩
        obtain ⟨R, rfl, hR1, hR2⟩ : ∃ k : Nat, v6 = .int (k : Int) ∧ 1 ≤ k ∧ k ≤ 64 := by
          simp only [List.mem_cons, List.not_mem_nil, or_false] at hv6
          rcases hv6 with rfl | rfl | rfl | rfl | rfl
          · exact ⟨1, rfl, by decide, by decide⟩
          · exact ⟨7, rfl, by decide, by decide⟩
          · exact ⟨20, rfl, by decide, by decide⟩
          · exact ⟨63, rfl, by decide, by decide⟩
          · exact ⟨64, rfl, by decide, by decide⟩
        clear hv6
        exact ⟨R, rfl, (x45.trans (Same.exw (a := a) s6)).trans x6, w6, hR1, hR2⟩
      | false => exact iteF ⟨R0, rfl, x45, w5, hR01, hR02⟩
    rintro σ H6 ⟨R1, rfl, x46, w6, r11, r12⟩
    refine ⟨fun σ H7 => ∃ R : Nat, σ = [some (.ref a), some (.int (k : Int)), some (.bl great), some (.int n), some (.ref l4), some (.int (R : Int)), none, none, none, none, none] ∧ Exw a H4 H7 ∧ Ht a H7 ∧ 1 ≤ R ∧ R ≤ 64, ?_, ?_⟩
    · refine ⟨.ref a, rfl, a, 4, rfl, w6, by decide, by decide, fun H7 g4 x7 w7 _ _ => ⟨rfl, decide (g4 = 0), by rw [dec_int]; rfl, ?_⟩⟩
      have x47 := x46.trans x7
      cases decide (g4 = 0) with
      | true =>
        refine iteT ⟨.ref l4, rfl, l4, us, rfl, .inl (sql (x47 _ _ la hl)), .ref a, rfl, a, 2, rfl, w7, by decide, by decide, fun H8 g5 x8 w8 _ _ => ⟨_, _, rfl, rfl, 64, _, rfl, 1, _, rfl, ?_⟩⟩
        dsimp only
        have hE : ∀ D : Int, 1 ≤ (if (if D < 64 then D else 64) > 1 then (if D < 64 then D else 64) else 1) ∧ (if (if D < 64 then D else 64) > 1 then (if D < 64 then D else 64) else 1) ≤ 64 := by
          intro D
          split <;> split <;> omega
        obtain ⟨e1, e2⟩ := hE ((us.length : Int) - g5)
        obtain ⟨R, hR⟩ := Int.eq_ofNat_of_zero_le (show (0 : Int) ≤ _ from Int.le_trans (by decide) e1)
        rw [hR] at e1 e2 ⊢
        exact ⟨R, rfl, x47.trans x8, w8, by omega, by omega⟩
      | false => exact iteF ⟨R1, rfl, x47, w7, r11, r12⟩
    rintro σ H7 ⟨R, rfl, x47, w7, R1, R64⟩
    have hl7 := x47 _ _ la hl
    have pr7 : Paired (FdAt H7) us fs := paired_imp (fun _ _ h => h.keep (kpD_exw x47 w4 w7)) pr
    have x07 := x04.trans x47
    clear x46 w6 x45 w5 x5 s5 nl5 x4 x04 x47 w4 hp hl pr x03 w3 r11 r12 hR01 hR02
    refine ⟨.int (R : Int), rfl, .int n, rfl, .ref l4, rfl, R, n, l4, us, fs, rfl, by omega, by omega, hl7, pr7, ok, fun H8 p8 s8 dt8 => ?_⟩
    obtain ⟨p8', b8, ks8, e8, hp8, hb8, pk8⟩ := rk_parts dt8
    cases e8
    have pk8' : Paired (DtAt K H8) ks8 (fs.map fun f => mk2 f.m) := by
      rw [List.map_map] at pk8
      exact pk8
    refine ⟨p8, _, _, _, rfl, rfl, hp8.seq, atI_nat (j := 2) rfl, ?_⟩
    have n0 := ok.n0
    have n1 := ok.n1
    have p40 : (2 : Int) ^ 40 = 1099511627776 := by decide
    have p41 : (2 : Int) ^ 41 = 2199023255552 := by decide
    have p90 : (2 : Nat) ^ 90 = 1237940039285380274899124224 := by decide
    refine ⟨.int (R : Int), rfl, .int n, rfl, .ref b8, rfl, R, n, b8, ks8, fs, rfl, hb8, pk8', ok, R1, R64, fun c H9 p9 s9 d9 => ?_, fun g r c ih er H9 p9 s9 d9 => ?_⟩
    · have s79 := s8.trans s9
      refine ⟨.ref l4, rfl, l4, us, rfl, .inl (sql (s79 _ _ hl7)), .int (R : Int), rfl, _, _, rfl, rfl, true, congrArg V.bl (decide_eq_true (by omega)), iteT ?_⟩
      refine ⟨.ref p9, rfl, .int (R : Int), rfl, .int n, rfl, .ref b8, rfl, (by show 3 ≤ sizeLine; decide), fun t o nt ho => ?_⟩
      have sT := same_upd (o := .frz o (.tup [.int (R : Int), .int n, .ref b8])) nt
      have kl : ks8.length ≤ 5000 := by
        rw [Paired.length pk8', List.length_map]
        omega
      have dT : DtAt K (upd H9 t (.frz o (.tup [.int (R : Int), .int n, .ref b8]))) (.ref t) (rk2 R n (fs.map Fd.m)) :=
        DtAt.mk ⟨o, upd_same, ho⟩ (by show 3 ≤ 5000; decide) (.cons (.lf ⟨rfl, by omega⟩) (.cons (.lf ⟨rfl, by omega⟩) (.cons (DtAt.mk ((hb8.same s9).same sT) kl (paired_imp (fun _ _ h => (h.same s9).same sT) pk8)) .nil)))
      exact ⟨.ref p9, .ref t, _, rfl, d9.same sT, dT, pl_rk, fun Ha sa => q Ha (((x07.same s79).same sT).same sa)⟩
    have s79 := s8.trans s9
    have x09 := x07.same s79
    have hl9 := s79 _ _ hl7
    have pr9 : Paired (FdAt H9) us fs := paired_imp (fun _ _ h => h.keep (kpD_same s79)) pr7
    clear s79 s8 s9 hb8 pk8 pk8' hp8 dt8 hl7 pr7 x07
    have up := ok.up
    obtain ⟨rl, rsub, ro⟩ := ih.eq up er
    have okr := ok.sub rsub
    have rok := okr.rk R1 R64 rl
    have bad : ∀ {Z : Prop}, rkB (rk2 R n (r.map Fd.m)) = false → Z := fun z => by rw [rkB_of rok] at z; cases z
    have hn1 : 1 ≤ n := by
      cases fs with
      | nil => exact absurd c (Nat.not_lt_zero _)
      | cons f fs' =>
        have b := ok.bd f List.mem_cons_self
        have a1 : 0 ≤ f.w := b.a0
        have a2 : f.w < f.y := b.ac
        have a3 : f.y ≤ n := b.cn
        omega
    have g0 := ih.h0
    have gn : g ≤ n := by
      by_cases z : g ≤ n
      · exact z
      · exact absurd ⟨[], stp_enough (by omega), Nat.zero_le _⟩ (ih.least n n0 (by omega))
    refine ⟨.ref l4, rfl, l4, us, rfl, .inl (sql hl9), .int (R : Int), rfl, _, _, rfl, rfl, false, congrArg V.bl (decide_eq_false (by omega)), iteF ?_⟩
    refine ⟨.int n, rfl, .int (R : Int), rfl, .int n, rfl, .ref l4, rfl, R, n, l4, us, fs, rfl, hl9, pr9, fl, c, n0, by omega, up, fun g' r' ih' er' Ha pa ws sa ha pwa => ?_⟩
    obtain rfl := ih'.one ih
    obtain rfl : r' = r := by
      rw [er] at er'
      exact (Option.some.inj er').symm
    refine ⟨n, pa, ws, r', rfl, sql ha, pwa, ?_⟩
    rw [ro]
    -- the least one of all
    refine ⟨fun σ Hb => σ = [some (.ref a), some (.int (k : Int)), some (.bl great), some (.int n), some (.ref l4), some (.int (R : Int)), some (.ref b8), some (.ref p9), some (.int g'), none, none] ∧ Same H9 Hb, ?_, ?_⟩
    · refine ⟨.bl great, rfl, great, rfl, ?_⟩
      cases great with
      | true => exact iteF ⟨rfl, sa⟩
      | false =>
        refine iteT ⟨.int (R : Int), rfl, .int n, rfl, .ref l4, rfl, R, n, l4, us, fs, rfl, sa _ _ hl9, paired_imp (fun _ _ h => h.keep (kpD_same sa)) pr9, Nat.le_trans fk (k9 rfl), fun Hb sb => ?_⟩
        rw [ih.least_eq n0 up]
        exact ⟨rfl, sa.trans sb⟩
    rintro σ Hb ⟨rfl, s9b⟩
    refine ⟨.ref l4, rfl, .int n, rfl, .int g', rfl, l4, n, g', us, fs, rfl, sql (s9b _ _ hl9), s9b _ _ hl9, paired_imp (fun _ _ h => h.keep (kpD_same s9b)) pr9, fl, fun r2 er2 Hc pc wc sc hc pwc => ?_, fun er2 => by rw [er] at er2; cases er2⟩
    obtain rfl : r2 = r' := by
      rw [er] at er2
      exact (Option.some.inj er2).symm
    have wl : wc.length = r2.length := Paired.length pwc
    have s9c := s9b.trans sc
    refine ⟨.ref pc, rfl, rfl, false, rfl, iteF ?_⟩
    refine ⟨.ref pc, rfl, pc, _, rfl, .inl (sql hc), .int (R : Int), rfl, _, _, rfl, rfl, false, congrArg V.bl (decide_eq_false (by omega)), iteF ?_⟩
    refine ⟨.ref p9, rfl, .int (R : Int), rfl, .int n, rfl, .ref pc, rfl, R, n, pc, wc, r2, rfl, by omega, by omega, hc, pwc, okr, fun Hd pd sd dd => ?_⟩
    have s9d := s9c.trans sd
    refine ⟨.ref p9, .ref pd, _, rfl, d9.same s9d, dd, pl_rk, fun He se => ⟨true, rfl, iteF ?_⟩⟩
    have s9e := s9d.trans se
    refine ⟨.ref l4, rfl, .int n, rfl, .int g', rfl, _, _, rfl, rfl, l4, n, g' - 1, us, fs, rfl, sql (s9e _ _ hl9), s9e _ _ hl9, paired_imp (fun _ _ h => h.keep (kpD_same s9e)) pr9, fl, ?sm, ?nn⟩
    case' sm =>
      intro r3 er3 Hf pf wf sf hf pwf
      have wl3 : wf.length = r3.length := Paired.length pwf
      have hlong : R < r3.length := by
        by_cases z : R < r3.length
        · exact z
        · by_cases gz : g' = 0
          · subst gz
            obtain ⟨q1, q2⟩ := stp_good fs 0 none r3 (fun _ h => nomatch h) er3
            have := good_0 q1 (fun f hf => (ok.bd f (q2.subset hf)).cn) n0
            omega
          · exact absurd ⟨r3, er3, by omega⟩ (ih.least (g' - 1) (by omega) (by omega))
      refine ⟨.ref pf, rfl, rfl, true, rfl, iteT ⟨.ref pf, rfl, pf, _, rfl, .inl (sql hf), .int (R : Int), rfl, _, _, rfl, rfl, false, congrArg V.bl (decide_eq_false (by omega)), iteF ?_⟩⟩
    case' nn =>
      intro er3 Hf sf
      refine ⟨.non, rfl, rfl, false, rfl, iteF ?_⟩
    all_goals
      have s9f := s9e.trans sf
      refine ⟨.ref p9, rfl, .ref p9, _, rfl, d9.same s9f, fun Hg sg => ⟨_, true, rfl, rfl, false, congrArg V.bl (by rw [rkB_of rok]; rfl), iteF ?_⟩⟩
      have s9g := s9f.trans sg
      refine ⟨.ref p9, rfl, .ref p9, _, rfl, d9.same s9g, bad, fun r' n' ms' e' _ Hh m sh hm hmx => ?_⟩
      obtain ⟨rfl, rfl, rfl⟩ := rk2_inj e'
      have s9h := s9g.trans sh
      have em : m = g' := (open_gaps okr hm hmx).trans ro
      subst em
      refine ⟨.int m, rfl, .int m, .int m, .int m, rfl, .lf ⟨rfl, by omega⟩, .lf ⟨rfl, by omega⟩, rfl, fun Hi si => ⟨true, rfl, iteF ?_⟩⟩
      have s9i := s9h.trans si
      refine ⟨.int m, rfl, .int n, rfl, .ref l4, rfl, n, l4, us, fs, rfl, sql (s9i _ _ hl9), paired_imp (fun _ _ h => h.keep (kpD_same s9i)) pr9, .int n, rfl, .int (R : Int), rfl, _, _, rfl, rfl, _, _, rfl, rfl, .int (R : Int), rfl, _, _, rfl, rfl, ⟨by omega, by omega⟩, _, _, rfl, rfl, _, _, rfl, rfl, _, _, rfl, rfl, ?_⟩
      have hB := ih.bound up R1 hn1
      show Q (V.bl (decide (m ≤ opn n 0 0 fs + (n + (R : Int) - 1) / (R : Int) - 1))) Hi
      rw [decide_eq_true hB]
      exact q Hi (x09.same s9i)
end
end Kb

namespace Kb
open PySem PySem.Spec PyProof.Rows L2 RZ SrtR
abbrev slaw : Stmt := topS 38
abbrev Nlaw : List Str := ["_law_script", "_law_k", "_law_cell"]
theorem sclaw : FnScope ["_law_script", "_law_k", "_law_cell"] ["_law_script"] (defScope slaw) := ⟨rfl, rfl, rfl, by decide +kernel, rfl, by decide +kernel, by decide +kernel⟩
abbrev Dnlaw (K : PySem.W.Frag) (mg : Str → Option Value) := Dn K mg "law" slaw ["_law_script"]
section
variable {P : Program} {w : World} {K : PySem.W.Frag} {mg : Str → Option Value} {base : Heap}
structure Defs (K : PySem.W.Frag) (mg : Str → Option Value) where
  T : Blt mg
  gG : mg "gcd" = some (.builtin "math.gcd")
  EK : TxE K mg "NoRanks"
  cM : Cst mg "MOST_ROOM" (.int 64)
  dP_is_int : DnIsInt K mg
  dP_is_number : DnIsNumber K mg
  dP_is_room : DnIsRoom K mg
  dP_is_fraction : DnIsFraction K mg
  dP_is_less : DnIsLess K mg
  dP_is_ranks : DnIsRanks K mg
  dP_are_marks : DnAreMarks K mg
  dP_is_mark : DnIsMark K mg
  dP_may_follow : DnMayFollow K mg
  dP_openness : DnOpenness K mg
  dP_chosen : DnChosen K mg
  dP_thin : DnThin K mg
  dP_thinned : DnThinned K mg
  ddraw : Dndraw K mg
  dsame : Dnsame K mg
  dany : Dnany K mg
  dgcd : Dngcd K mg
  dvalue : Dnvalue K mg
  dnumber : Dnnumber K mg
  dmarks : Dnmarks K mg
  das_told : Dnas_told K mg
  dsteps : Dnsteps K mg
  dthinned : Dnthinned K mg
  dopen : Dnopen K mg
  dleast : Dnleast K mg
  dhat : Dnhat K mg
  dOne : Dnone K mg
def spLaw (K : PySem.W.Frag) : Sp := fun vs H Q _ => ∃ (a : Addr) (ns : List Int), vs = [.ref a] ∧ SqL K H a (ns.map V.int) ∧ ns.length ≤ 63 ∧ ∀ H', Q (.bl true) H'
theorem ok_law (D : Defs K mg) (d : Dnlaw K mg) : FnOk P w K mg base CX0 8 d.f d.fd ["_law_script"] (spLaw K) := by
  obtain ⟨T, gG, EK, cM, dP_is_int, dP_is_number, dP_is_room, dP_is_fraction, dP_is_less, dP_is_ranks, dP_are_marks, dP_is_mark, dP_may_follow, dP_openness, dP_chosen, dP_thin, dP_thinned, ddraw, dsame, dany, dgcd, dvalue, dnumber, dmarks, das_told, dsteps, dthinned, dopen, dleast, dhat, dOne⟩ := D
  have Gone : FnOk P w K mg base CX0 7 dOne.f dOne.fd ["_law_hat_here"] spOne := ok_one T gG EK cM dP_is_int dP_is_number dP_is_room dP_is_fraction dP_is_less dP_is_ranks dP_are_marks dP_is_mark dP_may_follow dP_openness dP_chosen dP_thin dP_thinned ddraw dsame dany dgcd dvalue dnumber dmarks das_told dsteps dthinned dopen dleast dOne
  have Ghat : FnOk P w K mg base CX0 1 dhat.f dhat.fd ["_law_cell", "_law_k"] spHat := ok_hat T dhat
  refine d.F.ok sclaw (fun vs H Q E h => ?_) (fun cdv A outer s H vs Q E hr h => ?_)
  · obtain ⟨a, ns, rfl, _⟩ := h
    rfl
  · obtain ⟨sc, ns, rfl, hS, hl, q⟩ := h
    refine ⟨_, (pss_cons (ps_for PassesOwn.never rfl (pi_enum (by rfl) T.n_enumerate (pa_cons (pe_op op_cat (pe_callTy call_list_of (by rfl) T.n_list (by decide +kernel) (pa_cons (pv 0) pa_nil)) (pe_lst (pa_cons pe_int (pa_cons pe_int (pa_cons pe_int pa_nil))))) pa_nil)) (pg_tup (by rfl) (pgs_cons (pg_name (i := 1) sclaw.nd rfl (Or.inl rfl)) (pgs_cons (pg_name (i := 2) sclaw.nd rfl (Or.inl rfl)) pgs_nil)))
      (pss_one (ps_if (pt_not (pt_val (pe_call Gone (hr.mono (by omega)) (by rfl) dOne.g dOne.F.kp dOne.b .nil pass0 (pa_cons (pe_call Ghat (hr.mono (by omega)) (by rfl) dhat.g dhat.F.kp dhat.b .nil pass0 (pa_cons (pv 2) (pa_cons (pv 1) pa_nil))) pa_nil))))
        (pss_one (ps_ret pe_bl))
        pss_nil)))
    (pss_one (ps_ret pe_bl))), ?_⟩
    refine ⟨.ref sc, rfl, sc, _, rfl, .inl hS, fun l1 nl1 => ⟨(by show 3 ≤ sizeLine; decide), fun l2 nl2 => ?_⟩⟩
    have h1 : (upd (upd H l1 (.lst (ns.map V.int))) l2 (.lst [.int 6, .int 10, .int 72])) l1 = some (.lst (ns.map V.int)) := same_upd nl2 _ _ upd_same
    have h2 : (upd (upd H l1 (.lst (ns.map V.int))) l2 (.lst [.int 6, .int 10, .int 72])) l2 = some (.lst [.int 6, .int 10, .int 72]) := upd_same
    generalize upd (upd H l1 (.lst (ns.map V.int))) l2 (.lst [.int 6, .int 10, .int 72]) = H2 at h1 h2 ⊢
    refine ⟨l1, l2, _, _, rfl, rfl, h1, h2, by rw [sizeLine_eq, List.length_map]; show ns.length + 3 ≤ _; omega, fun l3 nl3 => ?_⟩
    have h3 : (upd H2 l3 (.lst (ns.map V.int ++ [.int 6, .int 10, .int 72]))) l3 = some (.lst ((ns ++ [6, 10, 72]).map V.int)) := by rw [upd_same, List.map_append]; rfl
    generalize upd H2 l3 (.lst (ns.map V.int ++ [.int 6, .int 10, .int 72])) = H3 at h3 ⊢
    refine ⟨l3, _, rfl, sql h3, ?_⟩
    refine for_it (walk_enum (K := K) (a := l3) (xs := (ns ++ [6, 10, 72]).map V.int)) (fun i σ H4 => ∃ y1 y2 : Option V, σ = [some (.ref sc), y1, y2] ∧ H4 l3 = some (.lst ((ns ++ [6, 10, 72]).map V.int))) ⟨none, none, rfl, h3⟩ (fun i σ H4 _ ⟨_, _, _, e⟩ => sql e) ?_ ?_
    · rintro i v σ H4 H5 hi ⟨y1, y2, rfl, h4⟩ ⟨TT, u1, u2, rfl, nT, rfl, hx1, hx2⟩
      cases hx1
      obtain ⟨c, hc, rfl⟩ := map_at hx2
      have hTT : (upd H4 TT (.tup [.int (i : Nat), .int c])) TT = some (.tup [.int (i : Nat), .int c]) := upd_same
      have h5 := same_upd (o := .tup [.int (i : Nat), .int c]) nT _ _ h4
      generalize upd H4 TT (.tup [.int (i : Nat), .int c]) = H5 at hTT h5 ⊢
      refine ⟨TT, _, rfl, .inl (.inl hTT), rfl, _, _, rfl, _, _, rfl, rfl, ?_⟩
      refine ⟨.int c, rfl, .int (i : Nat), rfl, c, (i : Nat), rfl, fun H6 a s6 na w6 => ⟨a, rfl, w6, fun H7 x7 => ⟨true, rfl, iteF ?_⟩⟩⟩
      exact ⟨_, _, rfl, x7 _ _ (ne_of_none h5 na) (s6 _ _ h5)⟩
    · rintro σ H4 ⟨y1, y2, rfl, h4⟩
      exact q H4
end
end Kb

namespace Kb
open PySem PySem.Spec PyProof.Rows L2
/-- a def as the top has left it -/
def dn_of {K : PySem.W.Frag} {h : Heap} {mg : Str → Option Value} {nm : Str} {st : Stmt} {ps : List Str} {f : Addr} {oc : Value} {od an : Option Addr} {osl : Array (Option Value)} {kV doc pm cdv ct : Value} (X : K.In h) (G : h.Ns mainGlobals mg)
    (fa : PySem.W.nsIn K mainGlobals nm = some (some (.ref f))) (fl : K.lookup f = some ⟨oc, od, .func (PySem.W.fnOf nm nm (defArgs st) (defBody st) (defScope st) .none kV doc pm an cdv ct), osl⟩) (fc : PySem.W.codeIn K cdv nm = true) (fk : PySem.W.keepIn K (.ref f) = true)
    (fb : ∀ (kV doc pm : Value) (an : Option Addr) (cdv ct : Value) (us : List Value), us.length = ps.length → bindArgs (PySem.W.fnOf nm nm (defArgs st) (defBody st) (defScope st) .none kV doc pm an cdv ct) ⟨us, []⟩ = pure (ps.zip us)) : Dn K mg nm st ps :=
  ⟨f, _, fun_mk fl fc fk, PySem.W.mg_of X G fa, (fun_mk fl fc fk).binds fb⟩
def cst_of {K : PySem.W.Frag} {h : Heap} {mg : Str → Option Value} {nm : Str} {i : Int} {t : Tok} (X : K.In h) (G : h.Ns mainGlobals mg) (fa : PySem.W.nsIn K mainGlobals nm = some (some (.int i t))) : Cst mg nm (.int i) := ⟨_, PySem.W.mg_of X G fa, ⟨_, rfl⟩⟩
/-- the classes of errors as the top has left them -/
structure TxS (K : PySem.W.Frag) (mg : Str → Option Value) where
  EK : TxE K mg "NoRanks"
def txS_of {K : PySem.W.Frag} {h : Heap} {mg : Str → Option Value} {CK : Addr} (X : K.In h) (G : h.Ns mainGlobals mg)
    (K1 : PySem.W.nsIn K mainGlobals "NoRanks" = some (some (.ref CK))) (K2 : PySem.W.excIn K CK [.type "ValueError", .type "Exception", .type "BaseException", .type "object"] "ValueError.__new__" = true) (K3 : PySem.W.keepIn K (.ref CK) = true) (K4 : PySem.W.subIn K (.ref CK) (.type "BaseException") = some true) (K5 : PySem.W.typeIn K (.ref CK) = some (.type "type")) (Ki1 : PySem.W.findIn K (.ref CK) "__getattribute__" = some (some (.builtin "BaseException.__getattribute__"))) (Ki2 : PySem.W.findIn K (.ref CK) "__getattr__" = some none) (Ki3 : PySem.W.hasDictIn K CK = true) (Ki4 : PySem.W.findIn K (.ref CK) "__class__" = some (some (.builtin "object.__class__"))) (Ki5 : PySem.W.specialIn K (.builtin "object.__class__") "__get__" = some (some (.builtin "getset_descriptor.__get__"))) (Ki6 : PySem.W.takesIn K (.builtin "object.__class__") = some true) (Ki7 : PySem.W.mroIn K CK (.type "object") = some true) : TxS K mg :=
  ⟨⟨CK, PySem.W.mg_of X G K1, K2, K3, K4, K5, ⟨Ki1, Ki2, K4, Ki3, Ki4, Ki5, Ki6, Ki7⟩⟩⟩
theorem law_end {l : PySem.W.OpenLaw} {w : World} {K : PySem.W.Frag} {h : Heap} {mg : Str → Option Value} {fa f : Addr} (X : K.In h) (G : h.Ns mainGlobals mg) (hfa : mg "law" = some (.ref fa))
    {od an : Option Addr} {osl : Array (Option Value)} {oc kV doc pm cdv ct : Value}
    (a0 : PySem.W.nsIn K mainGlobals "law" = some (some (.ref f))) (l0 : K.lookup f = some ⟨oc, od, .func (PySem.W.fnOf "law" "law" (defArgs slaw) (defBody slaw) (defScope slaw) .none kV doc pm an cdv ct), osl⟩) (c0 : PySem.W.codeIn K cdv "law" = true) (k0 : PySem.W.keepIn K (.ref f) = true)
    (gG : mg "gcd" = some (.builtin "math.gcd")) (S : TxS K mg) (T : Blt mg)  (cM : Cst mg "MOST_ROOM" (.int 64))  (dP_is_int : DnIsInt K mg) (dP_is_number : DnIsNumber K mg) (dP_is_room : DnIsRoom K mg) (dP_is_fraction : DnIsFraction K mg) (dP_is_less : DnIsLess K mg) (dP_is_ranks : DnIsRanks K mg) (dP_are_marks : DnAreMarks K mg) (dP_is_mark : DnIsMark K mg) (dP_may_follow : DnMayFollow K mg) (dP_openness : DnOpenness K mg) (dP_chosen : DnChosen K mg) (dP_thin : DnThin K mg) (dP_thinned : DnThinned K mg) (ddraw : Dndraw K mg) (dsame : Dnsame K mg) (dany : Dnany K mg) (dgcd : Dngcd K mg) (dvalue : Dnvalue K mg) (dnumber : Dnnumber K mg) (dmarks : Dnmarks K mg) (das_told : Dnas_told K mg) (dsteps : Dnsteps K mg) (dthinned : Dnthinned K mg) (dopen : Dnopen K mg) (dleast : Dnleast K mg) (dhat : Dnhat K mg) (dOne : Dnone K mg) :
    ∃ fd : FuncData, (∀ (s : Shared) (v : Value), BindsTo s fd ⟨[v], []⟩ [("_law_script", v)]) ∧ ∀ base : Heap, K.In base → base.Ns mainGlobals mg → FnOk l.prog w K mg base CX0 8 fa fd ["_law_script"] (spLaw K) := by
  have e := hfa.symm.trans (PySem.W.mg_of X G a0)
  cases e
  exact ⟨PySem.W.fnOf "law" "law" (defArgs slaw) (defBody slaw) (defScope slaw) .none kV doc pm an cdv ct, fun s v => .of_eq rfl, fun base _ _ => ok_law { gG := gG, EK := S.EK, T := T, cM := cM, dP_is_int := dP_is_int, dP_is_number := dP_is_number, dP_is_room := dP_is_room, dP_is_fraction := dP_is_fraction, dP_is_less := dP_is_less, dP_is_ranks := dP_is_ranks, dP_are_marks := dP_are_marks, dP_is_mark := dP_is_mark, dP_may_follow := dP_may_follow, dP_openness := dP_openness, dP_chosen := dP_chosen, dP_thin := dP_thin, dP_thinned := dP_thinned, ddraw := ddraw, dsame := dsame, dany := dany, dgcd := dgcd, dvalue := dvalue, dnumber := dnumber, dmarks := dmarks, das_told := das_told, dsteps := dsteps, dthinned := dthinned, dopen := dopen, dleast := dleast, dhat := dhat, dOne := dOne }
    ⟨_, _, fun_mk l0 c0 k0, PySem.W.mg_of X G a0, (fun_mk l0 c0 k0).binds fun _ _ _ _ _ _ us hl => match us, hl with | [_], _ => rfl⟩⟩
end Kb
open PySem PySem.W PyProof.Rows
theorem PySem.Challenge.cw_knownends_k20_whole_thinned_against_all_holds : PySem.Challenge.rw_knownends_k20_whole_thinned_against_all.Holds := by
  w_on; o_law; k_head; (case hw => w_witness2)
  k_fill
  refine L2.walk_of (l := PySem.Challenge.rw_knownends_k20_whole_thinned_against_all) (n := 63) (k := 8) (x := "_law_script") (CX := fun _ => L2.CX0) (sp := fun w => Kb.spLaw _) rfl (by decide) rfl ⟨rfl, by decide, by decide⟩ (fun w h Y => PySem.W.kIn_of Y) ?F (fun _ _ a ns hl _ hS => ⟨a, ns, rfl, hS, hl, fun _ => rfl⟩) (fun _ _ _ _ _ h => h)
  case F =>
    intro w mg fa h KX G hmg
    refine' Kb.law_end KX G hmg ?a0 ?l0 ?c0 ?k0 ?gG ?S ?T ?cM ?dP_is_int ?dP_is_number ?dP_is_room ?dP_is_fraction ?dP_is_less ?dP_is_ranks ?dP_are_marks ?dP_is_mark ?dP_may_follow ?dP_openness ?dP_chosen ?dP_thin ?dP_thinned ?ddraw ?dsame ?dany ?dgcd ?dvalue ?dnumber ?dmarks ?das_told ?dsteps ?dthinned ?dopen ?dleast ?dhat ?dOne
    (case a0 => k_is); (case l0 => k_is); (case c0 => k_is); (case k0 => k_is)
    (case gG => exact PySem.W.mg_of KX G (by k_is))
    (case S =>
      refine' Kb.txS_of KX G ?K1 ?K2 ?K3 ?K4 ?K5 ?Ki1 ?Ki2 ?Ki3 ?Ki4 ?Ki5 ?Ki6 ?Ki7
      (case K1 => k_is); (case K2 => first | k_exc | kernel_rfl); (case K3 => k_is); (case K4 => k_is); (case K5 => k_is); (case Ki1 => k_is); (case Ki2 => k_is); (case Ki3 => k_is); (case Ki4 => k_is); (case Ki5 => k_is); (case Ki6 => k_is); (case Ki7 => k_is))
    (case T => exact ⟨PySem.W.mg_none_of KX G (by k_is), PySem.W.mg_none_of KX G (by k_is), PySem.W.mg_none_of KX G (by k_is), PySem.W.mg_none_of KX G (by k_is), PySem.W.mg_none_of KX G (by k_is), PySem.W.mg_none_of KX G (by k_is), PySem.W.mg_none_of KX G (by k_is), PySem.W.mg_none_of KX G (by k_is), PySem.W.mg_none_of KX G (by k_is), PySem.W.mg_none_of KX G (by k_is), PySem.W.mg_none_of KX G (by k_is), PySem.W.mg_none_of KX G (by k_is), PySem.W.mg_none_of KX G (by k_is), PySem.W.mg_none_of KX G (by k_is), PySem.W.mg_none_of KX G (by k_is)⟩)
    (case cM => refine' Kb.cst_of KX G ?a_cM; (case a_cM => k_is))
    (case dP_is_int => refine' Kb.dn_of KX G ?a_dP_is_int ?l_dP_is_int ?c_dP_is_int ?k_dP_is_int ?b_dP_is_int; (case a_dP_is_int => k_is); (case l_dP_is_int => k_is); (case c_dP_is_int => k_is); (case k_dP_is_int => k_is); (case b_dP_is_int => exact fun _ _ _ _ _ _ us hl => match us, hl with | [_], _ => rfl))
    (case dP_is_number => refine' Kb.dn_of KX G ?a_dP_is_number ?l_dP_is_number ?c_dP_is_number ?k_dP_is_number ?b_dP_is_number; (case a_dP_is_number => k_is); (case l_dP_is_number => k_is); (case c_dP_is_number => k_is); (case k_dP_is_number => k_is); (case b_dP_is_number => exact fun _ _ _ _ _ _ us hl => match us, hl with | [_], _ => rfl))
    (case dP_is_room => refine' Kb.dn_of KX G ?a_dP_is_room ?l_dP_is_room ?c_dP_is_room ?k_dP_is_room ?b_dP_is_room; (case a_dP_is_room => k_is); (case l_dP_is_room => k_is); (case c_dP_is_room => k_is); (case k_dP_is_room => k_is); (case b_dP_is_room => exact fun _ _ _ _ _ _ us hl => match us, hl with | [_], _ => rfl))
    (case dP_is_fraction => refine' Kb.dn_of KX G ?a_dP_is_fraction ?l_dP_is_fraction ?c_dP_is_fraction ?k_dP_is_fraction ?b_dP_is_fraction; (case a_dP_is_fraction => k_is); (case l_dP_is_fraction => k_is); (case c_dP_is_fraction => k_is); (case k_dP_is_fraction => k_is); (case b_dP_is_fraction => exact fun _ _ _ _ _ _ us hl => match us, hl with | [_], _ => rfl))
    (case dP_is_less => refine' Kb.dn_of KX G ?a_dP_is_less ?l_dP_is_less ?c_dP_is_less ?k_dP_is_less ?b_dP_is_less; (case a_dP_is_less => k_is); (case l_dP_is_less => k_is); (case c_dP_is_less => k_is); (case k_dP_is_less => k_is); (case b_dP_is_less => exact fun _ _ _ _ _ _ us hl => match us, hl with | [_, _], _ => rfl))
    (case dP_is_ranks => refine' Kb.dn_of KX G ?a_dP_is_ranks ?l_dP_is_ranks ?c_dP_is_ranks ?k_dP_is_ranks ?b_dP_is_ranks; (case a_dP_is_ranks => k_is); (case l_dP_is_ranks => k_is); (case c_dP_is_ranks => k_is); (case k_dP_is_ranks => k_is); (case b_dP_is_ranks => exact fun _ _ _ _ _ _ us hl => match us, hl with | [_], _ => rfl))
    (case dP_are_marks => refine' Kb.dn_of KX G ?a_dP_are_marks ?l_dP_are_marks ?c_dP_are_marks ?k_dP_are_marks ?b_dP_are_marks; (case a_dP_are_marks => k_is); (case l_dP_are_marks => k_is); (case c_dP_are_marks => k_is); (case k_dP_are_marks => k_is); (case b_dP_are_marks => exact fun _ _ _ _ _ _ us hl => match us, hl with | [_, _], _ => rfl))
    (case dP_is_mark => refine' Kb.dn_of KX G ?a_dP_is_mark ?l_dP_is_mark ?c_dP_is_mark ?k_dP_is_mark ?b_dP_is_mark; (case a_dP_is_mark => k_is); (case l_dP_is_mark => k_is); (case c_dP_is_mark => k_is); (case k_dP_is_mark => k_is); (case b_dP_is_mark => exact fun _ _ _ _ _ _ us hl => match us, hl with | [_, _], _ => rfl))
    (case dP_may_follow => refine' Kb.dn_of KX G ?a_dP_may_follow ?l_dP_may_follow ?c_dP_may_follow ?k_dP_may_follow ?b_dP_may_follow; (case a_dP_may_follow => k_is); (case l_dP_may_follow => k_is); (case c_dP_may_follow => k_is); (case k_dP_may_follow => k_is); (case b_dP_may_follow => exact fun _ _ _ _ _ _ us hl => match us, hl with | [_, _], _ => rfl))
    (case dP_openness => refine' Kb.dn_of KX G ?a_dP_openness ?l_dP_openness ?c_dP_openness ?k_dP_openness ?b_dP_openness; (case a_dP_openness => k_is); (case l_dP_openness => k_is); (case c_dP_openness => k_is); (case k_dP_openness => k_is); (case b_dP_openness => exact fun _ _ _ _ _ _ us hl => match us, hl with | [_], _ => rfl))
    (case dP_chosen => refine' Kb.dn_of KX G ?a_dP_chosen ?l_dP_chosen ?c_dP_chosen ?k_dP_chosen ?b_dP_chosen; (case a_dP_chosen => k_is); (case l_dP_chosen => k_is); (case c_dP_chosen => k_is); (case k_dP_chosen => k_is); (case b_dP_chosen => exact fun _ _ _ _ _ _ us hl => match us, hl with | [_, _, _, _], _ => rfl))
    (case dP_thin => refine' Kb.dn_of KX G ?a_dP_thin ?l_dP_thin ?c_dP_thin ?k_dP_thin ?b_dP_thin; (case a_dP_thin => k_is); (case l_dP_thin => k_is); (case c_dP_thin => k_is); (case k_dP_thin => k_is); (case b_dP_thin => exact fun _ _ _ _ _ _ us hl => match us, hl with | [_, _, _], _ => rfl))
    (case dP_thinned => refine' Kb.dn_of KX G ?a_dP_thinned ?l_dP_thinned ?c_dP_thinned ?k_dP_thinned ?b_dP_thinned; (case a_dP_thinned => k_is); (case l_dP_thinned => k_is); (case c_dP_thinned => k_is); (case k_dP_thinned => k_is); (case b_dP_thinned => exact fun _ _ _ _ _ _ us hl => match us, hl with | [_, _, _], _ => rfl))
    (case ddraw => refine' Kb.dn_of KX G ?a_ddraw ?l_ddraw ?c_ddraw ?k_ddraw ?b_ddraw; (case a_ddraw => k_is); (case l_ddraw => k_is); (case c_ddraw => k_is); (case k_ddraw => k_is); (case b_ddraw => exact fun _ _ _ _ _ _ us hl => match us, hl with | [_, _], _ => rfl))
    (case dsame => refine' Kb.dn_of KX G ?a_dsame ?l_dsame ?c_dsame ?k_dsame ?b_dsame; (case a_dsame => k_is); (case l_dsame => k_is); (case c_dsame => k_is); (case k_dsame => k_is); (case b_dsame => exact fun _ _ _ _ _ _ us hl => match us, hl with | [_, _], _ => rfl))
    (case dany => refine' Kb.dn_of KX G ?a_dany ?l_dany ?c_dany ?k_dany ?b_dany; (case a_dany => k_is); (case l_dany => k_is); (case c_dany => k_is); (case k_dany => k_is); (case b_dany => exact fun _ _ _ _ _ _ us hl => match us, hl with | [_, _], _ => rfl))
    (case dgcd => refine' Kb.dn_of KX G ?a_dgcd ?l_dgcd ?c_dgcd ?k_dgcd ?b_dgcd; (case a_dgcd => k_is); (case l_dgcd => k_is); (case c_dgcd => k_is); (case k_dgcd => k_is); (case b_dgcd => exact fun _ _ _ _ _ _ us hl => match us, hl with | [_, _], _ => rfl))
    (case dvalue => refine' Kb.dn_of KX G ?a_dvalue ?l_dvalue ?c_dvalue ?k_dvalue ?b_dvalue; (case a_dvalue => k_is); (case l_dvalue => k_is); (case c_dvalue => k_is); (case k_dvalue => k_is); (case b_dvalue => exact fun _ _ _ _ _ _ us hl => match us, hl with | [_], _ => rfl))
    (case dnumber => refine' Kb.dn_of KX G ?a_dnumber ?l_dnumber ?c_dnumber ?k_dnumber ?b_dnumber; (case a_dnumber => k_is); (case l_dnumber => k_is); (case c_dnumber => k_is); (case k_dnumber => k_is); (case b_dnumber => exact fun _ _ _ _ _ _ us hl => match us, hl with | [_], _ => rfl))
    (case dmarks => refine' Kb.dn_of KX G ?a_dmarks ?l_dmarks ?c_dmarks ?k_dmarks ?b_dmarks; (case a_dmarks => k_is); (case l_dmarks => k_is); (case c_dmarks => k_is); (case k_dmarks => k_is); (case b_dmarks => exact fun _ _ _ _ _ _ us hl => match us, hl with | [_, _], _ => rfl))
    (case das_told => refine' Kb.dn_of KX G ?a_das_told ?l_das_told ?c_das_told ?k_das_told ?b_das_told; (case a_das_told => k_is); (case l_das_told => k_is); (case c_das_told => k_is); (case k_das_told => k_is); (case b_das_told => exact fun _ _ _ _ _ _ us hl => match us, hl with | [_, _, _], _ => rfl))
    (case dsteps => refine' Kb.dn_of KX G ?a_dsteps ?l_dsteps ?c_dsteps ?k_dsteps ?b_dsteps; (case a_dsteps => k_is); (case l_dsteps => k_is); (case c_dsteps => k_is); (case k_dsteps => k_is); (case b_dsteps => exact fun _ _ _ _ _ _ us hl => match us, hl with | [_, _, _], _ => rfl))
    (case dthinned => refine' Kb.dn_of KX G ?a_dthinned ?l_dthinned ?c_dthinned ?k_dthinned ?b_dthinned; (case a_dthinned => k_is); (case l_dthinned => k_is); (case c_dthinned => k_is); (case k_dthinned => k_is); (case b_dthinned => exact fun _ _ _ _ _ _ us hl => match us, hl with | [_, _, _], _ => rfl))
    (case dopen => refine' Kb.dn_of KX G ?a_dopen ?l_dopen ?c_dopen ?k_dopen ?b_dopen; (case a_dopen => k_is); (case l_dopen => k_is); (case c_dopen => k_is); (case k_dopen => k_is); (case b_dopen => exact fun _ _ _ _ _ _ us hl => match us, hl with | [_, _], _ => rfl))
    (case dleast => refine' Kb.dn_of KX G ?a_dleast ?l_dleast ?c_dleast ?k_dleast ?b_dleast; (case a_dleast => k_is); (case l_dleast => k_is); (case c_dleast => k_is); (case k_dleast => k_is); (case b_dleast => exact fun _ _ _ _ _ _ us hl => match us, hl with | [_, _, _], _ => rfl))
    (case dhat => refine' Kb.dn_of KX G ?a_dhat ?l_dhat ?c_dhat ?k_dhat ?b_dhat; (case a_dhat => k_is); (case l_dhat => k_is); (case c_dhat => k_is); (case k_dhat => k_is); (case b_dhat => exact fun _ _ _ _ _ _ us hl => match us, hl with | [_, _], _ => rfl))
    (case dOne => refine' Kb.dn_of KX G ?a_done ?l_done ?c_done ?k_done ?b_done; (case a_done => k_is); (case l_done => k_is); (case c_done => k_is); (case k_done => k_is); (case b_done => exact fun _ _ _ _ _ _ us hl => match us, hl with | [_], _ => rfl))

