import PyProof.Rows.All
import HandS.ForMost
import HandS.ForExc
import HandS.SortKw
import HandS.SortRule
import HandS.DictTup
import HandS.DictComp
import HandS.ListItems
import HandS.Conv
import HandS.IsInst
import HandS.Codes
import HandS.Walk
import HandS.Style
import KE.KDictSum
import KE.KSortTupAny
import KE.KDictPairs
import HandS.ExcValue
import HandS.TupLe
import HandS.TupAny
import HandS.Wide
import HandS.SetFor
import PyProof.Rows.CountFlat
import PySem.Challenge.RW_knownends_k50_books_joined_and_poured
import HandS.CallLocal
import HandS.List
import PyProof.ReprRoads
import PyProof.ReprText
import PyProof.EqKinds
import PyProof.EqAt
import HandS.ExcField
import HandS.ExcInit
import PyProof.NeData
import HandS.ExcIs
import HandS.StrMore
import HandS.TryMany
import HandS.TupMul
import HandS.Ends
import HandS.Words
import KE.KExcStr
import PyProof.ExcRepr
import PyProof.ReprReads
import PyProof.ReprNest
import KE.KRevSl
import HandS.Text
import PyProof.ReprLen
import HandS.Zip
import HandS.Strs
import HandS.TupSets
import HandS.SetKeys
import HandS.Lambda
import HandS.EndTab
import HandS.AnyAll
set_option Elab.async false
set_option linter.all false
set_option maxRecDepth 100000
set_option maxHeartbeats 0
/-! own rules: sorted of pairs (text, int), of views -/
namespace SrtZ
open PySem PyProof.Rows Srt SrtO PySem.W
abbrev ltZ (x y : Str) : Bool := decide (x.cps.toList < y.cps.toList)
theorem str_of {x y : Str} (h : x.cps.toList = y.cps.toList) : x = y := by
  cases x; cases y
  simp at h
  rw [h]
theorem ltZ_irr (x : Str) : ltZ x x = false := decide_eq_false (List.lt_irrefl _)
theorem ltZ_asym {x y : Str} (h : ltZ x y = true) : ltZ y x = false := decide_eq_false (List.lt_asymm (of_decide_eq_true h))
theorem ltZ_trans {x y z : Str} (h : ltZ x y = true) (k : ltZ y z = true) : ltZ x z = true := decide_eq_true (List.lt_trans (of_decide_eq_true h) (of_decide_eq_true k))
theorem ltZ_tri {x y : Str} (h : ltZ x y = false) (k : ltZ y x = false) : x = y :=
  str_of (List.le_antisymm (List.not_lt.mp (of_decide_eq_false k)) (List.not_lt.mp (of_decide_eq_false h)))
def lexZ (p q : Str × Int) : Bool := if p.1 = q.1 then decide (p.2 < q.2) else ltZ p.1 q.1
theorem lexZ_eq {p q : Str × Int} (e : p.1 = q.1) : lexZ p q = decide (p.2 < q.2) := if_pos e
theorem lexZ_ne {p q : Str × Int} (e : ¬ p.1 = q.1) : lexZ p q = ltZ p.1 q.1 := if_neg e
theorem swo_Z : Swo lexZ := by
  refine ⟨fun x y h => ?_, fun x y z h1 h2 => ?_⟩
  · by_cases e : x.1 = y.1
    · rw [lexZ_eq e, decide_eq_true_eq] at h
      rw [lexZ_eq e.symm]
      exact decide_eq_false (by omega)
    · rw [lexZ_ne e] at h
      rw [lexZ_ne (fun z => e z.symm)]
      exact ltZ_asym h
  · by_cases e : x.1 = y.1
    · rw [lexZ_eq e.symm, decide_eq_false_iff_not] at h1
      by_cases f : y.1 = z.1
      · rw [lexZ_eq f.symm, decide_eq_false_iff_not] at h2
        rw [lexZ_eq (e.trans f).symm]
        exact decide_eq_false (by omega)
      · rw [lexZ_ne (fun q => f q.symm)] at h2
        rw [lexZ_ne (fun q => f (e.symm.trans q.symm)), e]
        exact h2
    · rw [lexZ_ne (fun q => e q.symm)] at h1
      by_cases f : y.1 = z.1
      · rw [lexZ_ne (fun q => e (q.symm.trans f.symm)), ← f]
        exact h1
      · rw [lexZ_ne (fun q => f q.symm)] at h2
        have g1 : ltZ x.1 y.1 = true := by
          rcases bcase (ltZ x.1 y.1) with q | q
          · exact q
          · exact absurd (ltZ_tri q h1) e
        have g2 : ltZ y.1 z.1 = true := by
          rcases bcase (ltZ y.1 z.1) with q | q
          · exact q
          · exact absurd (ltZ_tri q h2) f
        have g := ltZ_trans g1 g2
        have ne : ¬ z.1 = x.1 := fun q => by
          rw [q, ltZ_irr] at g
          cases g
        rw [lexZ_ne ne]
        exact ltZ_asym g
/-- a tuple (text, int) -/
def IsPZ (h : Heap) (v : Value) (p : Str × Int) : Prop := ∃ a o t u n, v = .ref a ∧ h.get? a = some o ∧ o.cls = .type "tuple" ∧ o.data = .seq #[.str p.1 t, .int p.2 u] n
theorem IsPZ.keeps {h h' : Heap} {v : Value} {p : Str × Int} (x : IsPZ h v p) (k : ∀ b o, h.get? b = some o → o.cls = .type "tuple" → h'.get? b = some o) : IsPZ h' v p := by
  obtain ⟨a, o, t, u, n, e, ho, hc, hd⟩ := x
  exact ⟨a, o, t, u, n, e, k _ _ ho hc, hc, hd⟩
section
variable {prog : Program} {w : World} {A : Around} {E : Value → Shared → Prop} {s : Shared}
theorem firstsZ {h : Heap} : ∀ {vs : List Value}, (∀ v ∈ vs, ∃ p, IsPZ h v p) → ∃ fs : List Value, KatTups h vs fs ∧ fs.length = vs.length ∧ ∀ f ∈ fs, ∃ x t, f = Value.str x t
  | [], _ => ⟨[], KatTups.nil, rfl, fun _ hm => by simp at hm⟩
  | v :: vs, hp => by
    obtain ⟨fs, h1, h2, h3⟩ := firstsZ (vs := vs) fun v' hm => hp v' (List.mem_cons_of_mem _ hm)
    obtain ⟨p, a, o, t, u, n, e, ho, hc, hd⟩ := hp v List.mem_cons_self
    subst e
    refine ⟨.str p.1 t :: fs, KatTups.cons ho hc hd rfl h1, by rw [List.length_cons, List.length_cons, h2], fun f hm => ?_⟩
    rcases List.mem_cons.mp hm with rfl | hm
    · exact ⟨_, t, rfl⟩
    · exact h3 f hm
theorem pairZ_cmp {vs : List Value} {k : Value → Str × Int} (hp : ∀ v ∈ vs, IsPZ s.heap v (k v)) : Cmp prog w A s (tuples' true) (fun p => p.1 ∈ vs) (lt2 fun v u => lexZ (k v) (k u)) := by
  intro p q hm hm'
  have h1 := hp _ hm
  have h2 := hp _ hm'
  show wpAny (model prog w) A (keyLt' (tuples' true) p.1 q.1) (fun r s' => s' = s ∧ r = lexZ (k p.1) (k q.1)) (fun _ _ => False) s
  generalize k p.1 = x at h1 ⊢
  generalize k q.1 = y at h2 ⊢
  obtain ⟨a, o, t, u, n, e, ho, hc, hd⟩ := h1
  obtain ⟨a', o', t', u', n', e', ho', hc', hd'⟩ := h2
  rw [e, e']
  refine kat_lt ho hd ho' hd' ?_
  show KatLex prog w A true (decide (2 < 2)) _ [(.str x.1 t, .str y.1 t'), (.int x.2 u, .int y.2 u')] 0 s
  refine kat_cons (wpAny_eqBool_str ?_)
  refine kat_go (fun e1 => ?_) (fun e1 => ?_)
  · have ex : x.1 = y.1 := of_decide_eq_true e1
    refine kat_yes (kat_cons (wpAny_eqBool_int ?_))
    refine kat_go (fun e2 => ?_) (fun e2 => ?_)
    · have ey : x.2 = y.2 := by simpa using e2
      refine kat_yes (kat_nil ⟨rfl, ?_⟩)
      rw [lexZ_eq ex, ey]
      exact (decide_eq_false (Int.lt_irrefl _)).symm
    · exact kat_no (oneLt_any_int ⟨rfl, (lexZ_eq ex).symm⟩)
  · have ex : ¬ x.1 = y.1 := of_decide_eq_false e1
    exact kat_no (oneLt_any_str ⟨rfl, (lexZ_ne ex).symm⟩)
theorem pairsZ_sortable {a : Addr} {vs : List Value} {k : Value → Str × Int} (h0 : 0 < vs.length) (hp : ∀ v ∈ vs, IsPZ s.heap v (k v)) (ha : ∀ o, s.heap.get? a = some o → o.cls ≠ .type "tuple") : SortableO prog w A s a vs fun v u => lexZ (k v) (k u) := by
  intro h' keep
  have hp' : ∀ v ∈ vs, IsPZ h' v (k v) := fun v hm => (hp v hm).keeps fun b o e c => keep b o (fun z => by subst z; exact ha o e c) e
  obtain ⟨fs, h1, h2, h3⟩ := firstsZ fun v hm => ⟨_, hp' v hm⟩
  refine ⟨tuples' true, fun Q E hq => ?_, pairZ_cmp hp'⟩
  refine kat_kind (T := .type "str") h1 (by omega) (fun f hm => ?_) (by rfl) ?_
  · obtain ⟨x, t, rfl⟩ := h3 f hm
    exact Looks.now
  · have e : (Value.type "str" != Value.type "tuple") = true := by first | decide +kernel | rfl | decide
    rw [e]
    exact hq
theorem plain_rev (a : Addr) : Builtin.«list.sort» ⟨[.ref a], []⟩ = Builtin.«list.sort» ⟨[.ref a], [(Str.ofString "reverse", .bool false)]⟩ := by
  rw [list_sort_rev]
  first | rfl | kernel_rfl
/-- sorted(x, ..) over what is collected of x -/
theorem sorted_col {x : Value} {b : Bool} {kw : List (Str × Value)} {ltv : Heap → Value → Value → Bool} {Q : Value → Shared → Prop} {P : Heap → Nat → List Value → Prop}
    (hk : ∀ a, Builtin.«list.sort» ⟨[.ref a], kw⟩ = Builtin.«list.sort» ⟨[.ref a], [(Str.ofString "reverse", .bool b)]⟩) (ha1 : argsOk "sorted" ⟨[x], kw⟩) (ha2 : ∀ a, argsOk "list.sort" ⟨[a], kw⟩)
    (hcol : ∀ R : List Value → Shared → Prop, (∀ h' tk vs, (∀ b o, s.heap.get? b = some o → h'.get? b = some o) → P h' tk vs → R vs { s with heap := h', toks := tk }) → wpAny (model prog w) A.in1 (collect x) R E s)
    (O : ∀ h' tk vs, P h' tk vs → Swo (ltv h')) (hz : ∀ h' tk vs, P h' tk vs → vs.length ≤ sizeLine)
    (hS : ∀ h' tk vs, P h' tk vs → 2 ≤ vs.length → ∀ (h₁ : Heap) (a : Addr), h₁.get? a = some (seqObj "list" vs.toArray 0) → (∀ b o, h'.get? b = some o → b ≠ a ∧ h₁.get? b = some o) → SortableO prog w A.in1.in1 { s with heap := h₁, toks := tk } a vs (ltv h'))
    (h : ∀ h' tk vs out h2, (∀ b o, s.heap.get? b = some o → h'.get? b = some o) → P h' tk vs → Srtd (ltv h') out → Stb (ltv h') out (if b = true then vs.reverse else vs) → (∀ c o, h'.get? c = some o → h2.get? c = some o) →
      (∃ n, h2.get? h'.objs.size = some (seqObj "list" (if b = true then out.toArray.reverse else out.toArray) n)) → Q (.ref h'.objs.size) { s with heap := h2, toks := tk }) :
    wpAny (model prog w) A (call (.builtin "sorted") [x] kw) Q E s := by
  refine call_function_entry_kw kind_sorted plain_sorted entry_sorted ha1 ?_
  unfold Builtin.«sorted»
  refine wpAny_bind (m := checkCount "sorted" 1 1 _) (wpAny_pure ?_)
  refine wpAny_bind (hcol _ fun h' tk vs hkp hP => ?_)
  refine wpAny_bind (wpAny_newList ?_ (hz _ _ _ hP))
  have hoL : (h'.push (seqObj "list" vs.toArray 0)).get? h'.objs.size = some (seqObj "list" vs.toArray 0) := Heap.get?_push_size _ rfl
  have keep : ∀ b o, h'.get? b = some o → b ≠ h'.objs.size ∧ (h'.push (seqObj "list" vs.toArray 0)).get? b = some o := fun b o q => ⟨Nat.ne_of_lt (Heap.lt_size q), Heap.get?_push_of_some _ q⟩
  show wpAny _ _ _ _ _ { s with heap := h'.push (seqObj "list" vs.toArray 0), toks := tk }
  refine wpAny_bind (wpAny_holding (wpAny_call_entry_kw slot_list_sort ⟨_, hoL, rfl⟩ entry_list_sort ?_ (ha2 _)))
  rw [hk]
  refine SrtR.list_sort_ordR (s := { s with heap := h'.push (seqObj "list" vs.toArray 0), toks := tk }) (O _ _ _ hP) hoL (hz _ _ _ hP) (fun h2 => hS _ _ _ hP h2 _ _ hoL keep) fun out hs hb => ⟨_, rfl, ?_⟩
  refine wpAny_pure ⟨_, rfl, h h' tk vs out _ hkp hP hs hb (fun c o q => ?_) ?_⟩
  · exact (sortedHeap_old (keep c o q).1 (Heap.lt_size (keep c o q).2)).trans (keep c o q).2
  · exact sortedHeap_at hoL
end
end SrtZ

namespace L2
open PySem PySem.Spec PyProof.Rows SrtO SrtZ
/-- counts as a dict's pairs -/
abbrev entZ (e : Str × Int) : Key × V := (Sum.inr e.1, V.int e.2)
section
variable {X : Cx}
/-- d.items() -/
def rItemsK : V → List V → Hp → VK → Prop := fun x xs H Q => ∃ (a : Addr) (kvs : List (Key × V)), x = .ref a ∧ xs = [] ∧ H a = some (.dK kvs) ∧ ∀ p, H p = none → Q (.ref p) (upd H p (DX.itemsO p a))
theorem mt_itemsK : MtR X "dict.items" rItemsK := by
  intro pins s σ H x xs v us Q I rx rxs h
  obtain ⟨a, kvs, rfl, rfl, ha, q⟩ := h
  cases rx
  cases rxs
  obtain ⟨z, hd, vs, kv, o, es, ep, ho, hx, hdat, _⟩ := dk_of I.hok ha
  refine DT.callItems (es := es) (ep := ep) hd ⟨o, ho, hx, hdat⟩ ?_
  have hf : H s.heap.objs.size = none := I.hok.fresh (Nat.le_refl _)
  exact ⟨.ref s.heap.objs.size, upd H s.heap.objs.size (DX.itemsO s.heap.objs.size a), I.laid (t' := s.toks) (fun b u e => Heap.get?_push_of_some _ e) (Nat.le_refl _) (DX.itemsO_ok (Heap.get?_push_size _ rfl)), rfl, q _ hf⟩
/-- d.values() -/
def valuesO (p d : Addr) : HO := .ext fun h => h.IsValuesView p d
theorem valuesO_ok {P : Program} {w : World} {H : Hp} {h : Heap} {p d : Addr} (e : h.get? p = some { cls := .type "dict_values", data := .fields #[.ref d] }) : ObjOk P w H h p (valuesO p d) :=
  ⟨⟨_, e, rfl, rfl⟩, ⟨_, e⟩, fun h1 h2 x k => let ⟨o, ho, r⟩ := x; ⟨o, k o ho, r⟩⟩
def rValuesK : V → List V → Hp → VK → Prop := fun x xs H Q => ∃ (a : Addr) (kvs : List (Key × V)), x = .ref a ∧ xs = [] ∧ H a = some (.dK kvs) ∧ ∀ p, H p = none → Q (.ref p) (upd H p (valuesO p a))
theorem mt_valuesK : MtR X "dict.values" rValuesK := by
  intro pins s σ H x xs v us Q I rx rxs h
  obtain ⟨a, kvs, rfl, rfl, ha, q⟩ := h
  cases rx
  cases rxs
  obtain ⟨z, hd, vs, kv, dd⟩ := dk_of I.hok ha
  have hf : H s.heap.objs.size = none := I.hok.fresh (Nat.le_refl _)
  refine call_meetsIn PySem.F.slot_dict_values dd.typeIs PySem.F.entry_dict_values (PySem.F.args_dict_values_1 _) (meets_dict_values (mixKind X.prog X.w) a hd) ⟨⟨vs, dd⟩, ?_⟩
  exact ⟨.ref s.heap.objs.size, upd H s.heap.objs.size (valuesO s.heap.objs.size a), I.laid (t' := s.toks) (fun b u e => Heap.get?_push_of_some _ e) (Nat.le_refl _) (valuesO_ok (Heap.get?_push_size _ rfl)), rfl, q _ hf⟩
end
end L2

namespace L2
open PySem PySem.Spec PyProof.Rows SrtO SrtZ
theorem ent_paired {xs' : List (Key × Value)} : ∀ {ks : List (Str × Int)}, KV (ks.map entZ) xs' → ∀ {j : Nat} {x : Key × Value}, xs'[j]? = some x → ∃ e t, ks[j]? = some e ∧ x = (Sum.inr e.1, Value.int e.2 t) := fun {ks} h {j x} hx => by
  obtain ⟨y, hy, r1, r2⟩ := DX.pget h hx
  rw [List.getElem?_map] at hy
  cases e : ks[j]? with
  | none => rw [e] at hy; cases hy
  | some p =>
    rw [e] at hy
    have hy' : entZ p = y := Option.some.inj hy
    subst hy'
    obtain ⟨t, et⟩ := (show ∃ t, x.2 = Value.int p.2 t from r2)
    refine ⟨p, t, rfl, ?_⟩
    obtain ⟨x1, x2⟩ := x
    have r1' : Sum.inr p.1 = x1 := r1
    have et' : x2 = Value.int p.2 t := et
    rw [← r1', et']
section
variable {X : Cx}
/-- sorted(d.items()), keys texts, values ints, any number of them -/
def rSortedIZ : List V → Hp → VK → Prop := fun vs H Q => ∃ (p d : Addr) (ks : List (Str × Int)), vs = [V.ref p] ∧ H p = some (DX.itemsO p d) ∧ H d = some (.dK (ks.map entZ)) ∧
  ∀ (H' : Hp) (l : Addr) (ys : List (Str × Int)) (ts : List Addr), Same H H' → H l = none → (∀ t ∈ ts, H t = none) → l ∉ ts → ys.Perm ks → Srtd lexZ ys → H' l = some (.lst (ts.map V.ref)) → Paired (fun (t : Addr) (y : Str × Int) => H' t = some (.tup [.str y.1, .int y.2])) ts ys → Q (.ref l) H'
theorem paired_of {α β : Type} {F : α → β → Prop} {l : List (α × β)} (h : ∀ z ∈ l, F z.1 z.2) : Paired F (l.map (·.1)) (l.map (·.2)) := by
  induction l with
  | nil => exact .nil
  | cons a l ih => exact .cons (h a List.mem_cons_self) (ih fun z hz => h z (List.mem_cons_of_mem _ hz))
/-- a tuple's key, read off the heap -/
def keyZ (h : Heap) : Value → Str × Int
  | .ref a => match h.get? a with
    | some o => match o.data with
      | .seq xs _ => match xs.toList with
        | [.str x _, .int y _] => (x, y)
        | _ => (⟨#[]⟩, 0)
      | _ => (⟨#[]⟩, 0)
    | none => (⟨#[]⟩, 0)
  | _ => (⟨#[]⟩, 0)
theorem keyZ_of {h : Heap} {v : Value} {p : Str × Int} (x : IsPZ h v p) : keyZ h v = p := by
  obtain ⟨a, o, t, u, n, rfl, ho, hc, hd⟩ := x
  simp only [keyZ, ho, hd]
theorem swo_key (h : Heap) : Swo fun v u => lexZ (keyZ h v) (keyZ h u) := ⟨fun x y => swo_Z.asym _ _, fun x y z => swo_Z.tr _ _ _⟩
def adr : Value → Addr
  | .ref a => a
  | _ => 0
theorem adr_refs : ∀ as : List Addr, (as.map Value.ref).map adr = as
  | [] => rfl
  | a :: as => congrArg (List.cons a) (adr_refs as)
theorem refs_adr : ∀ out : List Value, (∀ v ∈ out, ∃ a, v = Value.ref a) → (out.map adr).map Value.ref = out
  | [], _ => rfl
  | v :: out, h => by
    obtain ⟨a, rfl⟩ := h v List.mem_cons_self
    show Value.ref a :: (out.map adr).map Value.ref = Value.ref a :: out
    rw [refs_adr out fun u hu => h u (List.mem_cons_of_mem _ hu)]
/-- pairs that were laid and sorted are tracked: a list of them at l, the tuples at ts -/
theorem sortZ_end {pins : List (Addr × Obj)} {σ : St} {H : Hp} {s : Shared} {h' h2 : Heap} {tk l n : Nat} {as : List Addr} {ks : List (Str × Int)} {out : List Value} {Q : VK} (I : Inv X pins σ H s)
    (hk : ∀ b o, s.heap.get? b = some o → h'.get? b = some o) (hk2 : ∀ b o, h'.get? b = some o → h2.get? b = some o) (hl : s.heap.objs.size ≤ l) (hle : as.length ≤ sizeLine) (hlas : ∀ t ∈ as, t ≠ l) (nd : as.Nodup) (ha : ∀ t ∈ as, s.heap.objs.size ≤ t) (hn : H l = none)
    (hks : as.map (fun t => keyZ h' (.ref t)) = ks) (hp : ∀ t ∈ as, ∃ p, IsPZ h' (.ref t) p) (hat : h2.get? l = some (seqObj "list" out.toArray n)) (h1 : Srtd (fun v u => lexZ (keyZ h' v) (keyZ h' u)) out) (hb : out.Perm (as.map Value.ref))
    (q : ∀ (H' : Hp) (ys : List (Str × Int)) (ts : List Addr), Same H H' → H l = none → (∀ t ∈ ts, H t = none) → l ∉ ts → ys.Perm ks → Srtd lexZ ys → H' l = some (.lst (ts.map V.ref)) → Paired (fun (t : Addr) (y : Str × Int) => H' t = some (.tup [.str y.1, .int y.2])) ts ys → Q (.ref l) H') :
    EP X pins σ Q (.ref l) { s with heap := h2, toks := tk } := by
  have isr : ∀ v ∈ out, ∃ a, v = Value.ref a := fun v hv => by
    obtain ⟨a, _, e⟩ := List.mem_map.mp (hb.mem_iff.mp hv)
    exact ⟨a, e.symm⟩
  have eo := refs_adr out isr
  generalize ets : out.map adr = ts at eo
  have pt : ts.Perm as := by
    have := hb.map adr
    rwa [adr_refs, ets] at this
  have kS : ∀ b o, s.heap.get? b = some o → h2.get? b = some o := fun b o e => hk2 b o (hk b o e)
  have I1 : Inv X pins σ H { s with heap := h2, toks := tk } := I.kept (t' := tk) kS
  have hlen : (ts.map V.ref).length ≤ sizeLine := by rw [List.length_map, pt.length_eq]; exact hle
  have rv : Vals (ts.map V.ref) out := by
    rw [← eo]
    exact LiI.vals_refs ts
  have I2 : Inv X pins σ (upd H l (.lst (ts.map V.ref))) { s with heap := h2, toks := tk } := I1.take (h' := h2) (t' := tk) (fun b ob _ e => e) (I.fpOk hl hn) ⟨hlen, out, n, rv, hat⟩
  obtain ⟨H2, I3, g, qt⟩ := DX.takeT (P := fun b vs => vs = [.str (keyZ h' (.ref b)).1, .int (keyZ h' (.ref b)).2]) I as _ I2 nd fun b hb' => by
    obtain ⟨p, hp'⟩ := hp b hb'
    have ek := keyZ_of hp'
    obtain ⟨a, o, t, u, m, e, ho, hc, hd⟩ := hp'
    cases e
    refine ⟨ha b hb', ?_, [.str (keyZ h' (.ref b)).1, .int (keyZ h' (.ref b)).2], rfl, fun H3 => ⟨(by rw [sizeLine_eq]; show 2 ≤ 16777216; omega), [Value.str p.1 t, Value.int p.2 u], by rw [ek]; exact .cons ⟨_, rfl⟩ (.cons ⟨_, rfl⟩ .nil), ⟨o, hk2 _ _ ho, hc, m, hd⟩⟩⟩
    rw [upd_ne (hlas b hb')]
    exact I.hok.fresh (ha b hb')
  have gr : Same H H2 := fun b o e => g b o (by rw [upd_ne (ne_of_none e hn)]; exact e)
  refine ⟨.ref l, H2, I3, rfl, q H2 (ts.map fun t => keyZ h' (.ref t)) ts gr hn (fun t ht => I.hok.fresh (ha t (pt.mem_iff.mp ht))) (fun z => hlas l (pt.mem_iff.mp z) rfl) ?_ ?_ (g _ _ upd_same) ?_⟩
  · rw [← hks]
    exact pt.map _
  · have e : ts.map (fun t => keyZ h' (.ref t)) = out.map (keyZ h') := by
      rw [← eo, List.map_map]
      rfl
    rw [e]
    exact srtd_map h1
  · have : ∀ L : List Addr, (∀ t ∈ L, t ∈ as) → Paired (fun (t : Addr) (y : Str × Int) => H2 t = some (.tup [.str y.1, .int y.2])) L (L.map fun t => keyZ h' (.ref t)) := by
      intro L
      induction L with
      | nil => exact fun _ => .nil
      | cons t L ih =>
        intro hL
        refine .cons ?_ (ih fun u hu => hL u (List.mem_cons_of_mem _ hu))
        obtain ⟨vs, ev, hv⟩ := qt t (hL t List.mem_cons_self)
        rw [← ev]
        exact hv
    exact this ts fun t ht => pt.mem_iff.mp ht
theorem cr_sortedIZ (hc : X.calm = true) : CallR X (.builtin "sorted") rSortedIZ := by
  intro pins s σ H xs us Q I r h
  obtain ⟨p, a, ks, rfl, hp, ha, q⟩ := h
  obtain rfl := Vals.ref1 r
  have view : s.heap.IsItemsView p a := (show ObjOk X.prog X.w H s.heap p (DX.itemsO p a) from I.hok p _ hp).1
  obtain ⟨z, hd, xs', rel, o, es, ep, ho, hx, hdat, _, hes, _⟩ := dk_of I.hok ha
  have l1 : ks.length = xs'.length := by
    have := Paired.length rel
    rwa [List.length_map] at this
  have l2 : es.size = xs'.length := by rw [← Array.length_toList, hes.length]
  have hh : X.A.handled = none := I.ok.hd hc
  have hz : es.size ≤ sizeLine := by rw [List.length_map] at z; omega
  have ent : ∀ (j : Nat) (en : DictEntry), es[j]? = some en → ∃ e t u, ks[j]? = some e ∧ en.key = Value.str e.1 t ∧ en.val = Value.int e.2 u := by
    intro j en he
    have he' : es.toList[j]? = some en := by rw [Array.getElem?_toList]; exact he
    have pz : ∀ {es : List DictEntry} {kvs : List (Key × Value)}, Pairs (mixKind X.prog X.w) es kvs → ∀ {j : Nat} {en : DictEntry}, es[j]? = some en → ∃ x, kvs[j]? = some x ∧ keyIs x.1 en.key = true ∧ en.val = x.2 := by
      intro es kvs h
      induction h with
      | nil => intro j en h; simp at h
      | cons h1 h2 h3 ih =>
        intro j en h
        cases j with
        | zero => cases (Option.some.inj h); exact ⟨_, rfl, h1, h2⟩
        | succ j => exact ih (by simpa using h)
    obtain ⟨x, ex, k1, k2⟩ := pz hes he'
    obtain ⟨e, t, e1, e2⟩ := ent_paired rel ex
    subst e2
    obtain ⟨u, eu⟩ := relV_key k1
    exact ⟨e, u, t, e1, eu, k2⟩
  refine sorted_col (x := .ref p) (b := false) (kw := []) (ltv := fun h' v u => lexZ (keyZ h' v) (keyZ h' u)) (P := fun h' _ vs => ∃ as, vs = as.map Value.ref ∧ as.length = es.size ∧ DT.Made es s.heap.objs.size h' as ∧ s.heap.objs.size < h'.objs.size)
    plain_rev (args_sorted1 _) (fun _ => args_list_sort _) (fun R hR => ?_) (fun h' _ _ _ => swo_key h') (fun h' _ vs hP => ?_) (fun h' tk vs hP h2 h₁ b hb keep => ?_) (fun h' tk vs out h2 hk hP h1 hb hk2 hat => ?_)
  · exact DT.collectI (A := X.A.in1) hh view ⟨o, ho, hx, hdat⟩ hz fun h' tk as hk hlt hl hM => hR h' tk _ hk ⟨as, rfl, hl, hM, hlt⟩
  · obtain ⟨as, rfl, hl, _⟩ := hP
    rw [List.length_map, hl]
    exact hz
  · obtain ⟨as, rfl, hl, hM, _⟩ := hP
    refine pairsZ_sortable (s := { s with heap := h₁, toks := tk }) (k := keyZ h') (by omega) (fun v hv => ?_) (fun ob e => ?_)
    · obtain ⟨t, ht, rfl⟩ := List.mem_map.mp hv
      obtain ⟨j, hj⟩ := List.mem_iff_getElem?.mp ht
      obtain ⟨en, he, hg⟩ := hM.pairs j t hj
      obtain ⟨e, t1, t2, _, k1, k2⟩ := ent j en he
      have x : IsPZ h' (.ref t) e := ⟨t, _, t1, t2, 0, rfl, hg, rfl, by rw [k1, k2]⟩
      rw [keyZ_of x]
      exact x.keeps fun b o e _ => (keep b o e).2
    · have e' : some ob = some (seqObj "list" (as.map Value.ref).toArray 0) := e.symm.trans hb
      cases e'
      intro c
      exact absurd (Value.type.inj c) (by decide)
  · obtain ⟨as, rfl, hl, hM, hlt⟩ := hP
    obtain ⟨n, hat⟩ := hat
    have pz : ∀ (j : Nat) (t : Addr), as[j]? = some t → ∃ e, ks[j]? = some e ∧ IsPZ h' (.ref t) e := fun j t hj => by
      obtain ⟨en, he, hg⟩ := hM.pairs j t hj
      obtain ⟨e, t1, t2, e1, k1, k2⟩ := ent j en he
      exact ⟨e, e1, t, _, t1, t2, 0, rfl, hg, rfl, by rw [k1, k2]⟩
    refine sortZ_end (as := as) (ks := ks) I hk hk2 (Nat.le_of_lt hlt) (by rw [hl]; exact hz) (fun t ht => Nat.ne_of_lt (hM.there ht)) (List.Pairwise.imp (fun h => Nat.ne_of_lt h) hM.rise) (fun t ht => Nat.le_of_lt (hM.above t ht)) (I.hok.fresh (Nat.le_of_lt hlt)) ?_ (fun t ht => ?_) hat h1 hb.perm fun H' ys ts => q H' _ ys ts
    · refine List.ext_getElem? fun j => ?_
      rw [List.getElem?_map]
      cases hj : as[j]? with
      | none =>
        have : ks[j]? = none := List.getElem?_eq_none (by have := List.getElem?_eq_none_iff.mp hj; omega)
        rw [this]
        rfl
      | some t =>
        obtain ⟨e, e1, x⟩ := pz j t hj
        rw [e1]
        show some (keyZ h' (.ref t)) = some e
        rw [keyZ_of x]
    · obtain ⟨j, hj⟩ := List.mem_iff_getElem?.mp ht
      obtain ⟨e, _, x⟩ := pz j t hj
      exact ⟨e, x⟩
end
end L2

namespace SrtZ
open PySem PyProof.Rows Srt SrtO PySem.W
def ltSv (v u : Value) : Bool := ltZ (strOf v) (strOf u)
theorem swo_str : Swo ltSv := by
  refine ⟨fun x y h => ltZ_asym h, fun x y z h1 h2 => ?_⟩
  rcases bcase (ltZ (strOf z) (strOf x)) with q | q
  · rcases bcase (ltZ (strOf x) (strOf y)) with p | p
    · rcases bcase (ltZ (strOf y) (strOf z)) with r | r
      · have := ltZ_asym (ltZ_trans p r)
        rw [q] at this
        cases this
      · have e := ltZ_tri r h2
        have q' : ltZ (strOf z) (strOf x) = true := q
        rw [← e, ltZ_asym p] at q'
        cases q'
    · have e := ltZ_tri p h1
      have q' : ltZ (strOf z) (strOf x) = true := q
      have h2' : ltZ (strOf z) (strOf y) = false := h2
      rw [e, h2'] at q'
      cases q'
  · exact q
theorem strOf_strs : ∀ {vs : List Value} {ss : List Str}, StrsAre vs ss → vs.map strOf = ss
  | _, _, .nil => rfl
  | _, _, .cons y t h => congrArg (y :: ·) (strOf_strs h)
section
variable {prog : Program} {w : World} {A : Around} {E : Value → Shared → Prop} {s : Shared}
theorem str_cmp {vs : List Value} {ss : List Str} (hI : StrsAre vs ss) : Cmp prog w A s oneType' (fun p => p.1 ∈ vs) (lt2 ltSv) := by
  intro p q hm hm'
  obtain ⟨a, t, e⟩ := StrsAre.all hI _ hm
  obtain ⟨b, u, e'⟩ := StrsAre.all hI _ hm'
  show wpAny (model prog w) A (keyLt' oneType' p.1 q.1) (fun r s' => s' = s ∧ r = ltSv p.1 q.1) (fun _ _ => False) s
  rw [e, e', keyLt'_oneType]
  exact oneLt_any_str ⟨rfl, rfl⟩
theorem strs_sortable {a : Addr} {vs : List Value} {ss : List Str} (hI : StrsAre vs ss) (h2 : 2 ≤ vs.length) : SortableO prog w A s a vs ltSv := by
  intro h' _
  refine ⟨oneType', fun Q E hq => ?_, str_cmp hI⟩
  match vs, hI, h2 with
  | v1 :: v2 :: rest, hI, _ =>
    rw [keyKind_strs hI]
    exact wpAny_pure hq
  | [], _, h => exact absurd h (by decide)
  | [v], _, h => exact absurd h (by simp)
end
end SrtZ
namespace L2
open PySem PySem.Spec PyProof.Rows SrtO SrtZ
section
variable {X : Cx}
/-- sorted(xs), xs a list of tuples (text, int), any number of them -/
def rSortedPZ (K : PySem.W.Frag) : List V → Hp → VK → Prop := fun vs H Q => ∃ (a : Addr) (ts : List Addr) (k : Addr → Str × Int), vs = [V.ref a] ∧ SqL K H a (ts.map V.ref) ∧ (∀ t ∈ ts, H t = some (.tup [.str (k t).1, .int (k t).2])) ∧
  ∀ (us : List Addr) (p : Addr), us.Perm ts → Srtd lexZ (us.map k) → H p = none → Q (.ref p) (upd H p (.lst (us.map V.ref)))
theorem cr_sortedPZ : CallR X (.builtin "sorted") (rSortedPZ X.K) := by
  intro pins s σ H vs us Q I r h
  obtain ⟨a, ts, k, rfl, hs, hx, q⟩ := h
  obtain ⟨its, rv, hl, hz⟩ := I.list hs
  obtain rfl := Vals.ref1 r
  obtain rfl := refs_at rv
  rw [List.length_map] at hz
  have hp : ∀ v ∈ ts.map Value.ref, IsPZ s.heap v (k (adr v)) := fun v hv => by
    obtain ⟨t, ht, rfl⟩ := List.mem_map.mp hv
    obtain ⟨_, its2, r2, o, ho, hc, n, hd⟩ := I.hok _ _ (hx t ht)
    obtain ⟨u1, u2, rfl, ri, rj⟩ := vals2 r2
    obtain ⟨t1, rfl⟩ := ri
    obtain ⟨t2, rfl⟩ := rj
    exact ⟨t, o, t1, t2, n, rfl, ho, hc, hd⟩
  refine SrtO.sorted_ord (ltv := fun v u => lexZ (k (adr v)) (k (adr u))) ⟨fun x y => swo_Z.asym _ _, fun x y z => swo_Z.tr _ _ _⟩ hl.isList (by rw [List.length_map]; exact hz) (fun h2 h₁ b hb kk => ?_) fun out h1 h2 => ?_
  · refine pairsZ_sortable (s := { s with heap := h₁ }) (k := fun v => k (adr v)) (by omega) (fun v hv => (hp v hv).keeps fun b o e _ => (kk b o e).2) fun o e => ?_
    have e' : some o = some (seqObj "list" (ts.map Value.ref).toArray 0) := e.symm.trans hb
    cases e'
    intro c
    exact absurd (Value.type.inj c) (by decide)
  · obtain ⟨ep, he'⟩ := PyProof.Rows.sortedAll_at s.heap (ts.map Value.ref) out.toArray
    have isr : ∀ v ∈ out, ∃ a, v = Value.ref a := fun v hv => by
      obtain ⟨a, _, e⟩ := List.mem_map.mp (h2.perm.mem_iff.mp hv)
      exact ⟨a, e.symm⟩
    have eo := refs_adr out isr
    generalize eus : out.map adr = us at eo
    have pt : us.Perm ts := by
      have := h2.perm.map adr
      rwa [adr_refs, eus] at this
    have hlen : (us.map V.ref).length ≤ sizeLine := by rw [List.length_map, pt.length_eq]; exact hz
    have rv : Vals (us.map V.ref) out := by
      rw [← eo]
      exact LiI.vals_refs us
    refine ⟨.ref _, upd H (s.heap.objs.size + 1) (.lst (us.map V.ref)), I.laid (t' := s.toks) (fun _ _ => PyProof.Rows.sortedAll_old) (Nat.le_succ _) ⟨hlen, out, ep, rv, he'⟩, rfl, q us _ pt ?_ (I.hok.fresh (Nat.le_succ _))⟩
    have e : us.map k = out.map fun v => k (adr v) := by
      rw [← eo, List.map_map]
      rfl
    rw [e]
    exact srtd_map h1
/-- the ints of a dict's values -/
theorem vals_ints' {xs' : List (Key × Value)} : ∀ {ks : List (Str × Int)}, KV (ks.map entZ) xs' → ∀ {vs : List Value}, vs.length = xs'.length → (∀ (j : Nat) (v : Value), vs[j]? = some v → ∃ k, xs'[j]? = some (k, v)) → IntsAre vs (ks.map (·.2)) := fun {ks} rel {vs} hl hv => by
  have e : vs = xs'.map (·.2) := PySem.W.kdl_vals_eq vs hl hv
  subst e
  have : ∀ {ks : List (Str × Int)} {xs : List (Key × Value)}, KV (ks.map entZ) xs → IntsAre (xs.map (·.2)) (ks.map (·.2)) := by
    intro ks
    induction ks with
    | nil =>
      intro xs r
      cases r
      exact .nil
    | cons e ks ih =>
      intro xs r
      cases r with
      | cons h t =>
        obtain ⟨u, eu⟩ := (show ∃ t, _ = Value.int e.2 t from h.2)
        rw [List.map_cons, eu]
        exact .cons _ _ (ih t)
  exact this rel
/-- sorted(d.values(), reverse=b), values ints -/
def rSortedVR (b : Bool) : List V → List V → Hp → VK → Prop := fun vs zs H Q => ∃ (p d : Addr) (ks : List (Str × Int)), vs = [V.ref p] ∧ zs = [.bl b] ∧ H p = some (valuesO p d) ∧ H d = some (.dK (ks.map entZ)) ∧
  ∀ (ns : List Int) (l : Addr), ns.Perm (ks.map (·.2)) → OrdB b ns → H l = none → Q (.ref l) (upd H l (.lst (ns.map V.int)))
theorem cr_sortedVR {b : Bool} (hc : X.calm = true) : CallRK X (.builtin "sorted") [Str.ofString "reverse"] (rSortedVR b) := by
  intro pins s σ H vs zs us ws Q I r rz h
  obtain ⟨p, d, ks, rfl, rfl, hp, ha, q⟩ := h
  obtain rfl := Vals.ref1 r
  obtain ⟨w1, rfl, e1⟩ := vals1 rz
  obtain rfl : w1 = Value.bool b := e1
  have view : s.heap.IsValuesView p d := (show ObjOk X.prog X.w H s.heap p (valuesO p d) from I.hok p _ hp).1
  obtain ⟨z, hd, xs', rel, dd⟩ := dk_of I.hok ha
  obtain ⟨ep, hat⟩ := dd.dictAt
  have l1 : ks.length = xs'.length := by
    have := Paired.length rel
    rwa [List.length_map] at this
  have hz : xs'.length ≤ sizeLine := by rw [List.length_map] at z; omega
  refine sorted_col (x := .ref p) (b := b) (kw := [(Str.ofString "reverse", .bool b)]) (ltv := fun _ => SrtO.ltIv) (P := fun h' _ vs => IntsAre vs (ks.map (·.2)))
    (fun _ => rfl) (args_sorted_rev _ _) (fun _ => args_list_sort_rev _ _) (fun R hR => ?_) (fun _ _ _ _ => SrtO.swo_int) (fun h' _ vs hP => ?_) (fun h' tk vs hP h2 h₁ c hb keep => ?_) (fun h' tk vs out h2 hk hP h1 hb hk2 hat => ?_)
  · refine PySem.W.kdu_collect (A := X.A.in1) (PySem.W.kdl_values (knd := mixKind X.prog X.w) (kvs := xs') (ep := ep) (r := p) (d := d)) (I.ok.hd hc) ⟨view, hat⟩ hz fun h' tk acc hk hacc => hR h' tk _ hk (vals_ints' rel (by rw [Array.length_toList]; exact hacc.1) fun j v e => hacc.2 j v (by rw [← Array.getElem?_toList]; exact e))
  · rw [hP.length, List.length_map, l1]
    exact hz
  · exact SrtO.ints_sortable hP h2
  · obtain ⟨n, hat⟩ := hat
    obtain ⟨ns', k1, k2, k3⟩ := SrtR.ints_outR hP h1 hb
    have hlen : (ns'.map V.int).length ≤ sizeLine := by
      rw [List.length_map, k2.length_eq, List.length_map, l1]
      exact hz
    have e0 : ((if b = true then out.toArray.reverse else out.toArray).toList).toArray = (if b = true then out.toArray.reverse else out.toArray) := by rw [Array.toArray_toList]
    have gone : s.heap.get? h'.objs.size = none := by
      cases e : s.heap.get? h'.objs.size with
      | none => rfl
      | some o => exact absurd (Heap.lt_size (hk _ _ e)) (Nat.lt_irrefl _)
    have hn := I.hok.gone gone
    exact ⟨.ref h'.objs.size, upd H h'.objs.size (.lst (ns'.map V.int)), I.laidN (t' := tk) (fun c o e => hk2 c o (hk c o e)) gone hn ⟨hlen, _, n, vals_of_ints k1, by rw [e0]; exact hat⟩, rfl, q _ _ k2 k3 hn⟩
/-- sorted(d), keys texts, any number of them -/
def rSortedDS : List V → Hp → VK → Prop := fun vs H Q => ∃ (d : Addr) (kvs : List (Key × V)) (ss : List Str), vs = [V.ref d] ∧ H d = some (.dK kvs) ∧ kvs.map (·.1) = ss.map Sum.inr ∧
  ∀ (ys : List Str) (l : Addr), ys.Perm ss → Srtd ltZ ys → H l = none → Q (.ref l) (upd H l (.lst (ys.map V.str)))
theorem keys_strs {P : Program} {w : World} {xs' : List (Key × Value)} : ∀ {kvs : List (Key × V)} {ss : List Str}, KV kvs xs' → kvs.map (·.1) = ss.map Sum.inr → ∀ {vs : List Value}, vs.length = xs'.length → (∀ (j : Nat) (v : Value), vs[j]? = some v → ∃ k x, xs'[j]? = some (k, x) ∧ (mixKind P w).is k v = true) → StrsAre vs ss := fun {kvs ss} rel hk {vs} hl hv => by
  have : ∀ {kvs : List (Key × V)} {ss : List Str} {xs : List (Key × Value)} {vs : List Value}, KV kvs xs → kvs.map (·.1) = ss.map Sum.inr → vs.length = xs.length → (∀ (j : Nat) (v : Value), vs[j]? = some v → ∃ k x, xs[j]? = some (k, x) ∧ (mixKind P w).is k v = true) → StrsAre vs ss := by
    intro kvs
    induction kvs with
    | nil =>
      intro ss xs vs r hk hl hv
      cases r
      cases ss with
      | nil =>
        have : vs = [] := List.eq_nil_of_length_eq_zero hl
        subst this
        exact .nil
      | cons _ _ => cases hk
    | cons kv kvs ih =>
      intro ss xs vs r hk hl hv
      cases r with
      | cons h t =>
        cases ss with
        | nil => cases hk
        | cons z ss =>
          cases vs with
          | nil => simp at hl
          | cons v vs =>
            rw [List.map_cons, List.map_cons] at hk
            obtain ⟨h1, h2⟩ := List.cons.inj hk
            obtain ⟨k, x, e1, e2⟩ := hv 0 v rfl
            have e1' := (Prod.mk.inj (Option.some.inj e1)).1
            have kk : k = Sum.inr z := by rw [← e1', ← h.1, h1]
            subst kk
            obtain ⟨u, eu⟩ := relV_key (show keyIs (Sum.inr z) v = true from e2)
            subst eu
            exact .cons _ _ (ih t h2 (by simpa using hl) fun j v' e => hv (j + 1) v' (by simpa using e))
  exact this rel hk hl hv
theorem cr_sortedDS (hc : X.calm = true) : CallR X (.builtin "sorted") rSortedDS := by
  intro pins s σ H xs us Q I r h
  obtain ⟨d, kvs, ss, rfl, ha, hks, q⟩ := h
  obtain rfl := Vals.ref1 r
  obtain ⟨z, hd, xs', rel, dd⟩ := dk_of I.hok ha
  obtain ⟨ep, hat⟩ := dd.dictAt
  have l1 : kvs.length = xs'.length := Paired.length rel
  have hz : xs'.length ≤ sizeLine := by omega
  refine sorted_col (x := .ref d) (b := false) (kw := []) (ltv := fun _ => ltSv) (P := fun _ _ vs => StrsAre vs ss)
    plain_rev (args_sorted1 _) (fun _ => args_list_sort _) (fun R hR => ?_) (fun _ _ _ _ => swo_str) (fun h' _ vs hP => ?_) (fun h' tk vs hP h2 h₁ c hb keep => strs_sortable hP h2) (fun h' tk vs out h2 hk hP h1 hb hk2 hat => ?_)
  · refine PySem.W.kdu_collect (A := X.A.in1) (PySem.W.kdl_dict (knd := mixKind X.prog X.w) (kvs := xs') (ep := ep) (d := d) hd) (I.ok.hd hc) hat hz fun h' tk acc hk hacc => hR h' tk _ hk (keys_strs rel hks (by rw [Array.length_toList]; exact hacc.1) fun j v e => hacc.2 j v (by rw [← Array.getElem?_toList]; exact e))
  · rw [hP.length, ← List.length_map (f := (Sum.inr : Str → Key)), ← hks, List.length_map]
    omega
  · obtain ⟨n, hat⟩ := hat
    have isS : ∀ v ∈ out, ∃ x t, v = Value.str x t := fun v hv => StrsAre.all hP v (hb.perm.mem_iff.mp hv)
    have kp : (out.map strOf).Perm ss := by
      have := hb.perm.map strOf
      rwa [if_neg (by decide), strOf_strs hP] at this
    have hlen : ((out.map strOf).map V.str).length ≤ sizeLine := by
      rw [List.length_map, kp.length_eq, ← List.length_map (f := (Sum.inr : Str → Key)), ← hks, List.length_map]
      omega
    have gone : s.heap.get? h'.objs.size = none := by
      cases e : s.heap.get? h'.objs.size with
      | none => rfl
      | some o => exact absurd (Heap.lt_size (hk _ _ e)) (Nat.lt_irrefl _)
    have hn := I.hok.gone gone
    exact ⟨.ref h'.objs.size, upd H h'.objs.size (.lst ((out.map strOf).map V.str)), I.laidN (t' := tk) (fun c o e => hk2 c o (hk c o e)) gone hn ⟨hlen, out, n, vals_of_strs (strsAre_map out isS), hat⟩, rfl, q _ _ kp (srtd_map h1) hn⟩
/-! plain tuples: such of which no attributes are held -/
def Ptp (H : Hp) (a : Addr) (xs : List V) : Prop := ∃ o : Obj, H a = some (.frz o (.tup xs)) ∧ o.dict = none
theorem Ptp.seq {K : PySem.W.Frag} {H : Hp} {a : Addr} {xs : List V} (h : Ptp H a xs) : SqT K H a xs := let ⟨o, e, _⟩ := h; .inl (.inr ⟨o, e⟩)
theorem Ptp.same {H H' : Hp} {a : Addr} {xs : List V} (h : Ptp H a xs) (s : Same H H') : Ptp H' a xs := let ⟨o, e, d⟩ := h; ⟨o, s _ _ e, d⟩
theorem Ptp.ne {H : Hp} {a p : Addr} {xs : List V} (h : Ptp H a xs) (hp : H p = none) : a ≠ p := let ⟨o, e, _⟩ := h; ne_of_none e hp
theorem Ptp.upd {H : Hp} {a p : Addr} {xs : List V} {u : HO} (h : Ptp H a xs) (n : a ≠ p) : Ptp (L2.upd H p u) a xs := let ⟨o, e, d⟩ := h; ⟨o, by rw [upd_ne n]; exact e, d⟩
/-- (a, b, ..), a plain tuple -/
def tTupF (t : TA) : TE := fun σ H Q => t σ H fun xs H1 => xs.length ≤ sizeLine ∧ ∀ p o, H1 p = none → o.dict = none → Q (.ref p) (upd H1 p (.frz o (.tup xs)))
theorem pe_tupF {x1} {es : List Expr} {t : TA} {pos : Pos} (h : PA X es t) : PE X (.Tuple es x1 pos) (tTupF t) := by
  refine ⟨fun pins s σ H Q I hq => ?_⟩
  refine wpAny_Tuple_spliced (thn (h.run pos pins s σ H _ I hq) fun us s1 ⟨xs, H1, I1, r, z, q⟩ => ⟨by rw [← r.length]; exact z, ?_⟩)
  have hf : H1 s1.heap.objs.size = none := I1.hok.fresh (Nat.le_refl _)
  refine ⟨.ref s1.heap.objs.size, _, I1.laid (t' := s1.toks) (fun b u e => Heap.get?_push_of_some _ e) (Nat.le_refl _) ?_, rfl, q _ { cls := .type "tuple", data := .seq us.toArray } hf rfl⟩
  exact ⟨Heap.get?_push_size _ rfl, z, us, r, ⟨_, Heap.get?_push_size _ rfl, rfl, _, rfl⟩⟩
/-- tuple(xs) of a list, a plain tuple -/
theorem call_tupleF : CallR X (.type "tuple") (fun xs H Q => ∃ p ys, xs = [.ref p] ∧ SqL X.K H p ys ∧ ∀ l o, H l = none → o.dict = none → Q (.ref l) (upd H l (.frz o (.tup ys)))) := by
  intro pins s σ H xs us Q I r h
  obtain ⟨p, ys, rfl, hq, q⟩ := h
  obtain ⟨u, rfl, rx⟩ := vals1 r
  cases rx
  obtain ⟨its, r', pl, hz⟩ := I.list hq
  have hlen := r'.length
  refine call_tuple_list pl.isList (fun h' kp => ?_) (by simp only [List.size_toArray] <;> omega)
  have I1 : Inv X pins σ H { s with heap := h' } := I.kept (t' := s.toks) kp
  have I2 : Inv X pins σ (upd H h'.objs.size (.frz _ (.tup ys))) { s with heap := h'.push { cls := .type "tuple", data := .seq its.toArray } } :=
    I1.laid (t' := s.toks) (fun b o e => Heap.get?_push_of_some _ e) (Nat.le_refl _) (show ObjOk X.prog X.w _ _ _ (.frz _ (.tup ys)) from ⟨Heap.get?_push_size _ rfl, hz, its, r', IsTup.new _ _⟩)
  exact ⟨.ref h'.objs.size, _, I2, rfl, q _ _ (I1.hok.fresh (Nat.le_refl _)) rfl⟩
theorem pairs_of2 {pins : List (Addr × Obj)} {σ : St} {H : Hp} {s : Shared} (I : Inv X pins σ H s) : ∀ {ps : List Addr} {kvs : List (Key × V)}, Paired (fun p kv => SqT X.K H p [kV kv.1, kv.2]) ps kvs →
    ∃ (prs : List (Key × Value)) (vps : List (Value × Value)), KV kvs prs ∧ prs.length = ps.length ∧ vps.length = prs.length ∧
      ∀ (j : Nat) (k v : Value), vps[j]? = some (k, v) → ∃ (b : Addr) (q : Key × Value), ps[j]? = some b ∧ prs[j]? = some q ∧ v = q.2 ∧ IsTup s.heap b #[k, v] ∧ keyIs q.1 k = true
  | _, _, .nil => ⟨[], [], .nil, rfl, rfl, fun j k v e => by simp at e⟩
  | _, _, .cons (a := p) (b := kv) h t => by
    obtain ⟨prs, vps, r, hl, hl2, hp⟩ := pairs_of2 I t
    obtain ⟨its, rv, ht, _⟩ := I.tuple h
    obtain ⟨u, y, ei, ru, ry⟩ := vals2 rv
    subst ei
    refine ⟨(kv.1, y) :: prs, (u, y) :: vps, .cons ⟨rfl, ry⟩ r, by rw [List.length_cons, List.length_cons, hl], by rw [List.length_cons, List.length_cons, hl2], fun j k v e => ?_⟩
    cases j with
    | zero =>
      have e' : (u, y) = (k, v) := Option.some.inj e
      cases e'
      exact ⟨p, _, rfl, rfl, rfl, ht, kV_is (P := X.prog) (w := X.w) ru⟩
    | succ j =>
      obtain ⟨b, q, e1, e2, e3⟩ := hp j k v (by simpa using e)
      exact ⟨b, q, by simpa using e1, by simpa using e2, e3⟩
/-- dict(t), t a plain tuple of pairs -/
theorem call_dictPT (hcalm : X.calm = true) : CallR X (.type "dict") (fun xs H Q => ∃ (a : Addr) (ps : List Addr) (kvs : List (Key × V)), xs = [.ref a] ∧ Ptp H a (ps.map V.ref) ∧ Paired (fun p kv => SqT X.K H p [kV kv.1, kv.2]) ps kvs ∧
    ∀ p, H p = none → Q (.ref p) (upd H p (.dK (mergeK [] kvs)))) := by
  intro pins s σ H xs us Q I r q
  obtain ⟨a, ps, kvs, ex, hq, hp, q⟩ := q
  subst ex
  obtain ⟨u, eu, rx⟩ := vals1 r
  subst eu
  cases rx
  obtain ⟨o, ha, hdn⟩ := hq
  obtain ⟨hao, hz, its, rv, o', hao', hc, n, hdat⟩ := (show ObjOk X.prog X.w H s.heap a (.frz o (.tup (ps.map V.ref))) from I.hok a _ ha)
  rw [hao] at hao'
  cases hao'
  have ei := refs_at rv
  subst ei
  rw [List.length_map] at hz
  obtain ⟨prs, vps, rel, hl, hvl, hvp⟩ := pairs_of2 I hp
  have hTs : ∀ j b, ps[j]? = some b → ps.getD j 0 = b := fun j b e => by simp [List.getD, e]
  refine PySem.call_dict_pairs (knd := mixKind X.prog X.w) (kvs := prs) (PairArg.tuple (prog := X.prog) (w := X.w) a (ps.map Value.ref).toArray (fun j => ps.getD j 0) vps) (I.ok.hd hcalm) ⟨⟨o, n, hao, hc, hdn, hdat⟩, ?_, fun j k v e => ?_⟩ ⟨hvl.symm, fun i key v h => ?_⟩ (by rw [hvl, hl]; exact hz) fun h' tk hd' k => ?_
  · simp [hvl, hl]
  · obtain ⟨b, q, e1, e2, e3, e4, e5⟩ := hvp j k v e
    show _ ∧ PairAt s.heap (ps.getD j 0) k v
    rw [hTs j b e1]
    have ed : (List.map Value.ref ps).toArray[j]? = some (Value.ref b) := by simp [e1]
    refine ⟨?_, .inl e4⟩
    show _ = some (Value.ref (ps.getD j 0))
    rw [hTs j b e1]
    exact ed
  · obtain ⟨b, q', e1, e2, e3, e4, e5⟩ := hvp i key v h
    exact ⟨q'.1, by rw [e2, e3], e5⟩
  · have hm : (s.heap.objs.size == sysModules) = false := beq_eq_false_iff_ne.mpr (Nat.ne_of_gt I.big)
    have hlen : (mergeK [] kvs).length ≤ sizeLine := by
      refine Nat.le_trans (length_mergeK kvs []) ?_
      rw [List.length_nil, Nat.zero_add, rel.length, hl]
      exact hz
    exact ⟨.ref s.heap.objs.size, upd H s.heap.objs.size (.dK (mergeK [] kvs)), I.laid (t' := tk) (fun b u e => k b u (by simp) e) (Nat.le_refl _) (show ObjOk X.prog X.w _ _ _ (.dK (mergeK [] kvs)) from ⟨hlen, hm, merged [] prs, KV.merge rel .nil, hd'⟩), rfl, q _ (I.hok.fresh (Nat.le_refl _))⟩
/-- o.f as a target -/
def gFld (K : PySem.W.Frag) (ta : TE) (f : Str) : TG := fun y σ H Q => ta σ H fun x H2 => ∃ a C dx fs, x = .ref a ∧ H2 a = some (.ins C dx fs) ∧ Cls K C ∧ NoAttr K C f ∧ fs.length < 1000 ∧ Q σ (upd H2 a (.ins C dx (putF f y fs)))
theorem pg_fld {o : Expr} {f : Str} {pos : Pos} {ta : TE} (ha : PE X o ta) : PG X (.Attribute o f pos) (gFld X.K ta f) := by
  refine ⟨fun pins s σ H v u Q I r h => ?_⟩
  rw [assign_Attribute]
  refine wpAny_bind (wpAny_holding (thn (ha.run pins s σ H _ I h) fun ov s2 ⟨x, H2, I2, rx, a, C, dx, fs, ex, ea, c, n, l, q2⟩ => ?_))
  subst ex
  obtain rfl : ov = Value.ref a := rx
  refine wpAny_bind (wpAny_standAt (wpAny_bind (wpAny_holding (setattr_ok I2 ea c n l r fun s3 I3 => ?_))))
  exact wpAny_release ⟨σ, _, I3, q2⟩
end
end L2

namespace L2
open PySem PySem.Spec PyProof.Rows SrtO SrtZ
/-! own rules: (int, text) < (int, text); sorted of a list of texts of any length -/
def ltNZ (i j : Int) (x y : Str) : Bool := if i = j then ltZ x y else decide (i < j)
section
variable {X : Cx}
def rLtNZ (K : PySem.W.Frag) : R2 := fun x y H Q => ∃ (a b : Addr) (i j : Int) (z w : Str), x = .ref a ∧ y = .ref b ∧ SqT K H a [.int i, .str z] ∧ SqT K H b [.int j, .str w] ∧ Q (.bl (ltNZ i j z w)) H
theorem op_ltNZ (hu : X.A.units < cLine) : OpR X (compareOp .Lt) (rLtNZ X.K) := by
  intro pins s σ H x y v u Q I rx ry h
  obtain ⟨a, b, i, j, z, w, rfl, rfl, ha, hb, q⟩ := h
  cases rx
  cases ry
  obtain ⟨its, r1, p1, _⟩ := I.tuple ha
  obtain ⟨its2, r2, p2, _⟩ := I.tuple hb
  obtain ⟨u1, u2, rfl, ri, rj⟩ := vals2 r1
  obtain ⟨w1, w2, rfl, si, sj⟩ := vals2 r2
  obtain ⟨t1, rfl⟩ := ri
  obtain ⟨t2, rfl⟩ := rj
  obtain ⟨t3, rfl⟩ := si
  obtain ⟨t4, rfl⟩ := sj
  have R := Ob.RcOp.tuples_lt (A := X.A) (s := s) (e := fun k => match k with | 0 => (i == j) | _ => (z == w)) (r := fun k => match k with | 0 => decide (i < j) | _ => ltZ z w) p1 p2 hu (fun k h1 h2 => by
    match k, h1, h2 with
    | 0, _, _ => exact SeqAt.EqAt.int_int _ _ _ _
    | 1, _, _ => exact SeqAt.EqAt.str_str _ _ _ _
    | k + 2, h1, _ => exact absurd h1 (by simp)) (fun k h1 h2 _ => by
    match k, h1, h2 with
    | 0, _, _ => exact Ob.RcOp.lt_int _ _ _ _
    | 1, _, _ => exact fun _ _ _ _ h => PyProof.Rows.lt_str h
    | k + 2, h1, _ => exact absurd h1 (by simp))
  have e : Ob.lexAt (fun k => match k with | 0 => (i == j) | _ => (z == w)) (fun k => match k with | 0 => decide (i < j) | _ => ltZ z w) (decide (2 < 2)) 0 2 = ltNZ i j z w := by
    unfold ltNZ
    rw [Ob.lexAt_succ, Ob.lexAt_succ, Ob.lexAt_zero]
    show (if (i == j) = true then (if (z == w) = true then decide (2 < 2) else ltZ z w) else decide (i < j)) = _
    by_cases h1 : i = j
    · rw [if_pos (beq_iff_eq.mpr h1), if_pos h1]
      by_cases h2 : z = w
      · rw [if_pos (by rw [h2]; exact beq_self_eq_true w), h2, ltZ_irr]
        rfl
      · rw [if_neg (fun q => h2 (eq_of_beq q))]
    · rw [if_neg (fun q => h1 (eq_of_beq q)), if_neg h1]
  have R' : Ob.RcOp .Lt X.A s (.ref a) (.ref b) (ltNZ i j z w) := by
    rw [← e]
    exact R
  exact R' X.prog X.w X.xe (EP X pins σ Q) ⟨.bl _, H, I, rfl, q⟩
/-- sorted(xs), xs a list of texts of any length -/
def rSortedSL (K : PySem.W.Frag) : List V → Hp → VK → Prop := fun vs H Q => ∃ (a : Addr) (xs : List Str), vs = [V.ref a] ∧ SqL K H a (xs.map V.str) ∧ ∀ (ys : List Str) (p : Addr), ys.Perm xs → Srtd ltZ ys → H p = none → Q (.ref p) (upd H p (.lst (ys.map V.str)))
theorem cr_sortedSL : CallR X (.builtin "sorted") (rSortedSL X.K) := by
  intro pins s σ H vs us Q I r h
  obtain ⟨a, xs, rfl, hs, q⟩ := h
  obtain ⟨its, rv, hl, hz⟩ := I.list hs
  obtain rfl := Vals.ref1 r
  have hI : StrsAre its xs := strs_of_vals rv
  rw [List.length_map] at hz
  have il : its.length = xs.length := hI.length
  refine SrtO.sorted_ord (ltv := ltSv) ⟨fun x y => swo_str.asym _ _, fun x y z => swo_str.tr _ _ _⟩ hl.isList (by rw [il]; exact hz) (fun h2 h₁ b hb kk => strs_sortable (s := { s with heap := h₁ }) hI h2) fun out h1 h2 => ?_
  obtain ⟨ep, he'⟩ := PyProof.Rows.sortedAll_at s.heap its out.toArray
  have isO : ∀ v ∈ out, ∃ x t, v = Value.str x t := fun v hv => hI.all v (h2.perm.mem_iff.mp hv)
  have hO := strsAre_map out isO
  have pt : (out.map strOf).Perm xs := by
    have := h2.perm.map strOf
    rwa [show its.map strOf = xs from hI.strs] at this
  have hlen : ((out.map strOf).map V.str).length ≤ sizeLine := by rw [List.length_map, pt.length_eq]; exact hz
  refine ⟨.ref _, upd H (s.heap.objs.size + 1) (.lst ((out.map strOf).map V.str)), I.laid (t' := s.toks) (fun _ _ => PyProof.Rows.sortedAll_old) (Nat.le_succ _) ⟨hlen, out, ep, vals_of_strs hO, he'⟩, rfl, q _ _ pt (srtd_map h1) (I.hok.fresh (Nat.le_succ _))⟩
end
end L2

namespace L2
open PySem PySem.Spec PyProof.Rows
section
variable {X : Cx}
/-- name = {.. for ..} on one line, the name a local -/
theorem ps_setDc {i : Nat} {y : Str} {py : Pos} {kx vx tg iter : Expr} {ifs : List Expr} {scope : Scope} {own : List (Str × Nat)} {pos spos : Pos} {wi : TI} {g : TG} {tt : TT} {tk tv : TE} (hc : X.calm = true) (hN : X.N.Nodup) (hy : X.N[i]? = some y) (hyl : X.env.scope.names.lookup y = some .local)
    (hsw : swapsWith (.DictComp kx vx [⟨tg, iter, ifs, 0⟩] scope pos) (some (.Name y py)) spos.line X.env = pure true) (hi : PI X tg iter wi) (ok : BlkOk X.N X.env.scope scope own)
    (hg : ∀ (s : Shared) (H : Hp) (C : Addr) (cl : List (Str × Addr)) (fp : List Addr), PG (X.blk s H scope (compEnvC scope cl C X.env) fp) tg g) (ht : ∀ (s : Shared) (H : Hp) (C : Addr) (cl : List (Str × Addr)) (fp : List Addr), PTs (X.blk s H scope (compEnvC scope cl C X.env) fp) ifs tt)
    (hk : ∀ (s : Shared) (H : Hp) (C : Addr) (cl : List (Str × Addr)) (fp : List Addr), PE (X.blk s H scope (compEnvC scope cl C X.env) fp) kx tk)
    (he : ∀ (s : Shared) (H : Hp) (C : Addr) (cl : List (Str × Addr)) (fp : List Addr), PE (X.blk s H scope (compEnvC scope cl C X.env) fp) vx tv) (hs : ∀ x, foldedSetIterable iter X.env x = pure x := by intro _; rfl) :
    PS X (.Assign [.Name y py] (.DictComp kx vx [⟨tg, iter, ifs, 0⟩] scope pos) spos) (tAsg (tDc wi g tt tk tv (own.map (·.2))) (gName i)) := by
  refine ⟨fun pins s σ H D I h => ?_⟩
  rw [exec_Assign_Name_used _ _ _ _ hsw]
  refine wpAny_bind (wpAny_standAt (wpAny_bind ?_))
  show wpAny _ X.A (do let _ ← comprehension (.DictComp kx vx [⟨tg, iter, ifs, 0⟩] scope pos) scope X.env (firstIterPos [⟨tg, iter, ifs, 0⟩] pos) newDict false (eval iter X.env) (some (assign (.Name y py) X.env))) _ _ s
  have h : tDc wi g tt tk tv (own.map (·.2)) σ H (fun x H1 => gName i x σ H1 D.nx) := h
  refine wpAny_bind (thn (dc_core (Qf := fun _ s' => SP X pins D .next s') hc hN I hi ok hg ht hk he hs h fun L C s' m H' I' q hn f => ?_) fun _ s' hq => wpAny_pure (wpAny_pure hq))
  show wpAny _ _ (assign (.Name y py) X.env (.ref L)) _ _ _
  refine wpAny_assign_Name (store_ok2 (v := V.ref L) I' hN hy (.inl hyl) rfl (fun s2 I2 ⟨a, sb, ha⟩ => ?_) (.inr hyl))
  obtain ⟨f0, f1, f2, f3, f4, f5⟩ := f
  have haC : C ≠ a := by
    rcases ha with z | z
    · rw [z]; exact f1
    · exact fun e => f4 y a z e.symm
  refine ⟨m, hn.sameBut sb haC, fun h3 sb3 => ?_⟩
  exact ⟨_, H', I2.turned (t' := s2.toks) (fun b o hb e => (sb3.2 b hb).trans e) f0 f1 f3 f4 f5, q⟩
theorem sw_trueD {kx vx : Expr} {gs : List Comprehension} {scope : Scope} {pos py : Pos} {y : Str} {l : Nat} {env : Env} (hk : env.scope.kind = .function) (hy : env.scope.names.lookup y = some .local) (hl : (py.line == pos.line) = true)
    (ha : (scope.names.any fun (n, k) => n == y && (k == .local || k == .cell)) = false) : swapsWith (.DictComp kx vx gs scope pos) (some (.Name y py)) l env = pure true := by
  have ky : env.kindOf y = some .local := hy
  have hb : env.blockKind = .function := by unfold Env.blockKind; rw [hk]; rfl
  unfold swapsWith
  simp only [hb, ky, ha, Expr.pos, hl]
  rfl
/-- list.count of a text among texts -/
def rCntS (K : PySem.W.Frag) : V → List V → Hp → VK → Prop := fun x xs H Q => ∃ (p : Addr) (ns : List Str) (k : Str), x = .ref p ∧ xs = [.str k] ∧ SqL K H p (ns.map V.str) ∧ Q (.int (ns.count k : Nat)) H
theorem countS_in (k : Str) : ∀ ns : List Str, PySem.Spec.countIn (.str k) (ns.map PyData.str) = (ns.count k : Nat)
  | [] => rfl
  | n :: r => by
    rw [List.map_cons, PySem.Spec.countIn, countS_in k r, List.count_cons]
    simp only [PySem.Spec.same]
    rcases Bool.eq_false_or_eq_true (n == k) with hb | hb <;> simp only [hb, Bool.false_eq_true, if_true, if_false] <;> push_cast <;> omega
theorem mt_lcountS : MtR X "list.count" (rCntS X.K) := by
  intro pins s σ H x xs v us Q I rx rxs h
  obtain ⟨p, ns, k, rfl, rfl, hs, q⟩ := h
  cases rx
  obtain ⟨u, rfl, ru⟩ := rxs.one
  obtain ⟨t, rfl⟩ := ru
  obtain ⟨its, rv, pl, hlen⟩ := I.list hs
  refine count_list_strs (vs := its) pl.isList (strs_of_vals rv) ?_
  rw [countS_in]
  exact ⟨.int (ns.count k : Nat), H, I.tok _, ⟨s.toks, rfl⟩, q⟩
/-- a method within a comprehension: the written part by name -/
theorem pe_bmK {K : PySem.W.Frag} {o e : Expr} {es : List Expr} {to : TE} {t : TA} {name : Str} {apos cpos : Pos} {T id : String} {r : V → List V → Hp → VK → Prop} (pa : PlainAttrs T) (slot : Slot T name id) (hty : typeOf (.builtin id) = pure (.type "method_descriptor")) (hm : MtR X id r) (ho : PE X o to) (ha : PA X (e :: es) t) (hK : X.K = K := by rfl)
    (hbase : attributeBase o name X.env (eval o X.env) = eval o X.env := by rfl)
    (hfew : ((backTo cpos (starEach (e :: es) X.env)).all (fun x => !x.1) && (backToKw cpos (keywordEach [] X.env)).all (fun x => x.1.isSome)
      && decide ((e :: es).length + ([] : List Keyword).length + (if ([] : List Keyword).isEmpty then 0 else 1) < 30)) = true := by rfl)
    (hline : (apos.endLine == cpos.line) = true := by rfl) (hs : starEach (e :: es) X.env = (false, eval e X.env) :: starEach es X.env := by rfl) (hplain : (backTo cpos (starEach es X.env)).any (·.1) = false := by rfl) :
    PE X (.Call (.Attribute o name apos) (e :: es) [] cpos) (tBM K T r to t) := by
  subst hK
  exact pe_bm pa slot hty hm ho ha hbase hfew hline hs hplain
end
end L2

namespace L2
open PySem PySem.Spec PyProof.Rows SrtO SrtZ
section
variable {X : Cx}
/-- min(d.values()), values ints -/
def rMinV : List V → Hp → VK → Prop := fun vs H Q => ∃ (p d : Addr) (ks : List (Str × Int)), vs = [V.ref p] ∧ H p = some (valuesO p d) ∧ H d = some (.dK (ks.map entZ)) ∧ 0 < ks.length ∧
  ∀ m, m ∈ ks.map (·.2) → (∀ y ∈ ks.map (·.2), m ≤ y) → Q (.int m) H
theorem cr_minV (hc : X.calm = true) : CallR X (.builtin "min") rMinV := by
  intro pins s σ H vs us Q I r h
  obtain ⟨p, d, ks, rfl, hp, ha, hne, q⟩ := h
  obtain rfl := Vals.ref1 r
  have view : s.heap.IsValuesView p d := (show ObjOk X.prog X.w H s.heap p (valuesO p d) from I.hok p _ hp).1
  obtain ⟨z, hd, xs', rel, dd⟩ := dk_of I.hok ha
  obtain ⟨ep, hat⟩ := dd.dictAt
  have l1 : ks.length = xs'.length := by
    have := Paired.length rel
    rwa [List.length_map] at this
  have K := PySem.W.kdl_values (prog := X.prog) (w := X.w) (knd := mixKind X.prog X.w) (kvs := xs') (ep := ep) (r := p) (d := d)
  have hok : s.heap.IsValuesView p d ∧ s.heap.DictAt (mixKind X.prog X.w) d xs' ep := ⟨view, hat⟩
  have hval : ∀ (i : Nat) (v : Value), (∃ k, xs'[i]? = some (k, v)) → ∃ t : Tok, v = Value.int ((ks.map (·.2)).getD i 0) t := fun i v ⟨k, e⟩ => by
    obtain ⟨e', t, e1, e2⟩ := ent_paired rel e
    refine ⟨t, ?_⟩
    have : (ks.map (·.2)).getD i 0 = e'.2 := by simp [List.getD, e1]
    rw [this]
    exact (Prod.mk.inj e2).2
  refine PySem.call_min_walkS ?_
  obtain ⟨oI, St, hit, W, st⟩ := K.iter X.A.in1 s (I.ok.hd hc) hok
  refine hit _ _ ⟨s.heap.objs.size, _, _, _, xs'.length, _, _, fun i j => decide ((ks.map (·.2)).getD i 0 < (ks.map (·.2)).getD j 0), rfl, W.toS, st, fun b hb => ?_, by omega, PySem.CmpOf.ints_lt _ hval, fun v s' hP hm => ?_⟩
  · show b < (s.heap.push oI).objs.size
    rw [size_push']
    rcases List.mem_cons.mp hb with e | hb
    · rw [e]; exact Nat.lt_succ_self _
    · rw [List.mem_singleton.mp hb]; exact Nat.lt_succ_of_lt (K.there _ hok).2
  · have hk : ∀ b o, s.heap.get? b = some o → s'.heap.get? b = some o := fun b o e =>
      hm.heap b o (fun hI => absurd (Heap.lt_size e) (by rw [List.mem_singleton.mp hI]; exact Nat.lt_irrefl _)) (Heap.get?_push_of_some _ e)
    obtain ⟨t, rfl⟩ := hval _ v hP
    obtain ⟨h1, h2⟩ := argBest_lt (fun i => (ks.map (·.2)).getD i 0) (xs'.length - 1)
    have hI : Inv X pins σ H s' := by
      rw [Moved.eq_with hm]
      exact I.kept (t' := s'.toks) hk
    refine ⟨.int _, H, hI, ⟨t, rfl⟩, q _ ?_ fun a ha => ?_⟩
    · exact PySem.getD_mem (by rw [List.length_map]; omega)
    · obtain ⟨j, hj, rfl⟩ := mem_getD ha
      rw [List.length_map] at hj
      exact h2 j (by omega)
end
end L2


namespace Kb
open PySem PySem.Spec PyProof.Rows L2
/-! the text -/
def topS (i : Nat) : Stmt := PySem.Challenge.pw_knownends_k50_books_joined_and_poured.main.body.getD i (.Pass ⟨0, 0, 0, 0⟩)
/-! facts -/
structure Dn (K : PySem.W.Frag) (mg : Str → Option Value) (nm : Str) (st : Stmt) (ps : List Str) where
  f : Addr
  fd : FuncData
  F : Fun K nm nm st f fd
  g : mg nm = some (.ref f)
  b : Binds K fd ps []
structure Cst (mg : Str → Option Value) (nm : Str) (v : V) where
  u : Value
  g : mg nm = some u
  r : RelV v u
structure Blt (mg : Str → Option Value) : Prop where
  n_len : mg "len" = none
  n_int : mg "int" = none
  n_abs : mg "abs" = none
  n_range : mg "range" = none
  n_isinstance : mg "isinstance" = none
  n_str : mg "str" = none
  n_all : mg "all" = none
  n_tuple : mg "tuple" = none
  n_bool : mg "bool" = none
  n_list : mg "list" = none
  n_dict : mg "dict" = none
  n_sum : mg "sum" = none
  n_min : mg "min" = none
  n_sorted : mg "sorted" = none
/-! heaps -/
theorem same_upd {H : Hp} {p : Addr} {o : HO} (h : H p = none) : Same H (upd H p o) := fun b x e => by
  rw [upd_ne (ne_of_none e h)]
  exact e
theorem Same.new {H H1 : Hp} {p : Addr} {o : HO} (x : Same H H1) (h : H1 p = none) : Same H (upd H1 p o) := fun b u e => same_upd h b u (x b u e)
theorem Same.gone {H H1 : Hp} {p : Addr} (x : Same H H1) (h : H1 p = none) : H p = none := by
  cases e : H p with
  | none => rfl
  | some o =>
    have := x _ _ e
    rw [h] at this
    cases this
/-- an object that was new is stored anew -/
theorem Same.put {H H1 : Hp} {p : Addr} {o : HO} (x : Same H H1) (h : H p = none) : Same H (upd H1 p o) := fun b u e => by
  rw [upd_ne (ne_of_none e h)]
  exact x b u e
theorem sql {K : PySem.W.Frag} {H : Hp} {a : Addr} {xs : List V} (h : H a = some (.lst xs)) : SqL K H a xs := .inl (.inl h)
theorem seqT {K : PySem.W.Frag} {H H' : Hp} {a : Addr} {xs : List V} (h : SqT K H a xs) (s : Same H H') : SqT K H' a xs := by
  rcases h with (h | ⟨o, h⟩) | h
  · exact .inl (.inl (s _ _ h))
  · exact .inl (.inr ⟨o, s _ _ h⟩)
  · exact .inr h
theorem tyT {K : PySem.W.Frag} {H : Hp} {a : Addr} {xs : List V} (h : SqT K H a xs) : TyX K H (.ref a) (.type "tuple") := by
  rcases h with (h | ⟨o, h⟩) | ⟨o, its, n, h, c, _⟩
  · exact .base (.tup h)
  · exact .fTuple h
  · exact .kTuple h c
/-- %, the rest as a letter -/
def rModB : R2 := fun x y H Q => ∃ i j, x = .int i ∧ y = .int j ∧ 0 < j ∧ ∀ m : Int, 0 ≤ m → m < j → m = i % j → Q (.int m) H
theorem op_modB {X : Cx} : OpR X (binaryOp .Mod) rModB := fun pins s σ H x y v u Q I rx ry h => by
  obtain ⟨i, j, e1, e2, hj, q⟩ := h
  exact op_mod pins s σ H x y v u Q I rx ry ⟨i, j, e1, e2, hj, q _ (Int.emod_nonneg _ (by omega)) (Int.emod_lt_of_pos _ hj) rfl⟩
theorem cmulR {i j : Int} (h1 : 0 ≤ j) (h2 : j < 10000000000) : CMul i j := .inr ⟨by omega, by omega⟩
theorem cmulL {i j : Int} (h1 : 0 ≤ i) (h2 : i < 10000000000) : CMul i j := .inl ⟨by omega, by omega⟩
/-! names -/
def cs (z : Str) : List Nat := z.cps.toList
theorem cs_len (z : Str) : (cs z).length = z.length := by simp [cs, Str.length]
theorem cs_inj {a b : Str} (h : cs a = cs b) : a = b := by
  cases a; cases b
  simp [cs] at h
  rw [h]
def nmC (c : Nat) : Bool := !decide (c < 97) && !decide (122 < c)
/-- a name -/
structure Nm (z : Str) : Prop where
  pos : 1 ≤ z.length
  len : z.length ≤ 8
  abc : ∀ c ∈ cs z, nmC c = true
theorem lt_one (a b : Nat) : decide ([a] < [b]) = decide (a < b) := by
  have : ([a] < [b]) ↔ a < b := by simp [List.cons_lt_cons_iff]
  by_cases h : a < b
  · rw [decide_eq_true h, decide_eq_true (this.mpr h)]
  · rw [decide_eq_false h, decide_eq_false (fun z => h (this.mp z))]
abbrev sP_is_int : Stmt := topS 8
abbrev NP_is_int : List Str := ["thing"]
theorem scP_is_int : FnScope ["thing"] ["thing"] (defScope sP_is_int) := ⟨rfl, rfl, rfl, by decide +kernel, rfl, by decide +kernel, by decide +kernel⟩
abbrev sP_is_number : Stmt := topS 9
abbrev NP_is_number : List Str := ["thing"]
theorem scP_is_number : FnScope ["thing"] ["thing"] (defScope sP_is_number) := ⟨rfl, rfl, rfl, by decide +kernel, rfl, by decide +kernel, by decide +kernel⟩
abbrev sP_is_room : Stmt := topS 10
abbrev NP_is_room : List Str := ["thing"]
theorem scP_is_room : FnScope ["thing"] ["thing"] (defScope sP_is_room) := ⟨rfl, rfl, rfl, by decide +kernel, rfl, by decide +kernel, by decide +kernel⟩
abbrev sP_is_name : Stmt := topS 13
abbrev NP_is_name : List Str := ["thing", "letter"]
theorem scP_is_name : FnScope ["thing", "letter"] ["thing"] (defScope sP_is_name) := ⟨rfl, rfl, rfl, by decide +kernel, rfl, by decide +kernel, by decide +kernel⟩
abbrev NP_is_stream : List Str := ["thing", "item"]
abbrev DnIsInt (K : PySem.W.Frag) (mg : Str → Option Value) := Dn K mg "is_int" sP_is_int ["thing"]
abbrev DnIsNumber (K : PySem.W.Frag) (mg : Str → Option Value) := Dn K mg "is_number" sP_is_number ["thing"]
abbrev DnIsRoom (K : PySem.W.Frag) (mg : Str → Option Value) := Dn K mg "is_room" sP_is_room ["thing"]
abbrev DnIsName (K : PySem.W.Frag) (mg : Str → Option Value) := Dn K mg "is_name" sP_is_name ["thing"]
section
variable {P : Program} {w : World} {K : PySem.W.Frag} {mg : Str → Option Value} {base : Heap}
/-! is_int, of ints -/
def spIsInt : Sp := fun vs H Q _ => ∃ i : Int, vs = [.int i] ∧ Q (.bl true) H
theorem ok_is_int (T : Blt mg) (d : DnIsInt K mg) : FnOk P w K mg base CX0 1 d.f d.fd ["thing"] spIsInt := by
  refine d.F.ok scP_is_int (fun vs H Q E h => ?_) (fun cdv A outer s H vs Q E hr h => ?_)
  · obtain ⟨i, rfl, _⟩ := h
    rfl
  · obtain ⟨i, rfl, q⟩ := h
    refine ⟨_, (pss_one (ps_ret (pe_and (pe_callB call_isi (by rfl) T.n_isinstance (by decide +kernel) (pa_cons (pv 0) (pa_cons (pe_bltn (v := .ty "int") (by rfl) T.n_int (by decide +kernel) rfl) pa_nil))) (pe_one (pe_not (pe_callB call_isi (by rfl) T.n_isinstance (by decide +kernel) (pa_cons (pv 0) (pa_cons (pe_bltn (v := .ty "bool") (by rfl) T.n_bool (by decide +kernel) rfl) pa_nil)))))))), ?_⟩
    refine ⟨.int i, rfl, .int i, _, _, _, true, rfl, .ty "int", .base (.int i), kit_ty (by decide +kernel), true, rfl, iteT ?_⟩
    exact ⟨.int i, rfl, .int i, _, _, _, false, rfl, .ty "bool", .base (.int i), kit_ty (by decide +kernel), false, rfl, q⟩
/-! is_number, of ints -/
def spIsNumber : Sp := fun vs H Q _ => ∃ i : Int, vs = [.int i] ∧ Q (.bl (decide (0 ≤ i))) H
theorem ok_is_number (T : Blt mg) (dP_is_int : DnIsInt K mg) (d : DnIsNumber K mg) : FnOk P w K mg base CX0 2 d.f d.fd ["thing"] spIsNumber := by
  have GP_is_int : FnOk P w K mg base CX0 1 dP_is_int.f dP_is_int.fd ["thing"] spIsInt := ok_is_int T dP_is_int
  refine d.F.ok scP_is_number (fun vs H Q E h => ?_) (fun cdv A outer s H vs Q E hr h => ?_)
  · obtain ⟨i, rfl, _⟩ := h
    rfl
  · obtain ⟨i, rfl, q⟩ := h
    refine ⟨_, (pss_one (ps_ret (pe_and (pe_call GP_is_int (hr.mono (by omega)) (by rfl) dP_is_int.g dP_is_int.F.kp dP_is_int.b .nil pass0 (pa_cons (pv 0) pa_nil)) (pe_one (pe_cmpR op_ge (pv 0) pe_int (nomark _)))))), ?_⟩
    exact ⟨.int i, rfl, i, rfl, true, rfl, iteT ⟨.int i, rfl, _, _, rfl, rfl, q⟩⟩
/-! is_room, of ints -/
def spIsRoom : Sp := fun vs H Q _ => ∃ i : Int, vs = [.int i] ∧ Q (.bl (decide (1 ≤ i) && decide (i ≤ 64))) H
theorem ok_is_room (T : Blt mg) (cM : Cst mg "MOST_ROOM" (.int 64)) (dP_is_int : DnIsInt K mg) (d : DnIsRoom K mg) : FnOk P w K mg base CX0 2 d.f d.fd ["thing"] spIsRoom := by
  have GP_is_int : FnOk P w K mg base CX0 1 dP_is_int.f dP_is_int.fd ["thing"] spIsInt := ok_is_int T dP_is_int
  refine d.F.ok scP_is_room (fun vs H Q E h => ?_) (fun cdv A outer s H vs Q E hr h => ?_)
  · obtain ⟨i, rfl, _⟩ := h
    rfl
  · obtain ⟨i, rfl, q⟩ := h
    refine ⟨_, (pss_one (ps_ret (pe_and (pe_call GP_is_int (hr.mono (by omega)) (by rfl) dP_is_int.g dP_is_int.F.kp dP_is_int.b .nil pass0 (pa_cons (pv 0) pa_nil)) (pe_one (pe_chain op_le op_le pe_int (pv 0) (pe_glob rfl cM.g cM.r)))))), ?_⟩
    refine ⟨.int i, rfl, i, rfl, true, rfl, iteT ⟨.int i, rfl, _, _, rfl, rfl, decide (1 ≤ i), rfl, ite2 (fun e => ⟨_, _, rfl, rfl, ?_⟩) (fun e => ?_)⟩⟩
    · rw [e, Bool.true_and] at q
      exact q
    · rw [show decide (1 ≤ i) = false from by simpa using e, Bool.false_and] at q
      exact q
/-! is_name, of names -/
def spIsName : Sp := fun vs H Q _ => ∃ z : Str, vs = [.str z] ∧ Nm z ∧ ∀ H', Same H H' → Q (.bl true) H'
theorem ok_is_name (T : Blt mg) (cL : Cst mg "LONGEST_NAME" (.int 8)) (d : DnIsName K mg) : FnOk P w K mg base CX0 1 d.f d.fd ["thing"] spIsName := by
  refine d.F.ok scP_is_name (fun vs H Q E h => ?_) (fun cdv A outer s H vs Q E hr h => ?_)
  · obtain ⟨z, rfl, _⟩ := h
    rfl
  · obtain ⟨z, rfl, nm, q⟩ := h
    refine ⟨_, (pss_cons (ps_if (PW.pt (pw_or (pt_not (pt_val (pe_callB call_isi (by rfl) T.n_isinstance (by decide +kernel) (pa_cons (pv 0) (pa_cons (pe_bltn (v := .ty "str") (by rfl) T.n_str (by decide +kernel) rfl) pa_nil))))) (pw_or1 (pt_not (pt_chain op_le op_le pe_int (pe_callB call_len_str (by rfl) T.n_len (by decide +kernel) (pa_cons (pv 0) pa_nil)) (pe_glob rfl cL.g cL.r))))))
      (pss_one (ps_ret pe_bl))
      pss_nil)
    (pss_one (ps_ret (pe_callB (cr_all rfl) (by rfl) T.n_all (by decide +kernel) (pa_cons (pe_lc (own := [("letter", 1)]) (g := gName 1) (tt := tYes) rfl scP_is_name.nd (pi_str (pv 0)) (blkOk_by (N := NP_is_name) (sc := defScope sP_is_name) (by decide +kernel)) (fun _ _ _ _ _ => pg_name (i := 1) scP_is_name.nd rfl (Or.inl rfl)) (fun _ _ _ _ _ => pts_nil) (fun _ _ _ _ _ => (pe_chain op_le_str op_le_str pe_str (pv 1) pe_str))) pa_nil))))), ?_⟩
    have h1 : decide ((1 : Int) ≤ (z.length : Int)) = true := decide_eq_true (by have := nm.pos; omega)
    have h8 : decide ((z.length : Int) ≤ 8) = true := decide_eq_true (by have := nm.len; omega)
    refine ⟨.str z, rfl, .str z, _, _, _, true, rfl, .ty "str", .base (.str z), kit_ty (by decide +kernel), true, rfl, iteF ?_⟩
    refine ⟨.str z, rfl, z, rfl, (by rw [sizeLine_eq]; have := nm.len; omega), _, _, rfl, rfl, true, congrArg V.bl h1, iteT ⟨_, _, rfl, rfl, true, congrArg V.bl h8, iteF ?_⟩⟩
    refine ⟨.str z, rfl, z, rfl, fun D nD => ?_⟩
    refine lc_it walk_str (fun i H3 => Same H H3 ∧ H3 D = some (.lst (((cs z).take i).map fun c => V.bl true))) ⟨same_upd nD, upd_same⟩ (fun _ _ _ _ => trivial) (fun i x H3 H4 hi h3 y => ?_) (fun H3 h3 => ?_)
    · obtain ⟨rfl, c, hc, rfl⟩ := y
      have hc2 : (cs z)[i]? = some c := by
        rw [← hc]
        simp [cs]
      have hcn := nm.abc c (List.mem_of_getElem? hc2)
      unfold nmC at hcn
      have ha : (!decide (c < 97)) = true := by cases h : (!decide (c < 97)) <;> simp_all
      have hz : (!decide (122 < c)) = true := by rw [ha, Bool.true_and] at hcn; exact hcn
      refine ⟨rfl, .str ⟨#[c]⟩, rfl, _, _, rfl, rfl, true, ?_, iteT ⟨_, _, rfl, rfl, ?_⟩⟩
      · show V.bl (!decide ([c] < (Str.ofString "a").cps.toList)) = _
        rw [show (Str.ofString "a").cps.toList = [97] by decide +kernel, lt_one, ha]
      · rw [show (!decide ((Str.ofString "z").cps.toList < [c])) = true by
          rw [show (Str.ofString "z").cps.toList = [122] by decide +kernel, lt_one, hz]]
        refine ⟨_, h3.2, ?_, fun b o e => ?_, ?_⟩
        · rw [List.length_map, List.length_take, sizeLine_eq]
          have := cs_len z
          have := nm.len
          omega
        · rw [upd_ne (ne_of_none e nD)]
          exact h3.1 b o e
        · rw [upd_same, List.take_add_one, hc2, List.map_append]
          rfl
    · refine ⟨D, (cs z).map fun _ => true, rfl, sql ?_, ?_⟩
      · rw [h3.2, List.map_map]
        rw [List.take_of_length_le (by
          show (cs z).length ≤ z.cps.size
          simp [cs])]
        rfl
      · rw [show (((cs z).map fun _ => true).all id) = true by simp]
        exact q H3 h3.1
/-! is_stream, of tuples of names -/
def spIsStream (K : PySem.W.Frag) : Sp := fun vs H Q _ => ∃ (a : Addr) (zs : List Str), vs = [.ref a] ∧ SqT K H a (zs.map V.str) ∧ (∀ z ∈ zs, Nm z) ∧ zs.length ≤ 100000 ∧ ∀ H', Same H H' → Q (.bl true) H'
end
end Kb


namespace Kb
open PySem PySem.Spec PyProof.Rows L2
abbrev NP_is_tree : List Str := ["thing"]
abbrev NP_is_tree_of : List Str := ["thing", "word", "is_right", "many", "height", "step"]
abbrev NP_is_put : List Str := ["step", "word"]
abbrev NP_is_pour : List Str := ["step"]
/-! trees -/
inductive Stp
  | put (zs : List Str)
  | pour
def StpAt (K : PySem.W.Frag) (H : Hp) (v : V) : Stp → Prop
  | .put zs => ∃ a b, v = .ref a ∧ SqT K H a [.str (Str.ofString "stream"), .ref b] ∧ SqT K H b (zs.map V.str) ∧ (∀ z ∈ zs, Nm z) ∧ zs.length ≤ 100000
  | .pour => ∃ a, v = .ref a ∧ SqT K H a [.str (Str.ofString "pour")]
theorem StpAt.same {K : PySem.W.Frag} {H H' : Hp} {v : V} {t : Stp} (h : StpAt K H v t) (s : Same H H') : StpAt K H' v t := by
  cases t with
  | put zs =>
    obtain ⟨a, b, e, h1, h2, r⟩ := h
    exact ⟨a, b, e, seqT h1 s, seqT h2 s, r⟩
  | pour =>
    obtain ⟨a, e, h1⟩ := h
    exact ⟨a, e, seqT h1 s⟩
def hS (h : Int) : Stp → Int
  | .put _ => h + 1
  | .pour => h - 1
def cS (m : Int) : Stp → Int
  | .put zs => m + (zs.length : Nat)
  | .pour => m
def hgt (l : List Stp) : Int := l.foldl hS 0
def mny (l : List Stp) : Int := l.foldl cS 0
structure Tree (l : List Stp) : Prop where
  two : ∀ i, l[i]? = some .pour → 2 ≤ hgt (l.take i)
  one : hgt l = 1
  few : mny l ≤ 50000
  len : l.length ≤ 5000
theorem hgt_snoc {l : List Stp} {i : Nat} {t : Stp} (h : l[i]? = some t) : hgt (l.take (i + 1)) = hS (hgt (l.take i)) t := by
  unfold hgt
  rw [List.take_add_one, h, List.foldl_append]
  rfl
theorem mny_snoc {l : List Stp} {i : Nat} {t : Stp} (h : l[i]? = some t) : mny (l.take (i + 1)) = cS (mny (l.take i)) t := by
  unfold mny
  rw [List.take_add_one, h, List.foldl_append]
  rfl
def TreeAt (K : PySem.W.Frag) (H : Hp) (a : Addr) (l : List Stp) : Prop := ∃ vs, SqT K H a vs ∧ Paired (StpAt K H) vs l
theorem paired_same {K : PySem.W.Frag} {H H' : Hp} (s : Same H H') : ∀ {vs : List V} {l : List Stp}, Paired (StpAt K H) vs l → Paired (StpAt K H') vs l
  | _, _, .nil => .nil
  | _, _, .cons h t => .cons (h.same s) (paired_same s t)
theorem TreeAt.same {K : PySem.W.Frag} {H H' : Hp} {a : Addr} {l : List Stp} (h : TreeAt K H a l) (s : Same H H') : TreeAt K H' a l := by
  obtain ⟨vs, h1, h2⟩ := h
  exact ⟨vs, seqT h1 s, paired_same s h2⟩
theorem stream_ne : ¬ (V.str (Str.ofString "pour") = V.str (Str.ofString "stream")) := by decide +kernel
section
variable {P : Program} {w : World} {K : PySem.W.Frag} {mg : Str → Option Value} {base : Heap}
/-! _is_put -/
def isPut : Stp → Bool
  | .put _ => true
  | .pour => false
def spIsPut (K : PySem.W.Frag) : Sp := fun vs H Q _ => ∃ (v : V) (t : Stp), vs = [v, .str (Str.ofString "stream")] ∧ StpAt K H v t ∧ Q (.bl (isPut t)) H
/-! _is_pour -/
def spIsPour (K : PySem.W.Frag) : Sp := fun vs H Q _ => ∃ v : V, vs = [v] ∧ StpAt K H v .pour ∧ Q (.bl true) H
/-! is_tree_of, is_tree -/
theorem paired_at {α β : Type} {F : α → β → Prop} : ∀ {xs : List α} {ys : List β}, Paired F xs ys → ∀ {i : Nat} {x : α}, xs[i]? = some x → ∃ y, ys[i]? = some y ∧ F x y := LiI.paired_get
def spIsTreeOf (K : PySem.W.Frag) (g : Addr) : Sp := fun vs H Q _ => ∃ (a : Addr) (l : List Stp), vs = [.ref a, .str (Str.ofString "stream"), .ref g] ∧ TreeAt K H a l ∧ Tree l ∧ ∀ H', Same H H' → Q (.bl true) H'
def spIsTree (K : PySem.W.Frag) : Sp := fun vs H Q _ => ∃ (a : Addr) (l : List Stp), vs = [.ref a] ∧ TreeAt K H a l ∧ Tree l ∧ ∀ H', Same H H' → Q (.bl true) H'
end
end Kb


namespace Kb
open PySem PySem.Spec PyProof.Rows L2 SrtZ
abbrev sP_are_counts : Stmt := topS 14
abbrev NP_are_counts : List Str := ["thing", "last", "pair"]
theorem scP_are_counts : FnScope ["thing", "last", "pair"] ["thing"] (defScope sP_are_counts) := ⟨rfl, rfl, rfl, by decide +kernel, rfl, by decide +kernel, by decide +kernel⟩
abbrev sP_is_counted : Stmt := topS 15
abbrev NP_is_counted : List Str := ["pair"]
theorem scP_is_counted : FnScope ["pair"] ["pair"] (defScope sP_is_counted) := ⟨rfl, rfl, rfl, by decide +kernel, rfl, by decide +kernel, by decide +kernel⟩
abbrev sP_lost_of : Stmt := topS 19
abbrev NP_lost_of : List Str := ["sketch", "_", "count"]
theorem scP_lost_of : FnScope ["sketch", "_", "count"] ["sketch"] (defScope sP_lost_of) := ⟨rfl, rfl, rfl, by decide +kernel, rfl, by decide +kernel, by decide +kernel⟩
abbrev sP_is_sketch : Stmt := topS 20
abbrev NP_is_sketch : List Str := ["thing", "room", "many", "off", "kept"]
theorem scP_is_sketch : FnScope ["thing", "room", "many", "off", "kept"] ["thing"] (defScope sP_is_sketch) := ⟨rfl, rfl, rfl, by decide +kernel, rfl, by decide +kernel, by decide +kernel⟩
abbrev sP_bare : Stmt := topS 21
abbrev NP_bare : List Str := ["room"]
theorem scP_bare : FnScope ["room"] ["room"] (defScope sP_bare) := ⟨rfl, rfl, rfl, by decide +kernel, rfl, by decide +kernel, by decide +kernel⟩
abbrev DnAreCounts (K : PySem.W.Frag) (mg : Str → Option Value) := Dn K mg "are_counts" sP_are_counts ["thing"]
abbrev DnIsCounted (K : PySem.W.Frag) (mg : Str → Option Value) := Dn K mg "_is_counted" sP_is_counted ["pair"]
abbrev DnLostOf (K : PySem.W.Frag) (mg : Str → Option Value) := Dn K mg "lost_of" sP_lost_of ["sketch"]
abbrev DnIsSketch (K : PySem.W.Frag) (mg : Str → Option Value) := Dn K mg "is_sketch" sP_is_sketch ["thing"]
abbrev DnBare (K : PySem.W.Frag) (mg : Str → Option Value) := Dn K mg "bare" sP_bare ["room"]
/-! counts -/
abbrev Ct := List (Str × Int)
def PrAt (K : PySem.W.Frag) (H : Hp) (t : Addr) (e : Str × Int) : Prop := SqT K H t [.str e.1, .int e.2]
/-- the tuple at k holds these pairs -/
def CtAt (K : PySem.W.Frag) (H : Hp) (k : Addr) (kvs : Ct) : Prop := ∃ ts : List Addr, SqT K H k (ts.map V.ref) ∧ Paired (PrAt K H) ts kvs
theorem prs_same {K : PySem.W.Frag} {H H' : Hp} (s : Same H H') : ∀ {ts : List Addr} {kvs : Ct}, Paired (PrAt K H) ts kvs → Paired (PrAt K H') ts kvs
  | _, _, .nil => .nil
  | _, _, .cons h t => .cons (seqT h s) (prs_same s t)
theorem CtAt.same {K : PySem.W.Frag} {H H' : Hp} {k : Addr} {kvs : Ct} (h : CtAt K H k kvs) (s : Same H H') : CtAt K H' k kvs := by
  obtain ⟨ts, h1, h2⟩ := h
  exact ⟨ts, seqT h1 s, prs_same s h2⟩
structure Cts (kvs : Ct) : Prop where
  nm : ∀ e ∈ kvs, Nm e.1
  pos : ∀ e ∈ kvs, 1 ≤ e.2
  asc : kvs.Pairwise fun a b => ltZ a.1 b.1 = true
def sumC (kvs : Ct) : Int := (kvs.map (·.2)).sum
theorem map_at {α β : Type} {f : α → β} {xs : List α} {i : Nat} {y : β} (h : (xs.map f)[i]? = some y) : ∃ x, xs[i]? = some x ∧ y = f x := by
  rw [List.getElem?_map] at h
  cases e : xs[i]? with
  | none => rw [e] at h; cases h
  | some x => rw [e] at h; exact ⟨x, rfl, (Option.some.inj h).symm⟩
section
variable {P : Program} {w : World} {K : PySem.W.Frag} {mg : Str → Option Value} {base : Heap}
/-! _is_counted -/
def spIsCounted (K : PySem.W.Frag) : Sp := fun vs H Q _ => ∃ (t : Addr) (e : Str × Int), vs = [.ref t] ∧ PrAt K H t e ∧ Nm e.1 ∧ 1 ≤ e.2 ∧ ∀ H', Same H H' → Q (.bl true) H'
theorem ok_is_counted (T : Blt mg) (cL : Cst mg "LONGEST_NAME" (.int 8)) (dP_is_int : DnIsInt K mg) (dP_is_name : DnIsName K mg) (d : DnIsCounted K mg) : FnOk P w K mg base CX0 2 d.f d.fd ["pair"] (spIsCounted K) := by
  have GP_is_int : FnOk P w K mg base CX0 1 dP_is_int.f dP_is_int.fd ["thing"] spIsInt := ok_is_int T dP_is_int
  have GP_is_name : FnOk P w K mg base CX0 1 dP_is_name.f dP_is_name.fd ["thing"] spIsName := ok_is_name T cL dP_is_name
  refine d.F.ok scP_is_counted (fun vs H Q E h => ?_) (fun cdv A outer s H vs Q E hr h => ?_)
  · obtain ⟨t, e, rfl, _⟩ := h
    rfl
  · obtain ⟨t, e, rfl, hp, hn, h1, q⟩ := h
    refine ⟨_, (pss_cons (ps_if (PW.pt (pw_or (pt_not (pt_val (pe_callB call_isi (by rfl) T.n_isinstance (by decide +kernel) (pa_cons (pv 0) (pa_cons (pe_bltn (v := .ty "tuple") (by rfl) T.n_tuple (by decide +kernel) rfl) pa_nil))))) (pw_or1 (pt_cmpR op_ne (pe_callB call_len_seq (by rfl) T.n_len (by decide +kernel) (pa_cons (pv 0) pa_nil)) pe_int (nomark _)))))
      (pss_one (ps_ret pe_bl))
      pss_nil)
    (pss_one (ps_ret (pe_and (pe_call GP_is_name (hr.mono (by omega)) (by rfl) dP_is_name.g dP_is_name.F.kp dP_is_name.b .nil pass0 (pa_cons (pe_ix ix_tup (pv 0) pe_int (fun _ _ => rfl)) pa_nil)) (pe_and (pe_call GP_is_int (hr.mono (by omega)) (by rfl) dP_is_int.g dP_is_int.F.kp dP_is_int.b .nil pass0 (pa_cons (pe_ix ix_tup (pv 0) pe_int (fun _ _ => rfl)) pa_nil)) (pe_one (pe_cmpR op_ge (pe_ix ix_tup (pv 0) pe_int (fun _ _ => rfl)) pe_int (nomark _)))))))), ?_⟩
    refine ⟨.ref t, rfl, .ref t, _, _, _, true, rfl, .ty "tuple", tyT hp, kit_ty (by decide +kernel), true, rfl, iteF ?_⟩
    refine ⟨.ref t, rfl, t, _, rfl, .inr hp, rfl, false, rfl, iteF ?_⟩
    refine ⟨.ref t, rfl, t, _, _, _, rfl, rfl, hp, atI_nat (j := 0) rfl, e.1, rfl, hn, fun H1 s1 => ⟨true, rfl, iteT ?_⟩⟩
    have hp1 : PrAt K H1 t e := seqT hp s1
    refine ⟨.ref t, rfl, t, _, _, _, rfl, rfl, hp1, atI_nat (j := 1) rfl, e.2, rfl, true, rfl, iteT ?_⟩
    refine ⟨.ref t, rfl, t, _, _, _, rfl, rfl, hp1, atI_nat (j := 1) rfl, _, _, rfl, rfl, ?_⟩
    show Q (.bl (decide (1 ≤ e.2))) H1
    rw [decide_eq_true h1]
    exact q H1 s1
/-! are_counts -/
def spAreCounts (K : PySem.W.Frag) : Sp := fun vs H Q _ => ∃ (k : Addr) (kvs : Ct), vs = [.ref k] ∧ CtAt K H k kvs ∧ Cts kvs ∧ ∀ H', Same H H' → Q (.bl true) H'
theorem ok_are_counts (T : Blt mg) (cL : Cst mg "LONGEST_NAME" (.int 8)) (dP_is_int : DnIsInt K mg) (dP_is_name : DnIsName K mg) (dP_is_counted : DnIsCounted K mg) (d : DnAreCounts K mg) : FnOk P w K mg base CX0 3 d.f d.fd ["thing"] (spAreCounts K) := by
  have GP_is_counted : FnOk P w K mg base CX0 2 dP_is_counted.f dP_is_counted.fd ["pair"] (spIsCounted K) := ok_is_counted T cL dP_is_int dP_is_name dP_is_counted
  refine d.F.ok scP_are_counts (fun vs H Q E h => ?_) (fun cdv A outer s H vs Q E hr h => ?_)
  · obtain ⟨k, kvs, rfl, _⟩ := h
    rfl
  · obtain ⟨k, kvs, rfl, ⟨ts, hS, hp⟩, hc, q⟩ := h
    refine ⟨_, (pss_cons (ps_if (pt_not (pt_val (pe_callB call_isi (by rfl) T.n_isinstance (by decide +kernel) (pa_cons (pv 0) (pa_cons (pe_bltn (v := .ty "tuple") (by rfl) T.n_tuple (by decide +kernel) rfl) pa_nil)))))
      (pss_one (ps_ret pe_bl))
      pss_nil)
    (pss_cons (ps_set (i := 1) scP_are_counts.nd rfl (Or.inl rfl) pe_str)
    (pss_cons (ps_for PassesOwn.never rfl (pi_tup (pv 0)) (pg_name (i := 2) scP_are_counts.nd rfl (Or.inl rfl))
      (pss_cons (ps_if (PW.pt (pw_or (pt_not (pt_val (pe_call GP_is_counted (hr.mono (by omega)) (by rfl) dP_is_counted.g dP_is_counted.F.kp dP_is_counted.b .nil pass0 (pa_cons (pv 2) pa_nil)))) (pw_or1 (pt_cmpR op_le_str (pe_ix ix_tup (pv 2) pe_int (fun _ _ => rfl)) (pv 1) (nomark _)))))
        (pss_one (ps_ret pe_bl))
        pss_nil)
      (pss_one (ps_set (i := 1) scP_are_counts.nd rfl (Or.inl rfl) (pe_ix ix_tup (pv 2) pe_int (fun _ _ => rfl))))))
    (pss_one (ps_ret pe_bl))))), ?_⟩
    refine ⟨.ref k, rfl, .ref k, _, _, _, true, rfl, .ty "tuple", tyT hS, kit_ty (by decide +kernel), true, rfl, iteF ?_⟩
    refine ⟨.ref k, rfl, k, rfl, ⟨_, hS⟩, for_tup (xs := ts.map V.ref) (fun i σ H3 => ∃ (la : Str) (x : Option V), σ = [some (.ref k), some (.str la), x] ∧ Same H H3 ∧ (i = 0 → la = Str.ofString "") ∧ ∀ j e, i = j + 1 → kvs[j]? = some e → la = e.1)
      ⟨Str.ofString "", none, rfl, Same.refl H, fun _ => rfl, fun j e h => by omega⟩ (fun i σ H3 _ ⟨_, _, _, s3, _⟩ => seqT hS s3) ?_ ?_⟩
    · rintro i v σ H3 hi ⟨la, x, rfl, s3, e0, e1⟩
      obtain ⟨t, ht, rfl⟩ := map_at hi
      obtain ⟨e, he, hat⟩ := paired_at hp ht
      have hm := List.mem_of_getElem? he
      refine ⟨.ref t, rfl, t, e, rfl, seqT hat s3, hc.nm e hm, hc.pos e hm, fun H4 s4 => ⟨true, rfl, iteF ?_⟩⟩
      have hat4 : PrAt K H4 t e := seqT hat fun b o z => s4 b o (s3 b o z)
      have hlt : decide (la.cps.toList < e.1.cps.toList) = true := by
        cases i with
        | zero =>
          rw [e0 rfl]
          have h1 := (hc.nm e hm).pos
          have : (Str.ofString "").cps.toList = [] := by decide +kernel
          rw [this]
          refine decide_eq_true ?_
          cases hz : e.1.cps.toList with
          | nil =>
            have : e.1.length = 0 := by rw [← cs_len]; unfold cs; rw [hz]; rfl
            omega
          | cons c r => exact List.nil_lt_cons c r
        | succ j =>
          obtain ⟨e', he'⟩ : ∃ e', kvs[j]? = some e' := ⟨kvs[j]'(by have := (List.getElem?_eq_some_iff.mp he).1; omega), by simp⟩
          rw [e1 j e' rfl he']
          exact (List.pairwise_iff_getElem.mp hc.asc) j (j + 1) (List.getElem?_eq_some_iff.mp he').1 (List.getElem?_eq_some_iff.mp he).1 (by omega) |> fun h => by
            rw [(List.getElem?_eq_some_iff.mp he').2, (List.getElem?_eq_some_iff.mp he).2] at h
            exact h
      refine ⟨.ref t, rfl, t, _, _, _, rfl, rfl, hat4, atI_nat (j := 0) rfl, .str la, rfl, _, _, rfl, rfl, false, ?_, iteF ?_⟩
      · show V.bl (!decide (la.cps.toList < e.1.cps.toList)) = _
        rw [hlt]
        rfl
      refine ⟨.ref t, rfl, t, _, _, _, rfl, rfl, hat4, atI_nat (j := 0) rfl, e.1, some (.ref t), rfl, fun b o z => s4 b o (s3 b o z), fun h => by omega, fun j e' h1 h2 => ?_⟩
      have : j = i := by omega
      subst this
      rw [he] at h2
      cases h2
      rfl
    · rintro σ H3 ⟨la, x, rfl, s3, _⟩
      exact q H3 s3
/-! lost_of -/
def spLostOf (K : PySem.W.Frag) : Sp := fun vs H Q _ => ∃ (s k : Addr) (room many off : Int) (kvs : Ct), vs = [.ref s] ∧ SqT K H s [.int room, .int many, .int off, .ref k] ∧ CtAt K H k kvs ∧ kvs.length ≤ 1000 ∧ ∀ H', Same H H' → Q (.int (many - sumC kvs)) H'
theorem ok_lost_of (T : Blt mg) (d : DnLostOf K mg) : FnOk P w K mg base CX0 1 d.f d.fd ["sketch"] (spLostOf K) := by
  refine d.F.ok scP_lost_of (fun vs H Q E h => ?_) (fun cdv A outer s H vs Q E hr h => ?_)
  · obtain ⟨s, k, _, _, _, _, rfl, _⟩ := h
    rfl
  · obtain ⟨s, k, room, many, off, kvs, rfl, hs, ⟨ts, hS, hp⟩, hl, q⟩ := h
    refine ⟨_, (pss_one (ps_ret (pe_op op_sub (pe_ix ix_tup (pv 0) pe_int (fun _ _ => rfl)) (pe_callB (cr_sum rfl) (by rfl) T.n_sum (by decide +kernel) (pa_cons (pe_lc (own := [("_", 1), ("count", 2)]) (g := gTup K 2 (gCons (gName 1) (gCons (gName 2) gNil))) (tt := tYes) rfl scP_lost_of.nd (pi_tup (pe_ix ix_tup (pv 0) pe_int (fun _ _ => rfl))) (blkOk_by (N := NP_lost_of) (sc := defScope sP_lost_of) (by decide +kernel)) (fun _ _ _ _ _ => pg_tup (by rfl) (pgs_cons (pg_name (i := 1) scP_lost_of.nd rfl (Or.inl rfl)) (pgs_cons (pg_name (i := 2) scP_lost_of.nd rfl (Or.inl rfl)) pgs_nil))) (fun _ _ _ _ _ => pts_nil) (fun _ _ _ _ _ => (pv 2))) pa_nil))))), ?_⟩
    refine ⟨.ref s, rfl, s, _, _, _, rfl, rfl, hs, atI_nat (j := 1) rfl, .ref s, rfl, s, _, _, _, rfl, rfl, hs, atI_nat (j := 3) rfl, k, rfl, ⟨_, hS⟩, fun D nD => lc_tup (xs := ts.map V.ref) (fun i H3 => Same H H3 ∧ H3 D = some (.lst ((kvs.take i).map fun e => V.int e.2))) ⟨same_upd nD, upd_same⟩ (fun i H3 _ h3 => seqT hS h3.1) (fun i x H3 hx h3 => ?_) (fun H3 h3 => ?_)⟩
    · obtain ⟨t, ht, rfl⟩ := map_at hx
      obtain ⟨e, he, hat⟩ := paired_at hp ht
      refine ⟨t, _, rfl, seqT hat h3.1, rfl, _, _, rfl, _, _, rfl, rfl, rfl, .int e.2, rfl, _, h3.2, ?_, fun b o z => ?_, ?_⟩
      · rw [List.length_map, List.length_take, sizeLine_eq]
        omega
      · rw [upd_ne (ne_of_none z nD)]
        exact h3.1 b o z
      · rw [upd_same, List.take_add_one, he, List.map_append]
        rfl
    · refine ⟨D, kvs.map (fun e : Str × Int => e.2), rfl, sql ?_, _, _, rfl, rfl, q H3 h3.1⟩
      rw [h3.2, List.length_map, Paired.length hp, List.take_length, List.map_map]
      rfl
/-! is_sketch -/
def skB (room many off : Int) (kvs : Ct) : Bool :=
  (decide (1 ≤ room) && decide (room ≤ 64)) && (decide (0 ≤ many) && (decide (0 ≤ off) && (decide ((kvs.length : Int) ≤ room) && (decide ((room + 1) * off ≤ many - sumC kvs) && decide (many - sumC kvs ≤ 2 * room * off)))))
def spIsSketch (K : PySem.W.Frag) : Sp := fun vs H Q _ => ∃ (s k : Addr) (room many off : Int) (kvs : Ct), vs = [.ref s] ∧ SqT K H s [.int room, .int many, .int off, .ref k] ∧ CtAt K H k kvs ∧ Cts kvs ∧ kvs.length ≤ 1000 ∧ ∀ H', Same H H' → Q (.bl (skB room many off kvs)) H'
theorem ok_is_sketch (T : Blt mg) (cM : Cst mg "MOST_ROOM" (.int 64)) (cL : Cst mg "LONGEST_NAME" (.int 8)) (dP_is_int : DnIsInt K mg) (dP_is_number : DnIsNumber K mg) (dP_is_room : DnIsRoom K mg) (dP_is_name : DnIsName K mg) (dP_is_counted : DnIsCounted K mg) (dP_are_counts : DnAreCounts K mg)
    (dP_lost_of : DnLostOf K mg) (d : DnIsSketch K mg) : FnOk P w K mg base CX0 4 d.f d.fd ["thing"] (spIsSketch K) := by
  have GP_is_room : FnOk P w K mg base CX0 2 dP_is_room.f dP_is_room.fd ["thing"] spIsRoom := ok_is_room T cM dP_is_int dP_is_room
  have GP_is_number : FnOk P w K mg base CX0 2 dP_is_number.f dP_is_number.fd ["thing"] spIsNumber := ok_is_number T dP_is_int dP_is_number
  have GP_are_counts : FnOk P w K mg base CX0 3 dP_are_counts.f dP_are_counts.fd ["thing"] (spAreCounts K) := ok_are_counts T cL dP_is_int dP_is_name dP_is_counted dP_are_counts
  have GP_lost_of : FnOk P w K mg base CX0 1 dP_lost_of.f dP_lost_of.fd ["sketch"] (spLostOf K) := ok_lost_of T dP_lost_of
  refine d.F.ok scP_is_sketch (fun vs H Q E h => ?_) (fun cdv A outer s H vs Q E hr h => ?_)
  · obtain ⟨s, k, _, _, _, _, rfl, _⟩ := h
    rfl
  · obtain ⟨s, k, room, many, off, kvs, rfl, hs, hk, hc, hl, q⟩ := h
    refine ⟨_, (pss_cons (ps_if (PW.pt (pw_or (pt_not (pt_val (pe_callB call_isi (by rfl) T.n_isinstance (by decide +kernel) (pa_cons (pv 0) (pa_cons (pe_bltn (v := .ty "tuple") (by rfl) T.n_tuple (by decide +kernel) rfl) pa_nil))))) (pw_or1 (pt_cmpR op_ne (pe_callB call_len_seq (by rfl) T.n_len (by decide +kernel) (pa_cons (pv 0) pa_nil)) pe_int (nomark _)))))
      (pss_one (ps_ret pe_bl))
      pss_nil)
    (pss_cons (ps_asg (pv 0) (pg_tup (by rfl) (pgs_cons (pg_name (i := 1) scP_is_sketch.nd rfl (Or.inl rfl)) (pgs_cons (pg_name (i := 2) scP_is_sketch.nd rfl (Or.inl rfl)) (pgs_cons (pg_name (i := 3) scP_is_sketch.nd rfl (Or.inl rfl)) (pgs_cons (pg_name (i := 4) scP_is_sketch.nd rfl (Or.inl rfl)) pgs_nil))))))
    (pss_cons (ps_if (PW.pt (pw_or (pt_not (pt_val (pe_call GP_is_room (hr.mono (by omega)) (by rfl) dP_is_room.g dP_is_room.F.kp dP_is_room.b .nil pass0 (pa_cons (pv 1) pa_nil)))) (pw_or (pt_not (pt_val (pe_call GP_is_number (hr.mono (by omega)) (by rfl) dP_is_number.g dP_is_number.F.kp dP_is_number.b .nil pass0 (pa_cons (pv 2) pa_nil)))) (pw_or1 (pt_not (pt_val (pe_call GP_is_number (hr.mono (by omega)) (by rfl) dP_is_number.g dP_is_number.F.kp dP_is_number.b .nil pass0 (pa_cons (pv 3) pa_nil))))))))
      (pss_one (ps_ret pe_bl))
      pss_nil)
    (pss_cons (ps_if (PW.pt (pw_or (pt_not (pt_val (pe_call GP_are_counts (hr.mono (by omega)) (by rfl) dP_are_counts.g dP_are_counts.F.kp dP_are_counts.b .nil pass0 (pa_cons (pv 4) pa_nil)))) (pw_or1 (pt_cmpR op_gt (pe_callB call_len_seq (by rfl) T.n_len (by decide +kernel) (pa_cons (pv 4) pa_nil)) (pv 1) (nomark _)))))
      (pss_one (ps_ret pe_bl))
      pss_nil)
    (pss_one (ps_ret (pe_chain op_le op_le (pe_op op_mul (pe_op op_add (pv 1) pe_int) (pv 3)) (pe_call GP_lost_of (hr.mono (by omega)) (by rfl) dP_lost_of.g dP_lost_of.F.kp dP_lost_of.b .nil pass0 (pa_cons (pv 0) pa_nil)) (pe_op op_mul (pe_op op_mul pe_int (pv 1)) (pv 3))))))))), ?_⟩
    refine ⟨.ref s, rfl, .ref s, _, _, _, true, rfl, .ty "tuple", tyT hs, kit_ty (by decide +kernel), true, rfl, iteF ?_⟩
    refine ⟨.ref s, rfl, s, _, rfl, .inr hs, rfl, false, rfl, iteF ?_⟩
    refine ⟨.ref s, rfl, s, _, rfl, hs, rfl, _, _, rfl, _, _, rfl, _, _, rfl, _, _, rfl, rfl, ?_⟩
    unfold skB at q
    refine ⟨.int room, rfl, room, rfl, _, rfl, ?_⟩
    cases eR : (decide (1 ≤ room) && decide (room ≤ 64)) with
    | false =>
      rw [eR, Bool.false_and] at q
      exact iteT (iteT (q H (Same.refl H)))
    | true =>
      rw [eR, Bool.true_and] at q
      refine iteF ⟨.int many, rfl, many, rfl, _, rfl, ?_⟩
      cases eM : decide (0 ≤ many) with
      | false =>
        rw [eM, Bool.false_and] at q
        exact iteT (iteT (q H (Same.refl H)))
      | true =>
        rw [eM, Bool.true_and] at q
        refine iteF ⟨.int off, rfl, off, rfl, _, rfl, ?_⟩
        cases eO : decide (0 ≤ off) with
        | false =>
          rw [eO, Bool.false_and] at q
          exact iteT (q H (Same.refl H))
        | true =>
          rw [eO, Bool.true_and] at q
          refine iteF ⟨.ref k, rfl, k, kvs, rfl, hk, hc, fun H1 s1 => ⟨true, rfl, iteF ?_⟩⟩
          have hr1 : 1 ≤ room ∧ room ≤ 64 := by
            rw [Bool.and_eq_true, decide_eq_true_eq, decide_eq_true_eq] at eR
            exact eR
          obtain ⟨ts, hS, hp⟩ := hk.same s1
          have el : (ts.map V.ref).length = kvs.length := by rw [List.length_map, Paired.length hp]
          refine ⟨.ref k, rfl, k, _, rfl, .inr hS, .int room, rfl, _, _, rfl, rfl, _, rfl, ?_⟩
          rw [el]
          by_cases eL : (kvs.length : Int) ≤ room
          · rw [show decide ((kvs.length : Int) > room) = false from decide_eq_false (by omega)]
            rw [decide_eq_true eL, Bool.true_and] at q
            refine iteF ?_
            refine ⟨.int room, rfl, _, _, rfl, rfl, .int off, rfl, _, _, rfl, rfl, cmulL (by omega) (by omega), .ref s, rfl, s, k, room, many, off, kvs, rfl, seqT hs s1, ⟨ts, hS, hp⟩, hl, fun H2 s2 => ⟨_, _, rfl, rfl, _, rfl, ?_⟩⟩
            by_cases e1 : (room + 1) * off ≤ many - sumC kvs
            · rw [decide_eq_true e1] at q ⊢
              rw [Bool.true_and] at q
              refine iteT ⟨.int room, rfl, _, _, rfl, rfl, cmulL (by decide) (by decide), .int off, rfl, _, _, rfl, rfl, cmulL (by omega) (by omega), _, _, rfl, rfl, ?_⟩
              exact q H2 fun b o z => s2 b o (s1 b o z)
            · rw [decide_eq_false e1] at q ⊢
              rw [Bool.false_and] at q
              exact iteF (q H2 fun b o z => s2 b o (s1 b o z))
          · rw [show decide ((kvs.length : Int) > room) = true from decide_eq_true (by omega)]
            rw [decide_eq_false eL, Bool.false_and] at q
            exact iteT (q H1 s1)
/-! bare -/
def spBare : Sp := fun vs H Q _ => ∃ room : Int, vs = [.int room] ∧ 1 ≤ room ∧ room ≤ 64 ∧ ∀ H' s k, Same H H' → H s = none → H' s = some (.tup [.int room, .int 0, .int 0, .ref k]) → Ptp H' k [] → Q (.ref s) H'
theorem ok_bare (T : Blt mg) (cM : Cst mg "MOST_ROOM" (.int 64)) (dP_is_int : DnIsInt K mg) (dP_is_room : DnIsRoom K mg) (d : DnBare K mg) : FnOk P w K mg base CX0 3 d.f d.fd ["room"] spBare := by
  have GP_is_room : FnOk P w K mg base CX0 2 dP_is_room.f dP_is_room.fd ["thing"] spIsRoom := ok_is_room T cM dP_is_int dP_is_room
  refine d.F.ok scP_bare (fun vs H Q E h => ?_) (fun cdv A outer s H vs Q E hr h => ?_)
  · obtain ⟨room, rfl, _⟩ := h
    rfl
  · obtain ⟨room, rfl, h1, h2, q⟩ := h
    refine ⟨_, (pss_cons (ps_if (pt_not (pt_val (pe_call GP_is_room (hr.mono (by omega)) (by rfl) dP_is_room.g dP_is_room.F.kp dP_is_room.b .nil pass0 (pa_cons (pv 0) pa_nil))))
      (pss_one ps_never)
      pss_nil)
    (pss_one (ps_ret (pe_tup (pa_cons (pv 0) (pa_cons pe_int (pa_cons pe_int (pa_cons (pe_tupF pa_nil) pa_nil)))))))), ?_⟩
    refine ⟨.int room, rfl, room, rfl, true, ?_, iteF ?_⟩
    · rw [decide_eq_true h1, decide_eq_true h2]
      rfl
    · refine ⟨.int room, rfl, (by show 0 ≤ sizeLine; decide), fun k o nk ho => ⟨(by show 4 ≤ sizeLine; decide), fun p np => ?_⟩⟩
      have s1 : Same H (upd H k (.frz o (.tup []))) := same_upd nk
      refine q _ p k (Same.new s1 np) (Same.gone s1 np) upd_same ⟨o, ?_, ho⟩
      rw [upd_ne (ne_of_none upd_same np)]
      exact upd_same
end
end Kb


namespace Kb
open PySem PySem.Spec PyProof.Rows L2 SrtZ
abbrev sTinit : Stmt := inClass (topS 17) 0
abbrev NTinit : List Str := ["self", "sketch", "kept"]
theorem scTinit : FnScope ["self", "sketch", "kept"] ["self", "sketch"] (defScope sTinit) := ⟨rfl, rfl, rfl, by decide +kernel, rfl, by decide +kernel, by decide +kernel⟩
abbrev sTsketch : Stmt := inClass (topS 17) 1
abbrev NTsketch : List Str := ["self"]
theorem scTsketch : FnScope ["self"] ["self"] (defScope sTsketch) := ⟨rfl, rfl, rfl, by decide +kernel, rfl, by decide +kernel, by decide +kernel⟩
abbrev sTfeed : Stmt := inClass (topS 17) 2
abbrev NTfeed : List Str := ["self", "name", "times", "amount"]
theorem scTfeed : FnScope ["self", "name", "times", "amount"] ["self", "name", "times"] (defScope sTfeed) := ⟨rfl, rfl, rfl, by decide +kernel, rfl, by decide +kernel, by decide +kernel⟩
abbrev sTpour : Stmt := inClass (topS 17) 3
abbrev NTpour : List Str := ["self", "sketch", "_", "many", "off", "kept", "name", "count", "falling"]
theorem scTpour : FnScope ["self", "sketch", "_", "many", "off", "kept", "name", "count", "falling"] ["self", "sketch"] (defScope sTpour) := ⟨rfl, rfl, rfl, by decide +kernel, rfl, by decide +kernel, by decide +kernel⟩
abbrev sTtake : Stmt := inClass (topS 17) 4
abbrev NTtake : List Str := ["self", "amount", "name", "count"]
theorem scTtake : FnScope ["self", "amount", "name", "count"] ["self", "amount"] (defScope sTtake) := ⟨rfl, rfl, rfl, by decide +kernel, rfl, by decide +kernel, by decide +kernel⟩
/-! the fields -/
theorem k_mr : ¬ (("room" : Str) = "seen") := by decide +kernel
theorem k_or : ¬ (("room" : Str) = "off") := by decide +kernel
theorem k_om : ¬ (("seen" : Str) = "off") := by decide +kernel
theorem k_cr : ¬ (("room" : Str) = "counts") := by decide +kernel
theorem k_cm : ¬ (("seen" : Str) = "counts") := by decide +kernel
theorem k_co : ¬ (("off" : Str) = "counts") := by decide +kernel
def fl (r m o : Int) (d : Addr) : List (Str × V) := [(("room" : Str), V.int r), (("seen" : Str), V.int m), (("off" : Str), V.int o), (("counts" : Str), V.ref d)]
theorem fl_mk (r m o : Int) (d : Addr) : putF "counts" (.ref d) (putF "off" (.int o) (putF "seen" (.int m) (putF "room" (.int r) []))) = fl r m o d := by
  show putF "counts" (.ref d) (putF "off" (.int o) (if ("room" : Str) = "seen" then _ else (("room" : Str), V.int r) :: [(("seen" : Str), V.int m)])) = _
  rw [if_neg k_mr]
  show putF "counts" (.ref d) (if ("room" : Str) = "off" then _ else (("room" : Str), V.int r) :: (if ("seen" : Str) = "off" then _ else (("seen" : Str), V.int m) :: [(("off" : Str), V.int o)])) = _
  rw [if_neg k_or, if_neg k_om]
  show (if ("room" : Str) = "counts" then _ else (("room" : Str), V.int r) :: (if ("seen" : Str) = "counts" then _ else (("seen" : Str), V.int m) :: (if ("off" : Str) = "counts" then _ else (("off" : Str), V.int o) :: [(("counts" : Str), V.ref d)]))) = _
  rw [if_neg k_cr, if_neg k_cm, if_neg k_co]
  rfl
theorem fl_many (r m o x : Int) (d : Addr) : putF "seen" (.int x) (fl r m o d) = fl r x o d := by
  show (if ("room" : Str) = "seen" then _ else (("room" : Str), V.int r) :: (if ("seen" : Str) = "seen" then _ else _)) = _
  rw [if_neg k_mr, if_pos rfl]
  rfl
theorem fl_off (r m o x : Int) (d : Addr) : putF "off" (.int x) (fl r m o d) = fl r m x d := by
  show (if ("room" : Str) = "off" then _ else (("room" : Str), V.int r) :: (if ("seen" : Str) = "off" then _ else (("seen" : Str), V.int m) :: (if ("off" : Str) = "off" then _ else _))) = _
  rw [if_neg k_or, if_neg k_om, if_pos rfl]
  rfl
theorem fl_counts (r m o : Int) (d x : Addr) : putF "counts" (.ref x) (fl r m o d) = fl r m o x := by
  show (if ("room" : Str) = "counts" then _ else (("room" : Str), V.int r) :: (if ("seen" : Str) = "counts" then _ else (("seen" : Str), V.int m) :: (if ("off" : Str) = "counts" then _ else (("off" : Str), V.int o) :: (if ("counts" : Str) = "counts" then _ else _)))) = _
  rw [if_neg k_cr, if_neg k_cm, if_neg k_co, if_pos rfl]
  rfl
theorem g_room (r m o : Int) (d : Addr) : (fl r m o d).lookup ("room" : Str) = some (.int r) := by
  rw [← fl_mk, lookup_putF, if_neg k_cr, lookup_putF, if_neg k_or, lookup_putF, if_neg k_mr, lookup_putF, if_pos rfl]
theorem g_many (r m o : Int) (d : Addr) : (fl r m o d).lookup ("seen" : Str) = some (.int m) := by
  rw [← fl_mk, lookup_putF, if_neg k_cm, lookup_putF, if_neg k_om, lookup_putF, if_pos rfl]
theorem g_off (r m o : Int) (d : Addr) : (fl r m o d).lookup ("off" : Str) = some (.int o) := by
  rw [← fl_mk, lookup_putF, if_neg k_co, lookup_putF, if_pos rfl]
theorem g_counts (r m o : Int) (d : Addr) : (fl r m o d).lookup ("counts" : Str) = some (.ref d) := by
  rw [← fl_mk, lookup_putF, if_pos rfl]
theorem g_no (r m o : Int) (d : Addr) {f : Str} (h1 : ¬ f = "counts") (h2 : ¬ f = "off") (h3 : ¬ f = "seen") (h4 : ¬ f = "room") : (fl r m o d).lookup f = none := by
  rw [← fl_mk, lookup_putF, if_neg h1, lookup_putF, if_neg h2, lookup_putF, if_neg h3, lookup_putF, if_neg h4]
  rfl
/-! counts in a dict -/
def getZ (kvs : Ct) (n : Str) : Option Int := (kvs.find? fun e => decide (e.1 = n)).map (·.2)
def putZ (kvs : Ct) (n : Str) (v : Int) : Ct := if (kvs.any fun e => decide (e.1 = n)) = true then kvs.map (fun e => if e.1 = n then (e.1, v) else e) else kvs ++ [(n, v)]
def addZ (kvs : Ct) (n : Str) (c : Int) : Ct := putZ kvs n ((getZ kvs n).getD 0 + c)
def takeZ (a : Int) (kvs : Ct) : Ct := (kvs.filter fun e => decide (a < e.2)).map fun e => (e.1, e.2 - a)
theorem ent_dec (e : Str × Int) (n : Str) : decide ((entZ e).1 = (Sum.inr n : Key)) = decide (e.1 = n) := key_rr _ _
theorem getZ_val (n : Str) : ∀ kvs : Ct, valV (kvs.map entZ) (Sum.inr n : Key) = (getZ kvs n).map V.int
  | [] => rfl
  | e :: r => by
    have ih := getZ_val n r
    unfold getZ at ih ⊢
    rw [List.map_cons]
    by_cases h : e.1 = n
    · rw [valV_pos (show (entZ e).1 = Sum.inr n by rw [← h])]
      simp [h]
    · rw [valV_neg (show ¬ (entZ e).1 = Sum.inr n from fun z => h (Sum.inr.inj z)), ih]
      simp [h]
theorem putZ_put (kvs : Ct) (n : Str) (v : Int) : putK (kvs.map entZ) (Sum.inr n : Key) (.int v) = (putZ kvs n v).map entZ := by
  unfold putK putZ
  have e : ((kvs.map entZ).any fun kv => decide (kv.1 = (Sum.inr n : Key))) = kvs.any fun e => decide (e.1 = n) := by
    rw [List.any_map]
    congr 1
    funext e
    exact ent_dec e n
  rw [e]
  by_cases h : (kvs.any fun e => decide (e.1 = n)) = true
  · rw [if_pos h, if_pos h, List.map_map, List.map_map]
    refine List.map_congr_left fun e _ => ?_
    show (if (Sum.inr e.1 : Key) = Sum.inr n then _ else _) = entZ (if e.1 = n then _ else _)
    by_cases h2 : e.1 = n
    · rw [if_pos h2, if_pos (by rw [h2])]
    · rw [if_neg h2, if_neg (fun z => h2 (Sum.inr.inj z))]
  · rw [if_neg h, if_neg h, List.map_append]
    rfl
abbrev NdZ (kvs : Ct) : Prop := (kvs.map (·.1)).Nodup
theorem getZ_none {kvs : Ct} {n : Str} : getZ kvs n = none ↔ n ∉ kvs.map (·.1) := by
  unfold getZ
  rw [Option.map_eq_none_iff, List.find?_eq_none]
  constructor
  · intro h z
    obtain ⟨e, he, rfl⟩ := List.mem_map.mp z
    have := h e he
    simp at this
  · intro h e he z
    exact h (List.mem_map.mpr ⟨e, he, of_decide_eq_true z⟩)
theorem any_getZ (n : Str) (kvs : Ct) : (kvs.any fun e => decide (e.1 = n)) = (getZ kvs n).isSome := by
  cases h : getZ kvs n with
  | none =>
    rw [getZ_none] at h
    show _ = false
    rw [List.any_eq_false]
    intro e he z
    exact h (List.mem_map.mpr ⟨e, he, of_decide_eq_true z⟩)
  | some v =>
    show _ = true
    rw [List.any_eq_true]
    unfold getZ at h
    cases hf : kvs.find? fun e => decide (e.1 = n) with
    | none => rw [hf] at h; cases h
    | some e =>
      have h2 := List.find?_some (p := fun e : Str × Int => decide (e.1 = n)) hf
      exact ⟨e, List.mem_of_find?_eq_some hf, h2⟩
theorem putZ_new {kvs : Ct} {n : Str} {v : Int} (h : getZ kvs n = none) : putZ kvs n v = kvs ++ [(n, v)] := by
  unfold putZ
  rw [any_getZ, h]
  exact if_neg (by decide)
theorem putZ_keys_old {kvs : Ct} {n : Str} {v : Int} (h : (getZ kvs n).isSome = true) : (putZ kvs n v).map (·.1) = kvs.map (·.1) := by
  unfold putZ
  rw [any_getZ, if_pos h, List.map_map]
  refine List.map_congr_left fun e _ => ?_
  show (if e.1 = n then _ else _ : Str × Int).1 = e.1
  split <;> rfl
theorem putZ_nd {kvs : Ct} {n : Str} {v : Int} (nd : NdZ kvs) : NdZ (putZ kvs n v) := by
  unfold NdZ
  cases h : getZ kvs n with
  | none =>
    rw [putZ_new h, List.map_append, List.nodup_append]
    refine ⟨nd, by simp, fun a ha b hb => ?_⟩
    rw [List.map_cons, List.map_nil, List.mem_singleton] at hb
    rw [hb]
    intro e
    have e' : a = n := e
    exact getZ_none.mp h (by rw [← e']; exact ha)
  | some x =>
    rw [putZ_keys_old (by rw [h]; rfl)]
    exact nd
theorem putZ_len {kvs : Ct} {n : Str} {v : Int} : (putZ kvs n v).length ≤ kvs.length + 1 := by
  cases h : getZ kvs n with
  | none => rw [putZ_new h, List.length_append]; exact Nat.le_refl _
  | some x =>
    have := congrArg List.length (putZ_keys_old (v := v) (show (getZ kvs n).isSome = true by rw [h]; rfl))
    rw [List.length_map, List.length_map] at this
    omega
theorem takeZ_nd {a : Int} {kvs : Ct} (nd : NdZ kvs) : NdZ (takeZ a kvs) := by
  unfold NdZ takeZ
  rw [List.map_map]
  exact List.Nodup.sublist (List.Sublist.map _ List.filter_sublist) nd
theorem takeZ_len {a : Int} {kvs : Ct} : (takeZ a kvs).length ≤ kvs.length := by
  unfold takeZ
  rw [List.length_map]
  exact List.length_filter_le _ _
theorem mergeZ : ∀ (more kvs : Ct), NdZ (kvs ++ more) → mergeK (kvs.map entZ) (more.map entZ) = (kvs ++ more).map entZ
  | [], kvs, _ => by
    rw [List.append_nil]
    rfl
  | e :: r, kvs, nd => by
    have nm : getZ kvs e.1 = none := getZ_none.mpr fun z => by
      unfold NdZ at nd
      rw [List.map_append, List.nodup_append] at nd
      exact nd.2.2 _ z _ (List.mem_map.mpr ⟨e, List.mem_cons_self, rfl⟩) rfl
    show mergeK (putK (kvs.map entZ) (Sum.inr e.1) (.int e.2)) (r.map entZ) = _
    rw [putZ_put, putZ_new nm, mergeZ r (kvs ++ [e]) (by rw [List.append_assoc]; exact nd), List.append_assoc]
    rfl
/-! a Tally -/
structure TalAt (C : Addr) (H : Hp) (t d : Addr) (r m o : Int) (kvs : Ct) : Prop where
  ob : ∃ dx, H t = some (.ins C dx (fl r m o d))
  dc : H d = some (.dK (kvs.map entZ))
theorem TalAt.ne {C : Addr} {H : Hp} {t d : Addr} {r m o : Int} {kvs : Ct} (h : TalAt C H t d r m o kvs) : t ≠ d := by
  obtain ⟨dx, e⟩ := h.ob
  exact ne_of e h.dc (by intro z; cases z)
theorem TalAt.same {C : Addr} {H H' : Hp} {t d : Addr} {r m o : Int} {kvs : Ct} (h : TalAt C H t d r m o kvs) (s : Same H H') : TalAt C H' t d r m o kvs := by
  obtain ⟨⟨dx, e⟩, e2⟩ := h
  exact ⟨⟨dx, s _ _ e⟩, s _ _ e2⟩
/-- all but the tally stays -/
def But (t d : Addr) (H H' : Hp) : Prop := ∀ b u, b ≠ t → b ≠ d → H b = some u → H' b = some u
theorem But.refl (t d : Addr) (H : Hp) : But t d H H := fun _ _ _ _ e => e
theorem But.trans {t d : Addr} {H H1 H2 : Hp} (x : But t d H H1) (y : But t d H1 H2) : But t d H H2 := fun b u n1 n2 e => y b u n1 n2 (x b u n1 n2 e)
theorem But.same {t d : Addr} {H H1 H2 : Hp} (x : But t d H H1) (y : Same H1 H2) : But t d H H2 := fun b u n1 n2 e => y b u (x b u n1 n2 e)
theorem But.upT {t d : Addr} {H H1 : Hp} {u : HO} (x : But t d H H1) : But t d H (upd H1 t u) := fun b v n1 n2 e => by
  rw [upd_ne n1]
  exact x b v n1 n2 e
theorem But.upD {t d : Addr} {H H1 : Hp} {u : HO} (x : But t d H H1) : But t d H (upd H1 d u) := fun b v n1 n2 e => by
  rw [upd_ne n2]
  exact x b v n1 n2 e
theorem But.new {t d p : Addr} {H H1 : Hp} {u : HO} (x : But t d H H1) (h : H1 p = none) : But t d H (upd H1 p u) := x.same (same_upd h)
/-- of the class, as the top has made it -/
structure Tal (K : PySem.W.Frag) (mg : Str → Option Value) where
  C : Addr
  fI : Addr
  fS : Addr
  fF : Addr
  fP : Addr
  fT : Addr
  dI : FuncData
  dS : FuncData
  dF : FuncData
  dP : FuncData
  dT : FuncData
  FI : Fun K "__init__" "Tally.__init__" sTinit fI dI
  FS : Fun K "sketch" "Tally.sketch" sTsketch fS dS
  FF : Fun K "gain" "Tally.gain" sTfeed fF dF
  FP : Fun K "pour" "Tally.pour" sTpour fP dP
  FT : Fun K "_take" "Tally._take" sTtake fT dT
  bI : Binds K dI ["self", "sketch"] []
  bS : Binds K dS ["self"] []
  bF : Binds K dF ["self", "name", "times"] []
  bP : Binds K dP ["self", "sketch"] []
  bT : Binds K dT ["self", "amount"] []
  mI : Mk K C fI
  mS : Meth K C "sketch" fS
  mF : Meth K C "gain" fF
  mP : Meth K C "pour" fP
  mT : Meth K C "_take" fT
  cl : Cls K C
  nR : NoAttr K C "room"
  nM : NoAttr K C "seen"
  nO : NoAttr K C "off"
  nC : NoAttr K C "counts"
  g : mg "Tally" = some (.ref C)
theorem ents_paired {K : PySem.W.Frag} {H : Hp} : ∀ {ts : List Addr} {kvs : Ct}, Paired (PrAt K H) ts kvs → Paired (fun p kv => SqT K H p [kV kv.1, kv.2]) ts (kvs.map entZ)
  | _, _, .nil => .nil
  | _, _, .cons h t => .cons h (ents_paired t)
theorem seq_upd {K : PySem.W.Frag} {H : Hp} {a t : Addr} {xs : List V} {C dx : Addr} {fs : List (Str × V)} {u : HO} (h : SqT K H a xs) (ht : H t = some (.ins C dx fs)) : SqT K (upd H t u) a xs := by
  rcases h with (h | ⟨o, h⟩) | h
  · exact .inl (.inl (by rw [upd_ne (ne_of h ht (by intro z; cases z))]; exact h))
  · exact .inl (.inr ⟨o, by rw [upd_ne (ne_of h ht (by intro z; cases z))]; exact h⟩)
  · exact .inr h
theorem prs_upd {K : PySem.W.Frag} {H : Hp} {t : Addr} {C dx : Addr} {fs : List (Str × V)} {u : HO} (ht : H t = some (.ins C dx fs)) : ∀ {ts : List Addr} {kvs : Ct}, Paired (PrAt K H) ts kvs → Paired (PrAt K (upd H t u)) ts kvs
  | _, _, .nil => .nil
  | _, _, .cons h q => .cons (seq_upd h ht) (prs_upd ht q)
section
variable {P : Program} {w : World} {K : PySem.W.Frag} {mg : Str → Option Value} {base : Heap}
/-! Tally.__init__ -/
def spTinit (K : PySem.W.Frag) (C : Addr) : Sp := fun vs H Q _ => ∃ (t dx s k : Addr) (r m o : Int) (ts : List Addr) (kvs : Ct), vs = [.ref t, .ref s] ∧ H t = some (.ins C dx []) ∧ SqT K H s [.int r, .int m, .int o, .ref k] ∧ Ptp H k (ts.map V.ref) ∧ Paired (PrAt K H) ts kvs ∧ NdZ kvs ∧
  ∀ H' d, (∀ b u, b ≠ t → H b = some u → H' b = some u) → H d = none → TalAt C H' t d r m o kvs → Q .non H'
theorem ok_Tinit (T : Blt mg) (L : Tal K mg) : FnOk P w K mg base CX0 1 L.fI L.dI ["self", "sketch"] (spTinit K L.C) := by
  refine L.FI.ok scTinit (fun vs H Q E h => ?_) (fun cdv A outer s H vs Q E hr h => ?_)
  · obtain ⟨t, dx, s, k, r, m, o, ts, kvs, rfl, _⟩ := h
    rfl
  · obtain ⟨t, dx, s, k, r, m, o, ts, kvs, rfl, ht, hs, hk, hp, nd, q⟩ := h
    refine ⟨_, (pss_cons (ps_asg (pv 1) (pg_tup (by rfl) (pgs_cons (pg_fld (pv 0)) (pgs_cons (pg_fld (pv 0)) (pgs_cons (pg_fld (pv 0)) (pgs_cons (pg_name (i := 2) scTinit.nd rfl (Or.inl rfl)) pgs_nil))))))
    (pss_one (ps_fld (pv 0) (pe_callTy (call_dictPT rfl) (by rfl) T.n_dict (by decide +kernel) (pa_cons (pv 2) pa_nil)) rfl))), ?_⟩
    have kt : k ≠ t := by
      obtain ⟨ob, e, _⟩ := hk
      exact ne_of e ht (by intro z; cases z)
    refine ⟨.ref s, rfl, s, _, rfl, hs, rfl, _, _, rfl, .ref t, rfl, t, L.C, dx, _, rfl, ht, L.cl, L.nR, (by show 0 < 1000; decide), ?_⟩
    refine ⟨_, _, rfl, .ref t, rfl, t, L.C, dx, _, rfl, upd_same, L.cl, L.nM, (by show 1 < 1000; decide), ?_⟩
    have l2 : (putF "seen" (V.int m) (putF "room" (V.int r) [])).length < 1000 := by
      show (if ("room" : Str) = "seen" then _ else (("room" : Str), V.int r) :: [(("seen" : Str), V.int m)]).length < 1000
      rw [if_neg k_mr]
      show 2 < 1000
      decide
    have l3 : (putF "off" (V.int o) (putF "seen" (V.int m) (putF "room" (V.int r) []))).length < 1000 := by
      show (putF "off" (V.int o) (if ("room" : Str) = "seen" then _ else (("room" : Str), V.int r) :: [(("seen" : Str), V.int m)])).length < 1000
      rw [if_neg k_mr]
      show (if ("room" : Str) = "off" then _ else (("room" : Str), V.int r) :: (if ("seen" : Str) = "off" then _ else (("seen" : Str), V.int m) :: [(("off" : Str), V.int o)])).length < 1000
      rw [if_neg k_or, if_neg k_om]
      show 3 < 1000
      decide
    refine ⟨_, _, rfl, .ref t, rfl, t, L.C, dx, _, rfl, upd_same, L.cl, L.nO, l2, ?_⟩
    rw [upd_upd, upd_upd]
    refine ⟨_, _, rfl, rfl, .ref k, rfl, k, ts, kvs.map entZ, rfl, hk.upd kt, ents_paired (prs_upd ht hp), fun d nd2 => ?_⟩
    have td : t ≠ d := ne_of_none upd_same nd2
    have nd0 : H d = none := by rw [upd_ne td.symm] at nd2; exact nd2
    refine ⟨.ref t, rfl, t, L.C, dx, _, rfl, (by rw [upd_ne td]; exact upd_same), L.cl, L.nC, l3, ?_⟩
    rw [fl_mk, show mergeK [] (kvs.map entZ) = kvs.map entZ from mergeZ kvs [] nd]
    refine q _ d (fun b u hb e => ?_) nd0 ⟨⟨dx, upd_same⟩, by rw [upd_ne td.symm]; exact upd_same⟩
    rw [upd_ne hb, upd_ne (ne_of_none e nd0), upd_ne hb]
    exact e
end
end Kb


namespace L2
section
variable {J : It} {n : Nat} {G : Hp → Prop} {Y : Nat → Hp → V → Hp → Prop}
/-- a dict comprehension over a walk -/
theorem dc_it (w : Walk J n G Y) {g : TG} {tt : TT} {tk tv : TE} {vs : List Nat} {σ : St} {H1 : Hp} {D : PySem.Addr} {Qd : Hp → Prop} (Pv : Nat → Hp → Prop) (h0 : Pv 0 (upd H1 D (.dK []))) (hG : ∀ i H, i ≤ n → Pv i H → G H)
    (hs : ∀ i x H H', i < n → Pv i H → Y i H x H' → g x (wipe σ vs) H' fun σ2 H2 => wipe σ2 vs = wipe σ vs ∧ tt σ2 H2 fun b H3 =>
      if b = true then tk σ2 H3 fun y H4 => tv σ2 H4 fun z H5 => ∃ kvs k, y = kV k ∧ H5 D = some (.dK kvs) ∧ kvs.length < PySem.sizeLine ∧ Pv (i + 1) (upd H5 D (.dK (putK kvs k z))) else Pv (i + 1) H3) (hd : ∀ H, Pv n H → Qd H) :
    ∃ W : Nat → Nat → Hp → Prop, (∃ m, W 0 m (upd H1 D (.dK []))) ∧ ∀ i m H, W i m H →
      (J.stop i H ∧ Qd H) ∨ (J.go i H ∧ ∃ Nx : Hp → Prop, (∀ H', Nx H' → ∃ m', m' < m ∧ W (i + 1) m' H') ∧ ∀ x H', J.yld i H x H' → g x (wipe σ vs) H' fun σ2 H2 => wipe σ2 vs = wipe σ vs ∧ tt σ2 H2 fun b H3 =>
        if b = true then tk σ2 H3 fun y H4 => tv σ2 H4 fun z H5 => ∃ kvs k, y = kV k ∧ H5 D = some (.dK kvs) ∧ kvs.length < PySem.sizeLine ∧ Nx (upd H5 D (.dK (putK kvs k z))) else Nx H3) := by
  refine ⟨fun i m H => m = n - i ∧ i ≤ n ∧ Pv i H, ⟨n, by simp, Nat.zero_le _, h0⟩, ?_⟩
  rintro i m H ⟨rfl, hi, p⟩
  have q := hG i H hi p
  by_cases hlt : i < n
  · refine .inr ⟨w.goes i H hlt q, Pv (i + 1), fun H' p' => ⟨n - (i + 1), by omega, rfl, hlt, p'⟩, fun x H' y => hs i x H H' hlt p (w.yields i H x H' hlt q y)⟩
  · have e : i = n := by omega
    subst e
    exact .inl ⟨w.stops H q, hd H p⟩
end
end L2
namespace Kb
open PySem PySem.Spec PyProof.Rows L2 SrtZ SrtO
def Asc (kvs : Ct) : Prop := kvs.Pairwise fun a b => ltZ a.1 b.1 = true
/-- sorted, names unlike: ascending -/
theorem asc_of {ys kvs : Ct} (h : Srtd lexZ ys) (p : ys.Perm kvs) (nd : NdZ kvs) : Asc ys := by
  have nd2 : (ys.map (·.1)).Nodup := (p.map (·.1)).nodup_iff.mpr nd
  rw [List.Nodup, List.pairwise_map] at nd2
  refine List.Pairwise.imp₂ (fun {a b} h1 h2 => ?_) h nd2
  rw [lexZ_ne (fun e => h2 e.symm)] at h1
  rcases bcase (ltZ a.1 b.1) with q | q
  · exact q
  · exact absurd (ltZ_tri q h1) h2
theorem asc_uniq {xs ys : Ct} (hx : Asc xs) (hy : Asc ys) (p : xs.Perm ys) : xs = ys :=
  List.Perm.eq_of_pairwise (le := fun (a b : Str × Int) => ltZ a.1 b.1 = true) (fun a b _ _ h1 h2 => by
    have := ltZ_asym h1
    rw [h2] at this
    cases this) hx hy p
theorem putZ_snoc {kvs : Ct} {n : Str} {v : Int} (h : n ∉ kvs.map (·.1)) : putZ kvs n v = kvs ++ [(n, v)] := putZ_new (getZ_none.mpr h)
theorem takeZ_snoc (a : Int) (kvs : Ct) (e : Str × Int) : takeZ a (kvs ++ [e]) = takeZ a kvs ++ (if a < e.2 then [(e.1, e.2 - a)] else []) := by
  unfold takeZ
  rw [List.filter_append, List.map_append]
  by_cases h : a < e.2
  · rw [if_pos h, List.filter_cons_of_pos (by simpa using h)]
    rfl
  · rw [if_neg h, List.filter_cons_of_neg (by simpa using h)]
    rfl
theorem takeZ_keys {a : Int} {kvs : Ct} {n : Str} (h : n ∈ (takeZ a kvs).map (·.1)) : n ∈ kvs.map (·.1) := by
  unfold takeZ at h
  rw [List.map_map] at h
  obtain ⟨e, he, rfl⟩ := List.mem_map.mp h
  exact List.mem_map.mpr ⟨e, (List.mem_filter.mp he).1, rfl⟩
section
variable {P : Program} {w : World} {K : PySem.W.Frag} {mg : Str → Option Value} {base : Heap}
/-! Tally.sketch -/
def spTsketch (C : Addr) : Sp := fun vs H Q _ => ∃ (t d : Addr) (r m o : Int) (kvs : Ct), vs = [.ref t] ∧ TalAt C H t d r m o kvs ∧ NdZ kvs ∧ kvs.length ≤ 1000 ∧
  ∀ H' s k (ys : Ct) (ts : List Addr), Same H H' → H s = none → H' s = some (.tup [.int r, .int m, .int o, .ref k]) → Ptp H' k (ts.map V.ref) → Paired (fun (t : Addr) (y : Str × Int) => H' t = some (.tup [.str y.1, .int y.2])) ts ys → ys.Perm kvs → Asc ys → Q (.ref s) H'
theorem ok_Tsketch (T : Blt mg) (L : Tal K mg) : FnOk P w K mg base CX0 1 L.fS L.dS ["self"] (spTsketch L.C) := by
  refine L.FS.ok scTsketch (fun vs H Q E h => ?_) (fun cdv A outer s H vs Q E hr h => ?_)
  · obtain ⟨t, d, r, m, o, kvs, rfl, _⟩ := h
    rfl
  · obtain ⟨t, d, r, m, o, kvs, rfl, ta, nd, hl, q⟩ := h
    refine ⟨_, (pss_one (ps_ret (pe_tup (pa_cons (pe_fld (pv 0) rfl) (pa_cons (pe_fld (pv 0) rfl) (pa_cons (pe_fld (pv 0) rfl) (pa_cons (pe_callTy call_tupleF (by rfl) T.n_tuple (by decide +kernel) (pa_cons (pe_callB (cr_sortedIZ rfl) (by rfl) T.n_sorted (by decide +kernel) (pa_cons (pe_bm0 PySem.F.plainAttrs_dict PySem.F.slot_dict_items PySem.F.type_dict_items mt_itemsK (pe_fld (pv 0) rfl)) pa_nil)) pa_nil)) pa_nil))))))), ?_⟩
    obtain ⟨⟨dx, ht⟩, hd⟩ := id ta
    refine ⟨.ref t, rfl, t, L.C, dx, _, _, rfl, ht, L.cl, L.nR, g_room _ _ _ _, .ref t, rfl, t, L.C, dx, _, _, rfl, ht, L.cl, L.nM, g_many _ _ _ _, .ref t, rfl, t, L.C, dx, _, _, rfl, ht, L.cl, L.nO, g_off _ _ _ _, ?_⟩
    refine ⟨.ref t, rfl, t, L.C, dx, _, _, rfl, ht, L.cl, L.nC, g_counts _ _ _ _, .inr (.inr (.inl ⟨rfl, .inl ⟨_, hd⟩⟩)), d, _, rfl, rfl, hd, fun p np => ?_⟩
    refine ⟨p, d, kvs, rfl, upd_same, (by rw [upd_ne (ne_of_none hd np)]; exact hd), fun H1 l ys ts s1 nl nts lts pm so hl1 hts => ?_⟩
    refine ⟨l, _, rfl, sql hl1, fun k ob nk ho => ⟨(by show 4 ≤ sizeLine; decide), fun s ns => ?_⟩⟩
    have sa : Same H (upd H p (DX.itemsO p d)) := same_upd np
    have sb : Same H H1 := fun b u e => s1 b u (sa b u e)
    have sc : Same H (upd H1 k (.frz ob (.tup (ts.map V.ref)))) := Same.new sb nk
    refine q _ s k ys ts (Same.new sc ns) (Same.gone sc ns) upd_same ⟨ob, ?_, ho⟩ ?_ pm (asc_of so pm nd)
    · rw [upd_ne (ne_of_none upd_same ns)]
      exact upd_same
    · have : ∀ {ts : List Addr} {ys : Ct}, Paired (fun (t : Addr) (y : Str × Int) => H1 t = some (.tup [.str y.1, .int y.2])) ts ys → Paired (fun (t : Addr) (y : Str × Int) => (upd (upd H1 k (.frz ob (.tup (ts.map V.ref)))) s (.tup [.int r, .int m, .int o, .ref k])) t = some (.tup [.str y.1, .int y.2])) ts ys := by
        intro ts ys h
        have gen : ∀ (u : HO) (ns' : (upd H1 k u) s = none) (v : HO) {ts : List Addr} {ys : Ct}, Paired (fun (t : Addr) (y : Str × Int) => H1 t = some (.tup [.str y.1, .int y.2])) ts ys → Paired (fun (t : Addr) (y : Str × Int) => (upd (upd H1 k u) s v) t = some (.tup [.str y.1, .int y.2])) ts ys := by
          intro u ns' v ts ys h
          induction h with
          | nil => exact .nil
          | cons h _ ih => exact .cons ((Same.new (same_upd nk) ns') _ _ h) ih
        exact gen _ (by
          have e : s ≠ k := (ne_of_none upd_same ns).symm
          rw [upd_ne e] at ns ⊢
          exact ns) _ h
      exact this hts
/-! Tally._take -/
def spTtake (C : Addr) : Sp := fun vs H Q _ => ∃ (t d : Addr) (r m o a : Int) (kvs : Ct), vs = [.ref t, .int a] ∧ TalAt C H t d r m o kvs ∧ NdZ kvs ∧ kvs.length ≤ 1000 ∧
  ∀ H' d', But t d H H' → H d' = none → TalAt C H' t d' r m (o + a) (takeZ a kvs) → Q .non H'
theorem ok_Ttake (T : Blt mg) (L : Tal K mg) : FnOk P w K mg base CX0 1 L.fT L.dT ["self", "amount"] (spTtake L.C) := by
  refine L.FT.ok scTtake (fun vs H Q E h => ?_) (fun cdv A outer s H vs Q E hr h => ?_)
  · obtain ⟨t, d, r, m, o, a, kvs, rfl, _⟩ := h
    rfl
  · obtain ⟨t, d, r, m, o, a, kvs, rfl, ta, nd, hl, q⟩ := h
    refine ⟨_, (pss_cons (ps_fldaug (pv 0) (pv 1) in_add)
    (pss_one (ps_fld (pv 0) (pe_lock (pe_dc rfl scTtake.nd (own := [("name", 2), ("count", 3)]) (g := gTup K 2 (gCons (gName 2) (gCons (gName 3) gNil))) (pi_items (pe_fld (pv 0) rfl)) (blkOk_by (N := NTtake) (sc := defScope sTtake) (by decide +kernel)) (fun _ _ _ _ _ => pg_tup (by rfl) (pgs_cons (pg_name (i := 2) scTtake.nd rfl (Or.inl rfl)) (pgs_cons (pg_name (i := 3) scTtake.nd rfl (Or.inl rfl)) pgs_nil))) (fun _ _ _ _ _ => pts_one (pt_cmpR op_gt (pv 3) (pv 1) (nomark _))) (fun _ _ _ _ _ => (pv 2)) (fun _ _ _ _ _ => (pe_op op_sub (pv 3) (pv 1))))) rfl))), ?_⟩
    obtain ⟨⟨dx, ht⟩, hd⟩ := id ta
    have td := ta.ne
    refine ⟨.ref t, rfl, t, L.C, dx, _, _, rfl, ht, L.cl, L.nO, g_off _ _ _ _, .int a, rfl, _, _, rfl, rfl, dx, _, ht, (by show 4 < 1000; decide), ?_⟩
    rw [fl_off]
    have hd1 : (upd H t (.ins L.C dx (fl r m (o + a) d))) d = some (.dK (kvs.map entZ)) := by rw [upd_ne td.symm]; exact hd
    refine ⟨d, _, hd1, trivial, fun od => ⟨.ref t, rfl, t, L.C, dx, _, _, rfl, (by rw [upd_ne td]; exact upd_same), L.cl, L.nC, g_counts _ _ _ _, d, od, kvs.map entZ, rfl, upd_same, fun D nD => ?_⟩⟩
    have tD : t ≠ D := ne_of_none (by rw [upd_ne td]; exact upd_same) nD
    have dD : d ≠ D := ne_of_none upd_same nD
    generalize hHl : upd (upd H t (.ins L.C dx (fl r m (o + a) d))) d (.frz od (.dK (kvs.map entZ))) = Hl at nD ⊢
    have hlt : Hl t = some (.ins L.C dx (fl r m (o + a) d)) := by rw [← hHl, upd_ne td]; exact upd_same
    have hld : Hl d = some (.frz od (.dK (kvs.map entZ))) := by rw [← hHl]; exact upd_same
    refine dc_it (walk_items (kvs := kvs.map entZ)) (fun i H3 => (∀ b u, b ≠ D → Hl b = some u → H3 b = some u) ∧ H3 D = some (.dK ((takeZ a (kvs.take i)).map entZ))) ⟨fun b u n e => by rw [upd_ne n]; exact e, upd_same⟩ (fun i H3 _ h3 => h3.1 d _ dD hld) (fun i x H3 H4 hi h3 y => ?_) (fun H3 h3 => ?_)
    · obtain ⟨Tp, x1, y1, rfl, nT, rfl, hx, hy⟩ := y
      dsimp only at hx hy
      rw [List.length_map] at hi
      have he : kvs[i]? = some kvs[i] := List.getElem?_eq_getElem hi
      generalize kvs[i] = e at he
      have hx1 : x1 = .str e.1 := by
        rw [List.getElem?_map, he] at hx
        exact (Option.some.inj hx).symm
      have hy1 : y1 = .int e.2 := by
        rw [List.getElem?_map, he] at hy
        exact (Option.some.inj hy).symm
      subst hx1 hy1
      have TD : Tp ≠ D := (ne_of_none h3.2 nT).symm
      refine ⟨Tp, _, rfl, .inl (.inl upd_same), rfl, _, _, rfl, _, _, rfl, rfl, rfl, .int e.2, rfl, .int a, rfl, _, _, rfl, rfl, _, rfl, ?_⟩
      have tk := takeZ_snoc a (kvs.take i) e
      have te : kvs.take (i + 1) = kvs.take i ++ [e] := by rw [List.take_add_one, he]; rfl
      refine ite2 (fun hgt => ?_) (fun hgt => ?_)
      · have hga : a < e.2 := of_decide_eq_true hgt
        refine ⟨.str e.1, rfl, .int e.2, rfl, .int a, rfl, _, _, rfl, rfl, _, Sum.inr e.1, rfl, (by rw [upd_ne TD.symm]; exact h3.2), ?_, fun b u nb e' => ?_, ?_⟩
        · rw [List.length_map, sizeLine_eq]
          have := takeZ_len (a := a) (kvs := kvs.take i)
          rw [List.length_take] at this
          omega
        · rw [upd_ne nb]
          by_cases hb : b = Tp
          · subst hb
            have := h3.1 b u nb e'
            rw [nT] at this
            cases this
          · rw [upd_ne hb]
            exact h3.1 b u nb e'
        · rw [upd_same, putZ_put, putZ_snoc, te, tk, if_pos hga]
          intro z
          have z2 := takeZ_keys z
          have nd2 := nd
          unfold NdZ at nd2
          rw [← List.take_append_drop i kvs, List.map_append, List.nodup_append] at nd2
          refine nd2.2.2 _ z2 e.1 (List.mem_map.mpr ⟨e, ?_, rfl⟩) rfl
          rw [List.drop_eq_getElem_cons hi]
          have := (List.getElem?_eq_some_iff.mp he).2
          rw [this]
          exact List.mem_cons_self
      · have hga : ¬ a < e.2 := fun z => hgt (decide_eq_true z)
        refine ⟨fun b u nb e' => ?_, ?_⟩
        · by_cases hb : b = Tp
          · subst hb
            have := h3.1 b u nb e'
            rw [nT] at this
            cases this
          · rw [upd_ne hb]
            exact h3.1 b u nb e'
        · rw [upd_ne TD.symm, te, tk, if_neg hga, List.append_nil]
          exact h3.2
    · have h3t := h3.1 t _ tD hlt
      have h3d := h3.1 d _ dD hld
      refine ⟨h3d, .ref t, rfl, t, L.C, dx, _, rfl, (by rw [upd_ne td]; exact h3t), L.cl, L.nC, (by show 4 < 1000; decide), ?_⟩
      rw [fl_counts]
      have h3D : H3 D = some (.dK ((takeZ a kvs).map entZ)) := by
        have := h3.2
        rw [List.length_map, List.take_length] at this
        exact this
      have nD0 : H D = none := by
        rw [← hHl, upd_ne dD.symm, upd_ne tD.symm] at nD
        exact nD
      refine q _ D (fun b u n1 n2 e => ?_) nD0 ⟨⟨dx, upd_same⟩, by rw [upd_ne tD.symm, upd_ne dD.symm]; exact h3D⟩
      rw [upd_ne n1, upd_ne n2]
      refine h3.1 b u (ne_of_none e nD0) ?_
      rw [← hHl, upd_ne n2, upd_ne n1]
      exact e
end
end Kb


namespace Kb
open PySem PySem.Spec PyProof.Rows L2 SrtZ SrtO
/-- the least count -/
def mnC : Ct → Int
  | [] => 0
  | [e] => e.2
  | e :: r => if e.2 ≤ mnC r then e.2 else mnC r
theorem mnC_spec : ∀ {kvs : Ct}, kvs ≠ [] → mnC kvs ∈ kvs.map (·.2) ∧ ∀ y ∈ kvs.map (·.2), mnC kvs ≤ y
  | [], h => absurd rfl h
  | [e], _ => ⟨by simp [mnC], fun y hy => by
    have : y = e.2 := by simpa using hy
    rw [this]
    exact Int.le_refl _⟩
  | e :: f :: r, _ => by
    obtain ⟨h1, h2⟩ := mnC_spec (kvs := f :: r) (by simp)
    show (if e.2 ≤ mnC (f :: r) then e.2 else mnC (f :: r)) ∈ _ ∧ ∀ y ∈ _, (if e.2 ≤ mnC (f :: r) then e.2 else mnC (f :: r)) ≤ y
    by_cases h : e.2 ≤ mnC (f :: r)
    · rw [if_pos h]
      refine ⟨by simp, fun y hy => ?_⟩
      rw [List.map_cons] at hy
      rcases List.mem_cons.mp hy with rfl | hy
      · exact Int.le_refl _
      · exact Int.le_trans h (h2 y hy)
    · rw [if_neg h]
      refine ⟨by rw [List.map_cons]; exact List.mem_cons_of_mem _ h1, fun y hy => ?_⟩
      rw [List.map_cons] at hy
      rcases List.mem_cons.mp hy with rfl | hy
      · omega
      · exact h2 y hy
theorem mnC_uniq {kvs : Ct} {m : Int} (h : m ∈ kvs.map (·.2)) (hm : ∀ y ∈ kvs.map (·.2), m ≤ y) : m = mnC kvs := by
  have ne : kvs ≠ [] := by
    rintro rfl
    simp at h
  obtain ⟨h1, h2⟩ := mnC_spec ne
  have a := h2 _ h
  have b := hm _ h1
  omega
/-- what a tally holds: many, off, counts -/
structure Tl where
  m : Int
  o : Int
  c : Ct
def full (r : Int) (n : Str) (kvs : Ct) : Bool := !(getZ kvs n).isSome && decide ((kvs.length : Int) = r)
def feedT (r : Int) (n : Str) (c : Int) (x : Tl) : Tl :=
  if full r n x.c = true then
    let a := if mnC x.c < c then mnC x.c else c
    ⟨x.m + c, x.o + a, if 0 < c - a then addZ (takeZ a x.c) n (c - a) else takeZ a x.c⟩
  else ⟨x.m + c, x.o, if 0 < c then addZ x.c n c else x.c⟩
def sumsZ (more kvs : Ct) : Ct := more.foldl (fun a e => addZ a e.1 e.2) kvs
def fallZ (kvs : Ct) (r : Int) : Int := ((kvs.map (·.2)).mergeSort (fun a b => decide (b ≤ a))).getD r.toNat 0
def pourT (r : Int) (y x : Tl) : Tl :=
  let all := sumsZ y.c x.c
  if r < (all.length : Int) then ⟨x.m + y.m, x.o + y.o + fallZ all r, takeZ (fallZ all r) all⟩ else ⟨x.m + y.m, x.o + y.o, all⟩
theorem fall_uniq {kvs : Ct} {ns : List Int} (p : ns.Perm (kvs.map (·.2))) (h : ns.Pairwise (· ≥ ·)) : ns = (kvs.map (·.2)).mergeSort (fun a b => decide (b ≤ a)) := by
  refine List.Perm.eq_of_pairwise (le := fun (a b : Int) => b ≤ a) (fun a b _ _ h1 h2 => Int.le_antisymm h2 h1) h ?_ (p.trans (List.mergeSort_perm _ _).symm)
  have := List.pairwise_mergeSort (le := fun (a b : Int) => decide (b ≤ a)) (fun a b c h1 h2 => by simp at *; omega) (fun a b => by simp; omega) (kvs.map (·.2))
  exact this.imp fun h => of_decide_eq_true h
theorem addZ_nd {kvs : Ct} {n : Str} {c : Int} (nd : NdZ kvs) : NdZ (addZ kvs n c) := putZ_nd nd
theorem addZ_len {kvs : Ct} {n : Str} {c : Int} : (addZ kvs n c).length ≤ kvs.length + 1 := putZ_len
theorem sumsZ_nd : ∀ {more kvs : Ct}, NdZ kvs → NdZ (sumsZ more kvs)
  | [], _, h => h
  | e :: r, kvs, h => sumsZ_nd (more := r) (addZ_nd (n := e.1) (c := e.2) h)
theorem sumsZ_len : ∀ {more kvs : Ct}, (sumsZ more kvs).length ≤ kvs.length + more.length
  | [], kvs => Nat.le_refl _
  | e :: r, kvs => by
    have h := sumsZ_len (more := r) (kvs := addZ kvs e.1 e.2)
    have h2 := addZ_len (kvs := kvs) (n := e.1) (c := e.2)
    show (sumsZ r (addZ kvs e.1 e.2)).length ≤ kvs.length + (r.length + 1)
    omega
theorem sumsZ_snoc {more kvs : Ct} {i : Nat} {e : Str × Int} (h : more[i]? = some e) : sumsZ (more.take (i + 1)) kvs = addZ (sumsZ (more.take i) kvs) e.1 e.2 := by
  unfold sumsZ
  rw [List.take_add_one, h, List.foldl_append]
  rfl
section
variable {P : Program} {w : World} {K : PySem.W.Frag} {mg : Str → Option Value} {base : Heap}
/-! Tally.feed -/
def spTfeed (C : Addr) : Sp := fun vs H Q _ => ∃ (t d : Addr) (r c : Int) (n : Str) (x : Tl), vs = [.ref t, .str n, .int c] ∧ TalAt C H t d r x.m x.o x.c ∧ NdZ x.c ∧ x.c.length ≤ 500 ∧ 1 ≤ r ∧
  ∀ H' d', But t d H H' → (d' = d ∨ H d' = none) → TalAt C H' t d' r (feedT r n c x).m (feedT r n c x).o (feedT r n c x).c → Q .non H'
end
end Kb


namespace Kb
open PySem PySem.Spec PyProof.Rows L2 SrtZ SrtO
theorem seqT_but {K : PySem.W.Frag} {C : Addr} {H H' : Hp} {t d a : Addr} {r m o : Int} {kvs : Ct} {xs : List V} (h : SqT K H a xs) (ta : TalAt C H t d r m o kvs) (b : But t d H H') : SqT K H' a xs := by
  obtain ⟨⟨dx, ht⟩, hd⟩ := ta
  rcases h with (h | ⟨o, h⟩) | h
  · exact .inl (.inl (b a _ (ne_of h ht (by intro z; cases z)) (ne_of h hd (by intro z; cases z)) h))
  · exact .inl (.inr ⟨o, b a _ (ne_of h ht (by intro z; cases z)) (ne_of h hd (by intro z; cases z)) h⟩)
  · exact .inr h
theorem prs_but {K : PySem.W.Frag} {C : Addr} {H H' : Hp} {t d : Addr} {r m o : Int} {kvs : Ct} (ta : TalAt C H t d r m o kvs) (b : But t d H H') : ∀ {ts : List Addr} {ks : Ct}, Paired (PrAt K H) ts ks → Paired (PrAt K H') ts ks
  | _, _, .nil => .nil
  | _, _, .cons h q => .cons (seqT_but h ta b) (prs_but ta b q)
section
variable {P : Program} {w : World} {K : PySem.W.Frag} {mg : Str → Option Value} {base : Heap}
/-! Tally.pour -/
def spTpour (K : PySem.W.Frag) (C : Addr) : Sp := fun vs H Q _ => ∃ (t d s k : Addr) (r r2 : Int) (x y : Tl), vs = [.ref t, .ref s] ∧ TalAt C H t d r x.m x.o x.c ∧ NdZ x.c ∧ x.c.length ≤ 200 ∧ SqT K H s [.int r2, .int y.m, .int y.o, .ref k] ∧ CtAt K H k y.c ∧ y.c.length ≤ 200 ∧ 0 ≤ r ∧
  ∀ H' d', But t d H H' → (d' = d ∨ H d' = none) → TalAt C H' t d' r (pourT r y x).m (pourT r y x).o (pourT r y x).c → Q .non H'
theorem ok_Tpour (T : Blt mg) (L : Tal K mg) : FnOk P w K mg base CX0 2 L.fP L.dP ["self", "sketch"] (spTpour K L.C) := by
  have G_take : FnOk P w K mg base CX0 1 L.fT L.dT ["self", "amount"] (spTtake L.C) := ok_Ttake T L
  refine L.FP.ok scTpour (fun vs H Q E h => ?_) (fun cdv A outer s H vs Q E hr h => ?_)
  · obtain ⟨t, d, s, k, r, r2, x, y, rfl, _⟩ := h
    rfl
  · obtain ⟨t, d, s, k, r, r2, ⟨m, o, kvs⟩, ⟨m2, o2, ks⟩, rfl, ta, nd, hl, hs, ⟨ts, hS, hp⟩, hl2, hr0, q⟩ := h
    dsimp only at ta nd hl hs hp hl2 q
    have hu := hu_of hr
    obtain ⟨rn, rfl⟩ := Int.eq_ofNat_of_zero_le hr0
    refine ⟨_, (pss_cons (ps_asg (pv 1) (pg_tup (by rfl) (pgs_cons (pg_name (i := 2) scTpour.nd rfl (Or.inl rfl)) (pgs_cons (pg_name (i := 3) scTpour.nd rfl (Or.inl rfl)) (pgs_cons (pg_name (i := 4) scTpour.nd rfl (Or.inl rfl)) (pgs_cons (pg_name (i := 5) scTpour.nd rfl (Or.inl rfl)) pgs_nil))))))
    (pss_cons (ps_fldaug (pv 0) (pv 3) in_add)
    (pss_cons (ps_fldaug (pv 0) (pv 4) in_add)
    (pss_cons (ps_for PassesOwn.never rfl (pi_tup (pv 5)) (pg_tup (by rfl) (pgs_cons (pg_name (i := 6) scTpour.nd rfl (Or.inl rfl)) (pgs_cons (pg_name (i := 7) scTpour.nd rfl (Or.inl rfl)) pgs_nil)))
      (pss_one (ps_dput hu (pe_fld (pv 0) rfl) (pv 6) (pe_op op_add (pe_dget2 hu (pe_fld (pv 0) rfl) (pv 6) pe_int ⟨rfl, rfl, rfl, rfl⟩) (pv 7)) rfl)))
    (pss_one (ps_if (pt_cmpR op_gt (pe_callB call_lenD (by rfl) T.n_len (by decide +kernel) (pa_cons (pe_fld (pv 0) rfl) pa_nil)) (pe_fld (pv 0) rfl) (nomark _))
      (pss_cons (ps_set (i := 8) scTpour.nd rfl (Or.inl rfl) (pe_callBK (cr_sortedVR (b := true) rfl) (by rfl) T.n_sorted (by decide +kernel) (pa_cons (pe_bm0 PySem.F.plainAttrs_dict PySem.F.slot_dict_values PySem.F.type_dict_values mt_valuesK (pe_fld (pv 0) rfl)) pa_nil) (pk_cons pe_bl pk_nil)))
      (pss_one (ps_expr (pe_meth (pv 0) L.cl L.mT G_take (hr.mono (by omega)) L.bT .nil pass0 (pa_cons (pe_ix ix_list (pv 8) (pe_fld (pv 0) rfl) (fun _ _ => rfl)) pa_nil)))))
      pss_nil)))))), ?_⟩
    obtain ⟨⟨dx, ht⟩, hd⟩ := id ta
    have td := ta.ne
    refine ⟨.ref s, rfl, s, _, rfl, hs, rfl, _, _, rfl, _, _, rfl, _, _, rfl, _, _, rfl, rfl, ?_⟩
    refine ⟨.ref t, rfl, t, L.C, dx, _, _, rfl, ht, L.cl, L.nM, g_many _ _ _ _, .int m2, rfl, _, _, rfl, rfl, dx, _, ht, (by show 4 < 1000; decide), ?_⟩
    rw [fl_many]
    refine ⟨.ref t, rfl, t, L.C, dx, _, _, rfl, upd_same, L.cl, L.nO, g_off _ _ _ _, .int o2, rfl, _, _, rfl, rfl, dx, _, upd_same, (by show 4 < 1000; decide), ?_⟩
    rw [fl_off, upd_upd]
    have ta1 : TalAt L.C (upd H t (.ins L.C dx (fl rn (m + m2) (o + o2) d))) t d rn (m + m2) (o + o2) kvs := ⟨⟨dx, upd_same⟩, by rw [upd_ne td.symm]; exact hd⟩
    have bt1 : But t d H (upd H t (.ins L.C dx (fl rn (m + m2) (o + o2) d))) := (But.refl t d H).upT
    generalize upd H t (.ins L.C dx (fl rn (m + m2) (o + o2) d)) = H1 at ta1 bt1
    refine ⟨.ref k, rfl, k, rfl, ⟨_, seqT_but hS ta bt1⟩, for_tup (xs := ts.map V.ref) (fun i σ H3 => ∃ y6 y7 : Option V, σ = [some (.ref t), some (.ref s), some (.int r2), some (.int m2), some (.int o2), some (.ref k), y6, y7, none] ∧ But t d H H3 ∧ TalAt L.C H3 t d rn (m + m2) (o + o2) (sumsZ (ks.take i) kvs))
      ⟨none, none, rfl, bt1, ta1⟩ (fun i σ H3 _ ⟨_, _, _, b3, _⟩ => seqT_but hS ta b3) ?_ ?_⟩
    · rintro i v σ H3 hi ⟨y6, y7, rfl, b3, ta3⟩
      obtain ⟨tp, htp, rfl⟩ := map_at hi
      obtain ⟨e, he, hat⟩ := paired_at hp htp
      obtain ⟨⟨dx3, ht3⟩, hd3⟩ := id ta3
      refine ⟨tp, _, rfl, seqT_but hat ta b3, rfl, _, _, rfl, _, _, rfl, rfl, ?_⟩
      refine ⟨.ref t, rfl, t, L.C, dx3, _, _, rfl, ht3, L.cl, L.nC, g_counts _ _ _ _, d, rfl, .inl ⟨_, .inl hd3⟩, .str e.1, rfl, _, DGet.k (k := Sum.inr e.1) hd3, ?_⟩
      rw [getZ_val]
      refine ⟨.int e.2, rfl, (getZ (sumsZ (ks.take i) kvs) e.1).getD 0, e.2, ?_, rfl, ?_⟩
      · cases getZ (sumsZ (ks.take i) kvs) e.1 <;> rfl
      · have hlen := sumsZ_len (more := ks.take i) (kvs := kvs)
        rw [List.length_take] at hlen
        refine ⟨.ref t, rfl, t, L.C, dx3, _, _, rfl, ht3, L.cl, L.nC, g_counts _ _ _ _, .str e.1, rfl, d, _, rfl, DPut.k (k := Sum.inr e.1) hd3 (by rw [List.length_map, sizeLine_eq]; omega), ?_⟩
        rw [putZ_put]
        refine ⟨some (.str e.1), some (.int e.2), rfl, b3.upD, ⟨dx3, by rw [upd_ne td]; exact ht3⟩, ?_⟩
        rw [upd_same, sumsZ_snoc he]
        rfl
    · rintro σ H3 ⟨y6, y7, rfl, b3, ta3⟩
      have e1 : ks.take (ts.map V.ref).length = ks := by rw [List.length_map, Paired.length hp, List.take_length]
      rw [e1] at ta3
      obtain ⟨⟨dx3, ht3⟩, hd3⟩ := id ta3
      have hlen := sumsZ_len (more := ks) (kvs := kvs)
      have hnd := sumsZ_nd (more := ks) nd
      unfold pourT at q
      dsimp only at q
      generalize sumsZ ks kvs = all at ta3 hd3 hlen hnd q
      refine ⟨.ref t, rfl, t, L.C, dx3, _, _, rfl, ht3, L.cl, L.nC, g_counts _ _ _ _, d, _, rfl, hd3, .ref t, rfl, t, L.C, dx3, _, _, rfl, ht3, L.cl, L.nR, g_room _ _ _ _, _, _, rfl, rfl, _, rfl, ?_⟩
      rw [List.length_map]
      refine ite2 (fun hgt => ?_) fun hgt => ?_
      · have hlt : (rn : Int) < (all.length : Int) := of_decide_eq_true hgt
        rw [if_pos hlt] at q
        refine ⟨.ref t, rfl, t, L.C, dx3, _, _, rfl, ht3, L.cl, L.nC, g_counts _ _ _ _, .inr (.inr (.inl ⟨rfl, .inl ⟨_, hd3⟩⟩)), d, _, rfl, rfl, hd3, fun p np => ?_⟩
        refine ⟨p, d, all, rfl, rfl, upd_same, (by rw [upd_ne (ne_of_none hd3 np)]; exact hd3), fun ns l pm hdesc nl => ?_⟩
        have eu := fall_uniq pm hdesc
        have ta4 : TalAt L.C (upd (upd H3 p (valuesO p d)) l (.lst (ns.map V.int))) t d rn (m + m2) (o + o2) all := (ta3.same (same_upd np)).same (same_upd nl)
        obtain ⟨⟨dx4, ht4⟩, _⟩ := id ta4
        have hln : ns.length = all.length := by rw [pm.length_eq, List.length_map]
        have hat : (ns.map V.int)[rn]? = some (.int (fallZ all rn)) := by
          have h1 : rn < ns.length := by omega
          rw [List.getElem?_map, List.getElem?_eq_getElem h1]
          show some (V.int ns[rn]) = _
          unfold fallZ
          rw [← eu]
          simp [List.getD, h1]
        refine ⟨.ref t, rfl, t, dx4, _, rfl, ht4, g_no _ _ _ _ (by decide +kernel) (by decide +kernel) (by decide +kernel) (by decide +kernel), .ref l, rfl, .ref t, rfl, t, L.C, dx4, _, _, rfl, ht4, L.cl, L.nR, g_room _ _ _ _, l, _, _, _, rfl, rfl, sql upd_same, atI_nat hat, t, d, rn, m + m2, o + o2, fallZ all rn, all, rfl, ta4, hnd, (by omega), fun H5 d5 b5 nd5 ta5 => ?_⟩
        refine q H5 d5 (((b3.new np).new nl).trans b5) (.inr ?_) ta5
        have nd6 : H3 d5 = none := Same.gone (same_upd np) (Same.gone (same_upd nl) nd5)
        cases e : H d5 with
        | none => rfl
        | some u =>
          by_cases e1 : d5 = t
          · subst e1
            rw [ht3] at nd6
            cases nd6
          · by_cases e2 : d5 = d
            · subst e2
              rw [hd3] at nd6
              cases nd6
            · have := b3 d5 u e1 e2 e
              rw [nd6] at this
              cases this
      · have hlt : ¬ (rn : Int) < (all.length : Int) := fun z => hgt (decide_eq_true z)
        rw [if_neg hlt] at q
        exact q H3 d b3 (.inl rfl) ta3
end
end Kb


namespace Kb
open PySem PySem.Spec PyProof.Rows L2 SrtZ SrtO
/-! what stays true of a tally -/
structure TlOk (r : Int) (x : Tl) : Prop where
  nd : NdZ x.c
  len : (x.c.length : Int) ≤ r
  pos : ∀ e ∈ x.c, 1 ≤ e.2
  nm : ∀ e ∈ x.c, Nm e.1
theorem getZ_pos {kvs : Ct} {n : Str} (pos : ∀ e ∈ kvs, 1 ≤ e.2) : 0 ≤ (getZ kvs n).getD 0 := by
  unfold getZ
  cases h : kvs.find? fun e => decide (e.1 = n) with
  | none => exact Int.le_refl _
  | some e =>
    have := pos e (List.mem_of_find?_eq_some h)
    show 0 ≤ e.2
    omega
theorem putZ_mem {kvs : Ct} {n : Str} {v : Int} {e : Str × Int} (h : e ∈ putZ kvs n v) : e ∈ kvs ∨ e = (n, v) := by
  unfold putZ at h
  split at h
  · obtain ⟨f, hf, rfl⟩ := List.mem_map.mp h
    by_cases hn : f.1 = n
    · rw [if_pos hn]
      exact .inr (by rw [hn])
    · rw [if_neg hn]
      exact .inl hf
  · rcases List.mem_append.mp h with h | h
    · exact .inl h
    · exact .inr (List.mem_singleton.mp h)
theorem addZ_pos {kvs : Ct} {n : Str} {c : Int} (pos : ∀ e ∈ kvs, 1 ≤ e.2) (hc : 1 ≤ c) : ∀ e ∈ addZ kvs n c, 1 ≤ e.2 := fun e he => by
  rcases putZ_mem he with h | h
  · exact pos e h
  · have := getZ_pos (n := n) pos
    rw [h]
    show 1 ≤ _ + c
    omega
theorem addZ_nm {kvs : Ct} {n : Str} {c : Int} (nm : ∀ e ∈ kvs, Nm e.1) (hn : Nm n) : ∀ e ∈ addZ kvs n c, Nm e.1 := fun e he => by
  rcases putZ_mem he with h | h
  · exact nm e h
  · rw [h]
    exact hn
theorem addZ_len_old {kvs : Ct} {n : Str} {c : Int} (h : (getZ kvs n).isSome = true) : (addZ kvs n c).length = kvs.length := by
  have := congrArg List.length (putZ_keys_old (v := (getZ kvs n).getD 0 + c) h)
  rwa [List.length_map, List.length_map] at this
theorem takeZ_mem {a : Int} {kvs : Ct} {e : Str × Int} (h : e ∈ takeZ a kvs) : ∃ f ∈ kvs, a < f.2 ∧ e = (f.1, f.2 - a) := by
  unfold takeZ at h
  obtain ⟨f, hf, rfl⟩ := List.mem_map.mp h
  obtain ⟨h1, h2⟩ := List.mem_filter.mp hf
  exact ⟨f, h1, of_decide_eq_true h2, rfl⟩
theorem takeZ_pos {a : Int} {kvs : Ct} : ∀ e ∈ takeZ a kvs, 1 ≤ e.2 := fun e he => by
  obtain ⟨f, _, h, rfl⟩ := takeZ_mem he
  show 1 ≤ f.2 - a
  omega
theorem takeZ_nm {a : Int} {kvs : Ct} (nm : ∀ e ∈ kvs, Nm e.1) : ∀ e ∈ takeZ a kvs, Nm e.1 := fun e he => by
  obtain ⟨f, hf, _, rfl⟩ := takeZ_mem he
  exact nm f hf
/-- the least one goes when it is taken off -/
theorem takeZ_less {kvs : Ct} (ne : kvs ≠ []) : (takeZ (mnC kvs) kvs).length < kvs.length := by
  obtain ⟨h1, _⟩ := mnC_spec ne
  obtain ⟨e, he, h⟩ := List.mem_map.mp h1
  unfold takeZ
  rw [List.length_map]
  have h2 : (kvs.filter fun e => decide (mnC kvs < e.2)).length ≤ kvs.length := List.length_filter_le _ _
  rcases Nat.lt_or_ge (kvs.filter fun e => decide (mnC kvs < e.2)).length kvs.length with h3 | h3
  · exact h3
  · have h4 : (kvs.filter fun e => decide (mnC kvs < e.2)) = kvs := List.filter_sublist.eq_of_length (by omega)
    rw [← h4] at he
    have := of_decide_eq_true (List.mem_filter.mp he).2
    omega
theorem feedT_ok {r c : Int} {n : Str} {x : Tl} (h : TlOk r x) (hr : 1 ≤ r) (hn : Nm n) (hc : 0 ≤ c) : TlOk r (feedT r n c x) := by
  obtain ⟨nd, len, pos, nm⟩ := h
  unfold feedT
  cases hf : full r n x.c with
  | true =>
    have hfull : (x.c.length : Int) = r := by
      unfold full at hf
      rw [Bool.and_eq_true] at hf
      exact of_decide_eq_true hf.2
    have ne : x.c ≠ [] := by
      intro e
      rw [e] at hfull
      have : (0 : Int) = r := hfull
      omega
    rw [if_pos rfl]
    dsimp only
    generalize ha : (if mnC x.c < c then mnC x.c else c) = a
    by_cases hp : 0 < c - a
    · have ea : a = mnC x.c := by
        by_cases hm : mnC x.c < c
        · rw [if_pos hm] at ha
          exact ha.symm
        · rw [if_neg hm] at ha
          omega
      have hl := takeZ_less ne
      have hl2 := addZ_len (kvs := takeZ a x.c) (n := n) (c := c - a)
      refine ⟨?_, ?_, ?_, ?_⟩ <;> dsimp only <;> rw [if_pos hp]
      · exact addZ_nd (takeZ_nd nd)
      · rw [ea] at hl2 ⊢
        omega
      · exact addZ_pos takeZ_pos (by omega)
      · exact addZ_nm (takeZ_nm nm) hn
    · refine ⟨?_, ?_, ?_, ?_⟩ <;> dsimp only <;> rw [if_neg hp]
      · exact takeZ_nd nd
      · have := takeZ_len (a := a) (kvs := x.c)
        omega
      · exact takeZ_pos
      · exact takeZ_nm nm
  | false =>
    rw [if_neg (by decide)]
    by_cases hp : 0 < c
    · refine ⟨?_, ?_, ?_, ?_⟩ <;> dsimp only <;> rw [if_pos hp]
      · exact addZ_nd nd
      · cases hg : getZ x.c n with
        | some v =>
          rw [addZ_len_old (by rw [hg]; rfl)]
          exact len
        | none =>
          have h1 := addZ_len (kvs := x.c) (n := n) (c := c)
          unfold full at hf
          rw [hg] at hf
          have h2 : ¬ (x.c.length : Int) = r := by
            intro e
            rw [decide_eq_true e] at hf
            cases hf
          omega
      · exact addZ_pos pos (by omega)
      · exact addZ_nm nm hn
    · refine ⟨?_, ?_, ?_, ?_⟩ <;> dsimp only <;> rw [if_neg hp]
      · exact nd
      · exact len
      · exact pos
      · exact nm
def feedsT (r : Int) (zs : List Str) (x : Tl) : Tl := zs.foldl (fun x n => feedT r n 1 x) x
theorem feedsT_snoc {r : Int} {zs : List Str} {x : Tl} {i : Nat} {n : Str} (h : zs[i]? = some n) : feedsT r (zs.take (i + 1)) x = feedT r n 1 (feedsT r (zs.take i) x) := by
  unfold feedsT
  rw [List.take_add_one, h, List.foldl_append]
  rfl
theorem feedsT_ok {r : Int} (hr : 1 ≤ r) : ∀ {zs : List Str} {x : Tl}, TlOk r x → (∀ z ∈ zs, Nm z) → TlOk r (feedsT r zs x)
  | [], _, h, _ => h
  | z :: zs, x, h, hn => feedsT_ok (zs := zs) hr (feedT_ok h hr (hn z List.mem_cons_self) (by decide)) fun y hy => hn y (List.mem_cons_of_mem _ hy)
def tl0 : Tl := ⟨0, 0, []⟩
theorem tl0_ok {r : Int} (hr : 1 ≤ r) : TlOk r tl0 := ⟨List.nodup_nil, (by show (0 : Int) ≤ r; omega), (fun _ h => nomatch h), (fun _ h => nomatch h)⟩
theorem sumsZ_pos : ∀ {more kvs : Ct}, (∀ e ∈ more, 1 ≤ e.2) → (∀ e ∈ kvs, 1 ≤ e.2) → ∀ e ∈ sumsZ more kvs, 1 ≤ e.2
  | [], _, _, h => h
  | f :: r, kvs, hm, h => sumsZ_pos (more := r) (fun e he => hm e (List.mem_cons_of_mem _ he)) (addZ_pos h (hm f List.mem_cons_self))
theorem sumsZ_nm : ∀ {more kvs : Ct}, (∀ e ∈ more, Nm e.1) → (∀ e ∈ kvs, Nm e.1) → ∀ e ∈ sumsZ more kvs, Nm e.1
  | [], _, _, h => h
  | f :: r, kvs, hm, h => sumsZ_nm (more := r) (fun e he => hm e (List.mem_cons_of_mem _ he)) (addZ_nm h (hm f List.mem_cons_self))
/-- what is above the count at place r is at most r names -/
theorem fall_len {kvs : Ct} {r : Nat} (h : r < kvs.length) : (takeZ (fallZ kvs r) kvs).length ≤ r := by
  unfold takeZ
  rw [List.length_map]
  have hp := List.mergeSort_perm (kvs.map (·.2)) (fun a b => decide (b ≤ a))
  have hs := List.pairwise_mergeSort (le := fun (a b : Int) => decide (b ≤ a)) (fun a b c h1 h2 => by simp at *; omega) (fun a b => by simp; omega) (kvs.map (·.2))
  have e1 : (kvs.filter fun e => decide (fallZ kvs r < e.2)).length = ((kvs.map (·.2)).filter fun c => decide (fallZ kvs r < c)).length := by
    rw [List.filter_map, List.length_map]
    rfl
  rw [e1, ← (hp.filter _).length_eq]
  unfold fallZ
  rw [Int.toNat_natCast]
  generalize (kvs.map (·.2)).mergeSort (fun a b => decide (b ≤ a)) = s at hp hs
  have hl : r < s.length := by rw [hp.length_eq, List.length_map]; exact h
  have eg : s.getD r 0 = s[r] := by simp [List.getD, hl]
  rw [eg]
  generalize hv : s[r] = v
  have h1 : ((s.take r).filter fun c => decide (v < c)).length ≤ r := by
    have := List.length_filter_le (fun c => decide (v < c)) (s.take r)
    rw [List.length_take] at this
    omega
  have h2 : ((s.drop r).filter fun c => decide (v < c)) = [] := by
    rw [List.filter_eq_nil_iff]
    intro c hc z
    have z := of_decide_eq_true z
    have hd : (s.drop r).Pairwise fun a b => decide (b ≤ a) = true := hs.sublist (List.drop_sublist _ _)
    rw [List.drop_eq_getElem_cons hl] at hc hd
    rcases List.mem_cons.mp hc with e | hc
    · omega
    · have := of_decide_eq_true ((List.pairwise_cons.mp hd).1 c hc)
      omega
  have e3 : (s.filter fun c => decide (v < c)) = ((s.take r).filter fun c => decide (v < c)) ++ ((s.drop r).filter fun c => decide (v < c)) := by
    rw [← List.filter_append, List.take_append_drop]
  rw [e3, h2, List.append_nil]
  exact h1
theorem pourT_ok {r : Int} {x y : Tl} (hx : TlOk r x) (hy : TlOk r y) (hr : 0 ≤ r) : TlOk r (pourT r y x) := by
  obtain ⟨rn, rfl⟩ := Int.eq_ofNat_of_zero_le hr
  unfold pourT
  dsimp only
  have nd := sumsZ_nd (more := y.c) hx.nd
  have pos := sumsZ_pos hy.pos hx.pos
  have nm := sumsZ_nm hy.nm hx.nm
  generalize sumsZ y.c x.c = all at nd pos nm
  by_cases h : (rn : Int) < (all.length : Int)
  · rw [if_pos h]
    refine ⟨takeZ_nd nd, ?_, takeZ_pos, takeZ_nm nm⟩
    have := fall_len (kvs := all) (r := rn) (by omega)
    dsimp only
    omega
  · rw [if_neg h]
    exact ⟨nd, (by dsimp only; omega), pos, nm⟩
/-! the order of names -/
def srtZ (kvs : Ct) : Ct := kvs.mergeSort fun a b => !ltZ b.1 a.1
theorem srtZ_perm (kvs : Ct) : (srtZ kvs).Perm kvs := List.mergeSort_perm _ _
theorem srtZ_asc {kvs : Ct} (nd : NdZ kvs) : Asc (srtZ kvs) := by
  have hs := List.pairwise_mergeSort (le := fun (a b : Str × Int) => !ltZ b.1 a.1) (fun a b c h1 h2 => ?_) (fun a b => ?_) kvs
  · have nd2 : ((srtZ kvs).map (·.1)).Nodup := ((srtZ_perm kvs).map (·.1)).nodup_iff.mpr nd
    rw [List.Nodup, List.pairwise_map] at nd2
    refine List.Pairwise.imp₂ (fun {a b} h1 h2 => ?_) hs nd2
    rcases bcase (ltZ a.1 b.1) with q | q
    · exact q
    · have h3 : ltZ b.1 a.1 = false := by simpa using h1
      exact absurd (ltZ_tri q h3) h2
  · have h1 : ltZ b.1 a.1 = false := by simpa using h1
    have h2 : ltZ c.1 b.1 = false := by simpa using h2
    show (!ltZ c.1 a.1) = true
    rcases bcase (ltZ c.1 a.1) with q | q
    · rcases bcase (ltZ a.1 b.1) with p | p
      · have := ltZ_trans q p
        rw [h2] at this
        cases this
      · have e := ltZ_tri p h1
        rw [e, h2] at q
        cases q
    · rw [q]
      rfl
  · show ((!ltZ b.1 a.1) || (!ltZ a.1 b.1)) = true
    rcases bcase (ltZ b.1 a.1) with q | q
    · rw [ltZ_asym q]
      simp
    · rw [q]
      rfl
theorem srtZ_of {ys kvs : Ct} (h : Asc ys) (p : ys.Perm kvs) (nd : NdZ kvs) : ys = srtZ kvs := asc_uniq h (srtZ_asc nd) (p.trans (srtZ_perm kvs).symm)
def skT (x : Tl) : Tl := ⟨x.m, x.o, srtZ x.c⟩
theorem skT_ok {r : Int} {x : Tl} (h : TlOk r x) : TlOk r (skT x) := by
  have p := srtZ_perm x.c
  refine ⟨(p.map (·.1)).nodup_iff.mpr h.nd, ?_, fun e he => h.pos e (p.mem_iff.mp he), fun e he => h.nm e (p.mem_iff.mp he)⟩
  show ((srtZ x.c).length : Int) ≤ r
  rw [p.length_eq]
  exact h.len
/-! a tree's pile, the uppermost first -/
def stepT (r : Int) (st : List Tl) : Stp → List Tl
  | .put zs => feedsT r zs tl0 :: st
  | .pour => match st with
    | x :: y :: st => pourT r (skT x) y :: st
    | st => st
def runT (r : Int) (l : List Stp) : List Tl := l.foldl (stepT r) []
theorem runT_snoc {r : Int} {l : List Stp} {i : Nat} {t : Stp} (h : l[i]? = some t) : runT r (l.take (i + 1)) = stepT r (runT r (l.take i)) t := by
  unfold runT
  rw [List.take_add_one, h, List.foldl_append]
  rfl
end Kb

namespace Kb
open PySem PySem.Spec PyProof.Rows L2 SrtZ SrtO
abbrev spot : Stmt := topS 29
abbrev Npot : List Str := ["_law_script", "_law_cells", "_law_cell"]
theorem scpot : FnScope ["_law_script", "_law_cells", "_law_cell"] ["_law_script"] (defScope spot) := ⟨rfl, rfl, rfl, by decide +kernel, rfl, by decide +kernel, by decide +kernel⟩
abbrev sdraw : Stmt := topS 30
theorem scdraw : FnScope ["_law_pot_here", "_law_many", "_law_cell", "_law_digit", "_law_number"] ["_law_pot_here", "_law_many"] (defScope sdraw) := ⟨rfl, rfl, rfl, by decide +kernel, rfl, by decide +kernel, by decide +kernel⟩
abbrev sany : Stmt := topS 31
theorem scany : FnScope ["_law_pot_here", "_law_things"] ["_law_pot_here", "_law_things"] (defScope sany) := ⟨rfl, rfl, rfl, by decide +kernel, rfl, by decide +kernel, by decide +kernel⟩
abbrev Dnpot (K : PySem.W.Frag) (mg : Str → Option Value) := Dn K mg "_law_pot" spot ["_law_script"]
abbrev Dndraw (K : PySem.W.Frag) (mg : Str → Option Value) := Dn K mg "_law_draw" sdraw ["_law_pot_here", "_law_many"]
abbrev Dnany (K : PySem.W.Frag) (mg : Str → Option Value) := Dn K mg "_law_any" sany ["_law_pot_here", "_law_things"]
/-- the hand that is drawn from: its list, its cells -/
structure Wl (a c : Addr) (H : Hp) : Prop where
  ac : a ≠ c
  ex : ∃ (ns : List Int) (i : Nat) (u s t : Int), H a = some (.lst [.ref c, .int (i : Int), .int u, .int s, .int t]) ∧ H c = some (.lst (ns.map V.int)) ∧ (∀ n ∈ ns, 0 ≤ n) ∧ 0 ≤ u
/-- all but the hand stays -/
def Exw (a : Addr) (H H' : Hp) : Prop := ∀ b o, b ≠ a → H b = some o → H' b = some o
theorem Exw.refl (a : Addr) (H : Hp) : Exw a H H := fun _ _ _ h => h
theorem Exw.trans {a : Addr} {H H1 H2 : Hp} (x : Exw a H H1) (y : Exw a H1 H2) : Exw a H H2 := fun b o n h => y b o n (x b o n h)
theorem Exw.up {a : Addr} {H H1 : Hp} {u : HO} (x : Exw a H H1) : Exw a H (upd H1 a u) := fun b o n h => by
  rw [upd_ne n]
  exact x b o n h
theorem Exw.same {a : Addr} {H H1 H2 : Hp} (x : Exw a H H1) (y : Same H1 H2) : Exw a H H2 := fun b o n h => y b o (x b o n h)
theorem Same.exw {a : Addr} {H H1 : Hp} (x : Same H H1) : Exw a H H1 := fun b o _ h => x b o h
theorem Wl.same {a c : Addr} {H H' : Hp} (h : Wl a c H) (y : Same H H') : Wl a c H' := by
  obtain ⟨n1, ns, i, u, s, t, e1, e2, r⟩ := h
  exact ⟨n1, ns, i, u, s, t, y _ _ e1, y _ _ e2, r⟩
theorem Wl.ne2 {a c p : Addr} {H : Hp} (h : Wl a c H) (hp : H p = none) : p ≠ a ∧ p ≠ c := by
  obtain ⟨_, ns, i, u, s, t, e1, e2, _⟩ := h
  exact ⟨(ne_of_none e1 hp).symm, (ne_of_none e2 hp).symm⟩
theorem Wl.put {a c p : Addr} {H : Hp} {u : HO} (h : Wl a c H) (n : p ≠ a ∧ p ≠ c) : Wl a c (upd H p u) := by
  obtain ⟨n1, ns, i, v, s, t, e1, e2, r⟩ := h
  exact ⟨n1, ns, i, v, s, t, by rw [upd_ne n.1.symm]; exact e1, by rw [upd_ne n.2.symm]; exact e2, r⟩
theorem Wl.nea {a c p : Addr} {H : Hp} (h : Wl a c H) (hp : H p = none) : p ≠ a := (h.ne2 hp).1
/-- what is no list stays -/
theorem Exw.at {a c b : Addr} {H H' : Hp} {o : HO} (x : Exw a H H') (h : Wl a c H) (hb : H b = some o) (hl : ∀ xs, o ≠ .lst xs) : H' b = some o := by
  obtain ⟨_, ns, i, u, s, t, e1, e2, _⟩ := h
  exact x b o (ne_of hb e1 (hl _)) hb
/-- a list of texts is not the hand's -/
theorem Exw.strs {a c b : Addr} {H H' : Hp} {zs : List Str} (x : Exw a H H') (h : Wl a c H) (hb : H b = some (.lst (zs.map V.str))) : H' b = some (.lst (zs.map V.str)) := by
  obtain ⟨_, ns, i, u, s, t, e1, e2, _⟩ := h
  refine x b _ (fun e => ?_) hb
  subst e
  rw [hb] at e1
  have := HO.lst.inj (Option.some.inj e1)
  cases zs with
  | nil => cases this
  | cons y ys => cases this
theorem Exw.tup {K : PySem.W.Frag} {a c b : Addr} {H H' : Hp} {xs : List V} (x : Exw a H H') (h : Wl a c H) (hb : SqT K H b xs) : SqT K H' b xs := by
  rcases hb with (hb | ⟨o, hb⟩) | hb
  · exact .inl (.inl (x.at h hb (by intro _ z; cases z)))
  · exact .inl (.inr ⟨o, x.at h hb (by intro _ z; cases z)⟩)
  · exact .inr hb
theorem Exw.new {a p : Addr} {H H1 : Hp} {u : HO} (x : Exw a H H1) (h : H1 p = none) : Exw a H (upd H1 p u) := x.same (same_upd h)
theorem Exw.gone {a p : Addr} {H H1 : Hp} (x : Exw a H H1) (ne : p ≠ a) (h : H1 p = none) : H p = none := by
  cases e : H p with
  | none => rfl
  | some o => rw [x _ _ ne e] at h; cases h
/-- an object that was new is stored anew -/
theorem Exw.put {a p : Addr} {H H1 : Hp} {u : HO} (x : Exw a H H1) (h : H p = none) : Exw a H (upd H1 p u) := fun b o n e => by
  rw [upd_ne (ne_of_none e h)]
  exact x b o n e
theorem rd_ix {K : PySem.W.Frag} {σ : L2.St} {H : Hp} {Q : VK} {a : Addr} {xs : List V} {v : V} {n : Nat} (k : Nat) (h0 : σ[n]? = some (some (.ref a))) (hS : SqL K H a xs) (hv : xs[k]? = some v) (q : Q v H) :
    tOp (rIxL K) (tVar n) (tC (.int (k : Int))) σ H Q := ⟨.ref a, h0, a, xs, k, v, rfl, rfl, hS, atI_nat hv, q⟩
theorem rd_set {H : Hp} {σ : L2.St} {a : Addr} {xs : List V} {v : V} {n : Nat} (k : Nat) {R : L2.St → Hp → Prop} (h0 : σ[n]? = some (some (.ref a))) (h : H a = some (.lst xs)) (hk : k < xs.length) (q : R σ (upd H a (.lst (xs.set k v)))) :
    gSub (tVar n) (tC (.int (k : Int))) rSetL v σ H R := ⟨.ref a, h0, a, xs, k, k, rfl, rfl, h, by unfold ixN; rw [if_pos (by omega), if_pos (by omega)]; simp, q⟩
theorem cut63 {xs : List V} (h : xs.length ≤ 63) : cutV xs none (some 63) = xs := by
  unfold cutV
  rw [show HT.sIx xs.length xs.length (some 63) = min 63 xs.length from HT.sIx_nat xs.length xs.length 63, HT.sIx_none, List.drop_zero, Nat.sub_zero]
  exact List.take_of_length_le (by omega)
def absI (n : Int) : Int := if n < 0 then -n else n
section
variable {P : Program} {w : World} {K : PySem.W.Frag} {mg : Str → Option Value} {base : Heap}
/-! _law_hand -/
def spPot (K : PySem.W.Frag) : Sp := fun vs H Q _ => ∃ (a : Addr) (ns : List Int), vs = [.ref a] ∧ SqL K H a (ns.map V.int) ∧ ns.length ≤ 63 ∧ ∀ H' p c, Same H H' → H p = none → Wl p c H' → Q (.ref p) H'
theorem ok_pot (T : Blt mg) (d : Dnpot K mg) : FnOk P w K mg base CX0 1 d.f d.fd ["_law_script"] (spPot K) := by
  refine d.F.ok scpot (fun vs H Q E h => ?_) (fun cdv A outer s H vs Q E hr h => ?_)
  · obtain ⟨a, ns, rfl, _⟩ := h
    rfl
  · obtain ⟨a, ns, rfl, hS, hl, q⟩ := h
    refine ⟨_, (pss_cons (ps_setLc (i := 1) (own := [("_law_cell", 2)]) (g := gName 2) (tt := tYes) rfl scpot.nd rfl rfl (sw_true rfl rfl rfl (by decide +kernel)) (pi_list (pe_slice sl_list (pv 0) po_none (po_some pe_int))) (blkOk_by (N := Npot) (sc := defScope spot) (by decide +kernel)) (fun _ _ _ _ _ => pg_name (i := 2) scpot.nd rfl (Or.inl rfl)) (fun _ _ _ _ _ => pts_nil) (fun _ _ _ _ _ => (pe_callB call_abs (by rfl) T.n_abs (by decide +kernel) (pa_cons (pe_callTy call_int1 (by rfl) T.n_int (by decide +kernel) (pa_cons (pv 2) pa_nil)) pa_nil))))
    (pss_one (ps_ret (pe_lst (pa_cons (pv 1) (pa_cons pe_int (pa_cons pe_int (pa_cons (pe_op op_add pe_int (pe_callB call_len_seq (by rfl) T.n_len (by decide +kernel) (pa_cons (pv 1) pa_nil))) (pa_cons pe_int pa_nil))))))))), ?_⟩
    refine ⟨.ref a, rfl, 63, rfl, a, _, rfl, hS, fun p np => ?_⟩
    rw [cut63 (by rw [List.length_map]; exact hl)]
    have s1 : Same H (upd H p (.lst (ns.map V.int))) := same_upd np
    have hp1 : (upd H p (.lst (ns.map V.int))) p = some (.lst (ns.map V.int)) := upd_same
    generalize upd H p (.lst (ns.map V.int)) = H1 at s1 hp1 ⊢
    refine ⟨p, rfl, ⟨_, sql hp1⟩, fun D nD => lc_list (xs := ns.map V.int) (fun i H3 => Same H1 H3 ∧ H3 D = some (.lst ((ns.take i).map fun n => V.int (absI n)))) ⟨same_upd nD, upd_same⟩ (fun i H3 _ h3 => sql (h3.1 _ _ hp1)) (fun i x H3 hx h3 => ?_) (fun H3 h3 => ?_)⟩
    · obtain ⟨n, hn, rfl⟩ := map_at hx
      refine ⟨rfl, .int n, rfl, .inl ⟨n, rfl, n, rfl, _, h3.2, ?_, fun b o z => ?_, ?_⟩⟩
      · rw [List.length_map, List.length_take, sizeLine_eq]
        omega
      · rw [upd_ne (ne_of_none z nD)]
        exact h3.1 b o z
      · rw [upd_same, List.take_add_one, hn, List.map_append]
        rfl
    · obtain ⟨s3, hD⟩ := h3
      rw [List.length_map, List.take_length] at hD
      have nD0 : H D = none := Same.gone s1 nD
      refine ⟨.ref D, rfl, .ref D, rfl, D, _, rfl, .inl (sql hD), _, _, rfl, rfl, (by show 5 ≤ sizeLine; decide), fun l nl => ?_⟩
      have s4 : Same H3 (upd H3 l (.lst [.ref D, .int 0, .int 0, .int (1 + (((ns.map fun n => V.int (absI n)).length : Nat) : Int)), .int 0])) := same_upd nl
      have lD : l ≠ D := (ne_of_none hD nl).symm
      have s03 : Same H H3 := fun b o e => s3 _ _ (s1 _ _ e)
      refine q _ l D (fun b o e => s4 _ _ (s03 _ _ e)) (Same.gone s03 nl) ⟨lD, ns.map absI, 0, 0, _, 0, upd_same, ?_, fun n hn => ?_, Int.le_refl _⟩
      · rw [List.map_map]
        exact s4 _ _ hD
      · obtain ⟨m, _, rfl⟩ := List.mem_map.mp hn
        unfold absI
        split <;> omega
/-! _law_draw -/
def spDraw : Sp := fun vs H Q _ => ∃ (a c : Addr) (n : Int), vs = [.ref a, .int n] ∧ Wl a c H ∧ 0 < n ∧ n < 1073741824 ∧ ∀ H' (r : Int), Exw a H H' → Wl a c H' → 0 ≤ r → r < n → Q (.int r) H'
theorem ok_draw (T : Blt mg) (d : Dndraw K mg) : FnOk P w K mg base CX0 1 d.f d.fd ["_law_pot_here", "_law_many"] spDraw := by
  refine d.F.ok scdraw (fun vs H Q E h => ?_) (fun cdv A outer s H vs Q E hr h => ?_)
  · obtain ⟨a, c, n, rfl, _⟩ := h
    rfl
  · obtain ⟨a, c, n, rfl, hw, hn0, hn1, q⟩ := h
    refine ⟨_, (C8.pss_cut (ps_if (PW.pt (pw_and (pt_cmpR op_eq (pe_ix ix_list (pv 0) pe_int (fun _ _ => rfl)) pe_int (nomark _)) (pw_and1 (pt_cmpR op_lt (pe_ix ix_list (pv 0) pe_int (fun _ _ => rfl)) (pe_callB call_len_seq (by rfl) T.n_len (by decide +kernel) (pa_cons (pe_ix ix_list (pv 0) pe_int (fun _ _ => rfl)) pa_nil)) (nomark _)))))
      (pss_cons (ps_set (i := 2) scdraw.nd rfl (Or.inl rfl) (pe_ix ix_list (pe_ix ix_list (pv 0) pe_int (fun _ _ => rfl)) (pe_ix ix_list (pv 0) pe_int (fun _ _ => rfl)) (fun _ _ => rfl)))
      (pss_cons (ps_asg (pe_op op_add (pe_ix ix_list (pv 0) pe_int (fun _ _ => rfl)) pe_int) (pg_sub (pv 0) pe_int set_list))
      (pss_cons (ps_asg (pe_op op_mod (pe_callTy call_int1 (by rfl) T.n_int (by decide +kernel) (pa_cons (pe_op op_add (pe_op op_add (pe_op op_mul (pe_ix ix_list (pv 0) pe_int (fun _ _ => rfl)) pe_int) (pv 2)) pe_int) pa_nil)) pe_int) (pg_sub (pv 0) pe_int set_list))
      (pss_one (ps_if (pt_cmpR op_ge (pv 2) (pe_op op_pow pe_int pe_int) (nomark _))
        (pss_one (ps_asg (pv 2) (pg_sub (pv 0) pe_int set_list)))
        pss_nil)))))
      pss_nil)
    (pss_cons (ps_if (pt_cmpR op_gt (pe_ix ix_list (pv 0) pe_int (fun _ _ => rfl)) pe_int (nomark _))
      (pss_cons (ps_set (i := 3) scdraw.nd rfl (Or.inl rfl) (pe_op op_modB (pe_callTy call_int1 (by rfl) T.n_int (by decide +kernel) (pa_cons (pe_ix ix_list (pv 0) pe_int (fun _ _ => rfl)) pa_nil)) (pv 1)))
      (pss_cons (ps_asg (pe_op op_fdiv (pe_ix ix_list (pv 0) pe_int (fun _ _ => rfl)) (pv 1)) (pg_sub (pv 0) pe_int set_list))
      (pss_one (ps_ret (pv 3)))))
      pss_nil)
    (pss_cons (ps_asg (pe_op op_add (pe_ix ix_list (pv 0) pe_int (fun _ _ => rfl)) pe_int) (pg_sub (pv 0) pe_int set_list))
    (pss_cons (ps_set (i := 4) scdraw.nd rfl (Or.inl rfl) (pe_op op_modB (pe_callTy call_int1 (by rfl) T.n_int (by decide +kernel) (pa_cons (pe_op op_mul (pe_callTy call_int1 (by rfl) T.n_int (by decide +kernel) (pa_cons (pe_op op_add (pe_ix ix_list (pv 0) pe_int (fun _ _ => rfl)) (pe_op op_mul pe_int (pe_ix ix_list (pv 0) pe_int (fun _ _ => rfl)))) pa_nil)) pe_int) pa_nil)) pe_int))
    (pss_cons (ps_set (i := 4) scdraw.nd rfl (Or.inl rfl) (pe_op op_modB (pe_callTy call_int1 (by rfl) T.n_int (by decide +kernel) (pa_cons (pe_op op_mul (pv 4) (pe_op op_add (pe_op op_fdiv (pv 4) pe_int) pe_int)) pa_nil)) pe_int))
    (pss_cons (ps_set (i := 4) scdraw.nd rfl (Or.inl rfl) (pe_op op_modB (pe_callTy call_int1 (by rfl) T.n_int (by decide +kernel) (pa_cons (pe_op op_mul (pv 4) (pe_op op_add (pe_op op_fdiv (pv 4) pe_int) pe_int)) pa_nil)) pe_int))
    (pss_one (ps_ret (pe_op op_modB (pe_callTy call_int1 (by rfl) T.n_int (by decide +kernel) (pa_cons (pe_op op_fdiv (pv 4) pe_int) pa_nil)) (pv 1)))))))))), ?_⟩
    refine ⟨fun σ H3 => ∃ y2, σ = [some (.ref a), some (.int n), y2, none, none] ∧ Exw a H H3 ∧ Wl a c H3, ?_, ?_⟩
    · obtain ⟨nac, ns, i, u, s, t, ea, ec, nn, u0⟩ := id hw
      refine rd_ix 2 rfl (sql ea) rfl ⟨rfl, _, rfl, ite2 (fun hu => ?_) fun _ => ⟨_, rfl, Exw.refl a H, hw⟩⟩
      refine rd_ix 1 rfl (sql ea) rfl (rd_ix 0 rfl (sql ea) rfl ⟨c, _, rfl, .inl (sql ec), _, _, rfl, rfl, _, rfl, ite2 (fun hi => ?_) fun _ => ⟨_, rfl, Exw.refl a H, hw⟩⟩)
      have hi : (i : Int) < ((ns.map V.int).length : Int) := of_decide_eq_true hi
      rw [List.length_map] at hi
      have hi : i < ns.length := by omega
      refine rd_ix 0 rfl (sql ea) rfl (rd_ix 1 rfl (sql ea) rfl ⟨c, _, _, .int ns[i], rfl, rfl, sql ec, atI_nat (j := i) (by simp [hi]), ?_⟩)
      have hcell : 0 ≤ ns[i] := nn _ (List.getElem_mem hi)
      refine rd_ix 1 rfl (sql ea) rfl ⟨_, _, rfl, rfl, rd_set 1 rfl ea (by decide : 1 < 5) ?_⟩
      have ea1 : (upd H a (.lst [.ref c, .int ((i : Int) + 1), .int u, .int s, .int t])) a = some (.lst [.ref c, .int ((i + 1 : Nat) : Int), .int u, .int s, .int t]) := upd_same
      have ec1 : (upd H a (.lst [.ref c, .int ((i : Int) + 1), .int u, .int s, .int t])) c = some (.lst (ns.map V.int)) := by rw [upd_ne nac.symm]; exact ec
      have x1 : Exw a H (upd H a (.lst [.ref c, .int ((i : Int) + 1), .int u, .int s, .int t])) := (Exw.refl a H).up
      show tSeq _ _ _ _ (upd H a (.lst [.ref c, .int ((i : Int) + 1), .int u, .int s, .int t]))
      generalize upd H a (.lst [.ref c, .int ((i : Int) + 1), .int u, .int s, .int t]) = H1 at ea1 ec1 x1 ⊢
      refine rd_ix 3 rfl (sql ea1) rfl ⟨_, _, rfl, rfl, cmulR (by decide) (by decide), .int ns[i], rfl, _, _, rfl, rfl, _, _, rfl, rfl, .inl ⟨_, rfl, _, _, rfl, rfl, (by show (0 : Int) < 2147483629; decide), rd_set 3 rfl ea1 (by decide : 3 < 5) ?_⟩⟩
      dsimp only
      generalize (s * 69621 + ns[i] + 11) % 2147483629 = s2
      have ea2 : (upd H1 a (.lst ([V.ref c, .int ((i + 1 : Nat) : Int), .int u, .int s, .int t].set 3 (.int s2)))) a = some (.lst [.ref c, .int ((i + 1 : Nat) : Int), .int u, .int s2, .int t]) := upd_same
      have ec2 : (upd H1 a (.lst ([V.ref c, .int ((i + 1 : Nat) : Int), .int u, .int s, .int t].set 3 (.int s2)))) c = some (.lst (ns.map V.int)) := by rw [upd_ne nac.symm]; exact ec1
      have x2 : Exw a H (upd H1 a (.lst ([V.ref c, .int ((i + 1 : Nat) : Int), .int u, .int s, .int t].set 3 (.int s2)))) := x1.up
      generalize upd H1 a (.lst ([V.ref c, .int ((i + 1 : Nat) : Int), .int u, .int s, .int t].set 3 (.int s2))) = H2 at ea2 ec2 x2 ⊢
      refine ⟨.int ns[i], rfl, _, _, rfl, rfl, ⟨by decide, by decide, by decide⟩, _, _, rfl, rfl, _, rfl, ite2 (fun _ => ?_) fun _ => ⟨_, rfl, x2, nac, ns, i + 1, u, s2, t, ea2, ec2, nn, u0⟩⟩
      refine ⟨.int ns[i], rfl, rd_set 2 rfl ea2 (by decide : 2 < 5) ⟨_, rfl, x2.up, nac, ns, i + 1, ns[i], s2, t, upd_same, by rw [upd_ne nac.symm]; exact ec2, nn, hcell⟩⟩
    · rintro σ H3 ⟨y2, rfl, x3, nac, ns, i, u, s, t, ea, ec, nn, u0⟩
      refine rd_ix 2 rfl (sql ea) rfl ⟨_, _, rfl, rfl, _, rfl, ite2 (fun _ => ?_) fun _ => ?_⟩
      · refine rd_ix 2 rfl (sql ea) rfl (.inl ⟨_, rfl, .int n, rfl, _, _, rfl, rfl, hn0, fun r r0 r1 _ => ?_⟩)
        refine rd_ix 2 rfl (sql ea) rfl ⟨.int n, rfl, _, _, rfl, rfl, ⟨hn0, hn1⟩, rd_set 2 rfl ea (by decide : 2 < 5) ⟨.int r, rfl, ?_⟩⟩
        exact q _ r x3.up ⟨nac, ns, i, u / n, s, t, upd_same, by rw [upd_ne nac.symm]; exact ec, nn, Int.ediv_nonneg u0 (by omega)⟩ r0 r1
      · refine rd_ix 4 rfl (sql ea) rfl ⟨_, _, rfl, rfl, rd_set 4 rfl ea (by decide : 4 < 5) ?_⟩
        have ea1 : (upd H3 a (.lst [.ref c, .int (i : Int), .int u, .int s, .int (t + 1)])) a = some (.lst [.ref c, .int (i : Int), .int u, .int s, .int (t + 1)]) := upd_same
        have w1 : Wl a c (upd H3 a (.lst [.ref c, .int (i : Int), .int u, .int s, .int (t + 1)])) := ⟨nac, ns, i, u, s, t + 1, upd_same, by rw [upd_ne nac.symm]; exact ec, nn, u0⟩
        have x4 : Exw a H (upd H3 a (.lst [.ref c, .int (i : Int), .int u, .int s, .int (t + 1)])) := x3.up
        show tSeq _ _ _ _ (upd H3 a (.lst [.ref c, .int (i : Int), .int u, .int s, .int (t + 1)]))
        generalize upd H3 a (.lst [.ref c, .int (i : Int), .int u, .int s, .int (t + 1)]) = H4 at ea1 w1 x4 ⊢
        refine rd_ix 3 rfl (sql ea1) rfl (rd_ix 4 rfl (sql ea1) rfl ⟨_, _, rfl, rfl, cmulL (by decide) (by decide), _, _, rfl, rfl, .inl ⟨_, rfl, _, _, rfl, rfl, cmulR (by decide) (by decide), .inl ⟨_, rfl, _, _, rfl, rfl, (by show (0 : Int) < 2147483647; decide), fun x1 a0 a1 _ => ?_⟩⟩⟩)
        refine ⟨.int x1, rfl, .int x1, rfl, _, _, rfl, rfl, ⟨by decide, by decide⟩, _, _, rfl, rfl, _, _, rfl, rfl, cmulL a0 (by omega), .inl ⟨_, rfl, _, _, rfl, rfl, (by show (0 : Int) < 2147483647; decide), fun x2 b0 b1 _ => ?_⟩⟩
        refine ⟨.int x2, rfl, .int x2, rfl, _, _, rfl, rfl, ⟨by decide, by decide⟩, _, _, rfl, rfl, _, _, rfl, rfl, cmulL b0 (by omega), .inl ⟨_, rfl, _, _, rfl, rfl, (by show (0 : Int) < 2147483399; decide), fun x3 c0 c1 _ => ?_⟩⟩
        refine ⟨.int x3, rfl, _, _, rfl, rfl, ⟨by decide, by decide⟩, .inl ⟨_, rfl, .int n, rfl, _, _, rfl, rfl, hn0, fun r r0 r1 _ => ?_⟩⟩
        exact q H4 r x4 w1 r0 r1
/-! _law_any -/
def spAny : Sp := fun vs H Q _ => ∃ (a c l : Addr) (xs : List V), vs = [.ref a, .ref l] ∧ Wl a c H ∧ l ≠ a ∧ H l = some (.lst xs) ∧ 0 < xs.length ∧ xs.length ≤ 100000 ∧ ∀ H' x, Exw a H H' → Wl a c H' → x ∈ xs → Q x H'
theorem ok_any (T : Blt mg) (ddraw : Dndraw K mg) (d : Dnany K mg) : FnOk P w K mg base CX0 2 d.f d.fd ["_law_pot_here", "_law_things"] spAny := by
  have Gdraw : FnOk P w K mg base CX0 1 ddraw.f ddraw.fd ["_law_pot_here", "_law_many"] spDraw := ok_draw T ddraw
  refine d.F.ok scany (fun vs H Q E h => ?_) (fun cdv A outer s H vs Q E hr h => ?_)
  · obtain ⟨a, c, l, xs, rfl, _⟩ := h
    rfl
  · obtain ⟨a, c, l, xs, rfl, hw, la, hl, h0, h1, q⟩ := h
    refine ⟨_, (pss_one (ps_ret (pe_ix ix_list (pv 1) (pe_call Gdraw (hr.mono (by omega)) (by rfl) ddraw.g ddraw.F.kp ddraw.b .nil pass0 (pa_cons (pv 0) (pa_cons (pe_callB call_len_seq (by rfl) T.n_len (by decide +kernel) (pa_cons (pv 1) pa_nil)) pa_nil))) (fun _ _ => rfl)))), ?_⟩
    refine ⟨.ref l, rfl, .ref a, rfl, .ref l, rfl, l, _, rfl, .inl (sql hl), a, c, (xs.length : Int), rfl, hw, by omega, by omega, fun H1 k x1 w1 k0 k1 => ?_⟩
    obtain ⟨kn, rfl⟩ := Int.eq_ofNat_of_zero_le k0
    have hk : kn < xs.length := by omega
    exact ⟨l, _, _, _, rfl, rfl, sql (x1 _ _ la hl), atI_nat (j := kn) (List.getElem?_eq_getElem hk), q H1 _ x1 w1 (List.getElem_mem hk)⟩
end
end Kb


namespace Kb
open PySem PySem.Spec PyProof.Rows L2 SrtZ SrtO
/-! texts by their signs -/
def S (l : List Nat) : Str := ⟨l.toArray⟩
theorem cs_S (l : List Nat) : cs (S l) = l := by simp [cs, S]
theorem S_cs (z : Str) : S (cs z) = z := by cases z; simp [cs, S]
theorem S_len (l : List Nat) : (S l).length = l.length := by simp [S, Str.length]
theorem cs_app (a b : Str) : cs (a ++ b) = cs a ++ cs b := by
  show (a.cps ++ b.cps).toList = _
  simp [cs]
theorem join0 : ∀ ys : List Str, Str.join (S []) ys = S (ys.map cs).flatten
  | [] => rfl
  | [x] => by
    show x = _
    simp [S_cs]
  | x :: y :: r => by
    show x ++ S [] ++ Str.join (S []) (y :: r) = _
    rw [join0 (y :: r)]
    apply cs_inj
    rw [cs_app, cs_app, cs_S, cs_S, cs_S]
    simp
theorem join_signs (l : List Nat) : Txt.join (S []) (l.map fun c => S [c]) = S l := by
  rw [show Txt.join (S []) (l.map fun c => S [c]) = Str.join (S []) (l.map fun c => S [c]) from PySem.StrLaws.glued_eq_join _ _, join0]
  congr 1
  induction l with
  | nil => rfl
  | cons c l ih =>
    rw [List.map_cons, List.map_cons, List.flatten_cons, ih, cs_S]
    rfl
theorem signs_len (l : List Nat) : ((List.map ((fun x => x.length) ∘ fun c => S [c]) l)).sum = l.length := by
  induction l with
  | nil => rfl
  | cons x r ih =>
    rw [List.map_cons, List.sum_cons, ih, List.length_cons]
    show 1 + _ = _
    omega
theorem abc_at : ∀ m : Fin 26, (Str.ofString "abcdefghijklmnopqrstuvwxyz").cps.toList[m.val]? = some (97 + m.val) := by decide +kernel
theorem inV_str {z : Str} {fs : List Str} : inV (V.str z) (fs.map V.str) = decide (z ∈ fs) := by
  unfold inV
  rw [List.any_map]
  by_cases h : z ∈ fs
  · rw [decide_eq_true h]
    refine List.any_eq_true.mpr ⟨z, h, ?_⟩
    show (z == z) = true
    exact beq_self_eq_true z
  · rw [decide_eq_false h]
    refine List.any_eq_false.mpr fun y hy => ?_
    show ¬ (y == z) = true
    intro e
    exact h (eq_of_beq e ▸ hy)
theorem flat_strs (fs : List Str) : (fs.map V.str).all flatV = true := List.all_eq_true.mpr fun v hv => by
  obtain ⟨z, _, rfl⟩ := List.mem_map.mp hv
  rfl
theorem asc_strs {ys : List Str} (h : Srtd ltZ ys) (nd : ys.Nodup) : ys.Pairwise fun a b => ltZ a b = true := by
  refine List.Pairwise.imp₂ (fun a b (h1 : ltZ b a = false) (h2 : a ≠ b) => ?_) h nd
  rcases bcase (ltZ a b) with q | q
  · exact q
  · exact absurd (ltZ_tri q h1) h2
end Kb


namespace Kb
open PySem PySem.Spec PyProof.Rows L2 SrtZ SrtO
/-! data that are alike -/
def Leq (x y : V) : Prop := (∃ i : Int, x = .int i ∧ y = .int i) ∨ ∃ z : Str, x = .str z ∧ y = .str z
def Eqv (K : PySem.W.Frag) : Nat → Hp → V → V → Prop
  | 0, _, x, y => Leq x y
  | n + 1, H, x, y => Leq x y ∨ ∃ (a b : Addr) (xs ys : List V), x = .ref a ∧ y = .ref b ∧ SqT K H a xs ∧ SqT K H b ys ∧ xs.length = ys.length ∧ xs.length ≤ 1000 ∧ ∀ (i : Nat) (u v : V), xs[i]? = some u → ys[i]? = some v → Eqv K n H u v
theorem Eqv.same {K : PySem.W.Frag} {H H' : Hp} (s : Same H H') : ∀ {n : Nat} {x y : V}, Eqv K n H x y → Eqv K n H' x y
  | 0, _, _, h => h
  | n + 1, x, y, h => by
    rcases h with h | ⟨a, b, xs, ys, e1, e2, h1, h2, h3, h4, h5⟩
    · exact .inl h
    · exact .inr ⟨a, b, xs, ys, e1, e2, seqT h1 s, seqT h2 s, h3, h4, fun i u v hu hv => Eqv.same s (h5 i u v hu hv)⟩
def spAlike (K : PySem.W.Frag) (n : Nat) : Sp := fun vs H Q _ => ∃ x y : V, vs = [x, y] ∧ Eqv K n H x y ∧ ∀ H', Same H H' → Q (.bl true) H'
def spAlike' (K : PySem.W.Frag) : Nat → Sp
  | 0 => fun _ _ _ _ => False
  | n + 1 => spAlike K n
theorem Eqv.cases {K : PySem.W.Frag} {n : Nat} {H : Hp} {x y : V} (h : Eqv K n H x y) : Leq x y ∨ ∃ m, n = m + 1 ∧ ∃ (a b : Addr) (xs ys : List V), x = .ref a ∧ y = .ref b ∧ SqT K H a xs ∧ SqT K H b ys ∧ xs.length = ys.length ∧ xs.length ≤ 1000 ∧ ∀ (i : Nat) (u v : V), xs[i]? = some u → ys[i]? = some v → Eqv K m H u v := by
  cases n with
  | zero => exact .inl h
  | succ n =>
    rcases h with h | h
    · exact .inl h
    · exact .inr ⟨n, rfl, h⟩
section
variable {P : Program} {w : World} {K : PySem.W.Frag} {mg : Str → Option Value} {base : Heap}
end
end Kb


namespace Kb
open PySem PySem.Spec PyProof.Rows L2 SrtZ SrtO
/-- the pair that a tuple of the heap holds -/
def rdP (H : Hp) (t : Addr) : Str × Int := match H t with
  | some (.tup [.str x, .int y]) => (x, y)
  | _ => (⟨#[]⟩, 0)
theorem rdP_of {H : Hp} {t : Addr} {e : Str × Int} (h : H t = some (.tup [.str e.1, .int e.2])) : rdP H t = e := by
  unfold rdP
  rw [h]
theorem paired_snoc {α β : Type} {F : α → β → Prop} : ∀ {xs : List α} {ys : List β} {x : α} {y : β}, Paired F xs ys → F x y → Paired F (xs ++ [x]) (ys ++ [y])
  | _, _, _, _, .nil, h => .cons h .nil
  | _, _, _, _, .cons h t, k => .cons h (paired_snoc t k)
theorem paired_imp {α β : Type} {F G : α → β → Prop} (h : ∀ a b, F a b → G a b) : ∀ {xs : List α} {ys : List β}, Paired F xs ys → Paired G xs ys
  | _, _, .nil => .nil
  | _, _, .cons a t => .cons (h _ _ a) (paired_imp h t)
theorem paired_rd {H : Hp} : ∀ {ts : List Addr} {kvs : Ct}, Paired (fun (t : Addr) (e : Str × Int) => H t = some (.tup [.str e.1, .int e.2])) ts kvs → ts.map (rdP H) = kvs ∧ ∀ t ∈ ts, H t = some (.tup [.str (rdP H t).1, .int (rdP H t).2])
  | _, _, .nil => ⟨rfl, fun _ h => nomatch h⟩
  | _, _, .cons h t => by
    obtain ⟨h1, h2⟩ := paired_rd t
    have e := rdP_of h
    refine ⟨by rw [List.map_cons, h1, e], fun u hu => ?_⟩
    rcases List.mem_cons.mp hu with rfl | hu
    · rw [e]
      exact h
    · exact h2 u hu
theorem paired_map {H : Hp} {k : Addr → Str × Int} : ∀ {ts : List Addr}, (∀ t ∈ ts, H t = some (.tup [.str (k t).1, .int (k t).2])) → Paired (fun (t : Addr) (e : Str × Int) => H t = some (.tup [.str e.1, .int e.2])) ts (ts.map k)
  | [], _ => .nil
  | t :: ts, h => .cons (h t List.mem_cons_self) (paired_map fun u hu => h u (List.mem_cons_of_mem _ hu))
theorem getZ_self {kvs : Ct} {i : Nat} {e : Str × Int} (nd : NdZ kvs) (h : kvs[i]? = some e) : getZ kvs e.1 = some e.2 := by
  have hm := List.mem_of_getElem? h
  clear h
  unfold getZ
  induction kvs with
  | nil => cases hm
  | cons f r ih =>
    unfold NdZ at nd
    rw [List.map_cons, List.nodup_cons] at nd
    rcases List.mem_cons.mp hm with rfl | hm
    · simp
    · have : ¬ f.1 = e.1 := fun z => nd.1 (List.mem_map.mpr ⟨e, hm, z.symm⟩)
      rw [List.find?_cons_of_neg (by simpa using this)]
      exact ih nd.2 hm
theorem getZ_mem {kvs : Ct} {e : Str × Int} (nd : NdZ kvs) (h : e ∈ kvs) : getZ kvs e.1 = some e.2 := by
  obtain ⟨i, hi⟩ := List.mem_iff_getElem?.mp h
  exact getZ_self nd hi
theorem getZ_in {kvs : Ct} {n : Str} {v : Int} (h : getZ kvs n = some v) : (n, v) ∈ kvs := by
  unfold getZ at h
  cases e : kvs.find? fun e => decide (e.1 = n) with
  | none => rw [e] at h; cases h
  | some x =>
    rw [e] at h
    have h1 := List.mem_of_find?_eq_some e
    have h2 : x.1 = n := of_decide_eq_true (List.find?_some (p := fun e : Str × Int => decide (e.1 = n)) e)
    have h3 : x.2 = v := Option.some.inj h
    rw [← h2, ← h3]
    exact h1
end Kb



namespace Kb
open PySem PySem.Spec PyProof.Rows L2 SrtZ SrtO
/-! sketches on the heap -/
abbrev PrT (H : Hp) (t : Addr) (y : Str × Int) : Prop := H t = some (.tup [.str y.1, .int y.2])
theorem eqv_pair {K : PySem.W.Frag} {H : Hp} {t t2 : Addr} {e : Str × Int} (h1 : PrT H t e) (h2 : PrT H t2 e) : Eqv K 1 H (.ref t) (.ref t2) :=
  .inr ⟨t, t2, _, _, rfl, rfl, .inl (.inl h1), .inl (.inl h2), rfl, (by show 2 ≤ 1000; decide), fun i u v hu hv => by
    match i, hu, hv with
    | 0, hu, hv =>
      cases hu
      cases hv
      exact .inr ⟨_, rfl, rfl⟩
    | 1, hu, hv =>
      cases hu
      cases hv
      exact .inl ⟨_, rfl, rfl⟩
    | i + 2, hu, hv => simp at hu⟩
theorem eqv_counts {K : PySem.W.Frag} {H : Hp} {k k2 : Addr} {ts ts2 : List Addr} {ys : Ct} (h1 : SqT K H k (ts.map V.ref)) (h2 : SqT K H k2 (ts2.map V.ref)) (p1 : Paired (PrT H) ts ys) (p2 : Paired (PrT H) ts2 ys) (hl : ys.length ≤ 1000) : Eqv K 2 H (.ref k) (.ref k2) :=
  .inr ⟨k, k2, _, _, rfl, rfl, h1, h2, (by rw [List.length_map, List.length_map, Paired.length p1, Paired.length p2]), (by rw [List.length_map, Paired.length p1]; exact hl), fun i u v hu hv => by
    obtain ⟨t, ht, rfl⟩ := map_at hu
    obtain ⟨t2, ht2, rfl⟩ := map_at hv
    obtain ⟨e, he, f⟩ := paired_at p1 ht
    obtain ⟨e2, he2, f2⟩ := paired_at p2 ht2
    rw [he] at he2
    cases he2
    exact eqv_pair f f2⟩
theorem eqv_sketch {K : PySem.W.Frag} {H : Hp} {s s2 k k2 : Addr} {r m o : Int} {ts ts2 : List Addr} {ys : Ct} (g1 : H s = some (.tup [.int r, .int m, .int o, .ref k])) (g2 : H s2 = some (.tup [.int r, .int m, .int o, .ref k2])) (h1 : SqT K H k (ts.map V.ref)) (h2 : SqT K H k2 (ts2.map V.ref)) (p1 : Paired (PrT H) ts ys) (p2 : Paired (PrT H) ts2 ys) (hl : ys.length ≤ 1000) : Eqv K 3 H (.ref s) (.ref s2) :=
  .inr ⟨s, s2, _, _, rfl, rfl, .inl (.inl g1), .inl (.inl g2), rfl, (by show 4 ≤ 1000; decide), fun i u v hu hv => by
    match i, hu, hv with
    | 0, hu, hv =>
      cases hu
      cases hv
      exact .inl (.inl ⟨_, rfl, rfl⟩)
    | 1, hu, hv =>
      cases hu
      cases hv
      exact .inl (.inl ⟨_, rfl, rfl⟩)
    | 2, hu, hv =>
      cases hu
      cases hv
      exact .inl (.inl ⟨_, rfl, rfl⟩)
    | 3, hu, hv =>
      cases hu
      cases hv
      exact eqv_counts h1 h2 p1 p2 hl
    | i + 4, hu, hv => simp at hu⟩
def SkAt (H : Hp) (s : Addr) (r : Int) (x : Tl) : Prop := ∃ (k : Addr) (ts : List Addr), H s = some (.tup [.int r, .int x.m, .int x.o, .ref k]) ∧ Ptp H k (ts.map V.ref) ∧ Paired (PrT H) ts (srtZ x.c)
theorem SkAt.same {H H' : Hp} {s : Addr} {r : Int} {x : Tl} (h : SkAt H s r x) (y : Same H H') : SkAt H' s r x := by
  obtain ⟨k, ts, h1, h2, h3⟩ := h
  exact ⟨k, ts, y _ _ h1, h2.same y, paired_imp (fun t e h => y _ _ h) h3⟩
theorem SkAt.congr {H : Hp} {s : Addr} {r : Int} {x y : Tl} (h : SkAt H s r x) (e : skT x = skT y) : SkAt H s r y := by
  obtain ⟨m, o, c⟩ := x
  obtain ⟨m2, o2, c2⟩ := y
  unfold skT at e
  injection e with e1 e2 e3
  dsimp only at e1 e2 e3
  subst e1 e2
  obtain ⟨k, ts, h1, h2, h3⟩ := h
  exact ⟨k, ts, h1, h2, by dsimp only at h3 ⊢; rw [← e3]; exact h3⟩
theorem eqv_sk {K : PySem.W.Frag} {H : Hp} {s s2 : Addr} {r : Int} {x : Tl} (h : SkAt H s r x) (h2 : SkAt H s2 r x) (hl : x.c.length ≤ 1000) : Eqv K 3 H (.ref s) (.ref s2) := by
  obtain ⟨k, ts, a1, a2, a3⟩ := h
  obtain ⟨k2, ts2, b1, b2, b3⟩ := h2
  exact eqv_sketch a1 b1 a2.seq b2.seq a3 b3 (by rw [(srtZ_perm x.c).length_eq]; exact hl)
/-! the order in which counts stand means nothing -/
theorem getZ_perm {a b : Ct} (p : a.Perm b) (nd : NdZ a) (n : Str) : getZ a n = getZ b n := by
  have ndb : NdZ b := by
    unfold NdZ
    exact (p.map (·.1)).nodup_iff.mp nd
  cases ha : getZ a n with
  | none =>
    have := getZ_none.mp ha
    exact (getZ_none.mpr fun h => this ((p.map (·.1)).mem_iff.mpr h)).symm
  | some v =>
    have : ∃ e ∈ a, e.1 = n ∧ e.2 = v := by
      unfold getZ at ha
      cases h : a.find? fun e => decide (e.1 = n) with
      | none => rw [h] at ha; cases ha
      | some e =>
        rw [h] at ha
        exact ⟨e, List.mem_of_find?_eq_some h, of_decide_eq_true (List.find?_some (p := fun e : Str × Int => decide (e.1 = n)) h), Option.some.inj ha⟩
    obtain ⟨e, he, rfl, rfl⟩ := this
    obtain ⟨i, hi⟩ := List.mem_iff_getElem?.mp (p.mem_iff.mp he)
    exact (getZ_self ndb hi).symm
theorem putZ_perm {a b : Ct} (p : a.Perm b) (n : Str) (v : Int) : (putZ a n v).Perm (putZ b n v) := by
  have e : (a.any fun e => decide (e.1 = n)) = (b.any fun e => decide (e.1 = n)) := by
    rw [Bool.eq_iff_iff, List.any_eq_true, List.any_eq_true]
    exact ⟨fun ⟨x, h, k⟩ => ⟨x, p.mem_iff.mp h, k⟩, fun ⟨x, h, k⟩ => ⟨x, p.mem_iff.mpr h, k⟩⟩
  unfold putZ
  rw [e]
  split
  · exact p.map _
  · exact p.append_right _
theorem addZ_perm {a b : Ct} (p : a.Perm b) (nd : NdZ a) (n : Str) (c : Int) : (addZ a n c).Perm (addZ b n c) := by
  unfold addZ
  rw [getZ_perm p nd]
  exact putZ_perm p _ _
theorem takeZ_perm {a b : Ct} (p : a.Perm b) (k : Int) : (takeZ k a).Perm (takeZ k b) := (p.filter _).map _
theorem mnC_perm {a b : Ct} (p : a.Perm b) : mnC a = mnC b := by
  by_cases h : a = []
  · subst h
    have := p.symm.eq_nil
    subst this
    rfl
  · obtain ⟨h1, h2⟩ := mnC_spec h
    have q := p.map (·.2)
    exact mnC_uniq (q.mem_iff.mp h1) fun y hy => h2 y (q.mem_iff.mpr hy)
theorem full_perm {a b : Ct} (p : a.Perm b) (nd : NdZ a) (r : Int) (n : Str) : full r n a = full r n b := by
  unfold full
  rw [getZ_perm p nd, p.length_eq]
theorem srtZ_eq {a b : Ct} (p : a.Perm b) (nd : NdZ a) : srtZ a = srtZ b := by
  have ndb : NdZ b := by
    unfold NdZ
    exact (p.map (·.1)).nodup_iff.mp nd
  exact srtZ_of (srtZ_asc nd) ((srtZ_perm a).trans p) ndb
theorem feed_skT {r c : Int} {n : Str} {x : Tl} (nd : NdZ x.c) : skT (feedT r n c (skT x)) = skT (feedT r n c x) := by
  obtain ⟨m, o, kvs⟩ := x
  have p := srtZ_perm kvs
  have nds : NdZ (srtZ kvs) := (p.map (·.1)).nodup_iff.mpr nd
  unfold feedT skT
  dsimp only
  rw [full_perm p nds, mnC_perm p]
  by_cases hf : full r n kvs = true
  · rw [if_pos hf, if_pos hf]
    dsimp only
    generalize (if mnC kvs < c then mnC kvs else c) = a
    have e : srtZ (if 0 < c - a then addZ (takeZ a (srtZ kvs)) n (c - a) else takeZ a (srtZ kvs)) = srtZ (if 0 < c - a then addZ (takeZ a kvs) n (c - a) else takeZ a kvs) := by
      have pt := takeZ_perm p a
      have ndt : NdZ (takeZ a (srtZ kvs)) := takeZ_nd nds
      split
      · exact srtZ_eq (addZ_perm pt ndt _ _) (addZ_nd ndt)
      · exact srtZ_eq pt ndt
    rw [e]
  · rw [if_neg hf, if_neg hf]
    dsimp only
    have e : srtZ (if 0 < c then addZ (srtZ kvs) n c else srtZ kvs) = srtZ (if 0 < c then addZ kvs n c else kvs) := by
      split
      · exact srtZ_eq (addZ_perm p nds _ _) (addZ_nd nds)
      · exact srtZ_eq p nds
    rw [e]
theorem skT_skT {x : Tl} (nd : NdZ x.c) : skT (skT x) = skT x := by
  obtain ⟨m, o, kvs⟩ := x
  unfold skT
  dsimp only
  rw [srtZ_eq (srtZ_perm kvs) ((srtZ_perm kvs).map (·.1) |>.nodup_iff.mpr nd)]
end Kb


namespace Kb
open PySem PySem.Spec PyProof.Rows L2 SrtZ SrtO
abbrev NP_fed : List Str := ["sketch", "name"]
abbrev NP_fed_many : List Str := ["sketch", "name", "times", "tally"]
theorem cts_of {r : Int} {x : Tl} (ok : TlOk r x) : Cts (srtZ x.c) := by
  have p := srtZ_perm x.c
  exact ⟨fun e he => ok.nm e (p.mem_iff.mp he), fun e he => ok.pos e (p.mem_iff.mp he), srtZ_asc ok.nd⟩
section
variable {P : Program} {w : World} {K : PySem.W.Frag} {mg : Str → Option Value} {base : Heap}
/-! fed_many -/
def spFedMany : Sp := fun vs H Q _ => ∃ (s : Addr) (r c : Int) (n : Str) (x : Tl), vs = [.ref s, .str n, .int c] ∧ SkAt H s r x ∧ 1 ≤ r ∧ r ≤ 64 ∧ TlOk r x ∧ skB r x.m x.o (srtZ x.c) = true ∧ Nm n ∧ 0 ≤ c ∧
  ∀ H' s', Same H H' → H s' = none → SkAt H' s' r (feedT r n c x) → Q (.ref s') H'
/-! fed -/
def spFed : Sp := fun vs H Q _ => ∃ (s : Addr) (r : Int) (n : Str) (x : Tl), vs = [.ref s, .str n] ∧ SkAt H s r x ∧ 1 ≤ r ∧ r ≤ 64 ∧ TlOk r x ∧ skB r x.m x.o (srtZ x.c) = true ∧ Nm n ∧
  ∀ H' s', Same H H' → H s' = none → SkAt H' s' r (feedT r n 1 x) → Q (.ref s') H'
end
end Kb


namespace Kb
open PySem PySem.Spec PyProof.Rows L2 SrtZ SrtO
/-! counts, read behind a change -/
theorem getZ_cons (e : Str × Int) (kvs : Ct) (k : Str) : getZ (e :: kvs) k = if e.1 = k then some e.2 else getZ kvs k := by
  unfold getZ
  by_cases h : e.1 = k
  · rw [List.find?_cons_of_pos (by simpa using h), if_pos h]
    rfl
  · rw [List.find?_cons_of_neg (by simpa using h), if_neg h]
theorem getZ_app (a b : Ct) (k : Str) : getZ (a ++ b) k = (getZ a k).or (getZ b k) := by
  induction a with
  | nil => simp [getZ]
  | cons e a ih =>
    rw [List.cons_append, getZ_cons, getZ_cons, ih]
    split <;> rfl
theorem getZ_repl (kvs : Ct) (n : Str) (v : Int) (k : Str) : getZ (kvs.map fun e => if e.1 = n then (e.1, v) else e) k = if k = n then (getZ kvs n).map fun _ => v else getZ kvs k := by
  induction kvs with
  | nil => simp [getZ]
  | cons e r ih =>
    rw [List.map_cons, getZ_cons, getZ_cons, ih, getZ_cons]
    by_cases h1 : e.1 = n
    · rw [if_pos h1]
      dsimp only
      by_cases h2 : e.1 = k
      · rw [if_pos h2, if_pos (h2.symm.trans h1), if_pos h1]
        rfl
      · rw [if_neg h2, if_neg h2]
        by_cases h3 : k = n
        · exact absurd (h1.trans h3.symm) h2
        · rw [if_neg h3, if_neg h3]
    · rw [if_neg h1]
      by_cases h2 : e.1 = k
      · rw [if_pos h2, if_neg (fun z => h1 (h2.trans z)), if_pos h2]
      · rw [if_neg h2, if_neg h2, if_neg h1]
theorem getZ_put (kvs : Ct) (n : Str) (v : Int) (k : Str) : getZ (putZ kvs n v) k = if k = n then some v else getZ kvs k := by
  unfold putZ
  rw [any_getZ]
  cases h : getZ kvs n with
  | some u =>
    rw [if_pos (show (some u).isSome = true from rfl), getZ_repl, h]
    rfl
  | none =>
    rw [if_neg (show ¬ (none : Option Int).isSome = true by decide), getZ_app]
    by_cases e : k = n
    · subst e
      rw [h, if_pos rfl, getZ_cons, if_pos rfl]
      rfl
    · rw [if_neg e, getZ_cons, if_neg (Ne.symm e)]
      cases getZ kvs k <;> rfl
theorem getZ_take {a : Int} : ∀ {kvs : Ct}, NdZ kvs → ∀ k, getZ (takeZ a kvs) k = (getZ kvs k).bind fun v => if a < v then some (v - a) else none
  | [], _, k => rfl
  | e :: r, nd, k => by
    unfold NdZ at nd
    rw [List.map_cons, List.nodup_cons] at nd
    have ih := getZ_take (a := a) (kvs := r) nd.2 k
    have hno : e.1 = k → getZ r k = none := fun h => getZ_none.mpr (h ▸ nd.1)
    unfold takeZ at ih ⊢
    by_cases h : a < e.2
    · rw [List.filter_cons_of_pos (by simpa using h), List.map_cons, getZ_cons, getZ_cons]
      by_cases h2 : e.1 = k
      · rw [if_pos h2, if_pos h2]
        show some (e.2 - a) = if a < e.2 then _ else _
        rw [if_pos h]
      · rw [if_neg h2, if_neg h2]
        exact ih
    · rw [List.filter_cons_of_neg (by simpa using h), ih, getZ_cons]
      by_cases h2 : e.1 = k
      · rw [if_pos h2, hno h2]
        show none = if a < e.2 then _ else _
        rw [if_neg h]
      · rw [if_neg h2]
theorem putZ_putZ (kvs : Ct) (n : Str) (u v : Int) : putZ (putZ kvs n u) n v = putZ kvs n v := by
  cases h : getZ kvs n with
  | some g =>
    have e : ∀ w : Int, putZ kvs n w = kvs.map fun e => if e.1 = n then (e.1, w) else e := fun w => by
      unfold putZ
      rw [any_getZ, h, if_pos (show (some g).isSome = true from rfl)]
    rw [e u, e v]
    unfold putZ
    rw [any_getZ, getZ_repl, if_pos rfl, h, if_pos (show ((some g).map fun _ => u).isSome = true from rfl), List.map_map]
    refine List.map_congr_left fun e _ => ?_
    show (if (if e.1 = n then (e.1, u) else e).1 = n then ((if e.1 = n then (e.1, u) else e).1, v) else (if e.1 = n then (e.1, u) else e)) = _
    by_cases h1 : e.1 = n
    · rw [if_pos h1, if_pos h1, if_pos h1]
    · rw [if_neg h1, if_neg h1]
  | none =>
    rw [putZ_new h, putZ_new h]
    have hz := getZ_none.mp h
    unfold putZ
    rw [any_getZ, getZ_app, h, getZ_cons, if_pos rfl, if_pos (show ((none : Option Int).or (some u)).isSome = true from rfl), List.map_append]
    congr 1
    · have : ∀ e ∈ kvs, (if e.1 = n then (e.1, v) else e) = e := fun e he => by
        rw [if_neg (fun q => hz (List.mem_map.mpr ⟨e, he, q⟩))]
      rw [List.map_congr_left this, List.map_id']
    · show [if n = n then (n, v) else (n, u)] = _
      rw [if_pos rfl]
theorem addZ_addZ (kvs : Ct) (n : Str) (c e : Int) : addZ (addZ kvs n c) n e = addZ kvs n (c + e) := by
  unfold addZ
  rw [getZ_put, if_pos rfl, putZ_putZ]
  show putZ kvs n ((getZ kvs n).getD 0 + c + e) = _
  rw [Int.add_assoc]
theorem takeZ_takeZ {a b : Int} (hb : 0 ≤ b) : ∀ kvs : Ct, takeZ b (takeZ a kvs) = takeZ (a + b) kvs
  | [] => rfl
  | e :: r => by
    have ih := takeZ_takeZ hb (a := a) r
    unfold takeZ at ih ⊢
    by_cases h : a < e.2
    · rw [List.filter_cons_of_pos (by simpa using h), List.map_cons]
      by_cases h2 : a + b < e.2
      · rw [List.filter_cons_of_pos (by simp; omega), List.map_cons, ih, List.filter_cons_of_pos (by simpa using h2), List.map_cons]
        congr 2
        show e.2 - a - b = e.2 - (a + b)
        omega
      · rw [List.filter_cons_of_neg (by simp; omega), ih, List.filter_cons_of_neg (by simpa using h2)]
    · rw [List.filter_cons_of_neg (by simpa using h), ih, List.filter_cons_of_neg (by simp; omega)]
theorem takeZ_zero : ∀ {kvs : Ct}, (∀ e ∈ kvs, 1 ≤ e.2) → takeZ 0 kvs = kvs
  | [], _ => rfl
  | e :: r, h => by
    have ih := takeZ_zero (kvs := r) fun f hf => h f (List.mem_cons_of_mem _ hf)
    have h1 := h e List.mem_cons_self
    unfold takeZ at ih ⊢
    rw [List.filter_cons_of_pos (by simp; omega), List.map_cons, ih]
    congr 1
    show (e.1, e.2 - 0) = e
    rw [Int.sub_zero]
/-- less than the least is taken off: all stay -/
theorem takeZ_all : ∀ {kvs : Ct} {c : Int}, (∀ e ∈ kvs, c < e.2) → takeZ c kvs = kvs.map fun e => (e.1, e.2 - c)
  | [], _, _ => rfl
  | e :: r, c, h => by
    have ih := takeZ_all (kvs := r) (c := c) fun f hf => h f (List.mem_cons_of_mem _ hf)
    unfold takeZ at ih ⊢
    rw [List.filter_cons_of_pos (by simpa using h e List.mem_cons_self), List.map_cons, ih]
    rfl
theorem sumC_cons' (e : Str × Int) (kvs : Ct) : sumC (e :: kvs) = e.2 + sumC kvs := by
  unfold sumC
  rw [List.map_cons, List.sum_cons]
theorem sumC_perm' {a b : Ct} (p : a.Perm b) : sumC a = sumC b := by
  induction p with
  | nil => rfl
  | cons x _ ih => rw [sumC_cons', sumC_cons', ih]
  | swap x y l =>
    rw [sumC_cons', sumC_cons', sumC_cons', sumC_cons']
    omega
  | trans _ _ ih1 ih2 => rw [ih1, ih2]
theorem sumC_app : ∀ a b : Ct, sumC (a ++ b) = sumC a + sumC b
  | [], b => by show sumC b = 0 + sumC b; omega
  | e :: a, b => by
    rw [List.cons_append, sumC_cons', sumC_cons', sumC_app a b]
    omega
theorem sumC_repl {n : Str} {v : Int} : ∀ {kvs : Ct} {g : Int}, NdZ kvs → getZ kvs n = some g → sumC (kvs.map fun e => if e.1 = n then (e.1, v) else e) = sumC kvs + (v - g)
  | [], _, _, h => by cases h
  | e :: r, g, nd, h => by
    unfold NdZ at nd
    rw [List.map_cons, List.nodup_cons] at nd
    rw [getZ_cons] at h
    rw [List.map_cons, sumC_cons', sumC_cons']
    by_cases h1 : e.1 = n
    · rw [if_pos h1] at h ⊢
      have : ∀ f ∈ r, (if f.1 = n then (f.1, v) else f) = f := fun f hf => by
        rw [if_neg (fun q => nd.1 (List.mem_map.mpr ⟨f, hf, q.trans h1.symm⟩))]
      rw [List.map_congr_left this, List.map_id']
      have := Option.some.inj h
      show v + _ = _
      omega
    · rw [if_neg h1] at h ⊢
      rw [sumC_repl nd.2 h]
      omega
theorem sumC_add {kvs : Ct} {n : Str} {c : Int} (nd : NdZ kvs) : sumC (addZ kvs n c) = sumC kvs + c := by
  unfold addZ putZ
  rw [any_getZ]
  cases h : getZ kvs n with
  | some g =>
    rw [if_pos (show (some g).isSome = true from rfl), sumC_repl nd h]
    show _ + (g + c - g) = _
    omega
  | none =>
    rw [if_neg (show ¬ (none : Option Int).isSome = true by decide), sumC_app]
    show sumC kvs + (0 + c + 0) = _
    omega
theorem sumC_take1 : ∀ {kvs : Ct}, (∀ e ∈ kvs, 1 ≤ e.2) → sumC (takeZ 1 kvs) = sumC kvs - (kvs.length : Int)
  | [], _ => rfl
  | e :: r, h => by
    have ih := sumC_take1 (kvs := r) fun f hf => h f (List.mem_cons_of_mem _ hf)
    have h1 := h e List.mem_cons_self
    rw [sumC_cons', List.length_cons]
    unfold takeZ at ih ⊢
    by_cases h2 : 1 < e.2
    · rw [List.filter_cons_of_pos (by simpa using h2), List.map_cons, sumC_cons', ih]
      show e.2 - 1 + _ = _
      omega
    · rw [List.filter_cons_of_neg (by simpa using h2), ih]
      omega
theorem full_of {r : Int} {n : Str} {kvs : Ct} (h : full r n kvs = true) : getZ kvs n = none ∧ (kvs.length : Int) = r := by
  unfold full at h
  rw [Bool.and_eq_true] at h
  refine ⟨?_, of_decide_eq_true h.2⟩
  cases e : getZ kvs n with
  | none => rfl
  | some _ =>
    rw [e] at h
    exact absurd h.1 (by intro z; cases z)
theorem full_yes {r : Int} {n : Str} {kvs : Ct} (h : getZ kvs n = none) (h2 : (kvs.length : Int) = r) : full r n kvs = true := by
  unfold full
  rw [h, decide_eq_true h2]
  rfl
theorem full_no' {r : Int} {n : Str} {kvs : Ct} (h : (getZ kvs n).isSome = true ∨ ¬ (kvs.length : Int) = r) : full r n kvs = false := by
  unfold full
  rcases h with h | h
  · rw [h]
    rfl
  · rw [decide_eq_false h, Bool.and_false]
theorem mn_pos {kvs : Ct} (ne : kvs ≠ []) (pos : ∀ e ∈ kvs, 1 ≤ e.2) : 1 ≤ mnC kvs := by
  obtain ⟨h, _⟩ := mnC_spec ne
  obtain ⟨e, he, h⟩ := List.mem_map.mp h
  rw [← h]
  exact pos e he
theorem ne_of_full {r : Int} {kvs : Ct} (hr : 1 ≤ r) (h : (kvs.length : Int) = r) : kvs ≠ [] := by
  rintro rfl
  have : (0 : Int) = r := h
  omega
theorem feed_lt {r c m o : Int} {n : Str} {kvs : Ct} (hf : full r n kvs = true) (hc : c ≤ mnC kvs) : feedT r n c ⟨m, o, kvs⟩ = ⟨m + c, o + c, takeZ c kvs⟩ := by
  unfold feedT
  dsimp only
  rw [hf, if_pos rfl, if_neg (show ¬ mnC kvs < c by omega), if_neg (show ¬ 0 < c - c by omega)]
theorem feed_gt {r c m o : Int} {n : Str} {kvs : Ct} (hf : full r n kvs = true) (hc : mnC kvs < c) : feedT r n c ⟨m, o, kvs⟩ = ⟨m + c, o + mnC kvs, addZ (takeZ (mnC kvs) kvs) n (c - mnC kvs)⟩ := by
  unfold feedT
  dsimp only
  rw [hf, if_pos rfl, if_pos hc, if_pos (show 0 < c - mnC kvs by omega)]
theorem feed_add {r c m o : Int} {n : Str} {kvs : Ct} (hf : full r n kvs = false) (hc : 0 < c) : feedT r n c ⟨m, o, kvs⟩ = ⟨m + c, o, addZ kvs n c⟩ := by
  unfold feedT
  dsimp only
  rw [hf, if_neg (by decide), if_pos hc]
theorem feed_zero {r : Int} {n : Str} {x : Tl} (ok : TlOk r x) (hr : 1 ≤ r) : feedT r n 0 x = x := by
  obtain ⟨m, o, kvs⟩ := x
  cases hf : full r n kvs with
  | true =>
    obtain ⟨_, hl⟩ := full_of hf
    have h1 := mn_pos (ne_of_full hr hl) ok.pos
    rw [feed_lt hf (by omega), takeZ_zero ok.pos, Int.add_zero, Int.add_zero]
  | false =>
    unfold feedT
    dsimp only
    rw [hf, if_neg (by decide), if_neg (by decide), Int.add_zero]
theorem full_added {r c : Int} {n : Str} {kvs : Ct} : full r n (addZ kvs n c) = false := full_no' (.inl (by unfold addZ; rw [getZ_put, if_pos rfl]; rfl))
theorem full_less {r : Int} {n : Str} {kvs : Ct} (hr : 1 ≤ r) (hl : (kvs.length : Int) = r) : full r n (takeZ (mnC kvs) kvs) = false := full_no' (.inr (by have := takeZ_less (ne_of_full hr hl); omega))
theorem feed_iter {r c : Int} {n : Str} {x : Tl} (ok : TlOk r x) (hr : 1 ≤ r) (hc : 0 ≤ c) : feedT r n (c + 1) x = feedT r n 1 (feedT r n c x) := by
  obtain ⟨m, o, kvs⟩ := x
  have ok0 := ok
  obtain ⟨nd, len, pos, nm⟩ := ok
  dsimp only at nd len pos nm
  have e0 : m + (c + 1) = m + c + 1 := by omega
  by_cases h0 : 0 < c
  · cases hf : full r n kvs with
    | false => rw [feed_add hf (by omega), feed_add hf h0, feed_add full_added (by decide), addZ_addZ, e0]
    | true =>
      obtain ⟨hg, hl⟩ := full_of hf
      have ne := ne_of_full hr hl
      obtain ⟨hm, hle⟩ := mnC_spec ne
      by_cases hcm : c < mnC kvs
      · have hall : ∀ e ∈ kvs, c < e.2 := fun e he => by
          have := hle e.2 (List.mem_map.mpr ⟨e, he, rfl⟩)
          omega
        have ht := takeZ_all hall
        have hy : full r n (takeZ c kvs) = true := full_yes (by rw [getZ_take nd, hg]; rfl) (by rw [ht, List.length_map]; exact hl)
        have hmn : mnC (takeZ c kvs) = mnC kvs - c := by
          refine (mnC_uniq ?_ fun y hy => ?_).symm
          · rw [ht, List.map_map]
            obtain ⟨e, he, h⟩ := List.mem_map.mp hm
            exact List.mem_map.mpr ⟨e, he, by show e.2 - c = _; rw [h]⟩
          · rw [ht, List.map_map] at hy
            obtain ⟨e, he, rfl⟩ := List.mem_map.mp hy
            have := hle e.2 (List.mem_map.mpr ⟨e, he, rfl⟩)
            show mnC kvs - c ≤ e.2 - c
            omega
        rw [feed_lt hf (by omega), feed_lt hf (by omega), feed_lt hy (by omega), takeZ_takeZ (by decide), e0, Int.add_assoc o c 1]
      · by_cases hcm2 : c = mnC kvs
        · rw [feed_gt hf (by omega), feed_lt hf (by omega), hcm2, feed_add (full_less hr hl) (by decide), ← hcm2, e0]
          congr 2
          omega
        · rw [feed_gt hf (by omega), feed_gt hf (by omega), feed_add full_added (by decide), addZ_addZ, e0]
          congr 2
          omega
  · have : c = 0 := by omega
    subst this
    rw [feed_zero ok0 hr]
    rfl
/-! what feeding leaves true -/
/-- of an exact stream: so much was taken off -/
structure Fd (r : Int) (x : Tl) : Prop where
  lost : x.m - sumC x.c = (r + 1) * x.o
  off : 0 ≤ x.o
theorem fd0 (r : Int) : Fd r tl0 := ⟨by show (0 : Int) - 0 = (r + 1) * 0; rw [Int.mul_zero]; rfl, Int.le_refl _⟩
theorem fd_feed {r : Int} {n : Str} {x : Tl} (ok : TlOk r x) (hr : 1 ≤ r) (h : Fd r x) : Fd r (feedT r n 1 x) := by
  obtain ⟨m, o, kvs⟩ := x
  obtain ⟨hl, ho⟩ := h
  dsimp only at hl ho
  cases hf : full r n kvs with
  | false =>
    rw [feed_add hf (by decide)]
    refine ⟨?_, ho⟩
    show m + 1 - sumC (addZ kvs n 1) = _
    rw [sumC_add (show NdZ kvs from ok.nd)]
    show _ = (r + 1) * o
    omega
  | true =>
    obtain ⟨hg, hlen⟩ := full_of hf
    have m1 := mn_pos (ne_of_full hr hlen) ok.pos
    rw [feed_lt hf (by omega)]
    refine ⟨?_, by dsimp only; omega⟩
    show m + 1 - sumC (takeZ 1 kvs) = (r + 1) * (o + 1)
    rw [sumC_take1 (show ∀ e ∈ kvs, 1 ≤ e.2 from ok.pos), Int.mul_add, ← hl, hlen]
    omega
theorem fd_sk {r : Int} {x : Tl} (ok : TlOk r x) (hr1 : 1 ≤ r) (hr2 : r ≤ 64) (h : Fd r x) (hm : 0 ≤ x.m) : skB r x.m x.o (srtZ x.c) = true := by
  have p := srtZ_perm x.c
  have es : sumC (srtZ x.c) = sumC x.c := sumC_perm' p
  have hl := h.lost
  have ho := h.off
  have h2 : (r + 1) * x.o ≤ 2 * r * x.o := Int.mul_le_mul_of_nonneg_right (by omega) ho
  have hlen : ((srtZ x.c).length : Int) ≤ r := by rw [p.length_eq]; exact ok.len
  unfold skB
  rw [es, hl, decide_eq_true hr1, decide_eq_true hr2, decide_eq_true hm, decide_eq_true ho, decide_eq_true hlen, decide_eq_true (Int.le_refl _), decide_eq_true h2]
  rfl
def gd (kvs : Ct) (k : Str) : Int := (getZ kvs k).getD 0
theorem gd_add (kvs : Ct) (n : Str) (c : Int) (k : Str) : gd (addZ kvs n c) k = gd kvs k + if k = n then c else 0 := by
  unfold gd addZ
  rw [getZ_put]
  by_cases h : k = n
  · subst h
    rw [if_pos rfl, if_pos rfl]
    rfl
  · rw [if_neg h, if_neg h, Int.add_zero]
theorem gd_take1 {kvs : Ct} (nd : NdZ kvs) (pos : ∀ e ∈ kvs, 1 ≤ e.2) (k : Str) : gd (takeZ 1 kvs) k = if 0 < gd kvs k then gd kvs k - 1 else 0 := by
  unfold gd
  rw [getZ_take nd]
  cases h : getZ kvs k with
  | none => rfl
  | some v =>
    have hv : 1 ≤ v := by
      have := getZ_pos (n := k) pos
      unfold getZ at h
      cases hh : kvs.find? fun e => decide (e.1 = k) with
      | none => rw [hh] at h; cases h
      | some e =>
        rw [hh] at h
        have h1 := pos e (List.mem_of_find?_eq_some hh)
        have h2 := Option.some.inj h
        have h3 : e.2 = v := h2
        omega
    show (if 1 < v then some (v - 1) else none).getD 0 = if 0 < v then v - 1 else 0
    rw [if_pos (show 0 < v by omega)]
    by_cases h1 : 1 < v
    · rw [if_pos h1]
      rfl
    · rw [if_neg h1]
      show (0 : Int) = v - 1
      omega
/-- the true counts lie from the kept ones to off above -/
def Tru (kc : Ct) (x : Tl) : Prop := ∀ k, 0 ≤ gd kc k - gd x.c k ∧ gd kc k - gd x.c k ≤ x.o
theorem tru0 : Tru [] tl0 := fun k => ⟨Int.le_refl _, Int.le_refl _⟩
theorem tru_feed {r : Int} {n : Str} {x : Tl} {kc : Ct} (ok : TlOk r x) (hr : 1 ≤ r) (h : Tru kc x) : Tru (addZ kc n 1) (feedT r n 1 x) := by
  obtain ⟨m, o, kvs⟩ := x
  intro k
  obtain ⟨a, b⟩ := h k
  dsimp only at a b
  rw [gd_add]
  cases hf : full r n kvs with
  | false =>
    rw [feed_add hf (by decide)]
    dsimp only
    rw [gd_add]
    omega
  | true =>
    obtain ⟨hg, hlen⟩ := full_of hf
    have m1 := mn_pos (ne_of_full hr hlen) ok.pos
    rw [feed_lt hf (by omega)]
    dsimp only
    rw [gd_take1 (show NdZ kvs from ok.nd) (show ∀ e ∈ kvs, 1 ≤ e.2 from ok.pos)]
    have hp : 0 ≤ gd kvs k := getZ_pos ok.pos
    by_cases hk : k = n
    · subst hk
      have : gd kvs k = 0 := by
        unfold gd
        rw [hg]
        rfl
      rw [if_pos rfl, this, if_neg (by decide)]
      omega
    · rw [if_neg hk]
      split <;> omega
end Kb


namespace Kb
open PySem PySem.Spec PyProof.Rows L2 SrtZ SrtO
/-- how often each name stands in the streams -/
def cntZ (zs : List Str) (kc : Ct) : Ct := zs.foldl (fun k n => addZ k n 1) kc
def cntS (kc : Ct) : Stp → Ct
  | .put zs => cntZ zs kc
  | .pour => kc
def cntT (l : List Stp) : Ct := l.foldl cntS []
theorem cntZ_snoc {zs : List Str} {kc : Ct} {i : Nat} {n : Str} (h : zs[i]? = some n) : cntZ (zs.take (i + 1)) kc = addZ (cntZ (zs.take i) kc) n 1 := by
  unfold cntZ
  rw [List.take_add_one, h, List.foldl_append]
  rfl
theorem cntT_snoc {l : List Stp} {i : Nat} {t : Stp} (h : l[i]? = some t) : cntT (l.take (i + 1)) = cntS (cntT (l.take i)) t := by
  unfold cntT
  rw [List.take_add_one, h, List.foldl_append]
  rfl
theorem cntZ_nd : ∀ {zs : List Str} {kc : Ct}, NdZ kc → NdZ (cntZ zs kc)
  | [], _, h => h
  | z :: zs, kc, h => cntZ_nd (zs := zs) (addZ_nd (n := z) (c := 1) h)
theorem cntZ_len : ∀ {zs : List Str} {kc : Ct}, (cntZ zs kc).length ≤ kc.length + zs.length
  | [], _ => Nat.le_refl _
  | z :: zs, kc => by
    have h := cntZ_len (zs := zs) (kc := addZ kc z 1)
    have h2 := addZ_len (kvs := kc) (n := z) (c := 1)
    show (cntZ zs (addZ kc z 1)).length ≤ kc.length + (zs.length + 1)
    omega
theorem cntS_nd {kc : Ct} {t : Stp} (h : NdZ kc) : NdZ (cntS kc t) := by
  cases t with
  | put zs => exact cntZ_nd h
  | pour => exact h
theorem cntT_nd (l : List Stp) : NdZ (cntT l) := by
  have gen : ∀ (l : List Stp) (kc : Ct), NdZ kc → NdZ (l.foldl cntS kc) := by
    intro l
    induction l with
    | nil => exact fun _ h => h
    | cons t l ih => exact fun kc h => ih _ (cntS_nd h)
  exact gen l [] List.nodup_nil
theorem mny_mono (l : List Stp) (i : Nat) : mny (l.take i) ≤ mny l := by
  have gen : ∀ (l : List Stp) (m : Int), m ≤ l.foldl cS m := by
    intro l
    induction l with
    | nil => exact fun m => Int.le_refl _
    | cons t l ih =>
      intro m
      have h := ih (cS m t)
      have h2 : m ≤ cS m t := by
        cases t with
        | put zs => show m ≤ m + (zs.length : Nat); omega
        | pour => exact Int.le_refl _
      exact Int.le_trans h2 h
  unfold mny
  have := gen (l.drop i) ((l.take i).foldl cS 0)
  rw [← List.foldl_append, List.take_append_drop] at this
  exact this
theorem cntT_len : ∀ l : List Stp, ((cntT l).length : Int) ≤ mny l := by
  have gen : ∀ (l : List Stp) (kc : Ct) (m : Int), (kc.length : Int) ≤ m → ((l.foldl cntS kc).length : Int) ≤ l.foldl cS m := by
    intro l
    induction l with
    | nil => exact fun _ _ h => h
    | cons t l ih =>
      intro kc m h
      refine ih _ _ ?_
      cases t with
      | put zs =>
        have := cntZ_len (zs := zs) (kc := kc)
        show ((cntZ zs kc).length : Int) ≤ m + (zs.length : Nat)
        omega
      | pour => exact h
  exact fun l => gen l [] 0 (Int.le_refl _)
section
variable {P : Program} {w : World} {K : PySem.W.Frag} {mg : Str → Option Value} {base : Heap}
/-! counts_of -/
def spCountsOf (K : PySem.W.Frag) : Sp := fun vs H Q _ => ∃ (a : Addr) (l : List Stp), vs = [.ref a] ∧ TreeAt K H a l ∧ Tree l ∧
  ∀ H' k (ts : List Addr), Same H H' → Ptp H' k (ts.map V.ref) → Paired (PrT H') ts (srtZ (cntT l)) → Q (.ref k) H'
/-! need_two, poured -/
def spNeedTwo : Sp := fun vs H Q _ => ∃ (s1 s2 : Addr) (r : Int) (x y : Tl), vs = [.ref s1, .ref s2] ∧ SkAt H s1 r x ∧ SkAt H s2 r y ∧ r ≤ 64 ∧ TlOk r x ∧ TlOk r y ∧ skB r x.m x.o (srtZ x.c) = true ∧ skB r y.m y.o (srtZ y.c) = true ∧ ∀ H', Same H H' → Q .non H'
def spPoured : Sp := fun vs H Q _ => ∃ (s1 s2 : Addr) (r : Int) (x y : Tl), vs = [.ref s1, .ref s2] ∧ SkAt H s1 r x ∧ SkAt H s2 r y ∧ 1 ≤ r ∧ r ≤ 64 ∧ TlOk r x ∧ TlOk r y ∧ skB r x.m x.o (srtZ x.c) = true ∧ skB r y.m y.o (srtZ y.c) = true ∧
  ∀ H' s', Same H H' → H s' = none → SkAt H' s' r (pourT r (skT y) (skT x)) → Q (.ref s') H'
end
end Kb


namespace Kb
open PySem PySem.Spec PyProof.Rows L2 SrtZ SrtO
/-! pouring, in any order of the counts -/
theorem mem_getZ {kvs : Ct} (nd : NdZ kvs) (e : Str × Int) : e ∈ kvs ↔ getZ kvs e.1 = some e.2 := by
  constructor
  · intro h
    obtain ⟨i, hi⟩ := List.mem_iff_getElem?.mp h
    exact getZ_self nd hi
  · intro h
    unfold getZ at h
    cases hf : kvs.find? fun f => decide (f.1 = e.1) with
    | none => rw [hf] at h; cases h
    | some f =>
      rw [hf] at h
      have h1 : f.1 = e.1 := of_decide_eq_true (List.find?_some (p := fun f : Str × Int => decide (f.1 = e.1)) hf)
      have h2 : f.2 = e.2 := Option.some.inj h
      have : f = e := Prod.ext h1 h2
      rw [← this]
      exact List.mem_of_find?_eq_some hf
theorem nd_nodup {kvs : Ct} (nd : NdZ kvs) : kvs.Nodup := by
  unfold NdZ at nd
  rw [List.Nodup, List.pairwise_map] at nd
  exact nd.imp fun h e => h (by rw [e])
theorem perm_of_getZ {a b : Ct} (na : NdZ a) (nb : NdZ b) (h : ∀ k, getZ a k = getZ b k) : a.Perm b :=
  (List.perm_ext_iff_of_nodup (nd_nodup na) (nd_nodup nb)).mpr fun e => by rw [mem_getZ na, mem_getZ nb, h]
theorem getZ_sums : ∀ {more kvs : Ct}, NdZ more → ∀ k, getZ (sumsZ more kvs) k = match getZ more k with | none => getZ kvs k | some c => some (gd kvs k + c)
  | [], kvs, _, k => rfl
  | e :: r, kvs, nd, k => by
    unfold NdZ at nd
    rw [List.map_cons, List.nodup_cons] at nd
    have ih := getZ_sums (more := r) (kvs := addZ kvs e.1 e.2) nd.2 k
    show getZ (sumsZ r (addZ kvs e.1 e.2)) k = _
    rw [ih, getZ_cons]
    by_cases h : e.1 = k
    · rw [if_pos h, getZ_none.mpr (h ▸ nd.1)]
      show getZ (addZ kvs e.1 e.2) k = some (gd kvs k + e.2)
      unfold addZ gd
      rw [getZ_put, if_pos h.symm, h]
    · rw [if_neg h]
      have e1 : getZ (addZ kvs e.1 e.2) k = getZ kvs k := by
        unfold addZ
        rw [getZ_put, if_neg (Ne.symm h)]
      have e2 : gd (addZ kvs e.1 e.2) k = gd kvs k := by
        unfold gd
        rw [e1]
      rw [e1, e2]
theorem gd_sums {more kvs : Ct} (nd : NdZ more) (k : Str) : gd (sumsZ more kvs) k = gd kvs k + gd more k := by
  unfold gd
  rw [getZ_sums nd]
  cases getZ more k with
  | none => exact (Int.add_zero _).symm
  | some c => rfl
theorem sums_perm {a a' b b' : Ct} (pa : a.Perm a') (pb : b.Perm b') (na : NdZ a) (nb : NdZ b) : (sumsZ a b).Perm (sumsZ a' b') := by
  have na' : NdZ a' := (pa.map (·.1)).nodup_iff.mp na
  have nb' : NdZ b' := (pb.map (·.1)).nodup_iff.mp nb
  refine perm_of_getZ (sumsZ_nd nb) (sumsZ_nd nb') fun k => ?_
  rw [getZ_sums na, getZ_sums na', getZ_perm pa na, getZ_perm pb nb]
  unfold gd
  rw [getZ_perm pb nb]
theorem fall_perm {a b : Ct} (p : a.Perm b) (r : Int) : fallZ a r = fallZ b r := by
  have hs := List.pairwise_mergeSort (le := fun (a b : Int) => decide (b ≤ a)) (fun a b c h1 h2 => by simp at *; omega) (fun a b => by simp; omega) (a.map (·.2))
  have := fall_uniq (kvs := b) (ns := (a.map (·.2)).mergeSort fun a b => decide (b ≤ a)) ((List.mergeSort_perm _ _).trans (p.map (·.2))) (hs.imp fun h => of_decide_eq_true h)
  unfold fallZ
  rw [this]
theorem skT_eq {x x' : Tl} (nd : NdZ x.c) (h : skT x = skT x') : x.m = x'.m ∧ x.o = x'.o ∧ x.c.Perm x'.c := by
  obtain ⟨m, o, c⟩ := x
  obtain ⟨m', o', c'⟩ := x'
  unfold skT at h
  injection h with e1 e2 e3
  dsimp only at e1 e2 e3
  exact ⟨e1, e2, (srtZ_perm c).symm.trans (by rw [e3]; exact srtZ_perm c')⟩
theorem pour_skT {r : Int} {x x' y y' : Tl} (nx : NdZ x.c) (ny : NdZ y.c) (hx : skT x = skT x') (hy : skT y = skT y') : skT (pourT r y x) = skT (pourT r y' x') := by
  obtain ⟨x1, x2, x3⟩ := skT_eq nx hx
  obtain ⟨y1, y2, y3⟩ := skT_eq ny hy
  have p := sums_perm y3 x3 ny nx
  have nd := sumsZ_nd (more := y.c) nx
  unfold pourT
  dsimp only
  rw [p.length_eq, fall_perm p, x1, x2, y1, y2]
  split
  · unfold skT
    dsimp only
    rw [srtZ_eq (takeZ_perm p _) (takeZ_nd nd)]
  · unfold skT
    dsimp only
    rw [srtZ_eq p nd]
/-! two runs: the program's and the law's own -/
def stepL (r : Int) (st : List Tl) : Stp → List Tl
  | .put zs => feedsT r zs tl0 :: st
  | .pour => match st with
    | x :: y :: st => pourT r x y :: st
    | st => st
def runL (r : Int) (l : List Stp) : List Tl := l.foldl (stepL r) []
theorem runL_snoc {r : Int} {l : List Stp} {i : Nat} {t : Stp} (h : l[i]? = some t) : runL r (l.take (i + 1)) = stepL r (runL r (l.take i)) t := by
  unfold runL
  rw [List.take_add_one, h, List.foldl_append]
  rfl
theorem runL_ok {r : Int} (hr : 1 ≤ r) : ∀ {l : List Stp} {st : List Tl}, (∀ zs, .put zs ∈ l → ∀ z ∈ zs, Nm z) → (∀ x ∈ st, TlOk r x) → ∀ x ∈ l.foldl (stepL r) st, TlOk r x
  | [], _, _, h => h
  | t :: l, st, hn, h => by
    refine runL_ok hr (l := l) (fun zs hz => hn zs (List.mem_cons_of_mem _ hz)) ?_
    cases t with
    | put zs =>
      intro x hx
      rcases List.mem_cons.mp hx with rfl | hx
      · exact feedsT_ok hr (tl0_ok hr) (hn zs List.mem_cons_self)
      · exact h x hx
    | pour =>
      match st, h with
      | [], h => exact h
      | [_], h => exact h
      | a :: b :: st, h =>
        intro x hx
        rcases List.mem_cons.mp hx with rfl | hx
        · exact pourT_ok (h b (List.mem_cons_of_mem _ List.mem_cons_self)) (h a List.mem_cons_self) (by omega)
        · exact h x (List.mem_cons_of_mem _ (List.mem_cons_of_mem _ hx))
theorem runTL {r : Int} (hr : 1 ≤ r) : ∀ {l : List Stp} {st st' : List Tl}, (∀ zs, .put zs ∈ l → ∀ z ∈ zs, Nm z) → (∀ x ∈ st, TlOk r x) → (∀ x ∈ st', TlOk r x) → st.map skT = st'.map skT → (l.foldl (stepT r) st).map skT = (l.foldl (stepL r) st').map skT
  | [], _, _, _, _, _, h => h
  | t :: l, st, st', hn, h1, h2, h => by
    have hn' : ∀ zs, .put zs ∈ l → ∀ z ∈ zs, Nm z := fun zs hz => hn zs (List.mem_cons_of_mem _ hz)
    cases t with
    | put zs =>
      have ok := feedsT_ok hr (tl0_ok hr) (hn zs List.mem_cons_self)
      refine runTL hr (l := l) hn' (fun x hx => ?_) (fun x hx => ?_) ?_
      · rcases List.mem_cons.mp hx with rfl | hx
        · exact ok
        · exact h1 x hx
      · rcases List.mem_cons.mp hx with rfl | hx
        · exact ok
        · exact h2 x hx
      · show skT _ :: st.map skT = skT _ :: st'.map skT
        rw [h]
    | pour =>
      match st, st', h, h1, h2 with
      | [], [], h, h1, h2 => exact runTL hr (l := l) hn' h1 h2 h
      | [a], [b], h, h1, h2 => exact runTL hr (l := l) hn' h1 h2 h
      | [_], _ :: _ :: _, h, _, _ => simp at h
      | _ :: _ :: _, [_], h, _, _ => simp at h
      | a :: b :: st, a' :: b' :: st', h, h1, h2 =>
        injection h with e1 h
        injection h with e2 h
        have oa := h1 a List.mem_cons_self
        have ob := h1 b (List.mem_cons_of_mem _ List.mem_cons_self)
        have oa' := h2 a' List.mem_cons_self
        have ob' := h2 b' (List.mem_cons_of_mem _ List.mem_cons_self)
        refine runTL hr (l := l) hn' (fun x hx => ?_) (fun x hx => ?_) ?_
        · rcases List.mem_cons.mp hx with rfl | hx
          · exact pourT_ok ob (skT_ok oa) (by omega)
          · exact h1 x (List.mem_cons_of_mem _ (List.mem_cons_of_mem _ hx))
        · rcases List.mem_cons.mp hx with rfl | hx
          · exact pourT_ok ob' oa' (by omega)
          · exact h2 x (List.mem_cons_of_mem _ (List.mem_cons_of_mem _ hx))
        · show skT (pourT r (skT a) b) :: st.map skT = skT (pourT r a' b') :: st'.map skT
          rw [pour_skT ob.nd (skT_ok oa).nd e2 ((skT_skT oa.nd).trans e1), h]
/-! what pouring leaves true -/
def minS (f : Int) (cs : List Int) : Int := (cs.map fun c => if f < c then f else c).sum
theorem minS_cons (f c : Int) (cs : List Int) : minS f (c :: cs) = (if f < c then f else c) + minS f cs := by
  unfold minS
  rw [List.map_cons, List.sum_cons]
theorem minS_perm {f : Int} {a b : List Int} (p : a.Perm b) : minS f a = minS f b := by
  induction p with
  | nil => rfl
  | cons x _ ih => rw [minS_cons, minS_cons, ih]
  | swap x y l =>
    rw [minS_cons, minS_cons, minS_cons, minS_cons]
    omega
  | trans _ _ ih1 ih2 => rw [ih1, ih2]
theorem sumC_take {f : Int} : ∀ kvs : Ct, sumC (takeZ f kvs) = sumC kvs - minS f (kvs.map (·.2))
  | [] => rfl
  | e :: r => by
    have ih := sumC_take (f := f) r
    rw [sumC_cons', List.map_cons, minS_cons]
    unfold takeZ at ih ⊢
    by_cases h : f < e.2
    · rw [List.filter_cons_of_pos (by simpa using h), List.map_cons, sumC_cons', ih, if_pos h]
      show e.2 - f + _ = _
      omega
    · rw [List.filter_cons_of_neg (by simpa using h), ih, if_neg h]
      omega
theorem minS_le {f : Int} : ∀ cs : List Int, minS f cs ≤ (cs.length : Int) * f
  | [] => by show (0 : Int) ≤ 0 * f; omega
  | c :: cs => by
    have ih := minS_le (f := f) cs
    rw [minS_cons, List.length_cons]
    have e : ((cs.length + 1 : Nat) : Int) * f = (cs.length : Int) * f + f := by push_cast; rw [Int.add_mul, Int.one_mul]
    rw [e]
    split <;> omega
theorem minS_ge {f : Int} (hf : 0 ≤ f) : ∀ {cs : List Int} {n : Nat}, (∀ c ∈ cs, 0 ≤ c) → (∀ i c, i < n → cs[i]? = some c → f ≤ c) → n ≤ cs.length → (n : Int) * f ≤ minS f cs
  | [], n, _, _, hn => by
    have : n = 0 := by simpa using hn
    subst this
    show (0 : Int) * f ≤ 0
    omega
  | c :: cs, 0, h0, _, _ => by
    have ih := minS_ge hf (cs := cs) (n := 0) (fun c hc => h0 c (List.mem_cons_of_mem _ hc)) (fun i c h => absurd h (by omega)) (Nat.zero_le _)
    rw [minS_cons]
    have h1 := h0 c List.mem_cons_self
    split <;> omega
  | c :: cs, n + 1, h0, hc, hn => by
    have ih := minS_ge hf (cs := cs) (n := n) (fun c hc => h0 c (List.mem_cons_of_mem _ hc)) (fun i c h e => hc (i + 1) c (by omega) (by simpa using e)) (by rw [List.length_cons] at hn; omega)
    have h1 := hc 0 c (by omega) rfl
    rw [minS_cons]
    have e : ((n + 1 : Nat) : Int) * f = (n : Int) * f + f := by push_cast; rw [Int.add_mul, Int.one_mul]
    rw [e]
    split <;> omega
theorem fall_spec {kvs : Ct} {r : Nat} (h : r < kvs.length) (pos : ∀ e ∈ kvs, 1 ≤ e.2) : 1 ≤ fallZ kvs r ∧ ((r : Int) + 1) * fallZ kvs r ≤ minS (fallZ kvs r) (kvs.map (·.2)) := by
  have hp := List.mergeSort_perm (kvs.map (·.2)) (fun a b => decide (b ≤ a))
  have hs := List.pairwise_mergeSort (le := fun (a b : Int) => decide (b ≤ a)) (fun a b c h1 h2 => by simp at *; omega) (fun a b => by simp; omega) (kvs.map (·.2))
  have p1 : ∀ c ∈ (kvs.map (·.2)).mergeSort (fun a b => decide (b ≤ a)), 1 ≤ c := fun c hc => by
    obtain ⟨e, he, rfl⟩ := List.mem_map.mp (hp.mem_iff.mp hc)
    exact pos e he
  rw [← minS_perm hp]
  unfold fallZ
  rw [Int.toNat_natCast]
  have hl : r < ((kvs.map (·.2)).mergeSort (fun a b => decide (b ≤ a))).length := by rw [hp.length_eq, List.length_map]; exact h
  generalize (kvs.map (·.2)).mergeSort (fun a b => decide (b ≤ a)) = s at hs p1 hl
  have eg : s.getD r 0 = s[r] := by simp [List.getD, hl]
  rw [eg]
  have h1 := p1 _ (List.getElem_mem hl)
  refine ⟨h1, ?_⟩
  have := minS_ge (f := s[r]) (by omega) (cs := s) (n := r + 1) (fun c hc => by have := p1 c hc; omega) (fun i c hi hc => ?_) (by omega)
  · push_cast at this
    exact this
  · obtain ⟨hil, rfl⟩ := List.getElem?_eq_some_iff.mp hc
    by_cases e : i = r
    · subst e
      exact Int.le_refl _
    · exact of_decide_eq_true (List.pairwise_iff_getElem.mp hs i r hil hl (by omega))
theorem sumC_sums : ∀ {more kvs : Ct}, NdZ kvs → sumC (sumsZ more kvs) = sumC kvs + sumC more
  | [], kvs, _ => by show sumC kvs = sumC kvs + 0; omega
  | e :: r, kvs, nd => by
    show sumC (sumsZ r (addZ kvs e.1 e.2)) = _
    rw [sumC_sums (more := r) (addZ_nd nd), sumC_add nd, sumC_cons']
    omega
/-- within the bounds -/
structure Bd (r : Int) (x : Tl) : Prop where
  low : (r + 1) * x.o ≤ x.m - sumC x.c
  high : x.m - sumC x.c ≤ 2 * r * x.o
  off : 0 ≤ x.o
  many : 0 ≤ x.m
theorem bd_pour {r : Int} {x y : Tl} (hr : 1 ≤ r) (ox : TlOk r x) (oy : TlOk r y) (hx : Bd r x) (hy : Bd r y) : Bd r (pourT r y x) := by
  obtain ⟨rn, rfl⟩ := Int.eq_ofNat_of_zero_le (show 0 ≤ r by omega)
  have es := sumC_sums (more := y.c) ox.nd
  have ll := sumsZ_len (more := y.c) (kvs := x.c)
  have pos := sumsZ_pos oy.pos ox.pos
  have lx := ox.len
  have ly := oy.len
  obtain ⟨a1, a2, a3, a4⟩ := hx
  obtain ⟨b1, b2, b3, b4⟩ := hy
  unfold pourT
  dsimp only
  generalize sumsZ y.c x.c = all at es ll pos
  have d1 : ((rn : Int) + 1) * (x.o + y.o) = ((rn : Int) + 1) * x.o + ((rn : Int) + 1) * y.o := Int.mul_add _ _ _
  have d2 : 2 * (rn : Int) * (x.o + y.o) = 2 * (rn : Int) * x.o + 2 * (rn : Int) * y.o := Int.mul_add _ _ _
  split
  · rename_i h
    obtain ⟨f1, f2⟩ := fall_spec (kvs := all) (r := rn) (by omega) pos
    have f3 := minS_le (f := fallZ all rn) (all.map (·.2))
    rw [List.length_map] at f3
    have f4 : (all.length : Int) * fallZ all rn ≤ 2 * (rn : Int) * fallZ all rn := Int.mul_le_mul_of_nonneg_right (by omega) (by omega)
    have d3 : ((rn : Int) + 1) * (x.o + y.o + fallZ all rn) = ((rn : Int) + 1) * (x.o + y.o) + ((rn : Int) + 1) * fallZ all rn := Int.mul_add _ _ _
    have d4 : 2 * (rn : Int) * (x.o + y.o + fallZ all rn) = 2 * (rn : Int) * (x.o + y.o) + 2 * (rn : Int) * fallZ all rn := Int.mul_add _ _ _
    refine ⟨?_, ?_, ?_, ?_⟩ <;> dsimp only
    · rw [sumC_take, d3]
      omega
    · rw [sumC_take, d4]
      omega
    · omega
    · omega
  · refine ⟨?_, ?_, ?_, ?_⟩ <;> dsimp only <;> omega
theorem bd_feeds {r : Int} (hr : 1 ≤ r) : ∀ {zs : List Str} {x : Tl}, TlOk r x → Fd r x → 0 ≤ x.m → (∀ z ∈ zs, Nm z) → Fd r (feedsT r zs x) ∧ (feedsT r zs x).m = x.m + (zs.length : Int)
  | [], x, _, f, _, _ => ⟨f, by show x.m = x.m + 0; omega⟩
  | z :: zs, x, ok, f, hm, hn => by
    have em : (feedT r z 1 x).m = x.m + 1 := by
      unfold feedT
      split <;> rfl
    obtain ⟨a, b⟩ := bd_feeds hr (zs := zs) (x := feedT r z 1 x) (feedT_ok ok hr (hn z List.mem_cons_self) (by decide)) (fd_feed ok hr f) (by rw [em]; omega) fun y hy => hn y (List.mem_cons_of_mem _ hy)
    refine ⟨a, ?_⟩
    show (feedsT r zs (feedT r z 1 x)).m = _
    rw [b, em, List.length_cons]
    push_cast
    omega
theorem bd_stream {r : Int} {zs : List Str} (hr : 1 ≤ r) (hn : ∀ z ∈ zs, Nm z) : Bd r (feedsT r zs tl0) ∧ (feedsT r zs tl0).m = (zs.length : Int) := by
  obtain ⟨f, e⟩ := bd_feeds hr (tl0_ok hr) (fd0 r) (Int.le_refl _) hn
  have e : (feedsT r zs tl0).m = (zs.length : Int) := by rw [e]; show 0 + _ = _; omega
  have ho := f.off
  have h2 : (r + 1) * (feedsT r zs tl0).o ≤ 2 * r * (feedsT r zs tl0).o := Int.mul_le_mul_of_nonneg_right (by omega) ho
  exact ⟨⟨by rw [f.lost]; exact Int.le_refl _, by rw [f.lost]; exact h2, ho, by rw [e]; omega⟩, e⟩
/-- the true counts, as a function -/
def TruF (f : Str → Int) (x : Tl) : Prop := ∀ k, 0 ≤ f k - gd x.c k ∧ f k - gd x.c k ≤ x.o
theorem gd_take {a : Int} {kvs : Ct} (nd : NdZ kvs) (ha : 0 ≤ a) (k : Str) (pos : ∀ e ∈ kvs, 1 ≤ e.2) : gd (takeZ a kvs) k = if a < gd kvs k then gd kvs k - a else 0 := by
  unfold gd
  rw [getZ_take nd]
  cases getZ kvs k with
  | none =>
    show 0 = if a < 0 then _ else 0
    rw [if_neg (by omega)]
  | some v =>
    show (if a < v then some (v - a) else none).getD 0 = if a < v then v - a else 0
    split <;> rfl
theorem tru_pour {r : Int} {x y : Tl} {f g : Str → Int} (hr : 1 ≤ r) (ox : TlOk r x) (oy : TlOk r y) (hf : TruF f x) (hg : TruF g y) : TruF (fun k => f k + g k) (pourT r y x) := by
  obtain ⟨rn, rfl⟩ := Int.eq_ofNat_of_zero_le (show 0 ≤ r by omega)
  intro k
  obtain ⟨a1, a2⟩ := hf k
  obtain ⟨b1, b2⟩ := hg k
  have es := gd_sums (kvs := x.c) oy.nd k
  have pos := sumsZ_pos oy.pos ox.pos
  have nd := sumsZ_nd (more := y.c) ox.nd
  unfold pourT
  dsimp only
  generalize sumsZ y.c x.c = all at es pos nd
  have hp : 0 ≤ gd all k := getZ_pos pos
  split
  · rename_i h
    obtain ⟨f1, _⟩ := fall_spec (kvs := all) (r := rn) (by omega) pos
    dsimp only
    rw [gd_take nd (by omega) k pos]
    split <;> omega
  · dsimp only
    omega
theorem gd_cntZ : ∀ (zs : List Str) (kc : Ct) (k : Str), gd (cntZ zs kc) k = gd kc k + gd (cntZ zs []) k
  | [], kc, k => by show gd kc k = gd kc k + 0; omega
  | z :: zs, kc, k => by
    show gd (cntZ zs (addZ kc z 1)) k = gd kc k + gd (cntZ zs (addZ [] z 1)) k
    rw [gd_cntZ zs (addZ kc z 1) k, gd_cntZ zs (addZ [] z 1) k, gd_add, gd_add]
    show _ = _ + (0 + _ + _)
    omega
theorem tru_stream {r : Int} (hr : 1 ≤ r) : ∀ {zs : List Str} {x : Tl} {kc : Ct}, TlOk r x → Tru kc x → (∀ z ∈ zs, Nm z) → Tru (cntZ zs kc) (feedsT r zs x)
  | [], _, _, _, h, _ => h
  | z :: zs, x, kc, ok, h, hn => tru_stream hr (zs := zs) (feedT_ok ok hr (hn z List.mem_cons_self) (by decide)) (tru_feed ok hr h) fun y hy => hn y (List.mem_cons_of_mem _ hy)
/-- each tally of the pile within its bounds, beside its true counts; together they are those of the tree -/
theorem runL_true {r : Int} (hr : 1 ≤ r) : ∀ {l : List Stp} {st : List Tl} {fs : List (Str → Int)} {kc : Ct} {m : Int}, (∀ zs, .put zs ∈ l → ∀ z ∈ zs, Nm z) → (∀ x ∈ st, TlOk r x ∧ Bd r x) → Paired TruF fs st → (∀ k, (fs.map fun f => f k).sum = gd kc k) → (st.map (·.m)).sum = m →
    ∃ gs, Paired TruF gs (l.foldl (stepL r) st) ∧ (∀ x ∈ l.foldl (stepL r) st, Bd r x) ∧ (∀ k, (gs.map fun f => f k).sum = gd (l.foldl cntS kc) k) ∧ ((l.foldl (stepL r) st).map (·.m)).sum = l.foldl cS m
  | [], st, fs, kc, m, _, h, p, s, e => ⟨fs, p, fun x hx => (h x hx).2, s, e⟩
  | t :: l, st, fs, kc, m, hn, h, p, s, e => by
    have hn' : ∀ zs, .put zs ∈ l → ∀ z ∈ zs, Nm z := fun zs hz => hn zs (List.mem_cons_of_mem _ hz)
    cases t with
    | put zs =>
      have hz := hn zs List.mem_cons_self
      have ok := feedsT_ok hr (tl0_ok hr) hz
      obtain ⟨b1, b2⟩ := bd_stream hr hz
      refine runL_true hr (l := l) (st := feedsT r zs tl0 :: st) (fs := (fun k => gd (cntZ zs []) k) :: fs) (kc := cntZ zs kc) (m := m + (zs.length : Nat)) hn' (fun x hx => ?_) (.cons (tru_stream hr (tl0_ok hr) tru0 hz) p) (fun k => ?_) ?_
      · rcases List.mem_cons.mp hx with rfl | hx
        · exact ⟨ok, b1⟩
        · exact h x hx
      · rw [List.map_cons, List.sum_cons, s k, gd_cntZ zs kc k]
        exact Int.add_comm _ _
      · rw [List.map_cons, List.sum_cons, e, b2]
        omega
    | pour =>
      match st, fs, p, h, s, e with
      | [], fs, p, h, s, e => exact runL_true hr (l := l) hn' h p s e
      | [_], fs, p, h, s, e => exact runL_true hr (l := l) hn' h p s e
      | a :: b :: st, _, .cons pa (.cons pb p), h, s, e =>
        rename_i fa fb fs
        obtain ⟨oa, ba⟩ := h a List.mem_cons_self
        obtain ⟨ob, bb⟩ := h b (List.mem_cons_of_mem _ List.mem_cons_self)
        have em : (pourT r a b).m = b.m + a.m := by
          unfold pourT
          dsimp only
          split <;> rfl
        refine runL_true hr (l := l) (st := pourT r a b :: st) (fs := (fun k => fb k + fa k) :: fs) (kc := kc) (m := m) hn' (fun x hx => ?_) (.cons (tru_pour hr ob oa pb pa) p) (fun k => ?_) ?_
        · rcases List.mem_cons.mp hx with rfl | hx
          · exact ⟨pourT_ok ob oa (by omega), bd_pour hr ob oa bb ba⟩
          · exact h x (List.mem_cons_of_mem _ (List.mem_cons_of_mem _ hx))
        · have := s k
          rw [List.map_cons, List.map_cons, List.sum_cons, List.sum_cons] at this
          rw [List.map_cons, List.sum_cons]
          show fb k + fa k + (fs.map fun f => f k).sum = gd kc k
          omega
        · rw [List.map_cons, List.map_cons, List.sum_cons, List.sum_cons] at e
          rw [List.map_cons, List.sum_cons, em]
          omega
theorem sum_cnt : ∀ (l : List Stp) (kc : Ct) (m : Int), NdZ kc → sumC kc = m → sumC (l.foldl cntS kc) = l.foldl cS m
  | [], _, _, _, e => e
  | .put zs :: l, kc, m, nd, e => by
    have gen : ∀ (zs : List Str) (kc : Ct), NdZ kc → sumC (cntZ zs kc) = sumC kc + (zs.length : Int) := by
      intro zs
      induction zs with
      | nil => exact fun kc _ => by show sumC kc = sumC kc + 0; omega
      | cons z zs ih =>
        intro kc nd
        show sumC (cntZ zs (addZ kc z 1)) = _
        rw [ih _ (addZ_nd nd), sumC_add nd, List.length_cons]
        push_cast
        omega
    exact sum_cnt l (cntZ zs kc) (m + (zs.length : Nat)) (cntZ_nd nd) (by rw [gen zs kc nd, e])
  | .pour :: l, kc, m, nd, e => sum_cnt l kc m nd e
end Kb


namespace Kb
open PySem PySem.Spec PyProof.Rows L2 SrtZ SrtO
/-! many items of a name, in two lots -/
theorem feed_nat {r : Int} {n : Str} {x : Tl} (ok : TlOk r x) (hr : 1 ≤ r) (hn : Nm n) (a : Int) (ha : 0 ≤ a) : ∀ b : Nat, feedT r n (a + (b : Int)) x = feedT r n (b : Int) (feedT r n a x)
  | 0 => by
    rw [Int.natCast_zero, Int.add_zero, feed_zero (feedT_ok ok hr hn ha) hr]
  | b + 1 => by
    have h1 := feed_nat ok hr hn a ha b
    rw [Int.natCast_add, Int.natCast_one, ← Int.add_assoc, feed_iter ok hr (by omega), h1, ← feed_iter (feedT_ok ok hr hn ha) hr (by omega)]
theorem feed_two {r a b : Int} {n : Str} {x : Tl} (ok : TlOk r x) (hr : 1 ≤ r) (hn : Nm n) (ha : 0 ≤ a) (hb : 0 ≤ b) : feedT r n b (feedT r n a x) = feedT r n (a + b) x := by
  obtain ⟨k, rfl⟩ := Int.eq_ofNat_of_zero_le hb
  exact (feed_nat ok hr hn a ha k).symm
/-! so many times as much -/
def sclC (f : Int) (K : Ct) : Ct := K.map fun e => (e.1, f * e.2)
def scl (f : Int) (x : Tl) : Tl := ⟨f * x.m, f * x.o, sclC f x.c⟩
theorem sclC_keys (f : Int) (K : Ct) : (sclC f K).map (·.1) = K.map (·.1) := by
  unfold sclC
  rw [List.map_map]
  rfl
theorem sclC_len (f : Int) (K : Ct) : (sclC f K).length = K.length := by
  unfold sclC
  rw [List.length_map]
theorem sclC_nd {f : Int} {K : Ct} (nd : NdZ K) : NdZ (sclC f K) := by
  unfold NdZ
  rw [sclC_keys]
  exact nd
theorem getZ_scl (f : Int) (k : Str) : ∀ K : Ct, getZ (sclC f K) k = (getZ K k).map (f * ·)
  | [] => rfl
  | e :: r => by
    have ih := getZ_scl f k r
    show getZ ((e.1, f * e.2) :: sclC f r) k = _
    rw [getZ_cons, getZ_cons, ih]
    by_cases h : e.1 = k
    · rw [if_pos h, if_pos h]
      rfl
    · rw [if_neg h, if_neg h]
theorem gd_scl (f : Int) (K : Ct) (k : Str) : gd (sclC f K) k = f * gd K k := by
  unfold gd
  rw [getZ_scl]
  cases getZ K k with
  | none => exact (Int.mul_zero f).symm
  | some v => rfl
theorem sum_scl (f : Int) : ∀ K : Ct, sumC (sclC f K) = f * sumC K
  | [] => (Int.mul_zero f).symm
  | e :: r => by
    show sumC ((e.1, f * e.2) :: sclC f r) = _
    rw [sumC_cons', sumC_cons', sum_scl f r, Int.mul_add]
theorem fle {f a b : Int} (hf : 1 ≤ f) : f * a ≤ f * b ↔ a ≤ b := ⟨fun h => Int.le_of_mul_le_mul_left h (by omega), fun h => Int.mul_le_mul_of_nonneg_left h (by omega)⟩
theorem flt {f a b : Int} (hf : 1 ≤ f) : f * a < f * b ↔ a < b := by
  have h := fle (f := f) (a := b) (b := a) hf
  constructor
  · intro h1
    apply Classical.byContradiction
    intro h2
    have := h.mpr (by omega)
    omega
  · intro h1
    apply Classical.byContradiction
    intro h2
    have := h.mp (by omega)
    omega
theorem mn_scl {f : Int} {K : Ct} (hf : 1 ≤ f) (ne : K ≠ []) : mnC (sclC f K) = f * mnC K := by
  obtain ⟨h1, h2⟩ := mnC_spec ne
  refine (mnC_uniq ?_ fun y hy => ?_).symm
  · obtain ⟨e, he, q⟩ := List.mem_map.mp h1
    unfold sclC
    rw [List.map_map]
    exact List.mem_map.mpr ⟨e, he, by rw [← q]; rfl⟩
  · unfold sclC at hy
    rw [List.map_map] at hy
    obtain ⟨e, he, rfl⟩ := List.mem_map.mp hy
    exact (fle hf).mpr (h2 e.2 (List.mem_map.mpr ⟨e, he, rfl⟩))
theorem take_scl {f a : Int} (hf : 1 ≤ f) : ∀ K : Ct, takeZ (f * a) (sclC f K) = sclC f (takeZ a K)
  | [] => rfl
  | e :: r => by
    have ih := take_scl (a := a) hf r
    unfold takeZ sclC at ih ⊢
    rw [List.map_cons, List.filter_cons, List.filter_cons]
    by_cases h : a < e.2
    · rw [if_pos (by simpa using (flt hf).mpr h), if_pos (by simpa using h), List.map_cons, List.map_cons, List.map_cons, ih, Int.mul_sub]
    · rw [if_neg (by simpa using fun z => h ((flt hf).mp z)), if_neg (by simpa using h), ih]
theorem put_scl (f : Int) (K : Ct) (n : Str) (v : Int) : putZ (sclC f K) n (f * v) = sclC f (putZ K n v) := by
  unfold putZ
  have e : ((sclC f K).any fun e => decide (e.1 = n)) = (K.any fun e => decide (e.1 = n)) := by
    unfold sclC
    rw [List.any_map]
    rfl
  rw [e]
  split
  · unfold sclC
    rw [List.map_map, List.map_map]
    refine List.map_congr_left fun x _ => ?_
    show (if x.1 = n then (x.1, f * v) else (x.1, f * x.2)) = ((if x.1 = n then (x.1, v) else x).1, f * (if x.1 = n then (x.1, v) else x).2)
    split <;> rfl
  · unfold sclC
    rw [List.map_append]
    rfl
theorem add_scl (f : Int) (K : Ct) (n : Str) (c : Int) : addZ (sclC f K) n (f * c) = sclC f (addZ K n c) := by
  have e : gd (sclC f K) n + f * c = f * (gd K n + c) := by rw [gd_scl, Int.mul_add]
  show putZ (sclC f K) n (gd (sclC f K) n + f * c) = sclC f (putZ K n (gd K n + c))
  rw [e, put_scl]
theorem full_scl (r f : Int) (n : Str) (K : Ct) : full r n (sclC f K) = full r n K := by
  unfold full
  rw [getZ_scl, sclC_len]
  cases getZ K n <;> rfl
theorem feed_scl {r f c : Int} {n : Str} {x : Tl} (hf : 1 ≤ f) (hr : 1 ≤ r) : feedT r n (f * c) (scl f x) = scl f (feedT r n c x) := by
  obtain ⟨m, o, K⟩ := x
  have pos0 : ∀ {c : Int}, 0 < f * c ↔ 0 < c := fun {c} => by
    have := flt (f := f) (a := 0) (b := c) hf
    rwa [Int.mul_zero] at this
  unfold feedT scl
  dsimp only
  rw [full_scl]
  by_cases hfull : full r n K = true
  · rw [if_pos hfull, if_pos hfull]
    have ne := ne_of_full hr (full_of hfull).2
    rw [mn_scl hf ne]
    dsimp only
    have e : (if f * mnC K < f * c then f * mnC K else f * c) = f * (if mnC K < c then mnC K else c) := by
      by_cases h : mnC K < c
      · rw [if_pos h, if_pos ((flt hf).mpr h)]
      · rw [if_neg h, if_neg fun z => h ((flt hf).mp z)]
    rw [e]
    generalize (if mnC K < c then mnC K else c) = a
    rw [take_scl hf, ← Int.mul_sub]
    have e2 : (if 0 < f * (c - a) then addZ (sclC f (takeZ a K)) n (f * (c - a)) else sclC f (takeZ a K)) = sclC f (if 0 < c - a then addZ (takeZ a K) n (c - a) else takeZ a K) := by
      by_cases h : 0 < c - a
      · rw [if_pos h, if_pos (pos0.mpr h), add_scl]
      · rw [if_neg h, if_neg fun z => h (pos0.mp z)]
    rw [e2, Int.mul_add, Int.mul_add]
  · rw [if_neg hfull, if_neg hfull]
    dsimp only
    have e2 : (if 0 < f * c then addZ (sclC f K) n (f * c) else sclC f K) = sclC f (if 0 < c then addZ K n c else K) := by
      by_cases h : 0 < c
      · rw [if_pos h, if_pos (pos0.mpr h), add_scl]
      · rw [if_neg h, if_neg fun z => h (pos0.mp z)]
    rw [e2, Int.mul_add]
theorem sums_scl (f : Int) : ∀ (more K : Ct), sumsZ (sclC f more) (sclC f K) = sclC f (sumsZ more K)
  | [], _ => rfl
  | e :: r, K => by
    show sumsZ (sclC f r) (addZ (sclC f K) e.1 (f * e.2)) = sclC f (sumsZ r (addZ K e.1 e.2))
    rw [add_scl, sums_scl f r]
theorem fall_scl {f : Int} (hf : 1 ≤ f) (K : Ct) (r : Int) (h : r.toNat < K.length) : fallZ (sclC f K) r = f * fallZ K r := by
  have hs := List.pairwise_mergeSort (le := fun (a b : Int) => decide (b ≤ a)) (fun a b c h1 h2 => by simp at *; omega) (fun a b => by simp; omega) (K.map (·.2))
  have hp := List.mergeSort_perm (K.map (·.2)) (fun (a b : Int) => decide (b ≤ a))
  have := fall_uniq (kvs := sclC f K) (ns := ((K.map (·.2)).mergeSort fun a b => decide (b ≤ a)).map (f * ·)) (by
    have h2 := hp.map (f * ·)
    unfold sclC
    rw [List.map_map] at h2 ⊢
    exact h2) (List.pairwise_map.mpr (hs.imp fun h => (fle hf).mpr (of_decide_eq_true h)))
  unfold fallZ
  rw [← this]
  have hl := hp.length_eq
  rw [List.length_map] at hl
  rw [List.getD_eq_getElem?_getD, List.getD_eq_getElem?_getD, List.getElem?_map, List.getElem?_eq_getElem (by omega)]
  rfl
theorem pour_scl {r f : Int} {x y : Tl} (hf : 1 ≤ f) (hr : 0 ≤ r) : pourT r (scl f y) (scl f x) = scl f (pourT r y x) := by
  obtain ⟨m, o, K⟩ := x
  obtain ⟨m2, o2, K2⟩ := y
  show (if r < ((sumsZ (sclC f K2) (sclC f K)).length : Int) then (⟨f * m + f * m2, f * o + f * o2 + fallZ (sumsZ (sclC f K2) (sclC f K)) r, takeZ (fallZ (sumsZ (sclC f K2) (sclC f K)) r) (sumsZ (sclC f K2) (sclC f K))⟩ : Tl) else ⟨f * m + f * m2, f * o + f * o2, sumsZ (sclC f K2) (sclC f K)⟩)
    = scl f (if r < ((sumsZ K2 K).length : Int) then ⟨m + m2, o + o2 + fallZ (sumsZ K2 K) r, takeZ (fallZ (sumsZ K2 K) r) (sumsZ K2 K)⟩ else ⟨m + m2, o + o2, sumsZ K2 K⟩)
  rw [sums_scl, sclC_len]
  by_cases h : r < ((sumsZ K2 K).length : Int)
  · rw [if_pos h, if_pos h, fall_scl hf _ _ (by omega), take_scl hf]
    unfold scl
    dsimp only
    rw [Int.mul_add, Int.mul_add, Int.mul_add]
  · rw [if_neg h, if_neg h]
    unfold scl
    dsimp only
    rw [Int.mul_add, Int.mul_add]
theorem scl_ok {r f : Int} {x : Tl} (hf : 1 ≤ f) (h : TlOk r x) : TlOk r (scl f x) := by
  refine ⟨sclC_nd h.nd, by show ((sclC f x.c).length : Int) ≤ r; rw [sclC_len]; exact h.len, fun e he => ?_, fun e he => ?_⟩
  · obtain ⟨g, hg, rfl⟩ := List.mem_map.mp he
    have := h.pos g hg
    have := (fle (f := f) (a := 1) (b := g.2) hf).mpr this
    show 1 ≤ f * g.2
    omega
  · obtain ⟨g, hg, rfl⟩ := List.mem_map.mp he
    exact h.nm g hg
theorem scl_bd {r f : Int} {x : Tl} (hf : 1 ≤ f) (h : Bd r x) : Bd r (scl f x) := by
  obtain ⟨l, hi, o, m⟩ := h
  refine ⟨?_, ?_, Int.mul_nonneg (by omega) o, Int.mul_nonneg (by omega) m⟩
  · show (r + 1) * (f * x.o) ≤ f * x.m - sumC (sclC f x.c)
    rw [sum_scl, ← Int.mul_sub, show (r + 1) * (f * x.o) = f * ((r + 1) * x.o) by rw [← Int.mul_assoc, Int.mul_comm (r + 1) f, Int.mul_assoc]]
    exact (fle hf).mpr l
  · show f * x.m - sumC (sclC f x.c) ≤ 2 * r * (f * x.o)
    rw [sum_scl, ← Int.mul_sub, show 2 * r * (f * x.o) = f * (2 * r * x.o) by rw [← Int.mul_assoc, Int.mul_comm (2 * r) f, Int.mul_assoc]]
    exact (fle hf).mpr hi
theorem bd_sk {r : Int} {x : Tl} (ok : TlOk r x) (hr1 : 1 ≤ r) (hr2 : r ≤ 64) (h : Bd r x) : skB r x.m x.o (srtZ x.c) = true := by
  have p := srtZ_perm x.c
  have es : sumC (srtZ x.c) = sumC x.c := sumC_perm' p
  have hlen : ((srtZ x.c).length : Int) ≤ r := by rw [p.length_eq]; exact ok.len
  unfold skB
  rw [es, decide_eq_true hr1, decide_eq_true hr2, decide_eq_true h.many, decide_eq_true h.off, decide_eq_true hlen, decide_eq_true h.low, decide_eq_true h.high]
  rfl
theorem bd_one {r : Int} {n : Str} {x : Tl} (ok : TlOk r x) (bd : Bd r x) (hr : 1 ≤ r) : Bd r (feedT r n 1 x) := by
  obtain ⟨m, o, K⟩ := x
  obtain ⟨b1, b2, b3, b4⟩ := bd
  dsimp only at b1 b2 b3 b4
  by_cases hf : full r n K = true
  · have hl' : (K.length : Int) = r := (full_of hf).2
    have e : feedT r n 1 ⟨m, o, K⟩ = ⟨m + 1, o + 1, takeZ 1 K⟩ := feed_lt hf (mn_pos (ne_of_full hr hl') ok.pos)
    have s1 : sumC (takeZ 1 K) = sumC K - (K.length : Int) := sumC_take1 ok.pos
    rw [e]
    refine ⟨?_, ?_, by show 0 ≤ o + 1; omega, by show 0 ≤ m + 1; omega⟩
    · show (r + 1) * (o + 1) ≤ m + 1 - sumC (takeZ 1 K)
      rw [s1, Int.mul_add]
      omega
    · show m + 1 - sumC (takeZ 1 K) ≤ 2 * r * (o + 1)
      rw [s1, Int.mul_add]
      omega
  · have hf : full r n K = false := by simpa using hf
    have e : feedT r n 1 ⟨m, o, K⟩ = ⟨m + 1, o, addZ K n 1⟩ := feed_add hf (by decide)
    have s1 : sumC (addZ K n 1) = sumC K + 1 := sumC_add ok.nd
    rw [e]
    refine ⟨?_, ?_, b3, by show 0 ≤ m + 1; omega⟩
    · show (r + 1) * o ≤ m + 1 - sumC (addZ K n 1)
      rw [s1]
      omega
    · show m + 1 - sumC (addZ K n 1) ≤ 2 * r * o
      rw [s1]
      omega
theorem bd_nat {r : Int} {n : Str} {x : Tl} (ok : TlOk r x) (bd : Bd r x) (hr : 1 ≤ r) (hn : Nm n) : ∀ c : Nat, Bd r (feedT r n (c : Int) x)
  | 0 => by
    rw [Int.natCast_zero, feed_zero ok hr]
    exact bd
  | c + 1 => by
    have ih := bd_one (n := n) (feedT_ok ok hr hn (c := (c : Int)) (by omega)) (bd_nat ok bd hr hn c) hr
    rw [← feed_iter ok hr (by omega)] at ih
    rw [Int.natCast_add, Int.natCast_one]
    exact ih
theorem bd_feed {r c : Int} {n : Str} {x : Tl} (ok : TlOk r x) (bd : Bd r x) (hr : 1 ≤ r) (hn : Nm n) (hc : 0 ≤ c) : Bd r (feedT r n c x) := by
  obtain ⟨k, rfl⟩ := Int.eq_ofNat_of_zero_le hc
  exact bd_nat ok bd hr hn k
/-! a sketch with its true counts -/
structure Sta (r : Int) (x : Tl) (T : Ct) : Prop where
  ok : TlOk r x
  bd : Bd r x
  tru : TruF (gd T) x
  nd : NdZ T
  pos : ∀ e ∈ T, 1 ≤ e.2
  sum : x.m = sumC T
  few : (T.length : Int) ≤ r → x.o = 0
theorem getZ_gd {a b : Ct} (pa : ∀ e ∈ a, 1 ≤ e.2) (pb : ∀ e ∈ b, 1 ≤ e.2) (na : NdZ a) (nb : NdZ b) (k : Str) (h : gd a k = gd b k) : getZ a k = getZ b k := by
  unfold gd at h
  have p1 : ∀ v, getZ a k = some v → 1 ≤ v := fun v hv => pa _ (getZ_in hv)
  have p2 : ∀ v, getZ b k = some v → 1 ≤ v := fun v hv => pb _ (getZ_in hv)
  cases ha : getZ a k with
  | none =>
    cases hb : getZ b k with
    | none => rfl
    | some v =>
      rw [ha, hb] at h
      have := p2 v hb
      have h : (0 : Int) = v := h
      omega
  | some u =>
    cases hb : getZ b k with
    | none =>
      rw [ha, hb] at h
      have := p1 u ha
      have h : u = (0 : Int) := h
      omega
    | some v =>
      rw [ha, hb] at h
      have h : u = v := h
      rw [h]
theorem gd_perm {a b : Ct} (pa : ∀ e ∈ a, 1 ≤ e.2) (pb : ∀ e ∈ b, 1 ≤ e.2) (na : NdZ a) (nb : NdZ b) (h : ∀ k, gd a k = gd b k) : a.Perm b :=
  perm_of_getZ na nb fun k => getZ_gd pa pb na nb k (h k)
theorem Sta.all {r : Int} {x : Tl} {T : Ct} (h : Sta r x T) (hl : (T.length : Int) ≤ r) : x.c.Perm T := by
  have ho := h.few hl
  refine gd_perm h.ok.pos h.pos h.ok.nd h.nd fun k => ?_
  have := h.tru k
  omega
theorem add_len {K : Ct} {n : Str} {c : Int} : K.length ≤ (addZ K n c).length := by
  unfold addZ putZ
  split
  · rw [List.length_map]
    exact Nat.le_refl _
  · rw [List.length_append]
    exact Nat.le_add_right _ _
theorem add_len_new {K : Ct} {n : Str} {c : Int} (h : getZ K n = none) : (addZ K n c).length = K.length + 1 := by
  unfold addZ
  rw [putZ_new h, List.length_append]
  rfl
theorem sums_len_le : ∀ {more K : Ct}, K.length ≤ (sumsZ more K).length
  | [], _ => Nat.le_refl _
  | e :: r, K => Nat.le_trans (add_len (n := e.1) (c := e.2)) (sums_len_le (more := r))
theorem sta0 (r : Int) (hr : 1 ≤ r) : Sta r tl0 [] := ⟨tl0_ok hr, ⟨by show (r + 1) * 0 ≤ (0 : Int) - 0; omega, by show (0 : Int) - 0 ≤ 2 * r * 0; omega, Int.le_refl _, Int.le_refl _⟩, fun k => ⟨Int.le_refl _, Int.le_refl _⟩, List.nodup_nil, (fun _ h => nomatch h), rfl, fun _ => rfl⟩
theorem sta_one {r : Int} {n : Str} {x : Tl} {T : Ct} (h : Sta r x T) (hr : 1 ≤ r) (hn : Nm n) : Sta r (feedT r n 1 x) (addZ T n 1) := by
  obtain ⟨ok, bd, tru, nd, pos, sum, few⟩ := id h
  have htru : Tru T x := tru
  have ok' := feedT_ok ok hr hn (c := 1) (by decide)
  have tru' : TruF (gd (addZ T n 1)) (feedT r n 1 x) := tru_feed ok hr htru
  obtain ⟨m, o, K⟩ := x
  by_cases hf : full r n K = true
  · have hl := (full_of hf).2
    have e : feedT r n 1 ⟨m, o, K⟩ = ⟨m + 1, o + 1, takeZ 1 K⟩ := feed_lt hf (mn_pos (ne_of_full hr hl) ok.pos)
    have hl' : (K.length : Int) = r := hl
    have s1 : sumC (takeZ 1 K) = sumC K - (K.length : Int) := sumC_take1 ok.pos
    obtain ⟨b1, b2, b3, b4⟩ := bd
    dsimp only at b1 b2 b3 b4 sum
    rw [e] at ok' tru' ⊢
    refine ⟨ok', ⟨?_, ?_, by show 0 ≤ o + 1; omega, by show 0 ≤ m + 1; omega⟩, tru', addZ_nd nd, addZ_pos pos (Int.le_refl 1), by show m + 1 = _; rw [sumC_add nd, sum], fun hl2 => ?_⟩
    · show (r + 1) * (o + 1) ≤ m + 1 - sumC (takeZ 1 K)
      rw [s1, Int.mul_add]
      omega
    · show m + 1 - sumC (takeZ 1 K) ≤ 2 * r * (o + 1)
      rw [s1, Int.mul_add]
      omega
    · exfalso
      have hT : (T.length : Int) ≤ r := by
        have := add_len (K := T) (n := n) (c := 1)
        omega
      have p := h.all hT
      have hg : getZ T n = none := by
        rw [← getZ_perm p ok.nd]
        exact (full_of hf).1
      rw [add_len_new hg] at hl2
      have := p.length_eq
      have : K.length = T.length := this
      omega
  · have hf : full r n K = false := by simpa using hf
    have e : feedT r n 1 ⟨m, o, K⟩ = ⟨m + 1, o, addZ K n 1⟩ := feed_add hf (by decide)
    have s1 : sumC (addZ K n 1) = sumC K + 1 := sumC_add ok.nd
    obtain ⟨b1, b2, b3, b4⟩ := bd
    dsimp only at b1 b2 b3 b4 sum
    rw [e] at ok' tru' ⊢
    refine ⟨ok', ⟨?_, ?_, b3, by show 0 ≤ m + 1; omega⟩, tru', addZ_nd nd, addZ_pos pos (Int.le_refl 1), by show m + 1 = _; rw [sumC_add nd, sum], fun hl2 => ?_⟩
    · show (r + 1) * o ≤ m + 1 - sumC (addZ K n 1)
      rw [s1]
      omega
    · show m + 1 - sumC (addZ K n 1) ≤ 2 * r * o
      rw [s1]
      omega
    · have hT : (T.length : Int) ≤ r := by
        have := add_len (K := T) (n := n) (c := 1)
        omega
      exact few hT
theorem sta_nat {r : Int} {n : Str} {x : Tl} {T : Ct} (h : Sta r x T) (hr : 1 ≤ r) (hn : Nm n) : ∀ c : Nat, Sta r (feedT r n ((c : Int) + 1) x) (addZ T n ((c : Int) + 1))
  | 0 => by
    have := sta_one h hr hn
    rw [show (((0 : Nat) : Int) + 1) = 1 from rfl]
    exact this
  | c + 1 => by
    have ih := sta_one (sta_nat h hr hn c) hr hn
    rw [addZ_addZ, ← feed_iter h.ok hr (by omega)] at ih
    rw [Int.natCast_add, Int.natCast_one]
    exact ih
def addP (T : Ct) (n : Str) (c : Int) : Ct := if 0 < c then addZ T n c else T
theorem sta_feed {r c : Int} {n : Str} {x : Tl} {T : Ct} (h : Sta r x T) (hr : 1 ≤ r) (hn : Nm n) (hc : 0 ≤ c) : Sta r (feedT r n c x) (addP T n c) := by
  unfold addP
  by_cases h0 : 0 < c
  · rw [if_pos h0]
    obtain ⟨k, hk⟩ : ∃ k : Nat, c = (k : Int) + 1 := ⟨(c - 1).toNat, by omega⟩
    rw [hk]
    exact sta_nat h hr hn k
  · rw [if_neg h0]
    have : c = 0 := by omega
    subst this
    rw [feed_zero h.ok hr]
    exact h
theorem sta_pour {r : Int} {x y : Tl} {T U : Ct} (hx : Sta r x T) (hy : Sta r y U) (hr : 1 ≤ r) : Sta r (pourT r y x) (sumsZ U T) := by
  have posS : ∀ e ∈ sumsZ U T, 1 ≤ e.2 := sumsZ_pos hy.pos hx.pos
  have ndS : NdZ (sumsZ U T) := sumsZ_nd hx.nd
  refine ⟨pourT_ok hx.ok hy.ok (by omega), bd_pour hr hx.ok hy.ok hx.bd hy.bd, ?_, ndS, posS, ?_, fun hl => ?_⟩
  · have := tru_pour hr hx.ok hy.ok hx.tru hy.tru
    intro k
    rw [gd_sums hy.nd]
    exact this k
  · have e : (pourT r y x).m = x.m + y.m := by
      show (if r < ((sumsZ y.c x.c).length : Int) then (⟨x.m + y.m, x.o + y.o + fallZ (sumsZ y.c x.c) r, takeZ (fallZ (sumsZ y.c x.c) r) (sumsZ y.c x.c)⟩ : Tl) else ⟨x.m + y.m, x.o + y.o, sumsZ y.c x.c⟩).m = _
      split <;> rfl
    rw [e, sumC_sums hx.nd, hx.sum, hy.sum]
  · have hT : (T.length : Int) ≤ r := by
      have := sums_len_le (more := U) (K := T)
      omega
    have pc : (sumsZ U T).Perm (sumsZ T U) := gd_perm posS (sumsZ_pos hx.pos hy.pos) ndS (sumsZ_nd hy.nd) fun k => by
      rw [gd_sums hy.nd, gd_sums hx.nd]
      omega
    have hU : (U.length : Int) ≤ r := by
      have := sums_len_le (more := T) (K := U)
      rw [pc.length_eq] at hl
      omega
    have p := sums_perm (hy.all hU) (hx.all hT) hy.ok.nd hx.ok.nd
    have h1 := hx.few hT
    have h2 := hy.few hU
    show (if r < ((sumsZ y.c x.c).length : Int) then (⟨x.m + y.m, x.o + y.o + fallZ (sumsZ y.c x.c) r, takeZ (fallZ (sumsZ y.c x.c) r) (sumsZ y.c x.c)⟩ : Tl) else ⟨x.m + y.m, x.o + y.o, sumsZ y.c x.c⟩).o = 0
    rw [if_neg (by rw [p.length_eq]; omega)]
    show x.o + y.o = 0
    omega
end Kb

namespace Kb
open PySem PySem.Spec PyProof.Rows L2 SrtZ SrtO
/-- a sketch as anything told it -/
def SkY (K : PySem.W.Frag) (H : Hp) (s : Addr) (r : Int) (x : Tl) : Prop := ∃ (k : Addr) (ts : List Addr), SqT K H s [.int r, .int x.m, .int x.o, .ref k] ∧ Ptp H k (ts.map V.ref) ∧ Paired (PrAt K H) ts (srtZ x.c)
theorem SkY.same {K : PySem.W.Frag} {H H' : Hp} {s : Addr} {r : Int} {x : Tl} (h : SkY K H s r x) (y : Same H H') : SkY K H' s r x := by
  obtain ⟨k, ts, h1, h2, h3⟩ := h
  exact ⟨k, ts, seqT h1 y, h2.same y, prs_same y h3⟩
theorem SkAt.y {K : PySem.W.Frag} {H : Hp} {s : Addr} {r : Int} {x : Tl} (h : SkAt H s r x) : SkY K H s r x := by
  obtain ⟨k, ts, h1, h2, h3⟩ := h
  exact ⟨k, ts, .inl (.inl h1), h2, paired_imp (fun t e h => .inl (.inl h)) h3⟩
/-- a sketch that is one -/
structure SkO (r : Int) (x : Tl) : Prop where
  r1 : 1 ≤ r
  r64 : r ≤ 64
  ok : TlOk r x
  bd : Bd r x
theorem SkO.b {r : Int} {x : Tl} (h : SkO r x) : skB r x.m x.o (srtZ x.c) = true := bd_sk h.ok h.r1 h.r64 h.bd
section
variable {P : Program} {w : World} {K : PySem.W.Frag} {mg : Str → Option Value} {base : Heap}
def spFedManyY (K : PySem.W.Frag) : Sp := fun vs H Q _ => ∃ (s : Addr) (r c : Int) (n : Str) (x : Tl), vs = [.ref s, .str n, .int c] ∧ SkY K H s r x ∧ 1 ≤ r ∧ r ≤ 64 ∧ TlOk r x ∧ skB r x.m x.o (srtZ x.c) = true ∧ Nm n ∧ 0 ≤ c ∧
  ∀ H' s', Same H H' → H s' = none → SkAt H' s' r (feedT r n c x) → Q (.ref s') H'
def spFedY (K : PySem.W.Frag) : Sp := fun vs H Q _ => ∃ (s : Addr) (r : Int) (n : Str) (x : Tl), vs = [.ref s, .str n] ∧ SkY K H s r x ∧ 1 ≤ r ∧ r ≤ 64 ∧ TlOk r x ∧ skB r x.m x.o (srtZ x.c) = true ∧ Nm n ∧
  ∀ H' s', Same H H' → H s' = none → SkAt H' s' r (feedT r n 1 x) → Q (.ref s') H'
def spNeedTwoY (K : PySem.W.Frag) : Sp := fun vs H Q _ => ∃ (s1 s2 : Addr) (r : Int) (x y : Tl), vs = [.ref s1, .ref s2] ∧ SkY K H s1 r x ∧ SkY K H s2 r y ∧ r ≤ 64 ∧ TlOk r x ∧ TlOk r y ∧ skB r x.m x.o (srtZ x.c) = true ∧ skB r y.m y.o (srtZ y.c) = true ∧ ∀ H', Same H H' → Q .non H'
def spPouredY (K : PySem.W.Frag) : Sp := fun vs H Q _ => ∃ (s1 s2 : Addr) (r : Int) (x y : Tl), vs = [.ref s1, .ref s2] ∧ SkY K H s1 r x ∧ SkY K H s2 r y ∧ 1 ≤ r ∧ r ≤ 64 ∧ TlOk r x ∧ TlOk r y ∧ skB r x.m x.o (srtZ x.c) = true ∧ skB r y.m y.o (srtZ y.c) = true ∧
  ∀ H' s', Same H H' → H s' = none → SkAt H' s' r (pourT r (skT y) (skT x)) → Q (.ref s') H'
end
end Kb

namespace L2
open PySem PySem.Spec PyProof.Rows
section
variable {X : Cx}
/-- repr of data: what it shows -/
def rRepr (K : PySem.W.Frag) : List V → Hp → VK → Prop := fun vs H Q => ∃ (v : V) (d : PyData), vs = [v] ∧ Dp K H v d ∧ d.showable = true ∧ d.hasDict = false ∧ d.depth ≤ 60 ∧ (∀ i, v = .int i → i.natAbs.log2 < 1920) ∧ d.shown.length ≤ sizeLine ∧ Q (.str d.shown) H
theorem call_reprD (hg : X.A.guards = some []) (hu : X.A.units + 64 < cLine) : CallR X (.builtin "repr") (rRepr X.K) := by
  intro pins s σ H xs us Q I r h
  obtain ⟨v, d, rfl, hd, hs, hn, hz, hi, hl, q⟩ := h
  obtain ⟨u, rfl, ru⟩ := vals1 r
  obtain ⟨as, rd⟩ := Dp.reads I d v u hd ru
  cases hd with
  | non =>
    cases ru
    rw [PyData.shown_none] at q
    exact PySem.P.repr_of_none ⟨.str _, H, I.tok _, ⟨_, rfl⟩, q⟩
  | bl b =>
    cases ru
    rw [PyData.shown_bool] at q
    exact PySem.P.repr_of_bool ⟨.str _, H, I.tok _, ⟨_, rfl⟩, by cases b <;> exact q⟩
  | int i =>
    obtain ⟨t, rfl⟩ := ru
    rw [PyData.shown_int] at q
    exact PySem.P.repr_of_int (hi i rfl) ⟨.str _, H, I.tok _, ⟨_, rfl⟩, q⟩
  | str x =>
    obtain ⟨t, rfl⟩ := ru
    rw [PyData.shown_str] at q hl
    exact PySem.P.repr_of_str ⟨.str _, H, I.tok _, ⟨_, rfl⟩, q⟩ hl
  | lst h1 h2 =>
    cases ru
    exact repr_of_reads' rd hs (fun z => by rw [hn] at z; cases z) hg (by omega) (fun _ _ e => e) (fun h' u tk hk => ⟨.str _, H, I.kept hk, ⟨_, rfl⟩, q⟩) hl
  | tup h1 h2 =>
    cases ru
    exact repr_of_reads' rd hs (fun z => by rw [hn] at z; cases z) hg (by omega) (fun _ _ e => e) (fun h' u tk hk => ⟨.str _, H, I.kept hk, ⟨_, rfl⟩, q⟩) hl
end
end L2

namespace PySem.SeqAt
open Builtin
open AutoSeq1 (wpAny_loadPart')
/-! a dict is no text and no tuple -/
theorem dict_no_str (l : Addr) (es : Array DictEntry) (n : Nat) (dd : Option Addr) (sl : Array (Option Value)) (i : Str) (u : Tok) :
    Meets (Builtin.«dict.__eq__» ⟨[.ref l, .str i u], []⟩) (fun _ R s => s.heap.get? l = some { cls := .type "dict", dict := dd, data := .dict es n, slots := sl } ∧ R (.ok (.ret .notImplemented)) s) := by
  refine .of_wp fun prog w A R s h => ?_
  obtain ⟨hp, g, d, tk, os⟩ := s
  obtain ⟨hl, h⟩ := h
  have f1 := F.sub_str_dict
  wp_walk using wpAny_loadPart' hl
  exact ⟨_, rfl, h⟩
theorem str_no_dict (l : Addr) (es : Array DictEntry) (n : Nat) (dd : Option Addr) (sl : Array (Option Value)) (i : Str) (u : Tok) :
    Meets (Builtin.«str.__eq__» ⟨[.str i u, .ref l], []⟩) (fun _ R s => s.heap.get? l = some { cls := .type "dict", dict := dd, data := .dict es n, slots := sl } ∧ R (.ok (.ret .notImplemented)) s) := by
  refine .of_wp fun prog w A R s h => ?_
  obtain ⟨hp, g, d, tk, os⟩ := s
  obtain ⟨hl, h⟩ := h
  wp_walk using wpAny_loadPart' hl, wpAny_load hl
  exact ⟨_, rfl, h⟩
theorem dict_no_tuple (l b : Addr) (es : Array DictEntry) (items2 : Array Value) (n n2 : Nat) (dd dd2 : Option Addr) (sl sl2 : Array (Option Value)) :
    Meets (Builtin.«dict.__eq__» ⟨[.ref l, .ref b], []⟩) (fun _ R s => s.heap.get? l = some { cls := .type "dict", dict := dd, data := .dict es n, slots := sl } ∧ s.heap.get? b = some { cls := .type "tuple", dict := dd2, data := .seq items2 n2, slots := sl2 } ∧ R (.ok (.ret .notImplemented)) s) := by
  refine .of_wp fun prog w A R s h => ?_
  obtain ⟨hp, g, d, tk, os⟩ := s
  obtain ⟨hl, hb, h⟩ := h
  have f1 := F.sub_tuple_dict
  wp_walk using wpAny_loadPart' hl, wpAny_loadPart' hb
  exact ⟨_, rfl, h⟩
theorem tuple_no_dict (l b : Addr) (items : Array Value) (es : Array DictEntry) (n n2 : Nat) (dd dd2 : Option Addr) (sl sl2 : Array (Option Value)) :
    Meets (Builtin.«tuple.__eq__» ⟨[.ref l, .ref b], []⟩) (fun _ R s => s.heap.get? l = some { cls := .type "tuple", dict := dd, data := .seq items n, slots := sl } ∧ s.heap.get? b = some { cls := .type "dict", dict := dd2, data := .dict es n2, slots := sl2 } ∧ R (.ok (.ret .notImplemented)) s) := by
  refine .of_wp fun prog w A R s h => ?_
  obtain ⟨hp, g, d, tk, os⟩ := s
  obtain ⟨hl, hb, h⟩ := h
  have f1 := F.sub_dict_tuple
  wp_walk using wpAny_loadPart' hl, wpAny_loadPart' hb
  exact ⟨_, rfl, h⟩
section
variable {A : Around} {s : Shared}
theorem RcAt.dict_str {l : Addr} {es : Array DictEntry} {n : Nat} {dd : Option Addr} {sl : Array (Option Value)} (b : Str) (u : Tok) (ho : s.heap.get? l = some { cls := .type "dict", dict := dd, data := .dict es n, slots := sl }) (hu : A.units < cLine) : RcAt A s (.ref l) (.str b u) false := fun prog w E Q h =>
  rc_eq_decline_or (k := false) ⟨_, ho, rfl⟩ (typeIs_str s b u) (by decide) F.sub_str_dict F.slot_dict_eq F.slot_str_eq_refl
    (fun _ hq => call_meets F.slot_dict_eq ⟨_, ho, rfl⟩ F.entry_dict_eq (F.args_dict_eq_2 _ _) (dict_no_str l es n dd sl b u) ⟨ho, hq⟩)
    (fun _ hq => call_meets F.slot_str_eq_refl (typeIs_str s b u) F.entry_str_eq (F.args_str_eq_2 _ _) (str_no_dict l es n dd sl b u) ⟨ho, hq⟩)
    (fun _ hq => wpAny_of_eq (rfl : isSame (.ref l) (.str b u) = pure false) hq) (.inr hu) h
theorem EqAt.dict_str {l : Addr} {es : Array DictEntry} {n : Nat} {dd : Option Addr} {sl : Array (Option Value)} (b : Str) (u : Tok) (ho : s.heap.get? l = some { cls := .type "dict", dict := dd, data := .dict es n, slots := sl }) (hu : A.units < cLine) : EqAt A s (.ref l) (.str b u) false := fun prog w E Q h => by
  unfold eqBool
  refine wpAny_holding ?_
  refine wpAny_ite_split (fun hab => absurd (eq_of_beq hab) nofun) (fun _ => ?_)
  exact wpAny_bind (RcAt.dict_str b u ho hu prog w E _ (wpAny_truthy_bool h))
theorem RcAt.dict_tuple {l b : Addr} {es : Array DictEntry} {n : Nat} {dd : Option Addr} {sl : Array (Option Value)} {items2 : Array Value} (ho : s.heap.get? l = some { cls := .type "dict", dict := dd, data := .dict es n, slots := sl }) (hb : s.heap.IsTuple b items2) (hu : A.units < cLine) : RcAt A s (.ref l) (.ref b) false := fun prog w E Q h => by
  obtain ⟨⟨cls2, dd2, data2, sl2⟩, ho2, hc2, n2, hd2⟩ := id hb
  simp only at hc2 hd2
  subst hc2 hd2
  have hne : l ≠ b := fun e => by
    subst e
    rw [ho] at ho2
    exact absurd ho2 (by simp)
  exact (rc_eq_decline_or (k := false) ⟨_, ho, rfl⟩ ⟨_, ho2, rfl⟩ (by decide) F.sub_tuple_dict F.slot_dict_eq F.slot_tuple_eq_refl
    (fun _ hq => call_meets F.slot_dict_eq ⟨_, ho, rfl⟩ F.entry_dict_eq (F.args_dict_eq_2 _ _) (dict_no_tuple l b es items2 n n2 dd dd2 sl sl2) ⟨ho, ho2, hq⟩)
    (fun _ hq => call_meets F.slot_tuple_eq_refl ⟨_, ho2, rfl⟩ F.entry_tuple_eq (F.args_tuple_eq_2 _ _) (tuple_no_dict b l items2 es n2 n dd2 dd sl2 sl) ⟨ho2, ho, hq⟩)
    (fun _ hq => wpAny_isSame_ref_other hne ho ho2 (by simp) hq) (.inr hu) h)
end
end PySem.SeqAt
namespace L2
open PySem PySem.Spec PyProof.Rows Builtin
variable {X : Cx} {pins : List (Addr × Obj)} {σ : St} {H : Hp} {s : Shared}
/-! anything against a text -/
def EqS (K : PySem.W.Frag) (H : Hp) (x : V) (z : Str) (c : Bool) : Prop :=
  (x = .non ∧ c = false) ∨ (∃ i, x = .int i ∧ c = false) ∨ (∃ b, x = .bl b ∧ c = false) ∨ (∃ y, x = .str y ∧ c = decide (y = z)) ∨
  ∃ a, x = .ref a ∧ c = false ∧ ((∃ xs, SqL K H a xs) ∨ (∃ xs, SqT K H a xs) ∨ ∃ k, H a = some (.dK k))
theorem dict_at (I : Inv X pins σ H s) {a : Addr} {k : List (Key × V)} (e : H a = some (.dK k)) : ∃ es n dd sl, s.heap.get? a = some { cls := .type "dict", dict := dd, data := .dict es n, slots := sl } := by
  obtain ⟨_, low, vs, _, dd⟩ := (show ObjOk X.prog X.w H s.heap a (.dK k) from I.hok a _ e)
  obtain ⟨o, es, n, ho, shape, r⟩ := dd
  obtain ⟨cls, dct, data, sl⟩ := o
  obtain ⟨c1, c2, c3⟩ := shape
  obtain ⟨c4, _⟩ := r
  simp only at c1 c4
  subst c1 c4
  exact ⟨es, n, dct, sl, ho⟩
theorem str_dec (y z : Str) : (y == z) = decide (y = z) := by
  by_cases h : y = z
  · rw [decide_eq_true h, h]
    exact beq_self_eq_true z
  · rw [decide_eq_false h]
    exact beq_eq_false_iff_ne.mpr h
theorem EqS.rc (I : Inv X pins σ H s) {A : Around} (hu : A.units < cLine) {x : V} {v : Value} {z : Str} {t : Tok} {c : Bool} (h : EqS X.K H x z c) (r : RelV x v) : SeqAt.RcAt A s v (.str z t) c := by
  rcases h with ⟨rfl, rfl⟩ | ⟨i, rfl, rfl⟩ | ⟨b, rfl, rfl⟩ | ⟨y, rfl, rfl⟩ | ⟨a, rfl, rfl, h⟩
  · cases (show v = Value.none from r)
    exact SeqAt.RcAt.none_str z t
  · obtain ⟨t', rfl⟩ := r
    exact SeqAt.RcAt.int_str i t' z t
  · cases (show v = Value.bool b from r)
    exact SeqAt.RcAt.bool_str b z t
  · obtain ⟨t', rfl⟩ := r
    rw [← str_dec]
    exact SeqAt.RcAt.str_str y t' z t
  · cases (show v = Value.ref a from r)
    rcases h with ⟨xs, h⟩ | ⟨xs, h⟩ | ⟨k, h⟩
    · obtain ⟨its, _, p, _⟩ := I.list h
      exact SeqAt.RcAt.list_str z t p.isList hu
    · obtain ⟨its, _, p, _⟩ := I.tuple h
      exact SeqAt.RcAt.tuple_str z t p hu
    · obtain ⟨es, n, dd, sl, ho⟩ := dict_at I h
      exact SeqAt.RcAt.dict_str z t ho hu
theorem EqS.eq (I : Inv X pins σ H s) {A : Around} (hu : A.units < cLine) {x : V} {v : Value} {z : Str} {t : Tok} {c : Bool} (h : EqS X.K H x z c) (r : RelV x v) : SeqAt.EqAt A s v (.str z t) c := by
  rcases h with ⟨rfl, rfl⟩ | ⟨i, rfl, rfl⟩ | ⟨b, rfl, rfl⟩ | ⟨y, rfl, rfl⟩ | ⟨a, rfl, rfl, h⟩
  · cases (show v = Value.none from r)
    exact SeqAt.EqAt.none_str z t
  · obtain ⟨t', rfl⟩ := r
    exact SeqAt.EqAt.int_str i t' z t
  · cases (show v = Value.bool b from r)
    exact SeqAt.EqAt.bool_str b z t
  · obtain ⟨t', rfl⟩ := r
    rw [← str_dec]
    exact SeqAt.EqAt.str_str y t' z t
  · cases (show v = Value.ref a from r)
    rcases h with ⟨xs, h⟩ | ⟨xs, h⟩ | ⟨k, h⟩
    · obtain ⟨its, _, p, _⟩ := I.list h
      exact SeqAt.EqAt.list_str z t p.isList hu
    · obtain ⟨its, _, p, _⟩ := I.tuple h
      exact SeqAt.EqAt.tuple_str z t p hu
    · obtain ⟨es, n, dd, sl, ho⟩ := dict_at I h
      exact SeqAt.EqAt.dict_str z t ho hu
/-- anything == a text -/
theorem op_eqS {K : PySem.W.Frag} (hK : X.K = K) (hu : X.A.units + 64 < cLine) : OpR X (compareOp .Eq) (fun x y H Q => ∃ z c, y = .str z ∧ EqS K H x z c ∧ Q (.bl c) H) := by
  subst hK
  intro pins s σ H x y v u Q I rx ry h
  obtain ⟨z, c, rfl, e, q⟩ := h
  obtain ⟨t, rfl⟩ := ry
  exact EqS.rc I (by omega) e rx _ _ _ _ ⟨.bl c, H, I, rfl, q⟩
/-! anything against a tuple of one text -/
def EqT (K : PySem.W.Frag) (H : Hp) (x : V) (z : Str) (c : Bool) : Prop :=
  (c = false ∧ (x = .non ∨ (∃ i, x = .int i) ∨ (∃ b, x = .bl b) ∨ ∃ y, x = .str y)) ∨
  ∃ a, x = .ref a ∧ ((c = false ∧ ((∃ xs, SqL K H a xs) ∨ ∃ k, H a = some (.dK k))) ∨ (∃ xs, SqT K H a xs ∧ ((xs = [] ∧ c = false) ∨ ∃ x0 r c0, xs = x0 :: r ∧ EqS K H x0 z c0 ∧ c = (c0 && decide (r = []))))) 
theorem vals_nil {its : List Value} (h : Vals [] its) : its = [] := by cases h; rfl
theorem vals_cons {x : V} {xs : List V} {its : List Value} (h : Vals (x :: xs) its) : ∃ v r, its = v :: r ∧ RelV x v ∧ Vals xs r := by
  cases h with
  | cons h t => exact ⟨_, _, rfl, h, t⟩
theorem EqT.rc (I : Inv X pins σ H s) {A : Around} (hu : A.units + 64 < cLine) (hu1 : A.in1.units < cLine) {x : V} {v : Value} {b : Addr} {z : Str} {c : Bool} (h : EqT X.K H x z c) (r : RelV x v) (hb : SqT X.K H b [.str z]) : SeqAt.RcAt A s v (.ref b) c := by
  obtain ⟨its2, rv2, p2, _⟩ := I.tuple hb
  have hu0 : A.units < cLine := by omega
  obtain ⟨w2, r2, rfl, rz, rr⟩ := vals_cons rv2
  obtain rfl := vals_nil rr
  obtain ⟨t, rfl⟩ := rz
  rcases h with ⟨rfl, h⟩ | ⟨a, rfl, h⟩
  · rcases h with rfl | ⟨i, rfl⟩ | ⟨j, rfl⟩ | ⟨y, rfl⟩
    · cases (show v = Value.none from r)
      exact SeqAt.RcAt.none_tuple p2 hu0
    · obtain ⟨t', rfl⟩ := r
      exact SeqAt.RcAt.int_tuple i t' p2 hu0
    · cases (show v = Value.bool j from r)
      exact SeqAt.RcAt.bool_tuple j p2 hu0
    · obtain ⟨t', rfl⟩ := r
      exact SeqAt.RcAt.str_tuple y t' p2 hu0
  · cases (show v = Value.ref a from r)
    rcases h with ⟨rfl, ⟨xs, h⟩ | ⟨k, h⟩⟩ | ⟨xs, hx, h⟩
    · obtain ⟨its, _, p, _⟩ := I.list h
      exact SeqAt.RcAt.list_tuple p.isList p2 hu0
    · obtain ⟨es, n, dd, sl, ho⟩ := dict_at I h
      exact SeqAt.RcAt.dict_tuple ho p2 hu0
    · obtain ⟨its, rv, p, _⟩ := I.tuple hx
      rcases h with ⟨rfl, rfl⟩ | ⟨x0, rs, c0, rfl, e0, rfl⟩
      · obtain rfl := vals_nil rv
        have := SeqAt.RcAt.tuples (e := fun _ => false) p p2 hu0 (fun j j1 j2 => absurd j1 (by simp))
        exact this
      · obtain ⟨v0, r0, rfl, rel0, rrs⟩ := vals_cons rv
        have := SeqAt.RcAt.tuples (A := A) (e := fun _ => c0) p p2 hu0 (fun j j1 j2 => by
          have j0 : j = 0 := by simpa using j2
          subst j0
          exact EqS.eq I hu1 e0 rel0)
        have l1 : rs.length = r0.length := Paired.length rrs
        have e2 : ((List.range (min (v0 :: r0).toArray.size [Value.str z t].toArray.size)).all (fun _ => c0) && (v0 :: r0).toArray.size == [Value.str z t].toArray.size) = (c0 && decide (rs = [])) := by
          cases rs with
          | nil =>
            cases r0 with
            | nil => simp
            | cons _ _ => simp at l1
          | cons y ys =>
            cases r0 with
            | nil => simp at l1
            | cons _ _ => simp
        rw [e2] at this
        exact this
/-- anything == a tuple of one text -/
theorem op_eqT {K : PySem.W.Frag} (hK : X.K = K) (hu : X.A.units + 64 < cLine) : OpR X (compareOp .Eq) (fun x y H Q => ∃ b z c, y = .ref b ∧ SqT K H b [.str z] ∧ EqT K H x z c ∧ Q (.bl c) H) := by
  subst hK
  intro pins s σ H x y v u Q I rx ry h
  obtain ⟨b, z, c, rfl, hb, e, q⟩ := h
  cases (show u = Value.ref b from ry)
  exact EqT.rc I hu (by have : X.A.in1.units ≤ X.A.units + 1 := by simp [Around.in1, Around.units]
                        omega) e rx hb _ _ _ _ ⟨.bl c, H, I, rfl, q⟩
end L2

namespace Kb
open PySem PySem.Spec PyProof.Rows L2
/-! try: .. except A as n: .. except ..: where each error of the body is A's -/
def wFirst (K : PySem.W.Frag) (c : Value) (i : Nat) (ts : Addr → Value → Option Addr → TS) (D : Ends) : WX := fun cls d σ H =>
  PySem.W.exmOne K cls c = some true ∧ ∀ a, H a = none → ts a cls d { nx := fun σ' H' => D.nx (σ'.set i none) H', rt := D.rt, bk := fun σ' H' => D.bk (σ'.set i none) H', ct := fun σ' H' => D.ct (σ'.set i none) H' } (σ.set i (some (.ref a))) H
section
variable {X : Cx} {x n : Str} {c : Value} {i : Nat} {body rest : List Stmt} {first : Stmt} {more : List ExceptHandler} {np pos hpos : Pos} {tb : WX → TS} {ts : Addr → Value → Option Addr → TS}
theorem ps_try_first (stk : X.stack = X.env :: X.outer) (frm : X.env.frame = some X.env.locals) (nd : X.N.Nodup) (at_ : X.N[i]? = some n) (loc : X.env.kindOf n = some .local) (nam : Names X x c)
    (runs : ∀ (W : WX) (pn : List (Addr × Obj)) (way : Value → Shared → Prop), L2.Takes (X.tr pn way) W → PassesOwn (model X.prog X.w) X.A X.env way → PSs (X.tr pn way) body (tb W))
    (caught : ∀ (a : Addr) (oe : Obj) (cls : Value) (d : Option Addr) (pn : List (Addr × Obj)), Zc cls d oe → (∃ vs, oe.data = .fields vs) → PSs (X.suite a ((a, oe) :: pn)) (first :: rest) (ts a cls d)) :
    PS X (.Try body (.ExceptHandler (some (.Name x np)) (some n) (first :: rest) hpos :: more) [] [] pos) (fun D σ H => tb (wFirst X.K c i ts D) D σ H) := by
  refine ⟨fun pins s σ H D I reads => ?_⟩
  have good := I.ok
  have fr : X.A.frames = some (X.env :: X.outer) := by rw [good.frames, stk]
  refine wpAny_Try_except ?_
  have whole := (runs (wFirst X.K c i ts D) (X.pn ++ pins) (fun e t1 => wpAny (model X.prog X.w) X.A (noteFrame e X.env) (fun _ t2 => wpAny (model X.prog X.w) X.A (setFlight e none) (fun _ t3 =>
    wpAny (model X.prog X.w) X.A (handleBy e X.env (.ExceptHandler (some (.Name x np)) (some n) (first :: rest) hpos :: more)) (SP X pins D) X.xe t3) X.xe t2) X.xe t1) (fun u s' air => ?_) PassesOwn.looking).run [] s σ H D (I.toTry _) reads
  · refine wpAny_mono whole (fun fl s1 got => ?_) fun _ _ z => z
    cases fl with
    | next => exact wpAny_execs_nil (let ⟨σ', H', J, q⟩ := got; ⟨σ', H', J.ofTry good, q⟩)
    | brk => exact let ⟨σ', H', J, q⟩ := got; ⟨σ', H', J.ofTry good, q⟩
    | cont => exact let ⟨σ', H', J, q⟩ := got; ⟨σ', H', J.ofTry good, q⟩
    | ret u => exact let ⟨v, σ', H', J, r, q⟩ := got; ⟨v, σ', H', J.ofTry good, r, q⟩
  · obtain ⟨a, B, sI, pins1, σ1, H1, cls, d, eu, J0, ground, up, sky, na, os, ag, yes, suite⟩ := air
    subst eu
    have J : L2.Inv X pins σ1 H1 sI := J0.ofTry good
    have sky : Sky B X.stack a (Zc cls d) X.env.locals s'.heap := sky
    rw [stk] at sky
    show wpAny (model X.prog X.w) X.A (noteFrame (.ref a) X.env) _ _ s'
    refine Sky.land Zc.steady fr frm sky fun g3 fly3 up3 => ?_
    have J3 : L2.Inv X pins σ1 H1 { s' with heap := g3 } := J.landed ground fly3.1 (up.trans up3) os ag
    obtain ⟨o3, v3, e3, z3, d3⟩ := fly3.there
    have offFrames : a ∉ frs (X.env :: X.outer) := fun hm => by
      obtain ⟨_, o', e', nofields⟩ := fly3.2.2.1.mem hm
      rw [e3] at e'
      cases e'
      exact nofields _ d3
    have offL : a ≠ X.env.locals := fun z => offFrames (List.mem_filterMap.mpr ⟨X.env, List.mem_cons_self, by rw [frm, z]⟩)
    have offF : a ∉ X.fs := fun hm => by
      obtain ⟨e, he, q⟩ := List.mem_filterMap.mp hm
      exact offFrames (List.mem_filterMap.mpr ⟨e, List.mem_cons_of_mem _ he, q⟩)
    have in3 := J3.suite e3 d3 na offL offF
    refine wpAny_handleBy_cons (codeAny_handlers_test ?_) (by intro q; cases q)
    have its : PySem.W.Looks (model X.prog X.w) g3 (typeOf (.ref a)) cls := fun _ _ _ _ keep q => wpAny_typeOf_ref (keep _ _ e3) (by rw [z3.1]; exact q)
    have asks := PySem.W.exm_one (M := model X.prog X.w) J3.kIn its yes
    have named : ∀ {R : Value → Shared → Prop} {way : Value → Shared → Prop}, R c { s' with heap := g3 } → wpAny (model X.prog X.w) (X.A.mark (some (.ref a))) (eval (.Name x np) X.env) R way { s' with heap := g3 } := fun {R way} q =>
      match nam with
      | ⟨gl, nodebug, .inl own⟩ => ld_glob (X := X.suite a ((a, o3) :: (X.pn ++ pins))) in3 gl own q nodebug
      | ⟨gl, nodebug, .inr ⟨none_, boot, nonm⟩⟩ => ld_blt (X := X.suite a ((a, o3) :: (X.pn ++ pins))) in3 gl none_ boot q nonm nodebug
    refine named (asks.here (codeAny_handlers_suite_as (HandSPX.lands_againZ fly3 fun g4 fly4 up4 => ?_)))
    have J4 : L2.Inv X pins σ1 H1 { s' with heap := g4 } := J.landed ground fly4.1 ((up.trans up3).trans up4) os ag
    obtain ⟨o4, v4, e4, z4, d4⟩ := fly4.there
    refine store_ok (X := X.suite a ((a, o4) :: (X.pn ++ pins))) (v := .ref a) (J4.suite e4 d4 na offL offF) nd at_ (.inl loc) rfl (fun s5 in5 => ?_) (.inr loc)
    refine wpAny_mono ((caught a o4 cls d (X.pn ++ pins) z4 ⟨_, d4⟩).run [] s5 _ H1 _ in5 (suite a na)) (fun fl s6 got => ?_) fun _ _ z => z.elim
    have over : ∀ {σ6 : L2.St} {H6 : Hp} {R : Shared → Prop}, L2.Inv (X.suite a ((a, o4) :: (X.pn ++ pins))) [] σ6 H6 s6 → (∀ s7, L2.Inv X pins (σ6.set i none) H6 s7 → R s7) →
        wpAny (model X.prog X.w) X.A (do bindName X.env n .none; unbindBehindTheSuite X.env n hpos) (fun _ s7 => R s7) X.xe s6 := fun in6 q => gone_ok (in6.unsuite good) nd at_ loc q
    cases fl with
    | next => exact let ⟨_, _, in6, q6⟩ := got; over in6 fun _ J7 => ⟨_, _, J7, q6⟩
    | brk => exact let ⟨_, _, in6, q6⟩ := got; over in6 fun _ J7 => ⟨_, _, J7, q6⟩
    | cont => exact let ⟨_, _, in6, q6⟩ := got; over in6 fun _ J7 => ⟨_, _, J7, q6⟩
    | ret u => exact let ⟨_, _, _, in6, r6, q6⟩ := got; over in6 fun _ J7 => ⟨_, _, _, J7, r6, q6⟩
end
end Kb

namespace PySem.SeqAt
open Builtin
section
variable {A : Around} {s : Shared}
theorem RcAt.str_dict {l : Addr} {es : Array DictEntry} {n : Nat} {dd : Option Addr} {sl : Array (Option Value)} (b : Str) (u : Tok) (ho : s.heap.get? l = some { cls := .type "dict", dict := dd, data := .dict es n, slots := sl }) (hu : A.units < cLine) : RcAt A s (.str b u) (.ref l) false := fun prog w E Q h =>
  rc_eq_decline_or (k := false) (typeIs_str s b u) ⟨_, ho, rfl⟩ (by decide) F.sub_dict_str F.slot_str_eq F.slot_dict_eq
    (fun _ hq => call_meets F.slot_str_eq (typeIs_str s b u) F.entry_str_eq (F.args_str_eq_2 _ _) (str_no_dict l es n dd sl b u) ⟨ho, hq⟩)
    (fun _ hq => call_meets F.slot_dict_eq ⟨_, ho, rfl⟩ F.entry_dict_eq (F.args_dict_eq_2 _ _) (dict_no_str l es n dd sl b u) ⟨ho, hq⟩)
    (fun _ hq => wpAny_of_eq (rfl : isSame (.str b u) (.ref l) = pure false) hq) (.inr hu) h
theorem EqAt.str_dict {l : Addr} {es : Array DictEntry} {n : Nat} {dd : Option Addr} {sl : Array (Option Value)} (b : Str) (u : Tok) (ho : s.heap.get? l = some { cls := .type "dict", dict := dd, data := .dict es n, slots := sl }) (hu : A.units < cLine) : EqAt A s (.str b u) (.ref l) false := fun prog w E Q h => by
  unfold eqBool
  refine wpAny_holding ?_
  refine wpAny_ite_split (fun hab => absurd (eq_of_beq hab) nofun) (fun _ => ?_)
  exact wpAny_bind (RcAt.str_dict b u ho hu prog w E _ (wpAny_truthy_bool h))
end
end PySem.SeqAt
namespace L2
open PySem PySem.Spec PyProof.Rows Builtin
variable {X : Cx} {pins : List (Addr × Obj)} {σ : St} {H : Hp} {s : Shared}
/-- a list, tuple or dict in a tuple of texts -/
theorem op_inO {K : PySem.W.Frag} (hK : X.K = K) (hu : X.A.units + 64 < cLine) : OpR X (compareOp .In) (fun x y H Q => ∃ (a p : Addr) (zs : List Str), x = .ref a ∧ y = .ref p ∧ ((∃ xs, SqL K H a xs) ∨ (∃ xs, SqT K H a xs) ∨ ∃ k, H a = some (.dK k)) ∧ SqT K H p (zs.map V.str) ∧ Q (.bl false) H) := by
  subst hK
  intro pins s σ H x y v u Q I rx ry h
  obtain ⟨a, p, zs, rfl, rfl, ha, hp, q⟩ := h
  cases (show v = Value.ref a from rx)
  cases (show u = Value.ref p from ry)
  obtain ⟨its, r, pl, hz⟩ := I.tuple hp
  have hu1 : X.A.in1.units < cLine := by
    have : X.A.in1.units ≤ X.A.units + 1 := by simp [Around.in1, Around.units]
    omega
  have all : ∀ {zs : List Str} {its : List Value}, Vals (zs.map V.str) its → ∀ y ∈ its, ∃ z t, y = Value.str z t := by
    intro zs
    induction zs with
    | nil =>
      intro its r y hy
      cases r
      cases hy
    | cons z zs ih =>
      intro its r y hy
      cases r with
      | cons h t =>
        obtain ⟨tk, rfl⟩ := h
        rcases List.mem_cons.mp hy with rfl | hy
        · exact ⟨z, tk, rfl⟩
        · exact ih t y hy
  refine SeqAt.in_tupleAt (fun _ => false) pl (fun y hy => ?_) ⟨.bl false, H, I, ?_, q⟩
  · obtain ⟨z, t, rfl⟩ := all r y (by simpa using hy)
    rcases ha with ⟨xs, h⟩ | ⟨xs, h⟩ | ⟨k, h⟩
    · obtain ⟨its, _, p, _⟩ := I.list h
      exact SeqAt.EqAt.str_list z t p.isList hu1
    · obtain ⟨its, _, p, _⟩ := I.tuple h
      exact SeqAt.EqAt.str_tuple z t p hu1
    · obtain ⟨es, n, dd, sl, ho⟩ := dict_at I h
      exact SeqAt.EqAt.str_dict z t ho hu1
  · show Value.bool _ = Value.bool false
    congr 1
    simp
/-- a tuple != () -/
theorem op_neT0 {K : PySem.W.Frag} (hK : X.K = K) (hu : X.A.units + 64 < cLine) : OpR X (compareOp .NotEq) (fun x y H Q => ∃ (a b : Addr) (xs : List V), x = .ref a ∧ y = .ref b ∧ SqT K H a xs ∧ SqT K H b [] ∧ Q (.bl (!decide (xs = []))) H) := by
  subst hK
  intro pins s σ H x y v u Q I rx ry h
  obtain ⟨a, b, xs, rfl, rfl, ha, hb, q⟩ := h
  cases (show v = Value.ref a from rx)
  cases (show u = Value.ref b from ry)
  obtain ⟨its, r, p, _⟩ := I.tuple ha
  obtain ⟨its2, r2, p2, _⟩ := I.tuple hb
  obtain rfl := vals_nil r2
  have := SeqAt.RcNeAt.tuples (A := X.A) (e := fun _ => false) p p2 (by omega) (fun j j1 j2 => absurd j2 (by simp))
  have e : (!((List.range (min its.toArray.size ([] : List Value).toArray.size)).all (fun _ => false) && its.toArray.size == ([] : List Value).toArray.size)) = !decide (xs = []) := by
    have hl := r.length
    cases xs with
    | nil =>
      cases its with
      | nil => simp
      | cons _ _ => simp at hl
    | cons _ _ =>
      cases its with
      | nil => simp at hl
      | cons _ _ => simp
  rw [e] at this
  exact this _ _ _ _ ⟨.bl _, H, I, rfl, q⟩
end L2

namespace L2
open PySem PySem.Spec PyProof.Rows
/-! errors as values beside other data -/
/-- a value's type, errors too -/
def TyD (K : PySem.W.Frag) (H : Hp) (v : V) (t : Value) : Prop := TyX K H v t ∨ ∃ a C, v = .ref a ∧ t = .ref C ∧ H a = some (ExO (.ref C) a) ∧ ExcC K C
def rIsD (K : PySem.W.Frag) : List V → Hp → VK → Prop := fun xs H Q => ∃ (x c : V) (t u : Value) (b : Bool), xs = [x, c] ∧ ClsV c u ∧ TyD K H x t ∧ PySem.W.kitOne K t u = some b ∧ Q (.bl b) H
section
variable {X : Cx}
theorem call_isD {K : PySem.W.Frag} (hK : X.K = K) : CallR X (.builtin "isinstance") (rIsD K) := by
  subst hK
  intro pins s σ H xs us Q I r h
  obtain ⟨x, c, t, u, b, rfl, k, ty | ⟨a, C, rfl, rfl, ha, hC⟩, e, q⟩ := h
  · exact call_isi pins s σ H _ us Q I r ⟨x, c, t, u, b, rfl, k, ty, e, q⟩
  · obtain ⟨u1, u2, rfl, r1, r2⟩ := vals2 r
    have e2 := k.eq r2
    subst e2
    cases r1
    obtain ⟨⟨oe, vs, ho, hz, hd, _⟩, _, _⟩ := I.hok a _ ha
    have J : PySem.W.InstAt s.heap a oe C none := by
      obtain ⟨oc, od, oda, osl⟩ := oe
      obtain ⟨h1, h2⟩ := hz
      dsimp only at h1 h2 hd
      subst h1 h2 hd
      exact ⟨ho, rfl, rfl, trivial⟩
    exact PySem.W.kia_one (PySem.W.handS_kitx_exc hC.hg hC.hk hC.hs hC.hd hC.ha hC.hn hC.ht hC.hm) I.kIn J e (fun z => nomatch z) fun tk => ⟨.bl b, H, I.kept (t' := tk) fun _ _ z => z, rfl, q⟩
/-- C(), an own class of errors without own __init__, as a value -/
theorem pe_exc0 {C : Addr} {bmB : List Value} {B newId initId : String} {x : Str} {p pos : Pos} (F : ExcBaseFacts B newId initId bmB) (q : PySem.W.excIn X.K C bmB newId = true) (gC : X.mg x = some (.ref C)) (kC : PySem.W.keepIn X.K (.ref C) = true) (hg : Gl X x) (hdb : (x == ("__debug__" : Str)) = false := by decide) :
    PE X (.Call (.Name x p) [] [] pos) (fun σ H Q => ∀ a, H a = none → Q (.ref a) (upd H a (ExO (.ref C) a))) := by
  refine ⟨fun pins s σ H Q I h => ?_⟩
  refine wpAny_Call_Name_kw (ld_glob I hg gC ?_ hdb)
  refine PySem.W.callWith_K0 I.kIn kC ?_
  obtain ⟨bm, N, nm, qn, bs, hdct, sn, sub, ab, col, dd, k0, k1, k2, k3, k5, mN, hC, hN, hni, T⟩ := exc_obj I.kIn q
  refine wpAny_call_exc_subT F T hC hN hni (fun h' a hm => ?_) (Nat.zero_le _)
  have hn : H a = none := I.hok.gone hm.new
  obtain ⟨t, ht, _, _⟩ := hm.there
  exact ⟨.ref a, upd H a (ExO (.ref C) a), I.laidN hm.keeps hm.new hn (exO_ok ht ⟨rfl, rfl⟩ rfl rfl rfl (show 4 < 6 by decide)), rfl, h a hn⟩
/-- what a raising call wishes, where the store isn't told -/
def EL (n : Nat) (W : WX) : XK := fun c d H => ∀ σ : L2.St, σ.length = n → W c d σ H
theorem passEL {W : WX} {n : Nat} (hn : X.N.length = n) (tk : Takes X W) : Passes (L2.CX X.prog X.w) X (EL n W) := fun pins σ H s e s' I c => tk e s' (XE.of_call I (fun _ _ _ h => h σ (I.len.trans hn)) c)
end
end L2

namespace L2
open PySem PySem.Spec PyProof.Rows
/-! a law's own def, called from the top: nothing is being shown there -/
abbrev AllTrue : VK := fun r _ => r = .bl true
abbrev NoErr : XK := fun _ _ _ => False
/-- the def f keeps its promise where the claim's caller calls it with one thing -/
def TopOk (P : Program) (w : World) (K : PySem.W.Frag) (mg : Str → Option Value) (f : Addr) (fd : FuncData) (x : Str) (sp : Sp) : Prop :=
  ∀ (base : Heap) (s : Shared) (H : Hp) (u : Value) (v : V), Env0 P w K mg base callerA [] s H → RelV v u →
    BindsTo s fd ⟨[u], []⟩ [(x, u)] → sp [v] H AllTrue NoErr → codeAny (model P w) callerA (.call (.ref f) ⟨[u], []⟩) (CR CX0 [] P w H s AllTrue NoErr) s
/-- .. out of its body, read where no guard stands -/
theorem top_of {P : Program} {w : World} {K : PySem.W.Frag} {mg : Str → Option Value} {f : Addr} {fd : FuncData} {nm qual x : Str} {st : Stmt} {N : List Str} {k : Nat} {sp : Sp}
    (F : Fun K nm qual st f fd) (S : FnScope N [x] (defScope st)) (room : Room (k + 1) callerA)
    (body : ∀ (base : Heap) (cdv : Value) (A : Around) (s : Shared) (H : Hp) (v : V), A.guards = some [] → Room k (A.deeper (envOfC qual (defScope st) s.heap.objs.size f cdv)) → sp [v] H AllTrue NoErr →
      ∃ t, PSs (cxOf CX0 P w K mg base N qual (defScope st) f cdv A [] s H NoErr).nox (defBody st) t ∧
        t { nx := fun _ H1 => AllTrue .non H1, rt := AllTrue } (start N [v]) H) :
    TopOk P w K mg f fd x sp := by
  intro base s H u v e0 rv binds hsp
  obtain ⟨oc, od, kV, doc, pm, an, cdv, ct, osl, rfl, lk, known⟩ := F.ex
  have inH : ∀ b o, base.get? b = some o → s.heap.get? b = some o := fun b o q => (e0.bs b o q).1
  have lim := e0.mod.nolimit.keeps inH
  have here := e0.mod.kin.keeps inH
  obtain ⟨t, reads, ends⟩ := body base cdv callerA s H v rfl (room.deeper _) hsp
  refine codeAny_call_function room.depth (here _ _ lk) rfl S.co S.gen rfl (PySem.W.codeRec_of here known) (binds _ _ _ _ ?_)
  refine wpAny_newFunctionEnv_cells S.kind (fun y hy => ?_) fun env same s1 entered => ?_
  · cases List.mem_singleton.mp hy
    refine (S.par x List.mem_cons_self).imp id fun q => ⟨q, ?_⟩
    exact PySem.W.cellsFrom_some _ _ _ (.inl q)
  · cases same
    have I := inv_start (CX := CX0) (E := NoErr) (us := [u]) (vs := [v]) S room.hd e0 rfl (.cons rv .nil) entered
    refine ⟨lim.keeps entered.toInCall.keep, codeAny_func ?_⟩
    refine wpAny_mono (reads.nox.run [] s1 (start N [v]) H _ I ends) (fun fl s2 got => ?_) fun _ _ z => z
    match fl, got with
    | .ret _, ⟨r, _, H2, J, rr, q⟩ => exact ⟨r, H2, J.os, J.bare, J.base, J.hok, rr, q⟩
    | .next, ⟨_, H2, J, q⟩ => exact ⟨.non, H2, J.os, J.bare, J.base, J.hok, rfl, q⟩
    | .brk, ⟨_, _, _, q⟩ => exact q.elim
    | .cont, ⟨_, _, _, q⟩ => exact q.elim
/-- the script, where the module doesn't have it itself -/
def oneS (a : Addr) (vs : List Value) (ns : List Int) : Hp := fun b => if b = a then some (.frz { cls := .type "list", data := .seq vs.toArray } (.lst (ns.map V.int))) else none
theorem oneS_is {a b : Addr} {vs : List Value} {ns : List Int} {u : HO} (h : oneS a vs ns b = some u) : b = a ∧ u = .frz { cls := .type "list", data := .seq vs.toArray } (.lst (ns.map V.int)) := by
  unfold oneS at h
  split at h
  · exact ⟨‹_›, (Option.some.inj h).symm⟩
  · cases h
/-- a start for the law's def: what it tracks is the script or nothing -/
theorem top_run {P : Program} {w : World} {K : PySem.W.Frag} {mg mb : Str → Option Value} {f a : Addr} {fd : FuncData} {x : Str} {sp : Sp} {s : Shared} {vs : List Value} {H : Hp}
    (inK : K.In s.heap) (globals : s.heap.Ns mainGlobals mg) (built : s.heap.Ns builtinsNs mb) (asBoot : ∀ y : Str, y ≠ "__name__" → mb y = bootBuiltins y) (lim : s.heap.NoLimit) (quiet : s.gens = #[])
    (script : s.heap.get? a = some { cls := .type "list", data := .seq vs.toArray }) (only : ∀ b u, H b = some u → b = a ∧ K.lookup a = none ∧ ∃ xs, u = .frz { cls := .type "list", data := .seq vs.toArray } (.lst xs))
    (hok : HOk P w H s.heap) (law : TopOk P w K mg f fd x sp) (binds : ∀ (s : Shared) (u : Value), BindsTo s fd ⟨[u], []⟩ [(x, u)]) (promise : sp [.ref a] H AllTrue NoErr) :
    codeAny (model P w) callerA (.call (.ref f) ⟨[.ref a], []⟩) (fun r s2 => r = .ok (.ret (.bool true)) ∧ OldK s.heap s2.heap ∧ s2.os = s.os ∧ AllBare s2.gens) s := by
  have free : ∀ {b : Addr} {o : Obj}, s.heap.get? b = some o → (b = a → K.lookup a = none → False) → H b = none := fun {b o} e no => by
    cases q : H b with
    | none => rfl
    | some u => exact (no (only b u q).1 (only b u q).2.1).elim
  have names : ∀ {b : Addr} {m : Str → Option Value}, s.heap.Ns b m → (hidT s.heap H).Ns b m := fun {b m} ⟨o, es, n, e, d, more⟩ => by
    refine ⟨o, es, n, hidT_get e (free e fun z _ => ?_), d, more⟩
    rw [z, script] at e
    cases e
    cases d
  have modK : K.In (hidT s.heap H) := fun b o e => hidT_get (inK b o e) (free (inK b o e) fun z no => by rw [z, no] at e; cases e)
  have start : Env0 P w K mg (hidT s.heap H) callerA [] s H :=
    { frames := rfl
      mod := ⟨modK, names globals, ⟨mb, names built, asBoot⟩, let ⟨m, l1, l2⟩ := lim; ⟨m, names l1, l2⟩⟩
      bs := fun _ _ e => of_hidT e
      bsz := by rw [hidT_size]; exact Nat.le_refl _
      funs := trivial
      frf := fun _ hb => nomatch hb
      hok := hok
      bare := .of_eq quiet }
  refine codeAny_mono (law _ s H (.ref a) (.ref a) start rfl (binds s _) promise) fun r s2 got => ?_
  match r, got with
  | .error _, z => exact z.elim
  | .ok .next, z => exact z.elim
  | .ok .brk, z => exact z.elim
  | .ok .cont, z => exact z.elim
  | .ok (.ret u), ⟨v, H2, os, bare, un, hok2, rv, yes⟩ =>
    subst yes
    cases rv
    refine ⟨rfl, OldK.of_keep fun b o e => ?_, os, bare⟩
    cases q : H b with
    | none => exact un.keep b o e q (fun z => nomatch z) (fun z => nomatch z)
    | some u0 =>
      obtain ⟨_, _, xs, rfl⟩ := only b u0 q
      have before := (hok b _ q).1
      have after := (hok2 b _ (un.frzs b _ _ q)).1
      rw [e] at before
      cases before
      exact after
/-- the law's promise, where the claim's caller asks it -/
theorem law_top {P : Program} {w : World} {K : PySem.W.Frag} {mg mb : Str → Option Value} {f a : Addr} {fd : FuncData} {x : Str} {sp : Sp} {s : Shared} {vs : List Value} {ns : List Int}
    (inK : K.In s.heap) (globals : s.heap.Ns mainGlobals mg) (built : s.heap.Ns builtinsNs mb) (asBoot : ∀ y : Str, y ≠ "__name__" → mb y = bootBuiltins y) (lim : s.heap.NoLimit) (quiet : s.gens = #[])
    (script : s.heap.get? a = some { cls := .type "list", data := .seq vs.toArray }) (inums : IntsAre vs ns) (short : ns.length ≤ sizeLine)
    (law : TopOk P w K mg f fd x sp) (binds : ∀ (s : Shared) (u : Value), BindsTo s fd ⟨[u], []⟩ [(x, u)]) (promise : ∀ H : Hp, SqL K H a (ns.map V.int) → sp [.ref a] H AllTrue NoErr) :
    codeAny (model P w) callerA (.call (.ref f) ⟨[.ref a], []⟩) (fun r s2 => r = .ok (.ret (.bool true)) ∧ OldK s.heap s2.heap ∧ s2.os = s.os ∧ AllBare s2.gens) s := by
  have items := vals_ints inums
  have long := inums.length
  by_cases own : ∃ o, K.lookup a = some o
  · obtain ⟨o, own⟩ := own
    have e := inK a o own
    rw [script] at e
    cases e
    refine top_run (H := fun _ => none) inK globals built asBoot lim quiet script (fun _ _ z => nomatch z) (fun _ _ z => nomatch z) law binds (promise _ (.inr ?_))
    exact ⟨_, vs.toArray, _, own, rfl, rfl, rfl, by rw [List.size_toArray, long]; exact short, by simpa using items⟩
  · have none_ : K.lookup a = none := by
      cases q : K.lookup a with
      | none => rfl
      | some o => exact absurd ⟨o, q⟩ own
    refine top_run (H := oneS a vs ns) inK globals built asBoot lim quiet script (fun b u z => ⟨(oneS_is z).1, none_, _, (oneS_is z).2⟩) (fun b u z => ?_) law binds (promise _ (.inl (.inr ⟨_, if_pos rfl⟩)))
    obtain ⟨rfl, rfl⟩ := oneS_is z
    exact ⟨script, by rw [List.length_map]; exact short, vs, _, items, script⟩
/-- the goal of a law's row, from a promise that the top alone asks for -/
theorem walk_top {l : PySem.W.OpenLaw} {n : Nat} {q : Program} {loose : List Str} {XP : (Str → Option Value) → Heap → Prop} {YP : World → Heap → Prop} {d : DefRec} {K : Params → PySem.W.Frag} {sp : World → Sp} {x : Str}
    (most : l.most = some n) (short : n ≤ sizeLine) (noDefaults : d.params.defaults = []) (inK : ∀ (w : World) (h : Heap), YP w h → (K w.params).In h)
    (law : ∀ (w : World) (mg : Str → Option Value) (f : Addr) (h : Heap), (K w.params).In h → h.Ns mainGlobals mg → mg d.name = some (.ref f) →
      ∃ fd : FuncData, (∀ (s : Shared) (u : Value), BindsTo s fd ⟨[u], []⟩ [(x, u)]) ∧ TopOk l.prog w (K w.params) mg f fd x (sp w))
    (promise : ∀ (w : World) (H : Hp) (a : Addr) (ns : List Int), ns.length ≤ n → SqL (K w.params) H a (ns.map V.int) → sp w [.ref a] H AllTrue NoErr) :
    PySem.W.WalkO q loose XP YP l.row.toRowW d [] (fun f vs => PySem.call f vs) := by
  refine Att.attach_call most noDefaults fun w s0 s1 mg mb f o pm cd doc a vs ns G Y there data codes at_ list inums few quiet => ?_
  obtain ⟨fd, binds, run⟩ := law w mg f _ (inK w _ Y) G.T.g at_
  exact law_top (inK w _ Y) G.T.g G.T.b G.T.builtins G.T.nolimit quiet list inums (Nat.le_trans few short) run binds fun H hS => promise w H a ns few hS
end L2

namespace PySem
open Sem (wp)
open Builtin Builtin.Str Builtin.BaseException Builtin.Exceptions
open PySem.W (Looks Frag findIn subIn clsIn looks_findIn looks_subIn looks_clsIn)
/-- what an own class of errors must say, so that repr shows its instances: its name and () -/
structure ExR (K : Frag) (C : Addr) (n : String) : Prop where
  hr : findIn K (.ref C) "__repr__" = some (some (.builtin "BaseException.__repr__"))
  hB : subIn K (.ref C) (.type "BaseException") = some true
  nm : ∃ cd, clsIn K C = some cd ∧ cd.name.toString = n
def exrText (n : String) : Str := Str.ofString ((n.cutAt '.').getLastD "") ++ tupleText []
section
variable {prog : Program} {w : World} {M : Model} {A : Around} {E : Value → Shared → Prop} {s : Shared} {K : Frag} {C e t0 : Addr} {n : String}
theorem typeNameOfWhole_C {Q : String → Shared → Prop} (x : ExcC K C e t0 s.heap) (R : ExR K C n) (q : Q n s) : wpAny M A (typeNameOfWhole (.ref e)) Q E s := by
  obtain ⟨cd, hcd, rfl⟩ := R.nm
  unfold typeNameOfWhole shownTypeOf
  refine wpAny_bind (wpAny_bind (x.LT.here ?_))
  rw [if_neg (by intro z; cases z)]
  refine wpAny_pure ?_
  show wpAny M A (typeNameWhole (.ref C)) _ _ _
  unfold typeNameWhole
  exact wpAny_bind ((looks_clsIn x.1 hcd).here (wpAny_pure q))
theorem bexcReprAt_C (b : Nat) {Q : Fin → Shared → Prop} (x : ExcC K C e t0 s.heap) (R : ExR K C n) (ht : s.heap.TupAt t0 [])
    (hsub : ∀ Q' : Str → Shared → Prop, (∀ h' tk, (∀ b o, s.heap.get? b = some o → h'.get? b = some o) → Q' (tupleText []) { s with heap := h', toks := tk }) → wpAny M A (pyReprUnder (b + (Str.ofString ((n.cutAt '.').getLastD "")).length) (.ref t0)) Q' E s)
    (hq : ∀ h' tk u, (∀ b o, s.heap.get? b = some o → h'.get? b = some o) → Q (.done (.ret (.str (exrText n) u))) { s with heap := h', toks := tk }) (hsz : (exrText n).length ≤ sizeLine) :
    wpAny M A (Builtin.bexcReprAt b ⟨[.ref e], []⟩) Q E s := by
  unfold Builtin.bexcReprAt
  refine wpAny_bind (m := slotArgs "__repr__" 0 _) (wpAny_pure ?_)
  refine wpAny_bind (typeNameOfWhole_C x R ?_)
  refine wpAny_bind (bexcArgs_C x ht ?_)
  dsimp only
  refine wpAny_bind (hsub _ fun h' tk hk => ?_)
  have hsz : (Str.ofString ((n.cutAt '.').getLastD "") ++ tupleText []).length ≤ sizeLine := hsz
  unfold retStr
  repeat wp_step
  exact hq _ _ _ hk
/-- its special, as repr asks it -/
theorem specialOf_C {name : Str} {i : String} {Q : Option Value → Shared → Prop} (x : ExcC K C e t0 s.heap) (hf : findIn K (.ref C) name = some (some (.builtin i))) (q : Q (some (.builtin i)) s) : wpAny M A (specialOf (.ref e) name) Q E s := by
  unfold specialOf
  exact wpAny_bind (x.LT.here ((looks_findIn x.1 hf).here q))
theorem ifBoundBy_C {last : Value → List Value → Sem Value} {name : Str} {i : String} {Q : Option Value → Shared → Prop} (x : ExcC K C e t0 s.heap) (hf : findIn K (.ref C) name = some (some (.builtin i))) (hb : bindSpecial (.builtin i) (.ref e) = pure (.builtin i, [.ref e]))
    (hc : wpAny M A (last (.builtin i) [.ref e]) (fun v => Q (some v)) E s) : wpAny M A (callSpecialIfBoundBy? last (.ref e) name) Q E s := by
  simp only [callSpecialIfBoundBy?, bindSpecialIfBound?]
  refine wpAny_holding (wpAny_bind (wpAny_bind (specialOf_C x hf ?_)))
  simp only [hb]
  refine wpAny_bind (wpAny_askSetting (wpAny_ite ?_))
  have fin : wpAny M A (last (.builtin i) [.ref e] >>= fun v => pure (some v)) Q E s :=
    wpAny_bind (wpAny_mono hc (fun v s' h' => wpAny_pure h') fun _ _ h' => h')
  split
  · exact wpAny_bind (wpAny_pure (wpAny_pure fin))
  · exact wpAny_tryCatch (wpAny_bind (wpAny_pure (wpAny_pure fin)))
theorem ifBound_C {name : Str} {i : String} {Q : Option Value → Shared → Prop} (x : ExcC K C e t0 s.heap) (hf : findIn K (.ref C) name = some (some (.builtin i))) (hb : bindSpecial (.builtin i) (.ref e) = pure (.builtin i, [.ref e]))
    (hc : wpAny M A (call (.builtin i) [.ref e]) (fun v => Q (some v)) E s) : wpAny M A (callSpecialIfBound? (.ref e) name) Q E s := by
  simp only [callSpecialIfBound?, bindSpecialIfBound?]
  refine wpAny_holding (wpAny_bind (wpAny_bind (specialOf_C x hf ?_)))
  simp only [hb]
  refine wpAny_bind (wpAny_askSetting (wpAny_ite ?_))
  have fin : wpAny M A (call (.builtin i) ([.ref e] ++ []) >>= fun v => pure (some v)) Q E s :=
    wpAny_bind (wpAny_mono hc (fun v s' h' => wpAny_pure h') fun _ _ h' => h')
  split
  · exact wpAny_bind (wpAny_pure (wpAny_pure fin))
  · exact wpAny_tryCatch (wpAny_bind (wpAny_pure (wpAny_pure fin)))
end
section
variable {prog : Program} {w : World} {K : Frag} {C e t0 : Addr} {n : String} {h₀ : Heap}
/-- its empty tuple, shown -/
theorem tup0_K {ot : Obj} {k : Nat} (ht : h₀.get? t0 = some ot) (hc : ot.cls = .type "tuple") (hd : ot.data = .seq #[] k) : ReprK prog w [t0] h₀ 1 (.ref t0) (tupleText []) :=
  ReprK.tuple (as := []) (d := 0) ht hc hd (fun h => nomatch h) .nil
theorem exc_bind (e : Addr) : bindSpecial (.builtin "BaseException.__repr__") (.ref e) = pure (.builtin "BaseException.__repr__", [.ref e]) := F.excStr_Exception.repr.bind _
/-- an own error without arguments, shown within others -/
theorem exc_K (x : ExcC K C e t0 h₀) (R : ExR K C n) {ot : Obj} {k : Nat} (ht : h₀.get? t0 = some ot) (hc : ot.cls = .type "tuple") (hd : ot.data = .seq #[] k) : ReprK prog w [t0] h₀ 2 (.ref e) (exrText n) := by
  intro base hb A g E s Q hg hcl hu hk0 hQ
  have xs : ExcC K C e t0 s.heap := by
    obtain ⟨kin, o, vs, ho, h1, h2, h3⟩ := x
    exact ⟨fun b o e => hk0 _ _ (kin b o e), o, vs, hk0 _ _ ho, h1, h2, h3⟩
  have ts : s.heap.TupAt t0 [] := ⟨ot, k, hk0 _ _ ht, hc, hd⟩
  have elen : (exrText n).length = (Str.ofString ((n.cutAt '.').getLastD "")).length + (tupleText []).length := by
    unfold exrText
    rw [strLen_append]
  refine wpAny_pyReprUnder_ref (by omega) ?_
  unfold pyReprObjUnder pyReprObjBy
  refine wpAny_bind (wpAny_cRoomFor (by omega) ?_)
  refine wpAny_bind (specialOf_C xs R.hr ?_)
  refine wpAny_bind (ifBoundBy_C xs R.hr (exc_bind e) ?_)
  show wpAny _ _ (call (.builtin "BaseException.__repr__.under") [.ref e, rawInt base]) _ _ _
  refine wpAny_call (codeAny_call_builtin F.plain_bexc_repr_under F.entry_bexc_repr_under ?_)
  rw [F.check_bexc_repr_under]
  refine wpAny_pure ?_
  show wpAny _ _ (reprTwin "BaseException.__repr__" Builtin.bexcReprAt ⟨[.ref e, rawInt base], []⟩) _ _ _
  rw [reprTwin_eq]
  refine wpAny_bind (@PySem.W.check_slot (model prog w) _ _ s "BaseException.__repr__" "BaseException" "__repr__" (.ref e) [] [] _ (by decide +kernel) (by decide +kernel) (xs.LI R.hB) (F.args_bexc_repr _) ?_)
  refine bexcReprAt_C base xs R ts (fun Q' q => tup0_K ht hc hd (base + _) (by omega) A.in1 g _ s Q' hg hcl (by show A.units + 1 + 1 < cLine; omega) hk0 q) (fun h' tk u hk => ?_) (by omega)
  exact wpAny_bind (wpAny_isInstance (T := "str") (b := true) rfl isSubtype_str_str (wpAny_pure ⟨_, _, rfl, hQ h' tk hk⟩))
/-- repr of an own error without arguments -/
theorem call_repr_C {A : Around} {E : Value → Shared → Prop} {s : Shared} {Q : Value → Shared → Prop} (x : ExcC K C e t0 s.heap) (R : ExR K C n) {ot : Obj} {k : Nat} (ht : s.heap.get? t0 = some ot) (hc : ot.cls = .type "tuple") (hd : ot.data = .seq #[] k)
    (hg : A.guards = some []) (hu : A.units + 4 < cLine) (hsz : (exrText n).length ≤ sizeLine)
    (hQ : ∀ h' u tk, (∀ b o, s.heap.get? b = some o → h'.get? b = some o) → Q (.str (exrText n) u) { s with heap := h', toks := tk }) : wpAny (model prog w) A (call (.builtin "repr") [.ref e]) Q E s := by
  have ts : s.heap.TupAt t0 [] := ⟨ot, k, ht, hc, hd⟩
  have elen : (exrText n).length = (Str.ofString ((n.cutAt '.').getLastD "")).length + (tupleText []).length := by
    unfold exrText
    rw [strLen_append]
  refine Calls.call_function_entry F.kind_repr F.plain_repr F.entry_repr (F.args_repr1 _) ?_
  unfold Builtin.«repr»
  refine wpAny_bind (m := oneArg "repr" _) (wpAny_pure ?_)
  refine wpAny_bind (m := cRoomFor _ _) (wpAny_cRoomFor (by show A.units + 1 < cLine; omega) ?_)
  refine wpAny_bind (specialOf_C x R.hr ?_)
  refine wpAny_bind (ifBound_C x R.hr (exc_bind e) ?_)
  refine wpAny_call (codeAny_call_builtin F.excStr_Exception.repr.plain F.entry_bexc_repr (@PySem.W.check_slot (model prog w) _ _ s "BaseException.__repr__" "BaseException" "__repr__" (.ref e) [] [] _ (by decide +kernel) (by decide +kernel) (x.LI R.hB) (F.args_bexc_repr _) ?_))
  refine bexcReprAt_C 0 x R ts (fun Q' q => tup0_K ht hc hd (0 + _) (by omega) A.in1.in1 [] _ s Q' hg (fun b _ => Clear.nil b) (by show A.units + 1 + 1 + 1 < cLine; omega) (fun _ _ e => e) q) (fun h' tk u hk => ?_) hsz
  refine wpAny_bind (wpAny_isInstance (T := "str") (b := true) rfl isSubtype_str_str ?_)
  exact wpAny_pure ⟨_, rfl, hQ h' u tk hk⟩
end
end PySem

namespace L2
open PySem PySem.Spec PyProof.Rows
/-- an own error without arguments, its empty tuple at t -/
def ExN (C : Addr) (a t : Addr) : HO := .ext fun h => ∃ (oe : Obj) (vs : Array Value), h.get? a = some oe ∧ Zc (.ref C) none oe ∧ oe.data = .fields vs ∧ vs[0]? = some (.ref t)
theorem exN_ok {P : Program} {w : World} {H : Hp} {h : Heap} {a t C : Addr} {oe : Obj} {vs : Array Value} (e : h.get? a = some oe) (z : Zc (.ref C) none oe) (d : oe.data = .fields vs) (h1 : vs[0]? = some (.ref t)) : ObjOk P w H h a (ExN C a t) :=
  ⟨⟨oe, vs, e, z, d, h1⟩, ⟨oe, e⟩, fun _ _ ⟨o, v, q, r⟩ k => ⟨o, v, k o q, r⟩⟩
theorem Un.laid2 {fs ex : List Addr} {H : Hp} {h h' : Heap} {a b : Addr} {o u : HO} (k : ∀ c x, h.get? c = some x → h'.get? c = some x) (ha : h.get? a = none) (hb : h.get? b = none) (na : H a = none) (nb : H b = none) (ne : a ≠ b) : Un fs ex H (upd (upd H b u) a o) h h' where
  keep := fun c x q _ _ _ => k c x q
  slot := fun c x q _ _ _ => ⟨x.slots, k c x q⟩
  free := fun c x q n _ => by rw [upd_ne (fun z => by rw [z, ha] at q; cases q), upd_ne (fun z => by rw [z, hb] at q; cases q)]; exact n
  there := fun c x q _ => ⟨x, k c x q⟩
  tups := fun c xs q => by rw [upd_ne (ne_of_none q na), upd_ne (ne_of_none q nb)]; exact q
  frzs := fun c x xs q => by rw [upd_ne (ne_of_none q na), upd_ne (ne_of_none q nb)]; exact q
  tbls := fun c ps q => ⟨#[], by rw [upd_ne (ne_of_none q na), upd_ne (ne_of_none q nb), q]; simp⟩
section
variable {X : Cx}
/-- C(), an own class of errors without own __init__, as a value with its tuple -/
theorem pe_excN {C : Addr} {bmB : List Value} {B newId initId : String} {x : Str} {p pos : Pos} (F : ExcBaseFacts B newId initId bmB) (q : PySem.W.excIn X.K C bmB newId = true) (gC : X.mg x = some (.ref C)) (kC : PySem.W.keepIn X.K (.ref C) = true) (hg : Gl X x) (hdb : (x == ("__debug__" : Str)) = false := by decide) :
    PE X (.Call (.Name x p) [] [] pos) (fun σ H Q => ∀ a t o, a ≠ t → H a = none → H t = none → o.dict = none → Q (.ref a) (upd (upd H t (.frz o (.tup []))) a (ExN C a t))) := by
  refine ⟨fun pins s σ H Q I h => ?_⟩
  refine wpAny_Call_Name_kw (ld_glob I hg gC ?_ hdb)
  refine PySem.W.callWith_K0 I.kIn kC ?_
  obtain ⟨bm, N, nm, qn, bs, hdct, sn, sub, ab, col, dd, k0, k1, k2, k3, k5, mN, hC, hN, hni, T⟩ := exc_obj I.kIn q
  refine wpAny_call_exc_subT F T hC hN hni (fun h' a hm => ?_) (Nat.zero_le _)
  have hn : H a = none := I.hok.gone hm.new
  obtain ⟨t, ht, htn, htt⟩ := hm.there
  have htn : s.heap.get? t = none := htn
  have nt : H t = none := I.hok.gone htn
  have ne : a ≠ t := fun z => by
    rw [z] at ht
    have := ht.symm.trans htt
    cases this
  have htt : h'.get? t = some ({ cls := .type "tuple", data := .seq #[] } : Obj) := htt
  have o1 : ∀ o : Obj, o = { cls := .type "tuple", data := .seq #[] } → ObjOk X.prog X.w (upd H t (.frz o (.tup []))) h' t (.frz o (.tup [])) := fun o e => by
    subst e
    exact ⟨htt, Nat.zero_le _, [], .nil, ⟨_, htt, rfl, _, rfl⟩⟩
  obtain ⟨o, eo⟩ : ∃ o : Obj, o = { cls := .type "tuple", data := .seq #[] } := ⟨_, rfl⟩
  have H1 : HOk X.prog X.w (upd H t (.frz o (.tup []))) h' := I.hok.laidN hm.keeps nt (o1 o eo)
  have hn1 : (upd H t (.frz o (.tup []))) a = none := (upd_ne ne).trans hn
  exact ⟨.ref a, upd (upd H t (.frz o (.tup []))) a (ExN C a t), I.un (Un.laid2 hm.keeps hm.new htn hn nt ne) (H1.laidN (fun _ _ z => z) hn1 (exN_ok ht ⟨rfl, rfl⟩ rfl rfl)), rfl, h a t o ne hn nt (by rw [eo])⟩
end
end L2

/-! plain tuples: slices of them, their sums, turned round -/
namespace L2
open PySem PySem.Spec PyProof.Rows HT
section
variable {prog : Program} {w : World} {A : Around} {E : Value → Shared → Prop} {s : Shared}
theorem rev_places (n : Nat) : Builtin.Slice.slicePlaces ((n : Int) - 1) (-1) (-1) = n := by
  unfold Builtin.Slice.slicePlaces
  have h1 : ¬ ((-1 : Int) > 0) := by decide
  simp only [h1, if_false, show (- -1 : Int) = 1 by decide, Int.ediv_one]
  split <;> omega
theorem rev_adjust (n : Nat) : Builtin.Slice.sliceAdjust none none (-1) (n : Int) = ((n : Int) - 1, -1) := by
  unfold Builtin.Slice.sliceAdjust
  simp
theorem sliceApplied_rev {sl : Addr} {vs : Value} {n : Nat} {Q : Int × Int × Nat → Shared → Prop} (hs : s.heap.IsSliceOf sl .none .none vs) (ps : IsPart vs (some (-1)))
    (h : Q (((n : Int) - 1), -1, n) s) : wpAny (model prog w) A (Builtin.Slice.sliceApplied (.ref sl) (pure (n : Int))) Q E s := by
  obtain ⟨os, hos, hcs, hds⟩ := id hs
  unfold Builtin.Slice.sliceApplied Builtin.Slice.sliceFields
  refine wpAny_bind (wpAny_bind (wpAny_field hos hds (x := .none) rfl (wpAny_bind (wpAny_field hos hds (x := .none) rfl (wpAny_bind (wpAny_field hos hds (x := vs) rfl (wpAny_pure ?_)))))))
  refine wpAny_bind (slicePart_ ps ?_)
  show wpAny _ _ (if ((-1 : Int) == 0) = true then _ else _) _ _ s
  rw [if_neg (by decide)]
  refine wpAny_bind (slicePart_none (wpAny_bind (slicePart_none (wpAny_bind (wpAny_pure ?_)))))
  show wpAny _ _ (match Builtin.Slice.sliceAdjust none none (-1) (n : Int) with | (lo, hi) => pure (lo, (-1 : Int), Builtin.Slice.slicePlaces lo hi (-1))) _ _ s
  rw [rev_adjust]
  show wpAny _ _ (pure (((n : Int) - 1), (-1 : Int), Builtin.Slice.slicePlaces ((n : Int) - 1) (-1) (-1))) _ _ s
  rw [rev_places]
  exact wpAny_pure h
theorem fm_congr {α β : Type} {f g : α → Option β} : ∀ {l : List α}, (∀ x ∈ l, f x = g x) → l.filterMap f = l.filterMap g
  | [], _ => rfl
  | x :: l, h => by
    rw [List.filterMap_cons, List.filterMap_cons, h x List.mem_cons_self, fm_congr (l := l) fun y hy => h y (List.mem_cons_of_mem _ hy)]
theorem same_fresh {H : Hp} {p : Addr} {u : HO} (h : H p = none) : Same H (upd H p u) := fun b o e => by
  rw [upd_ne (ne_of_none e h)]
  exact e
theorem rev_pick (xs : Array Value) : ((List.range xs.size).filterMap fun (m : Nat) => xs[(((xs.size : Nat) : Int) - 1 + (m : Int) * (-1)).toNat]?).toArray = xs.toList.reverse.toArray := by
  have e1 : ((List.range xs.size).filterMap fun (m : Nat) => xs[(((xs.size : Nat) : Int) - 1 + (m : Int) * (-1)).toNat]?) = (List.range xs.size).filterMap fun (m : Nat) => xs[xs.size - 1 - m]? := by
    refine fm_congr fun m hm => ?_
    have := List.mem_range.mp hm
    rw [show (((xs.size : Nat) : Int) - 1 + (m : Int) * (-1)).toNat = xs.size - 1 - m by omega]
  rw [e1]
  have e2 : ((List.range xs.size).filterMap fun (m : Nat) => xs[xs.size - 1 - m]?) = ((List.range xs.size).map fun k => xs.size - 1 - k).filterMap (xs[·]?) := by
    rw [List.filterMap_map]
    rfl
  rw [e2, PySem.W.krv_range, List.filterMap_reverse, PySem.W.krv_all]
/-- t[::-1] makes a new tuple: the slice is never the whole, for its step is -1 -/
theorem getItem_tuple_rev {t sl : Addr} {its : Array Value} {step : Value} {Q : Value → Shared → Prop} (isT : IsTup s.heap t its) (isSl : s.heap.IsSliceOf sl .none .none step) (minus : IsPart step (some (-1)))
    (q : Q (.ref s.heap.objs.size) { s with heap := s.heap.push { cls := .type "tuple", data := .seq its.toList.reverse.toArray } }) (small : its.size ≤ sizeLine) : wpAny (model prog w) A (getItem (.ref t) (.ref sl)) Q E s := by
  have fits : sizeOk (.seq its.toList.reverse.toArray) := by
    show its.toList.reverse.toArray.size ≤ _
    simpa using small
  have tySl : s.TypeIs (.ref sl) "slice" := let ⟨o, g, c, _⟩ := isSl; ⟨o, g, c⟩
  have notWhole : (((((its.size : Nat) : Int) - 1) == 0 && (-1 : Int) == 1) && its.size == its.size) = false := by simp
  unfold getItem
  try with_reducible refine wpAny_holding ?_
  try refine wpAny_bind (wpAny_pure ?_)
  refine wpAny_bind (wpAny_sequenceKey isT.typeIs (by decide) (wpAny_bind (wpAny_callSpecial?_slot (name := Str.ofString "__getitem__") isT.typeIs PyProof.Rows.slot_tuple_getitem (wpAny_call_entry PyProof.Rows.slot_tuple_getitem isT.typeIs entry_tuple_getitem ?_ (args_tuple_getitem _ _)))))
  show wpAny _ _ (Builtin.Tuple.tupleItemsOf (.ref t) >>= _) _ _ s
  refine wpAny_bind (tupleItemsOf_ isT (wpAny_bind (wpAny_typeOf tySl ?_)))
  rw [if_pos (by decide)]
  refine wpAny_bind (sliceApplied_rev isSl minus ?_)
  show wpAny _ _ (if ((((its.size : Nat) : Int) - 1) == 0 && (-1 : Int) == 1 && its.size == its.size) = true then _ else _) _ _ s
  rw [notWhole, if_neg (by decide), rev_pick]
  first
    | exact wpAny_bind (m := Builtin.Tuple.tupleExact _) (wpAny_newObj_type (wpAny_pure ⟨_, rfl, wpAny_pure q⟩) fits)
    | exact wpAny_bind (wpAny_bind (m := Builtin.Tuple.tupleExact _) (wpAny_newObj_type (wpAny_pure (wpAny_pure ⟨_, rfl, wpAny_pure q⟩)) fits))
    | exact wpAny_bind (wpAny_bind (m := Builtin.Tuple.tupleExact _) (wpAny_newObj_type (wpAny_pure ⟨_, rfl, wpAny_pure q⟩) fits))
end
section
variable {X : Cx}
/-- t[::-1], a plain tuple -/
def tRevP (K : PySem.W.Frag) (te : TE) : TE := fun σ H Q => te σ H fun x H1 => ∃ a xs, x = .ref a ∧ SqT K H1 a xs ∧ ∀ p H', Same H1 H' → Ptp H' p xs.reverse → Q (.ref p) H'
theorem pe_revP {e : Expr} {te : TE} {k : Nat} {p1 p2 p3 pos : Pos} (he : PE X e te) : PE X (.Subscript e (.Slice none none (some (.UnaryOp .USub (.Constant (.int 1) k p1) p2)) p3) pos) (tRevP X.K te) := by
  refine ⟨fun pins s σ H Q I h => ?_⟩
  refine Subscript_ (thn (he.run pins s σ H _ I h) fun v s1 ⟨x, H1, I1, r1, q1⟩ => ?_)
  obtain ⟨a, xs, ex, hx, q⟩ := q1
  subst ex
  cases r1
  have hst : PO X (some (.UnaryOp .USub (.Constant (.int 1) k p1) p2)) (tPart (tUn (rU fun i => .int (-i)) (tC (.int 1)))) := po_some (pe_un un_neg pe_int)
  refine wpAny_Slice (thn (po_none.run pins s1 σ H1 (fun o H2 => o = none ∧ H2 = H1) I1 ⟨rfl, rfl⟩) fun vl s2 ⟨l, H2, I2, pl, el, e2⟩ => ?_)
  subst el e2
  refine thn (po_none.run pins s2 σ H2 (fun o H3 => o = none ∧ H3 = H2) I2 ⟨rfl, rfl⟩) fun vu s3 ⟨u, H3, I3, pu, eu, e3⟩ => ?_
  subst eu e3
  refine thn (hst.run pins s3 σ H3 (fun o H4 => o = some (-1) ∧ H4 = H3) I3 ⟨1, rfl, -1, rfl, rfl, rfl⟩) fun vs s4 ⟨o, H4, I4, ps, eo, e4⟩ => ?_
  subst eo e4
  cases pl
  cases pu
  have I5 : Inv X pins σ H4 { s4 with heap := s4.heap.push { cls := .type "slice", data := .fields #[.none, .none, vs] } } := I4.kept (t' := s4.toks) fun b ob q => Heap.get?_push_of_some _ q
  obtain ⟨its, r, ht, hz⟩ := I5.tuple hx
  have hlen := r.length
  show wpAny (model X.prog X.w) X.A (subscriptTail e (.Slice none none (some (.UnaryOp .USub (.Constant (.int 1) k p1) p2)) p3) (.ref a) (.ref s4.heap.objs.size)) (EP X pins σ Q) X.xe { s4 with heap := s4.heap.push { cls := .type "slice", data := .fields #[.none, .none, vs] } }
  refine tail_any (ops := [.ref a, .ref s4.heap.objs.size]) ht.typeIs (PyProof.Rows.slot_tuple_getitem.lookup) ?_ (by with_unfolding_all rfl)
  refine getItem_tuple_rev ht (Heap.IsSliceOf.new _ .none .none vs) ps ?_ (by rw [List.size_toArray]; omega)
  have hf := I5.hok.fresh (Nat.le_refl _)
  refine ⟨.ref _, _, I5.laid (t' := s4.toks) (o := .frz { cls := .type "tuple", data := .seq its.reverse.toArray } (.tup xs.reverse)) (fun b ob q => Heap.get?_push_of_some _ q) (Nat.le_refl _) ?_, rfl, q _ _ (same_fresh hf) ⟨_, upd_same, rfl⟩⟩
  exact ⟨Heap.get?_push_size _ rfl, by rw [List.length_reverse]; exact hz, _, r.reverse, ⟨_, Heap.get?_push_size _ rfl, rfl, _, rfl⟩⟩
/-- t[lo:hi], t a plain tuple: a plain tuple -/
def rSlP (K : PySem.W.Frag) : V → Option Int → Option Int → Hp → VK → Prop := fun x lo hi H Q => ∃ a xs, x = .ref a ∧ Ptp H a xs ∧ ∀ p H', Same H H' → Ptp H' p (cutV xs lo hi) → Q (.ref p) H'
theorem cutV_whole {xs : List V} {lo hi : Option Int} (h : HT.sIx xs.length 0 lo = 0 ∧ HT.sIx xs.length xs.length hi = xs.length) : cutV xs lo hi = xs := by
  unfold cutV
  rw [h.1, h.2, List.drop_zero, Nat.sub_zero, List.take_length]
theorem sl_tupP : SlR X (rSlP X.K) := by
  intro pins s σ H x v vl vu lo hi sl Q I rx hs pl pu h
  obtain ⟨a, xs, rfl, hx, q⟩ := h
  by_cases hw : HT.sIx xs.length 0 lo = 0 ∧ HT.sIx xs.length xs.length hi = xs.length
  · exact sl_tupA pins s σ H _ v vl vu lo hi sl Q I rx hs pl pu ⟨a, xs, rfl, hx.seq, fun _ => q a H (Same.refl H) (by rw [cutV_whole hw]; exact hx), fun n => absurd hw n⟩
  · cases rx
    obtain ⟨its, r, ht, hz⟩ := I.tuple hx.seq
    have hlen : its.toArray.size = xs.length := by rw [List.size_toArray]; exact r.length.symm
    refine ⟨"tuple", _, PyProof.Rows.slot_tuple_getitem.lookup, ht.typeIs, ?_⟩
    refine HT.getItem_tuple_cut ht hs pl pu (by rw [hlen]; exact hw) ?_ (by rw [hlen]; exact hz)
    rw [hlen]
    have hf := I.hok.fresh (Nat.le_refl _)
    refine ⟨.ref s.heap.objs.size, _, I.laid (t' := s.toks) (o := .frz { cls := .type "tuple", data := .seq ((its.drop (HT.sIx xs.length 0 lo)).take (HT.sIx xs.length xs.length hi - HT.sIx xs.length 0 lo)).toArray } (.tup (cutV xs lo hi))) (fun b ob q => Heap.get?_push_of_some _ q) (Nat.le_refl _) ?_, rfl, q _ _ (same_fresh hf) ⟨_, upd_same, rfl⟩⟩
    exact ⟨Heap.get?_push_size _ rfl, Nat.le_trans (cutV_length xs lo hi) hz, _, (r.drop (HT.sIx xs.length 0 lo)).take (HT.sIx xs.length xs.length hi - HT.sIx xs.length 0 lo), ⟨_, Heap.get?_push_size _ rfl, rfl, _, rfl⟩⟩
/-- t + u, plain tuples: a plain tuple -/
def rCatP (K : PySem.W.Frag) : R2 := fun x y H Q => ∃ a b xs ys, x = .ref a ∧ y = .ref b ∧ Ptp H a xs ∧ Ptp H b ys ∧ xs.length + ys.length ≤ sizeLine ∧ ∀ p H', Same H H' → Ptp H' p (xs ++ ys) → Q (.ref p) H'
theorem op_catP : OpR X (binaryOp .Add) (rCatP X.K) := by
  intro pins s σ H x y v u Q I rx ry h
  obtain ⟨a, b, xs, ys, rfl, rfl, ha, hb, hz, q⟩ := h
  by_cases hx : xs = []
  · subst hx
    exact op_catA pins s σ H _ _ v u Q I rx ry ⟨a, b, [], ys, rfl, rfl, ha.seq, hb.seq, hz, fun _ => q b H (Same.refl H) hb, fun n => absurd rfl n, fun n => absurd rfl n⟩
  · cases rx
    cases ry
    obtain ⟨its, r1, p1, _⟩ := I.tuple ha.seq
    obtain ⟨its2, r2, p2, _⟩ := I.tuple hb.seq
    refine HT.cat_tup p1 p2 (fun z => hx (r1.nil_iff.mp z)) (fun z => ⟨.ref a, H, I, rfl, q a H (Same.refl H) (by rw [r2.nil_iff.mp z, List.append_nil]; exact ha)⟩) (fun z => ?_) (by rw [← r1.length, ← r2.length]; exact hz)
    have hf := I.hok.fresh (Nat.le_refl _)
    refine ⟨.ref s.heap.objs.size, _, I.laid (t' := s.toks) (o := .frz { cls := .type "tuple", data := .seq (its ++ its2).toArray } (.tup (xs ++ ys))) (fun b ob q => Heap.get?_push_of_some _ q) (Nat.le_refl _) ?_, rfl, q _ _ (same_fresh hf) ⟨_, upd_same, rfl⟩⟩
    exact ⟨Heap.get?_push_size _ rfl, by rw [List.length_append]; exact hz, _, r1.append r2, ⟨_, Heap.get?_push_size _ rfl, rfl, _, rfl⟩⟩
end
end L2

namespace Kb
open PySem PySem.Spec PyProof.Rows L2
/-! anything, with its contents -/
inductive Dat where
  | non
  | bl (b : Bool)
  | int (i : Int)
  | str (z : Str)
  | tup (xs : List Dat)
  | lst (xs : List Dat)
  | dic (xs : List Dat)
  | err
theorem paired_imp' {α β : Type} {F G : α → β → Prop} (h : ∀ a b, F a b → G a b) : ∀ {xs : List α} {ys : List β}, Paired F xs ys → Paired G xs ys
  | _, _, .nil => .nil
  | _, _, .cons a t => .cons (h _ _ a) (paired_imp' h t)
def ascB (z : Str) : Bool := z.cps.toList.all fun c => decide (c < 128)
def LfAt (C : Addr) (B L : Nat) (H : Hp) (v : V) : Dat → Prop
  | .non => v = .non
  | .bl b => v = .bl b
  | .int i => v = .int i ∧ i.natAbs ≤ B
  | .str z => v = .str z ∧ z.length ≤ L ∧ ascB z = true
  | .err => ∃ a t, v = .ref a ∧ H a = some (ExN C a t) ∧ Ptp H t []
  | .tup _ => False
  | .lst _ => False
  | .dic _ => False
/-- the value, thing by thing; its lists are none of F -/
def DatAt (F : Addr → Prop) (C : Addr) (B L : Nat) : Nat → Hp → V → Dat → Prop
  | 0, H, v, d => LfAt C B L H v d
  | n + 1, H, v, d => LfAt C B L H v d ∨ (∃ a xs ds, v = .ref a ∧ d = .tup ds ∧ Ptp H a xs ∧ xs.length ≤ L ∧ Paired (DatAt F C B L n H) xs ds) ∨
    (∃ a xs ds, v = .ref a ∧ d = .lst ds ∧ ¬ F a ∧ H a = some (.lst xs) ∧ xs.length ≤ L ∧ Paired (DatAt F C B L n H) xs ds) ∨
    (∃ a l xs ds, v = .ref a ∧ d = .dic ds ∧ H a = some (.dK [(.inr (Str.ofString "a"), .ref l), (.inl 1, .non)]) ∧ ¬ F l ∧ H l = some (.lst xs) ∧ xs.length ≤ L ∧ Paired (DatAt F C B L n H) xs ds)
/-- what keeps anything whose lists are none of F -/
structure DKeep (F : Addr → Prop) (C : Addr) (H H' : Hp) : Prop where
  t : ∀ a xs, Ptp H a xs → Ptp H' a xs
  l : ∀ a xs, ¬ F a → H a = some (.lst xs) → H' a = some (.lst xs)
  d : ∀ a k, H a = some (.dK k) → H' a = some (.dK k)
  e : ∀ a t, H a = some (ExN C a t) → H' a = some (ExN C a t)
theorem DKeep.refl {F : Addr → Prop} {C : Addr} (H : Hp) : DKeep F C H H := ⟨fun _ _ h => h, fun _ _ _ h => h, fun _ _ h => h, fun _ _ h => h⟩
theorem DKeep.trans {F : Addr → Prop} {C : Addr} {H H1 H2 : Hp} (x : DKeep F C H H1) (y : DKeep F C H1 H2) : DKeep F C H H2 :=
  ⟨fun a xs h => y.t a xs (x.t a xs h), fun a xs n h => y.l a xs n (x.l a xs n h), fun a k h => y.d a k (x.d a k h), fun a t h => y.e a t (x.e a t h)⟩
theorem dk_same {F : Addr → Prop} {C : Addr} {H H' : Hp} (s : Same H H') : DKeep F C H H' := ⟨fun a xs h => h.same s, fun a xs _ h => s _ _ h, fun a k h => s _ _ h, fun a t h => s _ _ h⟩
/-- a list of F is stored anew -/
theorem dk_put {F : Addr → Prop} {C : Addr} {p : Addr} {H : Hp} {xs ys : List V} (h : H p = some (.lst xs)) (f : F p) : DKeep F C H (upd H p (.lst ys)) :=
  ⟨fun b zs ⟨o, e, d⟩ => ⟨o, by rw [upd_ne (ne_of e h (by intro z; cases z))]; exact e, d⟩, fun b zs n e => by rw [upd_ne (show b ≠ p from fun z => n (by rw [z]; exact f))]; exact e, fun b k e => by rw [upd_ne (ne_of e h (by intro z; cases z))]; exact e, fun b t e => by rw [upd_ne (ne_of e h (by intro z; cases z))]; exact e⟩
theorem LfAt.keep {F : Addr → Prop} {C : Addr} {B L : Nat} {H H' : Hp} (k : DKeep F C H H') {v : V} : ∀ {d : Dat}, LfAt C B L H v d → LfAt C B L H' v d
  | .non, h => h
  | .bl _, h => h
  | .int _, h => h
  | .str _, h => h
  | .err, ⟨a, t, e, h1, h2⟩ => ⟨a, t, e, k.e a t h1, k.t t [] h2⟩
  | .tup _, h => h.elim
  | .lst _, h => h.elim
  | .dic _, h => h.elim
theorem DatAt.keep {F : Addr → Prop} {C : Addr} {B L : Nat} {H H' : Hp} (k : DKeep F C H H') : ∀ {n : Nat} {v : V} {d : Dat}, DatAt F C B L n H v d → DatAt F C B L n H' v d
  | 0, _, _, h => LfAt.keep k h
  | n + 1, v, d, h => by
    rcases h with h | ⟨a, xs, ds, e1, e2, h1, h2, h3⟩ | ⟨a, xs, ds, e1, e2, f, h1, h2, h3⟩ | ⟨a, l, xs, ds, e1, e2, h0, f, h1, h2, h3⟩
    · exact .inl (LfAt.keep k h)
    · exact .inr (.inl ⟨a, xs, ds, e1, e2, k.t a xs h1, h2, paired_imp' (fun _ _ h => DatAt.keep k h) h3⟩)
    · exact .inr (.inr (.inl ⟨a, xs, ds, e1, e2, f, k.l a xs f h1, h2, paired_imp' (fun _ _ h => DatAt.keep k h) h3⟩))
    · exact .inr (.inr (.inr ⟨a, l, xs, ds, e1, e2, k.d a _ h0, f, k.l l xs f h1, h2, paired_imp' (fun _ _ h => DatAt.keep k h) h3⟩))
theorem DatAt.same {F : Addr → Prop} {C : Addr} {B L n : Nat} {H H' : Hp} {v : V} {d : Dat} (h : DatAt F C B L n H v d) (s : Same H H') : DatAt F C B L n H' v d := h.keep (dk_same s)
theorem LfAt.wide {C : Addr} {B L B' L' : Nat} {H : Hp} (hB : B ≤ B') (hL : L ≤ L') {v : V} : ∀ {d : Dat}, LfAt C B L H v d → LfAt C B' L' H v d
  | .non, h => h
  | .bl _, h => h
  | .int _, h => ⟨h.1, Nat.le_trans h.2 hB⟩
  | .str _, h => ⟨h.1, Nat.le_trans h.2.1 hL, h.2.2⟩
  | .err, h => h
  | .tup _, h => h.elim
  | .lst _, h => h.elim
  | .dic _, h => h.elim
theorem DatAt.wide {F F' : Addr → Prop} {C : Addr} {B L B' L' : Nat} {H : Hp} (hF : ∀ a, F' a → F a) (hB : B ≤ B') (hL : L ≤ L') : ∀ {n m : Nat} {v : V} {d : Dat}, n ≤ m → DatAt F C B L n H v d → DatAt F' C B' L' m H v d
  | 0, 0, _, _, _, h => LfAt.wide hB hL h
  | 0, m + 1, _, _, _, h => .inl (LfAt.wide hB hL h)
  | n + 1, 0, _, _, hm, _ => absurd hm (by omega)
  | n + 1, m + 1, v, d, hm, h => by
    rcases h with h | ⟨a, xs, ds, e1, e2, h1, h2, h3⟩ | ⟨a, xs, ds, e1, e2, f, h1, h2, h3⟩ | ⟨a, l, xs, ds, e1, e2, h0, f, h1, h2, h3⟩
    · exact .inl (LfAt.wide hB hL h)
    · exact .inr (.inl ⟨a, xs, ds, e1, e2, h1, Nat.le_trans h2 hL, paired_imp' (fun _ _ h => DatAt.wide hF hB hL (by omega) h) h3⟩)
    · exact .inr (.inr (.inl ⟨a, xs, ds, e1, e2, fun z => f (hF a z), h1, Nat.le_trans h2 hL, paired_imp' (fun _ _ h => DatAt.wide hF hB hL (by omega) h) h3⟩))
    · exact .inr (.inr (.inr ⟨a, l, xs, ds, e1, e2, h0, fun z => f (hF l z), h1, Nat.le_trans h2 hL, paired_imp' (fun _ _ h => DatAt.wide hF hB hL (by omega) h) h3⟩))
theorem DatAt.leaf {F : Addr → Prop} {C : Addr} {B L : Nat} {H : Hp} {v : V} {d : Dat} (h : LfAt C B L H v d) : ∀ {n : Nat}, DatAt F C B L n H v d
  | 0 => h
  | _ + 1 => .inl h
section
variable {F : Addr → Prop} {C : Addr} {B L n : Nat} {H : Hp}
theorem DatAt.lint {i : Int} (h : i.natAbs ≤ B) : DatAt F C B L n H (.int i) (.int i) := .leaf (show LfAt C B L H (.int i) (.int i) from ⟨rfl, h⟩)
theorem DatAt.lstr {z : Str} (h : z.length ≤ L) (h2 : ascB z = true) : DatAt F C B L n H (.str z) (.str z) := .leaf (show LfAt C B L H (.str z) (.str z) from ⟨rfl, h, h2⟩)
theorem DatAt.lbl {b : Bool} : DatAt F C B L n H (.bl b) (.bl b) := .leaf (show LfAt C B L H (.bl b) (.bl b) from rfl)
theorem DatAt.lnon : DatAt F C B L n H .non .non := .leaf (show LfAt C B L H .non .non from rfl)
theorem DatAt.lerr {a t : Addr} (h : H a = some (ExN C a t)) (h2 : Ptp H t []) : DatAt F C B L n H (.ref a) .err := .leaf (show LfAt C B L H (.ref a) .err from ⟨a, t, rfl, h, h2⟩)
theorem DatAt.ltup {a : Addr} {xs : List V} {ds : List Dat} (h1 : Ptp H a xs) (h2 : xs.length ≤ L) (h3 : Paired (DatAt F C B L n H) xs ds) : DatAt F C B L (n + 1) H (.ref a) (.tup ds) := .inr (.inl ⟨a, xs, ds, rfl, rfl, h1, h2, h3⟩)
theorem DatAt.llst {a : Addr} {xs : List V} {ds : List Dat} (f : ¬ F a) (h1 : H a = some (.lst xs)) (h2 : xs.length ≤ L) (h3 : Paired (DatAt F C B L n H) xs ds) : DatAt F C B L (n + 1) H (.ref a) (.lst ds) := .inr (.inr (.inl ⟨a, xs, ds, rfl, rfl, f, h1, h2, h3⟩))
theorem DatAt.ldic {a l : Addr} {xs : List V} {ds : List Dat} (h0 : H a = some (.dK [(.inr (Str.ofString "a"), .ref l), (.inl 1, .non)])) (f : ¬ F l) (h1 : H l = some (.lst xs)) (h2 : xs.length ≤ L) (h3 : Paired (DatAt F C B L n H) xs ds) : DatAt F C B L (n + 1) H (.ref a) (.dic ds) := .inr (.inr (.inr ⟨a, l, xs, ds, rfl, rfl, h0, f, h1, h2, h3⟩))
end
mutual
/-- its repr -/
def sh (nm : String) : Dat → Str
  | .non => Str.ofString "None"
  | .bl b => Str.ofString (if b then "True" else "False")
  | .int i => Str.ofString (toString i)
  | .str z => reprText z
  | .tup xs => tupleText (shs nm xs)
  | .lst xs => listText (shs nm xs)
  | .dic xs => dictText [reprText (Str.ofString "a") ++ ": " ++ listText (shs nm xs), Str.ofString (toString (1 : Int)) ++ ": " ++ Str.ofString "None"]
  | .err => PySem.exrText nm
def shs (nm : String) : List Dat → List Str
  | [] => []
  | x :: xs => sh nm x :: shs nm xs
end
mutual
/-- no shorter than its repr -/
def wD : Dat → Nat
  | .non => 10
  | .bl _ => 10
  | .int _ => 60
  | .str z => 15 * z.length + 20
  | .tup xs => 10 + wDs xs
  | .lst xs => 10 + wDs xs
  | .dic xs => 60 + wDs xs
  | .err => 200
def wDs : List Dat → Nat
  | [] => 0
  | x :: xs => wD x + 2 + wDs xs
end
theorem shs_len (nm : String) : ∀ xs : List Dat, (shs nm xs).length = xs.length
  | [] => rfl
  | x :: xs => by
    show (shs nm xs).length + 1 = xs.length + 1
    rw [shs_len nm xs]
theorem wDs_app : ∀ xs ys : List Dat, wDs (xs ++ ys) = wDs xs + wDs ys
  | [], ys => by
    show wDs ys = 0 + wDs ys
    omega
  | x :: xs, ys => by
    show wD x + 2 + wDs (xs ++ ys) = wD x + 2 + wDs xs + wDs ys
    rw [wDs_app xs ys]
    omega
theorem wDs_mem : ∀ {xs : List Dat} {x : Dat}, x ∈ xs → wD x < wDs xs
  | y :: xs, x, h => by
    show wD x < wD y + 2 + wDs xs
    rcases List.mem_cons.mp h with rfl | h
    · omega
    · have := wDs_mem h
      omega
theorem nat_len {n : Nat} {k : Nat} (hk : 0 < k) (h : n < 10 ^ k) : (Str.ofString (toString ((n : Nat) : Int))).length ≤ k := by
  have e := congrArg List.length (TL.tl_num n)
  have l := TL.numL_len hk h
  have : (Str.ofString (toString ((n : Nat) : Int))).length = (TL.tl (Str.ofString (toString ((n : Nat) : Int)))).length := by
    show Array.size _ = List.length (Array.toList _)
    rw [Array.length_toList]
  omega
theorem int_len {i : Int} (h : i.natAbs ≤ 2 ^ 90) : (Str.ofString (toString i)).length ≤ 60 := by
  cases i with
  | ofNat n =>
    have h : n ≤ 2 ^ 90 := h
    exact nat_len (by decide) (Nat.lt_of_le_of_lt h (by decide))
  | negSucc n =>
    have h : n + 1 ≤ 2 ^ 90 := h
    have l := nat_len (n := n + 1) (k := 59) (by decide) (Nat.lt_of_le_of_lt h (by decide))
    have e : toString (Int.negSucc n) = "-" ++ toString (((n + 1 : Nat) : Int)) := rfl
    have e2 : ∀ x : String, (Str.ofString x).length = x.length := fun x => PySem.ofString_length x
    rw [e2] at l ⊢
    rw [e, String.length_append]
    have : "-".length = 1 := rfl
    omega
theorem list_len (ts : List Str) : (listText ts).length ≤ (ts.map (·.length)).sum + 2 * ts.length + 2 := by
  have h := textFrom_len_le ts 0 "["
  show (textFrom 0 "[" ts ++ "]").length ≤ _
  rw [strLen_append]
  have e1 : ("[" : Str).length = 1 := rfl
  have e2 : ("]" : Str).length = 1 := rfl
  omega
theorem tuple_len (ts : List Str) : (tupleText ts).length ≤ (ts.map (·.length)).sum + 2 * ts.length + 3 := by
  have h := StrLaws.join_length_le (", " : Str) ts
  have e0 : (", " : Str).length = 2 := rfl
  unfold tupleText
  rw [strLen_append, strLen_append]
  have e1 : ("(" : Str).length = 1 := rfl
  have e2 : ((if ts.length == 1 then ",)" else ")" : String) : Str).length ≤ 2 := by split <;> decide
  rw [e0] at h
  omega
theorem reprs_len {z : Str} (h : ascB z = true) : (reprText z).length ≤ 15 * z.length + 13 := by
  have lv : (PyData.str z).leavesShort 13 = true := by
    show (z.cps.toList.all fun c => decide (c < 16 ^ 8)) = true
    rw [List.all_eq_true]
    intro c hc
    have := of_decide_eq_true (List.all_eq_true.mp h c hc)
    exact decide_eq_true (Nat.lt_trans this (by decide))
  have := PyData.shown_le 13 (by decide) (.str z) lv
  rw [PyData.shown_str] at this
  exact this
theorem sum_sh {nm : String} {R : V → Dat → Prop} (h : ∀ v d, R v d → (sh nm d).length ≤ wD d) : ∀ {xs : List V} {ds : List Dat}, Paired R xs ds → ((shs nm ds).map (·.length)).sum + 2 * (shs nm ds).length ≤ wDs ds
  | _, _, .nil => Nat.le_refl _
  | _, d :: ds, .cons a t => by
    have h1 := h _ _ a
    have h2 := sum_sh (nm := nm) h t
    show (sh nm d).length + ((shs nm ds).map (·.length)).sum + 2 * ((shs nm ds).length + 1) ≤ wD d + 2 + wDs ds
    omega
theorem DatAt.shlen {nm : String} {F : Addr → Prop} {C : Addr} {L : Nat} {H : Hp} (hn : (PySem.exrText nm).length ≤ 200) : ∀ {n : Nat} {v : V} {d : Dat}, DatAt F C (2 ^ 90) L n H v d → (sh nm d).length ≤ wD d := by
  have lf : ∀ {v : V} {d : Dat}, LfAt C (2 ^ 90) L H v d → (sh nm d).length ≤ wD d := fun {v d} h => by
    cases d with
    | non => show (Str.ofString "None").length ≤ 10; decide +kernel
    | bl b => cases b; { show (Str.ofString "False").length ≤ 10; decide +kernel }; { show (Str.ofString "True").length ≤ 10; decide +kernel }
    | int i => exact int_len h.2
    | str z => have := reprs_len h.2.2; show (reprText z).length ≤ 15 * z.length + 20; omega
    | err => exact hn
    | _ => exact h.elim
  intro n
  induction n with
  | zero => exact fun h => lf h
  | succ n ih =>
    intro v d h
    rcases h with h | ⟨a, xs, ds, e1, rfl, h1, h2, h3⟩ | ⟨a, xs, ds, e1, rfl, f, h1, h2, h3⟩ | ⟨a, l, xs, ds, e1, rfl, h0, f, h1, h2, h3⟩
    · exact lf h
    · have s := sum_sh (nm := nm) (fun _ _ h => ih h) h3
      have := tuple_len (shs nm ds)
      show (tupleText (shs nm ds)).length ≤ 10 + wDs ds
      omega
    · have s := sum_sh (nm := nm) (fun _ _ h => ih h) h3
      have := list_len (shs nm ds)
      show (listText (shs nm ds)).length ≤ 10 + wDs ds
      omega
    · have s := sum_sh (nm := nm) (fun _ _ h => ih h) h3
      have := list_len (shs nm ds)
      show (dictText [reprText (Str.ofString "a") ++ ": " ++ listText (shs nm ds), Str.ofString (toString (1 : Int)) ++ ": " ++ Str.ofString "None"]).length ≤ 60 + wDs ds
      unfold dictText
      rw [strLen_append, strLen_append]
      show _ + ((reprText (Str.ofString "a") ++ ": " ++ listText (shs nm ds)) ++ (", " : Str) ++ (Str.ofString (toString (1 : Int)) ++ ": " ++ Str.ofString "None")).length + _ ≤ _
      rw [strLen_append, strLen_append, strLen_append, strLen_append]
      have a1 : (reprText (Str.ofString "a")).length = 3 := by decide +kernel
      have a2 : (": " : Str).length = 2 := rfl
      have a3 : (", " : Str).length = 2 := rfl
      have a4 : (Str.ofString (toString (1 : Int)) ++ ": " ++ Str.ofString "None").length = 7 := by decide +kernel
      have a5 : ("{" : Str).length = 1 := rfl
      have a6 : ("}" : Str).length = 1 := rfl
      omega
end Kb

namespace Kb
open PySem PySem.Spec PyProof.Rows L2 SrtZ SrtO
/-- a value's type, errors too -/
def TyE (K : PySem.W.Frag) (H : Hp) (v : V) (t : Value) : Prop := TyX K H v t ∨ ∃ a t0 C, v = .ref a ∧ t = .ref C ∧ H a = some (ExN C a t0) ∧ L2.ExcC K C
def rIsE' (K : PySem.W.Frag) : List V → Hp → VK → Prop := fun xs H Q => ∃ (x c : V) (t u : Value) (b : Bool), xs = [x, c] ∧ ClsV c u ∧ TyE K H x t ∧ PySem.W.kitOne K t u = some b ∧ Q (.bl b) H
theorem call_isD {X : Cx} {K : PySem.W.Frag} (hK : X.K = K) : CallR X (.builtin "isinstance") (rIsE' K) := by
  subst hK
  intro pins s σ H xs us Q I r h
  obtain ⟨x, c, t, u, b, rfl, k, ty | ⟨a, t0, C, rfl, rfl, ha, hC⟩, e, q⟩ := h
  · exact call_isi pins s σ H _ us Q I r ⟨x, c, t, u, b, rfl, k, ty, e, q⟩
  · obtain ⟨u1, u2, rfl, r1, r2⟩ := vals2 r
    have e2 := k.eq r2
    subst e2
    cases r1
    obtain ⟨⟨oe, vs, ho, hz, hd, _⟩, _, _⟩ := I.hok a _ ha
    have J : PySem.W.InstAt s.heap a oe C none := by
      obtain ⟨oc, od, oda, osl⟩ := oe
      obtain ⟨h1, h2⟩ := hz
      dsimp only at h1 h2 hd
      subst h1 h2 hd
      exact ⟨ho, rfl, rfl, trivial⟩
    exact PySem.W.kia_one (PySem.W.handS_kitx_exc hC.hg hC.hk hC.hs hC.hd hC.ha hC.hn hC.ht hC.hm) I.kIn J e (fun z => nomatch z) fun tk => ⟨.bl b, H, I.kept (t' := tk) fun _ _ z => z, rfl, q⟩
def isI : Dat → Bool
  | .int _ => true
  | .bl _ => true
  | _ => false
def isBd : Dat → Bool
  | .bl _ => true
  | _ => false
def isS : Dat → Bool
  | .str _ => true
  | _ => false
def isT : Dat → Bool
  | .tup _ => true
  | _ => false
/-! anything, by its kinds: what a list or a dict holds is not told -/
def LfK (H : Hp) (v : V) : Dat → Prop
  | .non => v = .non
  | .bl b => v = .bl b
  | .int i => v = .int i ∧ i.natAbs ≤ 2 ^ 90
  | .str z => v = .str z ∧ z.length ≤ 5000
  | .lst _ => ∃ a xs, v = .ref a ∧ H a = some (.lst xs)
  | .dic _ => ∃ a k, v = .ref a ∧ H a = some (.dK k)
  | .err => False
  | .tup _ => False
def DtK : Nat → Hp → V → Dat → Prop
  | 0, H, v, d => LfK H v d
  | n + 1, H, v, d => LfK H v d ∨ ∃ a xs ds, v = .ref a ∧ d = .tup ds ∧ Ptp H a xs ∧ xs.length ≤ 5000 ∧ Paired (DtK n H) xs ds
/-- what keeps all that -/
structure KpD (H H' : Hp) : Prop where
  t : ∀ a xs, Ptp H a xs → Ptp H' a xs
  l : ∀ a xs, H a = some (.lst xs) → ∃ ys, H' a = some (.lst ys)
  d : ∀ a k, H a = some (.dK k) → ∃ k', H' a = some (.dK k')
theorem KpD.refl (H : Hp) : KpD H H := ⟨fun _ _ h => h, fun _ _ h => ⟨_, h⟩, fun _ _ h => ⟨_, h⟩⟩
theorem KpD.trans {H H1 H2 : Hp} (x : KpD H H1) (y : KpD H1 H2) : KpD H H2 := ⟨fun a xs h => y.t a xs (x.t a xs h), fun a xs h => let ⟨_, h1⟩ := x.l a xs h; y.l _ _ h1, fun a k h => let ⟨_, h1⟩ := x.d a k h; y.d _ _ h1⟩
theorem kpD_same {H H' : Hp} (s : Same H H') : KpD H H' := ⟨fun a xs h => h.same s, fun a xs h => ⟨_, s _ _ h⟩, fun a k h => ⟨_, s _ _ h⟩⟩
theorem kpD_exw {a c : Addr} {H H' : Hp} (x : Exw a H H') (w : Wl a c H) (w' : Wl a c H') : KpD H H' :=
  ⟨fun b xs ⟨o, e, d⟩ => ⟨o, x.at w e (by intro _ z; cases z), d⟩, fun b xs e => by
    by_cases h : b = a
    · subst h
      obtain ⟨_, ns, i, u, s, t, e1, _⟩ := w'
      exact ⟨_, e1⟩
    · exact ⟨_, x b _ h e⟩, fun b k e => ⟨_, x.at w e (by intro _ z; cases z)⟩⟩
theorem LfK.keep {H H' : Hp} (k : KpD H H') {v : V} : ∀ {d : Dat}, LfK H v d → LfK H' v d
  | .non, h => h
  | .bl _, h => h
  | .int _, h => h
  | .str _, h => h
  | .lst _, ⟨a, xs, e, h⟩ => let ⟨ys, h1⟩ := k.l a xs h; ⟨a, ys, e, h1⟩
  | .dic _, ⟨a, x, e, h⟩ => let ⟨y, h1⟩ := k.d a x h; ⟨a, y, e, h1⟩
  | .err, h => h
  | .tup _, h => h
theorem DtK.keep {H H' : Hp} (k : KpD H H') : ∀ {n : Nat} {v : V} {d : Dat}, DtK n H v d → DtK n H' v d
  | 0, _, _, h => LfK.keep k h
  | n + 1, _, _, h => by
    rcases h with h | ⟨a, xs, ds, e1, e2, h1, h2, h3⟩
    · exact .inl (LfK.keep k h)
    · exact .inr ⟨a, xs, ds, e1, e2, k.t _ _ h1, h2, paired_imp (fun _ _ h => DtK.keep k h) h3⟩
theorem DtK.up : ∀ {n : Nat} {H : Hp} {v : V} {d : Dat}, DtK n H v d → DtK (n + 1) H v d
  | 0, _, _, _, h => .inl h
  | n + 1, _, _, _, h => by
    rcases h with h | ⟨a, xs, ds, e1, e2, h1, h2, h3⟩
    · exact .inl h
    · exact .inr ⟨a, xs, ds, e1, e2, h1, h2, paired_imp (fun _ _ h => DtK.up h) h3⟩
theorem DtK.ups {n m : Nat} {H : Hp} {v : V} {d : Dat} (h : DtK n H v d) (le : n ≤ m) : DtK m H v d := by
  induction le with
  | refl => exact h
  | step _ ih => exact ih.up
/-- anything, as the judges meet it -/
def DtAt (K : PySem.W.Frag) (H : Hp) (v : V) (d : Dat) : Prop := ∃ n : Nat, DtK n H v d
theorem DtAt.keep {K : PySem.W.Frag} {H H' : Hp} {v : V} {d : Dat} (h : DtAt K H v d) (k : KpD H H') : DtAt K H' v d := let ⟨n, h⟩ := h; ⟨n, h.keep k⟩
theorem DtAt.same {K : PySem.W.Frag} {H H' : Hp} {v : V} {d : Dat} (h : DtAt K H v d) (s : Same H H') : DtAt K H' v d := h.keep (kpD_same s)
theorem DtAt.lf {K : PySem.W.Frag} {H : Hp} {v : V} {d : Dat} (h : LfK H v d) : DtAt K H v d := ⟨0, h⟩
theorem DtK.cases {n : Nat} {H : Hp} {v : V} {d : Dat} (h : DtK n H v d) : LfK H v d ∨ ∃ m a xs ds, n = m + 1 ∧ v = .ref a ∧ d = .tup ds ∧ Ptp H a xs ∧ xs.length ≤ 5000 ∧ Paired (DtK m H) xs ds := by
  cases n with
  | zero => exact .inl h
  | succ n =>
    rcases h with h | ⟨a, xs, ds, e1, e2, h1, h2, h3⟩
    · exact .inl h
    · exact .inr ⟨n, a, xs, ds, rfl, e1, e2, h1, h2, h3⟩
/-- the parts of a paired list have one depth -/
theorem dts_depth {K : PySem.W.Frag} {H : Hp} : ∀ {xs : List V} {ds : List Dat}, Paired (DtAt K H) xs ds → ∃ n, Paired (DtK n H) xs ds
  | _, _, .nil => ⟨0, .nil⟩
  | _, _, .cons h t => by
    obtain ⟨n, h⟩ := h
    obtain ⟨m, t⟩ := dts_depth t
    exact ⟨max n m, .cons (h.ups (Nat.le_max_left _ _)) (paired_imp (fun _ _ h => h.ups (Nat.le_max_right _ _)) t)⟩
/-- a plain tuple of such -/
theorem DtAt.mk {K : PySem.W.Frag} {H : Hp} {a : Addr} {xs : List V} {ds : List Dat} (h : Ptp H a xs) (l : xs.length ≤ 5000) (p : Paired (DtAt K H) xs ds) : DtAt K H (.ref a) (.tup ds) := by
  obtain ⟨n, p⟩ := dts_depth p
  exact ⟨n + 1, .inr ⟨a, xs, ds, rfl, rfl, h, l, p⟩⟩
theorem DtAt.ty {K : PySem.W.Frag} {H : Hp} {v : V} {d : Dat} (h : DtAt K H v d) : ∃ t, TyE K H v t ∧ PySem.W.kitOne K t (.type "int") = some (isI d) ∧ PySem.W.kitOne K t (.type "bool") = some (isBd d) ∧ PySem.W.kitOne K t (.type "str") = some (isS d) ∧ PySem.W.kitOne K t (.type "tuple") = some (isT d) := by
  obtain ⟨n, h⟩ := h
  rcases h.cases with h | ⟨m, a, xs, ds, rfl, rfl, rfl, h1, h2, h3⟩
  · cases d with
    | non =>
      cases (show v = .non from h)
      exact ⟨.type "NoneType", .inl (.base .non), kit_ty (show kitB "NoneType" "int" = some false by decide +kernel), kit_ty (show kitB "NoneType" "bool" = some false by decide +kernel), kit_ty (show kitB "NoneType" "str" = some false by decide +kernel), kit_ty (show kitB "NoneType" "tuple" = some false by decide +kernel)⟩
    | bl b =>
      cases (show v = .bl b from h)
      exact ⟨.type "bool", .inl (.base (.bl b)), kit_ty (show kitB "bool" "int" = some true by decide +kernel), kit_ty (show kitB "bool" "bool" = some true by decide +kernel), kit_ty (show kitB "bool" "str" = some false by decide +kernel), kit_ty (show kitB "bool" "tuple" = some false by decide +kernel)⟩
    | int i =>
      cases h.1
      exact ⟨.type "int", .inl (.base (.int i)), kit_ty (show kitB "int" "int" = some true by decide +kernel), kit_ty (show kitB "int" "bool" = some false by decide +kernel), kit_ty (show kitB "int" "str" = some false by decide +kernel), kit_ty (show kitB "int" "tuple" = some false by decide +kernel)⟩
    | str z =>
      cases h.1
      exact ⟨.type "str", .inl (.base (.str z)), kit_ty (show kitB "str" "int" = some false by decide +kernel), kit_ty (show kitB "str" "bool" = some false by decide +kernel), kit_ty (show kitB "str" "str" = some true by decide +kernel), kit_ty (show kitB "str" "tuple" = some false by decide +kernel)⟩
    | lst _ =>
      obtain ⟨a, xs, rfl, h1⟩ := h
      exact ⟨.type "list", .inl (.base (.lst h1)), kit_ty (show kitB "list" "int" = some false by decide +kernel), kit_ty (show kitB "list" "bool" = some false by decide +kernel), kit_ty (show kitB "list" "str" = some false by decide +kernel), kit_ty (show kitB "list" "tuple" = some false by decide +kernel)⟩
    | dic _ =>
      obtain ⟨a, k, rfl, h0⟩ := h
      exact ⟨.type "dict", .inl (.base (.dK h0)), kit_ty (show kitB "dict" "int" = some false by decide +kernel), kit_ty (show kitB "dict" "bool" = some false by decide +kernel), kit_ty (show kitB "dict" "str" = some false by decide +kernel), kit_ty (show kitB "dict" "tuple" = some false by decide +kernel)⟩
    | err => exact h.elim
    | tup _ => exact h.elim
  · exact ⟨.type "tuple", .inl (tyT (K := K) h1.seq), kit_ty (show kitB "tuple" "int" = some false by decide +kernel), kit_ty (show kitB "tuple" "bool" = some false by decide +kernel), kit_ty (show kitB "tuple" "str" = some false by decide +kernel), kit_ty (show kitB "tuple" "tuple" = some true by decide +kernel)⟩
theorem DtAt.tup {K : PySem.W.Frag} {H : Hp} {v : V} {ds : List Dat} (h : DtAt K H v (.tup ds)) : ∃ a xs, v = .ref a ∧ Ptp H a xs ∧ xs.length ≤ 5000 ∧ Paired (DtAt K H) xs ds := by
  obtain ⟨n, h⟩ := h
  rcases h.cases with h | ⟨m, a, xs, ds, rfl, rfl, e, h1, h2, h3⟩
  · exact h.elim
  · cases e
    exact ⟨a, xs, rfl, h1, h2, paired_imp (fun _ _ h => ⟨m, h⟩) h3⟩
theorem DtAt.int {K : PySem.W.Frag} {H : Hp} {v : V} {i : Int} (h : DtAt K H v (.int i)) : v = .int i ∧ i.natAbs ≤ 2 ^ 90 := by
  obtain ⟨n, h⟩ := h
  rcases h.cases with h | ⟨m, a, xs, ds, rfl, rfl, e, _⟩
  · exact h
  · cases e
theorem DtAt.str {K : PySem.W.Frag} {H : Hp} {v : V} {z : Str} (h : DtAt K H v (.str z)) : v = .str z ∧ z.length ≤ 5000 := by
  obtain ⟨n, h⟩ := h
  rcases h.cases with h | ⟨m, a, xs, ds, rfl, rfl, e, _⟩
  · exact h
  · cases e
/-! the judges -/
def intD : Dat → Option Int
  | .int i => some i
  | _ => none
def geI (d : Dat) : Int := (intD d).getD 0
def isRB : Option Int → Bool
  | some i => decide (1 ≤ i) && decide (i ≤ 64)
  | none => false
def isNB : Option Int → Bool
  | some i => decide (0 ≤ i)
  | none => false
def isPB : Option Int → Bool
  | some i => decide (1 ≤ i)
  | none => false
def nmB (z : Str) : Bool := decide (1 ≤ z.length) && (decide (z.length ≤ 8) && (cs z).all nmC)
theorem nmB_nm {z : Str} : nmB z = true ↔ Nm z := by
  unfold nmB
  rw [Bool.and_eq_true, Bool.and_eq_true, decide_eq_true_eq, decide_eq_true_eq, List.all_eq_true]
  exact ⟨fun ⟨a, b, c⟩ => ⟨a, b, c⟩, fun ⟨a, b, c⟩ => ⟨a, b, c⟩⟩
def nameD : Dat → Bool
  | .str z => nmB z
  | _ => false
def cntB : Dat → Bool
  | .tup [d1, d2] => nameD d1 && isPB (intD d2)
  | _ => false
def nmOf : Dat → Str
  | .tup (.str z :: _) => z
  | _ => Str.ofString ""
def ctsB : Str → List Dat → Bool
  | _, [] => true
  | la, d :: ds => cntB d && (ltZ la (nmOf d) && ctsB (nmOf d) ds)
def ctD : Dat → Bool
  | .tup ks => ctsB (Str.ofString "") ks
  | _ => false
def lenD : Dat → Nat
  | .tup ks => ks.length
  | _ => 0
def kvO : Dat → Str × Int
  | .tup [.str z, .int i] => (z, i)
  | _ => (Str.ofString "", 0)
def kvD : Dat → Ct
  | .tup ks => ks.map kvO
  | _ => []
def skD : Dat → Bool
  | .tup [d1, d2, d3, d4] => isRB (intD d1) && (isNB (intD d2) && (isNB (intD d3) && (ctD d4 && (decide ((lenD d4 : Int) ≤ geI d1) && (decide ((geI d1 + 1) * geI d3 ≤ geI d2 - sumC (kvD d4)) && decide (geI d2 - sumC (kvD d4) ≤ 2 * geI d1 * geI d3))))))
  | _ => false
theorem cntB_is {d : Dat} (h : cntB d = true) : ∃ z i, d = .tup [.str z, .int i] ∧ Nm z ∧ 1 ≤ i := by
  match d, h with
  | .tup [d1, d2], h =>
    have h : (nameD d1 && isPB (intD d2)) = true := h
    rw [Bool.and_eq_true] at h
    obtain ⟨h1, h2⟩ := h
    cases d1 with
    | str z =>
      cases d2 with
      | int i => exact ⟨z, i, rfl, nmB_nm.mp h1, of_decide_eq_true h2⟩
      | _ => cases h2
    | _ => cases h1
theorem ctsB_cts : ∀ {ks : List Dat} {la : Str}, ctsB la ks = true → Cts (ks.map kvO) ∧ (∀ e ∈ ks.map kvO, ltZ la e.1 = true) ∧ ∀ d ∈ ks, cntB d = true
  | [], _, _ => ⟨⟨fun _ h => (nomatch h), fun _ h => (nomatch h), .nil⟩, fun _ h => (nomatch h), fun _ h => (nomatch h)⟩
  | d :: ds, la, h => by
    have h : (cntB d && (ltZ la (nmOf d) && ctsB (nmOf d) ds)) = true := h
    rw [Bool.and_eq_true, Bool.and_eq_true] at h
    obtain ⟨h1, h2, h3⟩ := h
    obtain ⟨c, l, al⟩ := ctsB_cts h3
    obtain ⟨z, i, rfl, hz, hi⟩ := cntB_is h1
    have h2 : ltZ la z = true := h2
    have l : ∀ e ∈ ds.map kvO, ltZ z e.1 = true := l
    refine ⟨⟨fun e he => ?_, fun e he => ?_, List.Pairwise.cons (fun e he => l e he) c.asc⟩, fun e he => ?_, fun d hd => ?_⟩
    · rcases List.mem_cons.mp he with rfl | he
      · exact hz
      · exact c.nm e he
    · rcases List.mem_cons.mp he with rfl | he
      · exact hi
      · exact c.pos e he
    · rcases List.mem_cons.mp he with rfl | he
      · exact h2
      · exact ltZ_trans h2 (l e he)
    · rcases List.mem_cons.mp hd with rfl | hd
      · exact h1
      · exact al d hd
/-- counts that are right, where they stand -/
theorem pr_of {K : PySem.W.Frag} {H : Hp} {v : V} {d : Dat} (h : DtAt K H v d) (c : cntB d = true) : ∃ t, v = .ref t ∧ PrAt K H t (kvO d) := by
  obtain ⟨z, i, rfl, hz, hi⟩ := cntB_is c
  obtain ⟨a, xs, rfl, h1, h2, h3⟩ := h.tup
  refine ⟨a, rfl, ?_⟩
  cases h3 with
  | cons e1 h3 =>
    cases h3 with
    | cons e2 h3 =>
      cases h3
      obtain ⟨rfl, _⟩ := e1.str
      obtain ⟨rfl, _⟩ := e2.int
      exact h1.seq
theorem prs_of {K : PySem.W.Frag} {H : Hp} : ∀ {xs : List V} {ks : List Dat}, Paired (DtAt K H) xs ks → (∀ d ∈ ks, cntB d = true) → ∃ ts : List Addr, xs = ts.map V.ref ∧ Paired (PrAt K H) ts (ks.map kvO)
  | _, _, .nil, _ => ⟨[], rfl, .nil⟩
  | _, _, .cons h t, c => by
    obtain ⟨a, rfl, ha⟩ := pr_of h (c _ List.mem_cons_self)
    obtain ⟨ts, rfl, hts⟩ := prs_of t fun d hd => c d (List.mem_cons_of_mem _ hd)
    exact ⟨a :: ts, rfl, .cons ha hts⟩
end Kb

namespace Kb
open PySem PySem.Spec PyProof.Rows L2 SrtZ SrtO
section
variable {P : Program} {w : World} {K : PySem.W.Frag} {mg : Str → Option Value} {base : Heap}
/-! is_int .. is_room, of anything -/
def spIsIntD (K : PySem.W.Frag) : Sp := fun vs H Q _ => ∃ (v : V) (d : Dat), vs = [v] ∧ DtAt K H v d ∧ Q (.bl (intD d).isSome) H
theorem ok_is_intD (T : Blt mg) (d : DnIsInt K mg) : FnOk P w K mg base CX0 1 d.f d.fd ["thing"] (spIsIntD K) := by
  refine d.F.ok scP_is_int (fun vs H Q E h => ?_) (fun cdv A outer s H vs Q E hr h => ?_)
  · obtain ⟨v, n, rfl, _⟩ := h
    rfl
  · obtain ⟨v, x, rfl, hx, q⟩ := h
    refine ⟨_, (pss_one (ps_ret (pe_and (pe_callB (call_isD (K := K) rfl) (by rfl) T.n_isinstance (by decide +kernel) (pa_cons (pv 0) (pa_cons (pe_bltn (v := .ty "int") (by rfl) T.n_int (by decide +kernel) rfl) pa_nil))) (pe_one (pe_not (pe_callB (call_isD (K := K) rfl) (by rfl) T.n_isinstance (by decide +kernel) (pa_cons (pv 0) (pa_cons (pe_bltn (v := .ty "bool") (by rfl) T.n_bool (by decide +kernel) rfl) pa_nil)))))))), ?_⟩
    obtain ⟨t, ty, kI, kB, kS, kT⟩ := hx.ty
    refine ⟨v, rfl, v, _, t, _, isI x, rfl, .ty "int", ty, kI, isI x, rfl, ?_⟩
    cases x with
    | int i => exact iteT ⟨_, rfl, _, _, t, _, false, rfl, .ty "bool", ty, kB, false, rfl, q⟩
    | bl b => exact iteT ⟨_, rfl, _, _, t, _, true, rfl, .ty "bool", ty, kB, true, rfl, q⟩
    | _ => exact iteF q
def spIsNumberD (K : PySem.W.Frag) : Sp := fun vs H Q _ => ∃ (v : V) (d : Dat), vs = [v] ∧ DtAt K H v d ∧ Q (.bl (isNB (intD d))) H
theorem ok_is_numberD (T : Blt mg) (dP_is_int : DnIsInt K mg) (d : DnIsNumber K mg) : FnOk P w K mg base CX0 2 d.f d.fd ["thing"] (spIsNumberD K) := by
  have GP_is_int : FnOk P w K mg base CX0 1 dP_is_int.f dP_is_int.fd ["thing"] (spIsIntD K) := ok_is_intD T dP_is_int
  refine d.F.ok scP_is_number (fun vs H Q E h => ?_) (fun cdv A outer s H vs Q E hr h => ?_)
  · obtain ⟨v, n, rfl, _⟩ := h
    rfl
  · obtain ⟨v, x, rfl, hx, q⟩ := h
    refine ⟨_, (pss_one (ps_ret (pe_and (pe_call GP_is_int (hr.mono (by omega)) (by rfl) dP_is_int.g dP_is_int.F.kp dP_is_int.b .nil pass0 (pa_cons (pv 0) pa_nil)) (pe_one (pe_cmpR op_ge (pv 0) pe_int (nomark _)))))), ?_⟩
    refine ⟨v, rfl, v, x, rfl, hx, (intD x).isSome, rfl, ?_⟩
    cases x with
    | int i =>
      obtain ⟨rfl, _⟩ := hx.int
      exact iteT ⟨.int i, rfl, _, _, rfl, rfl, q⟩
    | _ => exact iteF q
def spIsRoomD (K : PySem.W.Frag) : Sp := fun vs H Q _ => ∃ (v : V) (d : Dat), vs = [v] ∧ DtAt K H v d ∧ Q (.bl (isRB (intD d))) H
theorem ok_is_roomD (T : Blt mg) (cM : Cst mg "MOST_ROOM" (.int 64)) (dP_is_int : DnIsInt K mg) (d : DnIsRoom K mg) : FnOk P w K mg base CX0 2 d.f d.fd ["thing"] (spIsRoomD K) := by
  have GP_is_int : FnOk P w K mg base CX0 1 dP_is_int.f dP_is_int.fd ["thing"] (spIsIntD K) := ok_is_intD T dP_is_int
  refine d.F.ok scP_is_room (fun vs H Q E h => ?_) (fun cdv A outer s H vs Q E hr h => ?_)
  · obtain ⟨v, n, rfl, _⟩ := h
    rfl
  · obtain ⟨v, x, rfl, hx, q⟩ := h
    refine ⟨_, (pss_one (ps_ret (pe_and (pe_call GP_is_int (hr.mono (by omega)) (by rfl) dP_is_int.g dP_is_int.F.kp dP_is_int.b .nil pass0 (pa_cons (pv 0) pa_nil)) (pe_one (pe_chain op_le op_le pe_int (pv 0) (pe_glob rfl cM.g cM.r)))))), ?_⟩
    refine ⟨v, rfl, v, x, rfl, hx, (intD x).isSome, rfl, ?_⟩
    cases x with
    | int i =>
      obtain ⟨rfl, _⟩ := hx.int
      have q : Q (.bl (decide (1 ≤ i) && decide (i ≤ 64))) H := q
      refine iteT ⟨.int i, rfl, _, _, rfl, rfl, decide (1 ≤ i), rfl, ite2 (fun e => ⟨_, _, rfl, rfl, ?_⟩) (fun e => ?_)⟩
      · rw [e, Bool.true_and] at q
        exact q
      · rw [show decide (1 ≤ i) = false from by simpa using e, Bool.false_and] at q
        exact q
    | _ => exact iteF q
/-! is_name, of anything -/
def spIsNameD (K : PySem.W.Frag) : Sp := fun vs H Q _ => ∃ (v : V) (d : Dat), vs = [v] ∧ DtAt K H v d ∧ ∀ H', Same H H' → Q (.bl (nameD d)) H'
theorem ok_is_nameD (T : Blt mg) (cL : Cst mg "LONGEST_NAME" (.int 8)) (d : DnIsName K mg) : FnOk P w K mg base CX0 1 d.f d.fd ["thing"] (spIsNameD K) := by
  refine d.F.ok scP_is_name (fun vs H Q E h => ?_) (fun cdv A outer s H vs Q E hr h => ?_)
  · obtain ⟨v, n, rfl, _⟩ := h
    rfl
  · obtain ⟨v, x, rfl, hx, q⟩ := h
    refine ⟨_, (pss_cons (ps_if (PW.pt (pw_or (pt_not (pt_val (pe_callB (call_isD (K := K) rfl) (by rfl) T.n_isinstance (by decide +kernel) (pa_cons (pv 0) (pa_cons (pe_bltn (v := .ty "str") (by rfl) T.n_str (by decide +kernel) rfl) pa_nil))))) (pw_or1 (pt_not (pt_chain op_le op_le pe_int (pe_callB call_len_str (by rfl) T.n_len (by decide +kernel) (pa_cons (pv 0) pa_nil)) (pe_glob rfl cL.g cL.r))))))
      (pss_one (ps_ret pe_bl))
      pss_nil)
    (pss_one (ps_ret (pe_callB (cr_all rfl) (by rfl) T.n_all (by decide +kernel) (pa_cons (pe_lc (own := [("letter", 1)]) (g := gName 1) (tt := tYes) rfl scP_is_name.nd (pi_str (pv 0)) (blkOk_by (N := NP_is_name) (sc := defScope sP_is_name) (by decide +kernel)) (fun _ _ _ _ _ => pg_name (i := 1) scP_is_name.nd rfl (Or.inl rfl)) (fun _ _ _ _ _ => pts_nil) (fun _ _ _ _ _ => (pe_chain op_le_str op_le_str pe_str (pv 1) pe_str))) pa_nil))))), ?_⟩
    obtain ⟨t, ty, kI, kB, kS, kT⟩ := hx.ty
    refine ⟨v, rfl, v, _, t, _, isS x, rfl, .ty "str", ty, kS, isS x, rfl, ?_⟩
    cases x with
    | str z =>
      obtain ⟨rfl, hz⟩ := hx.str
      have q : ∀ H', Same H H' → Q (.bl (decide (1 ≤ z.length) && (decide (z.length ≤ 8) && (cs z).all nmC))) H' := q
      refine iteF ⟨.str z, rfl, z, rfl, (by rw [sizeLine_eq]; omega), _, _, rfl, rfl, ?_⟩
      by_cases h1 : 1 ≤ z.length
      · rw [decide_eq_true h1, Bool.true_and] at q
        refine ⟨true, congrArg V.bl (decide_eq_true (by omega)), iteT ⟨_, _, rfl, rfl, ?_⟩⟩
        by_cases h8 : z.length ≤ 8
        · rw [decide_eq_true h8, Bool.true_and] at q
          refine ⟨true, congrArg V.bl (decide_eq_true (by omega)), iteF ⟨.str z, rfl, z, rfl, fun D nD => ?_⟩⟩
          refine lc_it walk_str (fun i H3 => Same H H3 ∧ H3 D = some (.lst (((cs z).take i).map fun c => V.bl (nmC c)))) ⟨same_upd nD, upd_same⟩ (fun _ _ _ _ => trivial) (fun i x H3 H4 hi h3 y => ?_) (fun H3 h3 => ?_)
          · obtain ⟨rfl, c, hc, rfl⟩ := y
            have hc2 : (cs z)[i]? = some c := by
              rw [← hc]
              simp [cs]
            have fin : ∃ xs, H4 D = some (.lst xs) ∧ xs.length + 1 ≤ sizeLine ∧ (Same H (upd H4 D (.lst (xs ++ [V.bl (nmC c)]))) ∧ (upd H4 D (.lst (xs ++ [V.bl (nmC c)]))) D = some (.lst (((cs z).take (i + 1)).map fun c => V.bl (nmC c)))) := by
              refine ⟨_, h3.2, ?_, fun b o e => ?_, ?_⟩
              · rw [List.length_map, List.length_take, sizeLine_eq]
                have := cs_len z
                omega
              · rw [upd_ne (ne_of_none e nD)]
                exact h3.1 b o e
              · rw [upd_same, List.take_add_one, hc2, List.map_append]
                rfl
            have e1 : (!decide ((cs ⟨#[c]⟩) < (Str.ofString "a").cps.toList)) = !decide (c < 97) := by
              rw [show (Str.ofString "a").cps.toList = [97] by decide +kernel]
              show (!decide ([c] < [97])) = _
              rw [lt_one]
            have e2 : (!decide ((Str.ofString "z").cps.toList < cs ⟨#[c]⟩)) = !decide (122 < c) := by
              rw [show (Str.ofString "z").cps.toList = [122] by decide +kernel]
              show (!decide ([122] < [c])) = _
              rw [lt_one]
            refine ⟨rfl, .str ⟨#[c]⟩, rfl, _, _, rfl, rfl, !decide (c < 97), congrArg V.bl e1, ite2 (fun ea => ⟨_, _, rfl, rfl, ?_⟩) (fun ea => ?_)⟩
            · have en : nmC c = !decide (122 < c) := by
                unfold nmC
                rw [ea, Bool.true_and]
              rw [en] at fin
              show ∃ xs, _
              rw [show (!decide ((Str.ofString "z").cps.toList < ([c] : List Nat))) = !decide (122 < c) from e2]
              exact fin
            · have en : nmC c = false := by
                unfold nmC
                rw [show (!decide (c < 97)) = false by simpa using ea, Bool.false_and]
              rw [en] at fin
              exact fin
          · refine ⟨D, (cs z).map nmC, rfl, sql ?_, ?_⟩
            · rw [h3.2, List.map_map]
              rw [List.take_of_length_le (by
                show (cs z).length ≤ z.cps.size
                simp [cs])]
              rfl
            · rw [show ((cs z).map nmC).all id = (cs z).all nmC by rw [List.all_map]; rfl]
              exact q H3 h3.1
        · rw [decide_eq_false h8, Bool.false_and] at q
          exact ⟨false, congrArg V.bl (decide_eq_false (by omega)), iteT (q H (Same.refl H))⟩
      · rw [decide_eq_false h1, Bool.false_and] at q
        exact ⟨false, congrArg V.bl (decide_eq_false (by omega)), iteF ⟨false, rfl, iteT (q H (Same.refl H))⟩⟩
    | _ => exact iteT (iteT (q H (Same.refl H)))
end
end Kb

namespace Kb
open PySem PySem.Spec PyProof.Rows L2 SrtZ SrtO
section
variable {P : Program} {w : World} {K : PySem.W.Frag} {mg : Str → Option Value} {base : Heap}
/-! _is_counted, are_counts -/
def spIsCountedD (K : PySem.W.Frag) : Sp := fun vs H Q _ => ∃ (v : V) (d : Dat), vs = [v] ∧ DtAt K H v d ∧ ∀ H', Same H H' → Q (.bl (cntB d)) H'
theorem ok_is_countedD (T : Blt mg) (cL : Cst mg "LONGEST_NAME" (.int 8)) (dP_is_int : DnIsInt K mg) (dP_is_name : DnIsName K mg) (d : DnIsCounted K mg) : FnOk P w K mg base CX0 2 d.f d.fd ["pair"] (spIsCountedD K) := by
  have GP_is_int : FnOk P w K mg base CX0 1 dP_is_int.f dP_is_int.fd ["thing"] (spIsIntD K) := ok_is_intD T dP_is_int
  have GP_is_name : FnOk P w K mg base CX0 1 dP_is_name.f dP_is_name.fd ["thing"] (spIsNameD K) := ok_is_nameD T cL dP_is_name
  refine d.F.ok scP_is_counted (fun vs H Q E h => ?_) (fun cdv A outer s H vs Q E hr h => ?_)
  · obtain ⟨v, n, rfl, _⟩ := h
    rfl
  · obtain ⟨v, x, rfl, hx, q⟩ := h
    refine ⟨_, (pss_cons (ps_if (PW.pt (pw_or (pt_not (pt_val (pe_callB (call_isD (K := K) rfl) (by rfl) T.n_isinstance (by decide +kernel) (pa_cons (pv 0) (pa_cons (pe_bltn (v := .ty "tuple") (by rfl) T.n_tuple (by decide +kernel) rfl) pa_nil))))) (pw_or1 (pt_cmpR op_ne (pe_callB call_len_seq (by rfl) T.n_len (by decide +kernel) (pa_cons (pv 0) pa_nil)) pe_int (nomark _)))))
      (pss_one (ps_ret pe_bl))
      pss_nil)
    (pss_one (ps_ret (pe_and (pe_call GP_is_name (hr.mono (by omega)) (by rfl) dP_is_name.g dP_is_name.F.kp dP_is_name.b .nil pass0 (pa_cons (pe_ix ix_tup (pv 0) pe_int (fun _ _ => rfl)) pa_nil)) (pe_and (pe_call GP_is_int (hr.mono (by omega)) (by rfl) dP_is_int.g dP_is_int.F.kp dP_is_int.b .nil pass0 (pa_cons (pe_ix ix_tup (pv 0) pe_int (fun _ _ => rfl)) pa_nil)) (pe_one (pe_cmpR op_ge (pe_ix ix_tup (pv 0) pe_int (fun _ _ => rfl)) pe_int (nomark _)))))))), ?_⟩
    obtain ⟨t, ty, kI, kB, kS, kT⟩ := hx.ty
    refine ⟨v, rfl, v, _, t, _, isT x, rfl, .ty "tuple", ty, kT, isT x, rfl, ?_⟩
    cases x with
    | tup ds =>
      obtain ⟨a, xs, rfl, h1, h2, h3⟩ := hx.tup
      have hl := Paired.length h3
      refine iteF ⟨.ref a, rfl, a, _, rfl, .inr h1.seq, rfl, ?_⟩
      have long : ds.length ≠ 2 → cntB (.tup ds) = false := fun hn => by
        match ds, hn with
        | [], _ => rfl
        | [_], _ => rfl
        | [_, _], h => exact absurd rfl h
        | _ :: _ :: _ :: _, _ => rfl
      by_cases h2l : ds.length = 2
      · have hx2 : ((xs.length : Nat) : Int) = 2 := by omega
        refine ⟨false, congrArg V.bl (by rw [hx2]; rfl), iteF ?_⟩
        obtain ⟨d1, d2, rfl⟩ : ∃ d1 d2, ds = [d1, d2] := match ds, h2l with | [d1, d2], _ => ⟨d1, d2, rfl⟩
        obtain ⟨x1, x2, rfl⟩ : ∃ x1 x2, xs = [x1, x2] := match xs, hl with | [x1, x2], _ => ⟨x1, x2, rfl⟩
        have e1 : DtAt K H x1 d1 := by cases h3 with | cons e _ => exact e
        have e2 : DtAt K H x2 d2 := by cases h3 with | cons _ h => cases h with | cons e _ => exact e
        have q : ∀ H', Same H H' → Q (.bl (nameD d1 && isPB (intD d2))) H' := q
        refine ⟨.ref a, rfl, a, _, _, _, rfl, rfl, h1.seq, atI_nat (j := 0) rfl, x1, d1, rfl, e1, fun H1 s1 => ⟨nameD d1, rfl, ?_⟩⟩
        have h1' := h1.same s1
        cases c1 : nameD d1 with
        | false =>
          rw [c1, Bool.false_and] at q
          exact iteF (q H1 s1)
        | true =>
          rw [c1, Bool.true_and] at q
          refine iteT ⟨.ref a, rfl, a, _, _, _, rfl, rfl, h1'.seq, atI_nat (j := 1) rfl, x2, d2, rfl, e2.same s1, (intD d2).isSome, rfl, ?_⟩
          cases d2 with
          | int i =>
            obtain ⟨rfl, _⟩ := e2.int
            exact iteT ⟨.ref a, rfl, a, _, _, _, rfl, rfl, h1'.seq, atI_nat (j := 1) rfl, _, _, rfl, rfl, q H1 s1⟩
          | _ => exact iteF (q H1 s1)
      · rw [long h2l] at q
        refine ⟨true, congrArg V.bl ?_, iteT (q H (Same.refl H))⟩
        rw [decide_eq_false (by
          intro z
          injection z with z
          omega)]
        rfl
    | _ => exact iteT (iteT (q H (Same.refl H)))
def spAreCountsD (K : PySem.W.Frag) : Sp := fun vs H Q _ => ∃ (v : V) (d : Dat), vs = [v] ∧ DtAt K H v d ∧ ∀ H', Same H H' → Q (.bl (ctD d)) H'
theorem ok_are_countsD (T : Blt mg) (cL : Cst mg "LONGEST_NAME" (.int 8)) (dP_is_int : DnIsInt K mg) (dP_is_name : DnIsName K mg) (dP_is_counted : DnIsCounted K mg) (d : DnAreCounts K mg) : FnOk P w K mg base CX0 3 d.f d.fd ["thing"] (spAreCountsD K) := by
  have GP_is_counted : FnOk P w K mg base CX0 2 dP_is_counted.f dP_is_counted.fd ["pair"] (spIsCountedD K) := ok_is_countedD T cL dP_is_int dP_is_name dP_is_counted
  refine d.F.ok scP_are_counts (fun vs H Q E h => ?_) (fun cdv A outer s H vs Q E hr h => ?_)
  · obtain ⟨v, n, rfl, _⟩ := h
    rfl
  · obtain ⟨v, x, rfl, hx, q⟩ := h
    refine ⟨_, (pss_cons (ps_if (pt_not (pt_val (pe_callB (call_isD (K := K) rfl) (by rfl) T.n_isinstance (by decide +kernel) (pa_cons (pv 0) (pa_cons (pe_bltn (v := .ty "tuple") (by rfl) T.n_tuple (by decide +kernel) rfl) pa_nil)))))
      (pss_one (ps_ret pe_bl))
      pss_nil)
    (pss_cons (ps_set (i := 1) scP_are_counts.nd rfl (Or.inl rfl) pe_str)
    (pss_cons (ps_for PassesOwn.never rfl (pi_tup (pv 0)) (pg_name (i := 2) scP_are_counts.nd rfl (Or.inl rfl))
      (pss_cons (ps_if (PW.pt (pw_or (pt_not (pt_val (pe_call GP_is_counted (hr.mono (by omega)) (by rfl) dP_is_counted.g dP_is_counted.F.kp dP_is_counted.b .nil pass0 (pa_cons (pv 2) pa_nil)))) (pw_or1 (pt_cmpR op_le_str (pe_ix ix_tup (pv 2) pe_int (fun _ _ => rfl)) (pv 1) (nomark _)))))
        (pss_one (ps_ret pe_bl))
        pss_nil)
      (pss_one (ps_set (i := 1) scP_are_counts.nd rfl (Or.inl rfl) (pe_ix ix_tup (pv 2) pe_int (fun _ _ => rfl))))))
    (pss_one (ps_ret pe_bl))))), ?_⟩
    obtain ⟨t, ty, kI, kB, kS, kT⟩ := hx.ty
    refine ⟨v, rfl, v, _, t, _, isT x, rfl, .ty "tuple", ty, kT, isT x, rfl, ?_⟩
    cases x with
    | tup ds =>
      obtain ⟨a, xs, rfl, h1, h2, h3⟩ := hx.tup
      have hl := Paired.length h3
      have q : ∀ H', Same H H' → Q (.bl (ctsB (Str.ofString "") ds)) H' := q
      refine iteF ⟨.ref a, rfl, a, rfl, ⟨_, h1.seq⟩, for_tup (xs := xs) (fun i σ H3 => ∃ (la : Str) (x : Option V), σ = [some (.ref a), some (.str la), x] ∧ Same H H3 ∧ ctsB (Str.ofString "") ds = ctsB la (ds.drop i))
        ⟨Str.ofString "", none, rfl, Same.refl H, rfl⟩ (fun i σ H3 _ ⟨_, _, _, s3, _⟩ => (h1.same s3).seq) ?_ ?_⟩
      · rintro i v σ H3 hi ⟨la, x, rfl, s3, ee⟩
        obtain ⟨e, he, hat⟩ := paired_at h3 hi
        have hde : ds.drop i = e :: ds.drop (i + 1) := by
          obtain ⟨hlt, hg⟩ := List.getElem?_eq_some_iff.mp he
          rw [List.drop_eq_getElem_cons hlt, hg]
        rw [hde] at ee
        have ee : ctsB (Str.ofString "") ds = (cntB e && (ltZ la (nmOf e) && ctsB (nmOf e) (ds.drop (i + 1)))) := ee
        have hat3 := hat.same s3
        refine ⟨v, rfl, v, e, rfl, hat3, fun H4 s4 => ⟨cntB e, rfl, ?_⟩⟩
        have s04 := Same.trans s3 s4
        cases ce : cntB e with
        | false =>
          rw [ce, Bool.false_and] at ee
          rw [ee] at q
          exact iteT (iteT (q H4 s04))
        | true =>
          rw [ce, Bool.true_and] at ee
          obtain ⟨z, n, rfl, hz, hn⟩ := cntB_is ce
          obtain ⟨p, ys, rfl, g1, g2, g3⟩ := (hat3.same s4).tup
          have ee : ctsB (Str.ofString "") ds = (ltZ la z && ctsB z (ds.drop (i + 1))) := ee
          have iz : ys[0]? = some (.str z) := by
            cases g3 with
            | cons k _ =>
              obtain ⟨rfl, _⟩ := k.str
              rfl
          refine iteF ⟨.ref p, rfl, p, _, _, _, rfl, rfl, g1.seq, atI_nat (j := 0) iz, .str la, rfl, _, _, rfl, rfl, !ltZ la z, rfl, ?_⟩
          cases cl : ltZ la z with
          | false =>
            rw [cl, Bool.false_and] at ee
            rw [ee] at q
            exact iteT (q H4 s04)
          | true =>
            rw [cl, Bool.true_and] at ee
            exact iteF ⟨.ref p, rfl, p, _, _, _, rfl, rfl, g1.seq, atI_nat (j := 0) iz, z, some (.ref p), rfl, s04, ee⟩
      · rintro σ H3 ⟨la, x, rfl, s3, ee⟩
        rw [hl, List.drop_length] at ee
        have ee : ctsB (Str.ofString "") ds = true := ee
        rw [ee] at q
        exact q H3 s3
    | _ => exact iteT (q H (Same.refl H))
end
end Kb

namespace Kb
open PySem PySem.Spec PyProof.Rows L2 SrtZ SrtO
section
variable {P : Program} {w : World} {K : PySem.W.Frag} {mg : Str → Option Value} {base : Heap}
theorem skD_long {ds : List Dat} (h : ds.length ≠ 4) : skD (.tup ds) = false := by
  match ds, h with
  | [], _ => rfl
  | [_], _ => rfl
  | [_, _], _ => rfl
  | [_, _, _], _ => rfl
  | [_, _, _, _], h => exact absurd rfl h
  | _ :: _ :: _ :: _ :: _ :: _, _ => rfl
theorem four {α : Type} {xs : List α} (h : xs.length = 4) : ∃ a b c d, xs = [a, b, c, d] := match xs, h with | [a, b, c, d], _ => ⟨a, b, c, d, rfl⟩
theorem paired4 {α β : Type} {F : α → β → Prop} {a b c d : α} {e f g h : β} (p : Paired F [a, b, c, d] [e, f, g, h]) : F a e ∧ F b f ∧ F c g ∧ F d h := by
  cases p with | cons h1 p =>
  cases p with | cons h2 p =>
  cases p with | cons h3 p =>
  cases p with | cons h4 p =>
  exact ⟨h1, h2, h3, h4⟩
/-- counts that are right, as they stand -/
theorem ct_of {H : Hp} {v : V} {d : Dat} (h : DtAt K H v d) (c : ctD d = true) : ∃ k, v = .ref k ∧ CtAt K H k (kvD d) ∧ Cts (kvD d) ∧ (kvD d).length = lenD d := by
  cases d with
  | tup ks =>
    obtain ⟨k, ys, rfl, g1, g2, g3⟩ := h.tup
    obtain ⟨cc, _, al⟩ := ctsB_cts (show ctsB (Str.ofString "") ks = true from c)
    obtain ⟨ts, rfl, hts⟩ := prs_of g3 al
    exact ⟨k, rfl, ⟨ts, g1.seq, hts⟩, cc, by
      show (ks.map kvO).length = ks.length
      rw [List.length_map]⟩
  | _ => cases c
theorem isRB_is {d : Dat} (h : isRB (intD d) = true) : ∃ r, d = .int r ∧ 1 ≤ r ∧ r ≤ 64 := by
  cases d with
  | int r =>
    have h : (decide (1 ≤ r) && decide (r ≤ 64)) = true := h
    rw [Bool.and_eq_true, decide_eq_true_eq, decide_eq_true_eq] at h
    exact ⟨r, rfl, h.1, h.2⟩
  | _ => cases h
theorem isNB_is {d : Dat} (h : isNB (intD d) = true) : ∃ r, d = .int r ∧ 0 ≤ r := by
  cases d with
  | int r => exact ⟨r, rfl, of_decide_eq_true h⟩
  | _ => cases h
def Dat.at0 : Dat → Dat
  | .tup (d :: _) => d
  | _ => .non
theorem cts_nd {kvs : Ct} (c : Cts kvs) : NdZ kvs := List.pairwise_map.mpr (c.asc.imp fun h e => by rw [e, ltZ_irr] at h; cases h)
/-- a right sketch, where it stands -/
theorem sk_of {H : Hp} {v : V} {d : Dat} (h : DtAt K H v d) (c : skD d = true) : ∃ (s : Addr) (r : Int) (x : Tl), v = .ref s ∧ SkY K H s r x ∧ SkO r x ∧ d.at0 = .int r := by
  match d, h, c with
  | .tup [d1, d2, d3, d4], h, c =>
    have c : (isRB (intD d1) && (isNB (intD d2) && (isNB (intD d3) && (ctD d4 && (decide ((lenD d4 : Int) ≤ geI d1) && (decide ((geI d1 + 1) * geI d3 ≤ geI d2 - sumC (kvD d4)) && decide (geI d2 - sumC (kvD d4) ≤ 2 * geI d1 * geI d3))))))) = true := c
    simp only [Bool.and_eq_true, decide_eq_true_eq] at c
    obtain ⟨c1, c2, c3, c4, c5, c6, c7⟩ := c
    obtain ⟨a, xs, rfl, h1, h2, h3⟩ := h.tup
    obtain ⟨x1, x2, x3, x4, rfl⟩ := four (show xs.length = 4 from Paired.length h3)
    obtain ⟨e1, e2, e3, e4⟩ := paired4 h3
    obtain ⟨r, rfl, r1, r64⟩ := isRB_is c1
    obtain ⟨m, rfl, m0⟩ := isNB_is c2
    obtain ⟨o, rfl, o0⟩ := isNB_is c3
    obtain ⟨rfl, _⟩ := e1.int
    obtain ⟨rfl, _⟩ := e2.int
    obtain ⟨rfl, _⟩ := e3.int
    cases d4 with
    | tup ks =>
      obtain ⟨k, ys, rfl, g1, g2, g3⟩ := e4.tup
      obtain ⟨cc, _, al⟩ := ctsB_cts (show ctsB (Str.ofString "") ks = true from c4)
      obtain ⟨ts, rfl, hts⟩ := prs_of g3 al
      have nd : NdZ (ks.map kvO) := cts_nd cc
      have es : ks.map kvO = srtZ (ks.map kvO) := srtZ_of cc.asc (List.Perm.refl _) nd
      refine ⟨a, r, ⟨m, o, ks.map kvO⟩, rfl, ⟨k, ts, h1.seq, g1, by rw [← es]; exact hts⟩, ⟨r1, r64, ⟨nd, ?_, cc.pos, cc.nm⟩, ⟨c6, c7, o0, m0⟩⟩, rfl⟩
      show ((ks.map kvO).length : Int) ≤ r
      rw [List.length_map]
      exact c5
    | _ => cases c4
/-! is_sketch, of anything -/
def spIsSketchD (K : PySem.W.Frag) : Sp := fun vs H Q _ => ∃ (v : V) (d : Dat), vs = [v] ∧ DtAt K H v d ∧ ∀ H', Same H H' → Q (.bl (skD d)) H'
theorem ok_is_sketchD (T : Blt mg) (cM : Cst mg "MOST_ROOM" (.int 64)) (cL : Cst mg "LONGEST_NAME" (.int 8)) (dP_is_int : DnIsInt K mg) (dP_is_number : DnIsNumber K mg) (dP_is_room : DnIsRoom K mg) (dP_is_name : DnIsName K mg) (dP_is_counted : DnIsCounted K mg) (dP_are_counts : DnAreCounts K mg)
    (dP_lost_of : DnLostOf K mg) (d : DnIsSketch K mg) : FnOk P w K mg base CX0 4 d.f d.fd ["thing"] (spIsSketchD K) := by
  have GP_is_room : FnOk P w K mg base CX0 2 dP_is_room.f dP_is_room.fd ["thing"] (spIsRoomD K) := ok_is_roomD T cM dP_is_int dP_is_room
  have GP_is_number : FnOk P w K mg base CX0 2 dP_is_number.f dP_is_number.fd ["thing"] (spIsNumberD K) := ok_is_numberD T dP_is_int dP_is_number
  have GP_are_counts : FnOk P w K mg base CX0 3 dP_are_counts.f dP_are_counts.fd ["thing"] (spAreCountsD K) := ok_are_countsD T cL dP_is_int dP_is_name dP_is_counted dP_are_counts
  have GP_lost_of : FnOk P w K mg base CX0 1 dP_lost_of.f dP_lost_of.fd ["sketch"] (spLostOf K) := ok_lost_of T dP_lost_of
  refine d.F.ok scP_is_sketch (fun vs H Q E h => ?_) (fun cdv A outer s H vs Q E hr h => ?_)
  · obtain ⟨v, n, rfl, _⟩ := h
    rfl
  · obtain ⟨v, x, rfl, hx, q⟩ := h
    refine ⟨_, (pss_cons (ps_if (PW.pt (pw_or (pt_not (pt_val (pe_callB (call_isD (K := K) rfl) (by rfl) T.n_isinstance (by decide +kernel) (pa_cons (pv 0) (pa_cons (pe_bltn (v := .ty "tuple") (by rfl) T.n_tuple (by decide +kernel) rfl) pa_nil))))) (pw_or1 (pt_cmpR op_ne (pe_callB call_len_seq (by rfl) T.n_len (by decide +kernel) (pa_cons (pv 0) pa_nil)) pe_int (nomark _)))))
      (pss_one (ps_ret pe_bl))
      pss_nil)
    (pss_cons (ps_asg (pv 0) (pg_tup (by rfl) (pgs_cons (pg_name (i := 1) scP_is_sketch.nd rfl (Or.inl rfl)) (pgs_cons (pg_name (i := 2) scP_is_sketch.nd rfl (Or.inl rfl)) (pgs_cons (pg_name (i := 3) scP_is_sketch.nd rfl (Or.inl rfl)) (pgs_cons (pg_name (i := 4) scP_is_sketch.nd rfl (Or.inl rfl)) pgs_nil))))))
    (pss_cons (ps_if (PW.pt (pw_or (pt_not (pt_val (pe_call GP_is_room (hr.mono (by omega)) (by rfl) dP_is_room.g dP_is_room.F.kp dP_is_room.b .nil pass0 (pa_cons (pv 1) pa_nil)))) (pw_or (pt_not (pt_val (pe_call GP_is_number (hr.mono (by omega)) (by rfl) dP_is_number.g dP_is_number.F.kp dP_is_number.b .nil pass0 (pa_cons (pv 2) pa_nil)))) (pw_or1 (pt_not (pt_val (pe_call GP_is_number (hr.mono (by omega)) (by rfl) dP_is_number.g dP_is_number.F.kp dP_is_number.b .nil pass0 (pa_cons (pv 3) pa_nil))))))))
      (pss_one (ps_ret pe_bl))
      pss_nil)
    (pss_cons (ps_if (PW.pt (pw_or (pt_not (pt_val (pe_call GP_are_counts (hr.mono (by omega)) (by rfl) dP_are_counts.g dP_are_counts.F.kp dP_are_counts.b .nil pass0 (pa_cons (pv 4) pa_nil)))) (pw_or1 (pt_cmpR op_gt (pe_callB call_len_seq (by rfl) T.n_len (by decide +kernel) (pa_cons (pv 4) pa_nil)) (pv 1) (nomark _)))))
      (pss_one (ps_ret pe_bl))
      pss_nil)
    (pss_one (ps_ret (pe_chain op_le op_le (pe_op op_mul (pe_op op_add (pv 1) pe_int) (pv 3)) (pe_call GP_lost_of (hr.mono (by omega)) (by rfl) dP_lost_of.g dP_lost_of.F.kp dP_lost_of.b .nil pass0 (pa_cons (pv 0) pa_nil)) (pe_op op_mul (pe_op op_mul pe_int (pv 1)) (pv 3))))))))), ?_⟩
    obtain ⟨t, ty, kI, kB, kS, kT⟩ := hx.ty
    refine ⟨v, rfl, v, _, t, _, isT x, rfl, .ty "tuple", ty, kT, isT x, rfl, ?_⟩
    cases x with
    | tup ds =>
      obtain ⟨a, xs, rfl, h1, h2, h3⟩ := hx.tup
      have hl := Paired.length h3
      refine iteF ⟨.ref a, rfl, a, _, rfl, .inr h1.seq, rfl, ?_⟩
      by_cases h2l : ds.length = 4
      · obtain ⟨d1, d2, d3, d4, rfl⟩ := four h2l
        obtain ⟨x1, x2, x3, x4, rfl⟩ := four (hl.trans h2l)
        obtain ⟨e1, e2, e3, e4⟩ := paired4 h3
        refine ⟨false, rfl, iteF ?_⟩
        refine ⟨.ref a, rfl, a, _, rfl, h1.seq, rfl, _, _, rfl, _, _, rfl, _, _, rfl, _, _, rfl, rfl, ?_⟩
        have q : ∀ H', Same H H' → Q (.bl (isRB (intD d1) && (isNB (intD d2) && (isNB (intD d3) && (ctD d4 && (decide ((lenD d4 : Int) ≤ geI d1) && (decide ((geI d1 + 1) * geI d3 ≤ geI d2 - sumC (kvD d4)) && decide (geI d2 - sumC (kvD d4) ≤ 2 * geI d1 * geI d3)))))))) H' := q
        refine ⟨x1, rfl, x1, d1, rfl, e1, isRB (intD d1), rfl, ?_⟩
        cases eR : isRB (intD d1) with
        | false =>
          rw [eR, Bool.false_and] at q
          exact iteT (iteT (q H (Same.refl H)))
        | true =>
          rw [eR, Bool.true_and] at q
          refine iteF ⟨x2, rfl, x2, d2, rfl, e2, isNB (intD d2), rfl, ?_⟩
          cases eM : isNB (intD d2) with
          | false =>
            rw [eM, Bool.false_and] at q
            exact iteT (iteT (q H (Same.refl H)))
          | true =>
            rw [eM, Bool.true_and] at q
            refine iteF ⟨x3, rfl, x3, d3, rfl, e3, isNB (intD d3), rfl, ?_⟩
            cases eO : isNB (intD d3) with
            | false =>
              rw [eO, Bool.false_and] at q
              exact iteT (q H (Same.refl H))
            | true =>
              rw [eO, Bool.true_and] at q
              refine iteF ⟨x4, rfl, x4, d4, rfl, e4, fun H1 s1 => ⟨ctD d4, rfl, ?_⟩⟩
              cases eC : ctD d4 with
              | false =>
                rw [eC, Bool.false_and] at q
                exact iteT (iteT (q H1 s1))
              | true =>
                rw [eC, Bool.true_and] at q
                obtain ⟨k, rfl, hk, cc, hlen⟩ := ct_of e4 eC
                obtain ⟨r, rfl, r1, r64⟩ := isRB_is eR
                obtain ⟨m, rfl, m0⟩ := isNB_is eM
                obtain ⟨o, rfl, o0⟩ := isNB_is eO
                obtain ⟨rfl, _⟩ := e1.int
                obtain ⟨rfl, _⟩ := e2.int
                obtain ⟨rfl, _⟩ := e3.int
                generalize hkv : kvD d4 = kvs at hk cc hlen q
                rw [← hlen] at q
                have q : ∀ H', Same H H' → Q (.bl (decide ((kvs.length : Int) ≤ r) && (decide ((r + 1) * o ≤ m - sumC kvs) && decide (m - sumC kvs ≤ 2 * r * o)))) H' := q
                obtain ⟨ts, hS, hp⟩ := hk.same s1
                have el : (ts.map V.ref).length = kvs.length := by rw [List.length_map, Paired.length hp]
                refine iteF ⟨.ref k, rfl, k, _, rfl, .inr hS, .int r, rfl, _, _, rfl, rfl, _, rfl, ?_⟩
                rw [el]
                by_cases eL : (kvs.length : Int) ≤ r
                · rw [show decide ((kvs.length : Int) > r) = false from decide_eq_false (by omega)]
                  rw [decide_eq_true eL, Bool.true_and] at q
                  refine iteF ?_
                  refine ⟨.int r, rfl, _, _, rfl, rfl, .int o, rfl, _, _, rfl, rfl, cmulL (by omega) (by omega), .ref a, rfl, a, k, r, m, o, kvs, rfl, (h1.same s1).seq, ⟨ts, hS, hp⟩, by omega, fun H2 s2 => ⟨_, _, rfl, rfl, _, rfl, ?_⟩⟩
                  by_cases e1 : (r + 1) * o ≤ m - sumC kvs
                  · rw [decide_eq_true e1] at q ⊢
                    rw [Bool.true_and] at q
                    refine iteT ⟨.int r, rfl, _, _, rfl, rfl, cmulL (by decide) (by decide), .int o, rfl, _, _, rfl, rfl, cmulL (by omega) (by omega), _, _, rfl, rfl, ?_⟩
                    exact q H2 fun b o z => s2 b o (s1 b o z)
                  · rw [decide_eq_false e1] at q ⊢
                    rw [Bool.false_and] at q
                    exact iteF (q H2 fun b o z => s2 b o (s1 b o z))
                · rw [show decide ((kvs.length : Int) > r) = true from decide_eq_true (by omega)]
                  rw [decide_eq_false eL, Bool.false_and] at q
                  exact iteT (q H1 s1)
      · rw [skD_long h2l] at q
        refine ⟨true, congrArg V.bl ?_, iteT (q H (Same.refl H))⟩
        rw [decide_eq_false (by
          intro z
          injection z with z
          omega)]
        rfl
    | _ => exact iteT (iteT (q H (Same.refl H)))
end
end Kb

namespace L2
open PySem PySem.Spec PyProof.Rows RZ
/-- zip of two tuples, turn by turn -/
theorem walk_zipTg {K : PySem.W.Frag} {a b : Addr} {xs ys : List V} {n : Nat} (hn : n = min xs.length ys.length) : Walk (ItzT K a b) n (fun H => SqT K H a xs ∧ SqT K H b ys) (YPair (fun i => xs[i]?) (fun i => ys[i]?)) := by
  subst hn
  refine ⟨fun i _ hi q => ?_, fun _ q => ⟨xs, ys, q.1, q.2, by omega⟩, fun i H v H' _ q y => ?_⟩
  · have h1 : i < xs.length := by omega
    have h2 : i < ys.length := by omega
    exact ⟨xs, ys, xs[i], ys[i], q.1, q.2, by simp [h1], by simp [h2]⟩
  · obtain ⟨T, x, z, h1, h2, h3, h4, h5⟩ := y
    exact ⟨T, x, z, h1, h2, h3, h4 xs q.1, h5 ys q.2⟩
theorem cut_from1 (xs : List V) : cutV xs (some 1) none = xs.drop 1 := by
  have sx1 : HT.sIx xs.length 0 (some 1) = min 1 xs.length := HT.sIx_nat _ _ 1
  unfold cutV
  rw [sx1, HT.sIx_none]
  match xs with
  | [] => rfl
  | z :: r =>
    rw [List.length_cons, show min 1 (r.length + 1) = 1 by omega]
    show List.take (r.length + 1 - 1) r = r
    exact List.take_of_length_le (by omega)
end L2

namespace Kb
open PySem PySem.Spec PyProof.Rows L2 SrtZ SrtO RZ
abbrev sP_is_book : Stmt := topS 24
abbrev NP_is_book : List Str := ["thing", "one", "other", "triple"]
theorem scP_is_book : FnScope ["thing", "one", "other", "triple"] ["thing"] (defScope sP_is_book) := ⟨rfl, rfl, rfl, by decide +kernel, rfl, by decide +kernel, by decide +kernel⟩
abbrev DnIsBook (K : PySem.W.Frag) (mg : Str → Option Value) := Dn K mg "is_book" sP_is_book ["thing"]
abbrev sP_is_triple : Stmt := topS 25
abbrev NP_is_triple : List Str := ["thing", "source", "number", "sketch"]
theorem scP_is_triple : FnScope ["thing", "source", "number", "sketch"] ["thing"] (defScope sP_is_triple) := ⟨rfl, rfl, rfl, by decide +kernel, rfl, by decide +kernel, by decide +kernel⟩
abbrev DnIsTriple (K : PySem.W.Frag) (mg : Str → Option Value) := Dn K mg "_is_triple" sP_is_triple ["thing"]
/-! books judged -/
def Dat.at1 : Dat → Dat
  | .tup (_ :: d :: _) => d
  | _ => .non
def Dat.at2 : Dat → Dat
  | .tup (_ :: _ :: d :: _) => d
  | _ => .non
def srcB : Option Int → Bool
  | some i => decide (1 ≤ i) && decide (i ≤ 9)
  | none => false
def trB : Dat → Bool
  | .tup [d1, d2, d3] => srcB (intD d1) && ((intD d2).isSome && (skD d3 && decide (intD d2 = intD d3.at1)))
  | _ => false
def srcT (d : Dat) : Int := geI d.at0
def numT (d : Dat) : Int := geI d.at1
def roomT (d : Dat) : Int := geI d.at2.at0
def stepB (d e : Dat) : Bool := decide (srcT d < srcT e) && decide (roomT d = roomT e)
def stepsB (ds : List Dat) : List Bool := (ds.zip (ds.drop 1)).map fun p => stepB p.1 p.2
def bookB : Dat → Bool
  | .tup ds => ds.all trB && (stepsB ds).all id
  | _ => false
theorem srcB_is {d : Dat} (h : srcB (intD d) = true) : ∃ s, d = .int s ∧ 1 ≤ s ∧ s ≤ 9 := by
  cases d with
  | int r =>
    have h : (decide (1 ≤ r) && decide (r ≤ 9)) = true := h
    rw [Bool.and_eq_true, decide_eq_true_eq, decide_eq_true_eq] at h
    exact ⟨r, rfl, h.1, h.2⟩
  | _ => cases h
theorem three {α : Type} {xs : List α} (h : xs.length = 3) : ∃ a b c, xs = [a, b, c] := match xs, h with | [a, b, c], _ => ⟨a, b, c, rfl⟩
theorem paired3 {α β : Type} {F : α → β → Prop} {a b c : α} {e f g : β} (p : Paired F [a, b, c] [e, f, g]) : F a e ∧ F b f ∧ F c g := by
  cases p with | cons h1 p =>
  cases p with | cons h2 p =>
  cases p with | cons h3 p =>
  exact ⟨h1, h2, h3⟩
/-- what a right sketch is made of -/
theorem skD_is {d : Dat} (h : skD d = true) : ∃ r m o ks, d = .tup [.int r, .int m, .int o, .tup ks] ∧ 1 ≤ r ∧ r ≤ 64 ∧ 0 ≤ m ∧ 0 ≤ o ∧ ctsB (Str.ofString "") ks = true ∧ (ks.length : Int) ≤ r := by
  match d, h with
  | .tup [d1, d2, d3, d4], c =>
    have c : (isRB (intD d1) && (isNB (intD d2) && (isNB (intD d3) && (ctD d4 && (decide ((lenD d4 : Int) ≤ geI d1) && (decide ((geI d1 + 1) * geI d3 ≤ geI d2 - sumC (kvD d4)) && decide (geI d2 - sumC (kvD d4) ≤ 2 * geI d1 * geI d3))))))) = true := c
    simp only [Bool.and_eq_true, decide_eq_true_eq] at c
    obtain ⟨c1, c2, c3, c4, c5, c6, c7⟩ := c
    obtain ⟨r, rfl, r1, r64⟩ := isRB_is c1
    obtain ⟨m, rfl, m0⟩ := isNB_is c2
    obtain ⟨o, rfl, o0⟩ := isNB_is c3
    cases d4 with
    | tup ks => exact ⟨r, m, o, ks, rfl, r1, r64, m0, o0, c4, c5⟩
    | _ => cases c4
/-- a right triple -/
theorem trB_is {d : Dat} (h : trB d = true) : ∃ s r m o ks, d = .tup [.int s, .int m, .tup [.int r, .int m, .int o, .tup ks]] ∧ 1 ≤ s ∧ s ≤ 9 ∧ 1 ≤ r ∧ r ≤ 64 ∧ 0 ≤ m ∧ skD (.tup [.int r, .int m, .int o, .tup ks]) = true := by
  match d, h with
  | .tup [d1, d2, d3], c =>
    have c : (srcB (intD d1) && ((intD d2).isSome && (skD d3 && decide (intD d2 = intD d3.at1)))) = true := c
    simp only [Bool.and_eq_true, decide_eq_true_eq] at c
    obtain ⟨c1, c2, c3, c4⟩ := c
    obtain ⟨s, rfl, s1, s9⟩ := srcB_is c1
    obtain ⟨r, m, o, ks, rfl, r1, r64, m0, o0, _, _⟩ := skD_is c3
    cases d2 with
    | int i =>
      have c4 : some i = some m := c4
      cases c4
      exact ⟨s, r, m, o, ks, rfl, s1, s9, r1, r64, m0, c3⟩
    | _ => cases c2
theorem trB_long {ds : List Dat} (h : ds.length ≠ 3) : trB (.tup ds) = false := by
  match ds, h with
  | [], _ => rfl
  | [_], _ => rfl
  | [_, _], _ => rfl
  | [_, _, _], h => exact absurd rfl h
  | _ :: _ :: _ :: _ :: _, _ => rfl
section
variable {P : Program} {w : World} {K : PySem.W.Frag} {mg : Str → Option Value} {base : Heap}
/-! _is_triple -/
def spIsTripleD (K : PySem.W.Frag) : Sp := fun vs H Q _ => ∃ (v : V) (d : Dat), vs = [v] ∧ DtAt K H v d ∧ ∀ H', Same H H' → Q (.bl (trB d)) H'
theorem ok_is_tripleD (T : Blt mg) (cM : Cst mg "MOST_ROOM" (.int 64)) (cL : Cst mg "LONGEST_NAME" (.int 8)) (cMM : Cst mg "MOST_MACHINES" (.int 9)) (dP_is_int : DnIsInt K mg) (dP_is_number : DnIsNumber K mg) (dP_is_room : DnIsRoom K mg) (dP_is_name : DnIsName K mg) (dP_is_counted : DnIsCounted K mg) (dP_are_counts : DnAreCounts K mg)
    (dP_lost_of : DnLostOf K mg) (dP_is_sketch : DnIsSketch K mg) (d : DnIsTriple K mg) : FnOk P w K mg base CX0 5 d.f d.fd ["thing"] (spIsTripleD K) := by
  have GP_is_int : FnOk P w K mg base CX0 1 dP_is_int.f dP_is_int.fd ["thing"] (spIsIntD K) := ok_is_intD T dP_is_int
  have GP_is_sketch : FnOk P w K mg base CX0 4 dP_is_sketch.f dP_is_sketch.fd ["thing"] (spIsSketchD K) := ok_is_sketchD T cM cL dP_is_int dP_is_number dP_is_room dP_is_name dP_is_counted dP_are_counts dP_lost_of dP_is_sketch
  refine d.F.ok scP_is_triple (fun vs H Q E h => ?_) (fun cdv A outer s H vs Q E hr h => ?_)
  · obtain ⟨v, n, rfl, _⟩ := h
    rfl
  · obtain ⟨v, x, rfl, hx, q⟩ := h
    refine ⟨_, (pss_cons (ps_if (PW.pt (pw_or (pt_not (pt_val (pe_callB (call_isD (K := K) rfl) (by rfl) T.n_isinstance (by decide +kernel) (pa_cons (pv 0) (pa_cons (pe_bltn (v := .ty "tuple") (by rfl) T.n_tuple (by decide +kernel) rfl) pa_nil))))) (pw_or1 (pt_cmpR op_ne (pe_callB call_len_seq (by rfl) T.n_len (by decide +kernel) (pa_cons (pv 0) pa_nil)) pe_int (nomark _)))))
      (pss_one (ps_ret pe_bl))
      pss_nil)
    (pss_cons (ps_asg (pv 0) (pg_tup (by rfl) (pgs_cons (pg_name (i := 1) scP_is_triple.nd rfl (Or.inl rfl)) (pgs_cons (pg_name (i := 2) scP_is_triple.nd rfl (Or.inl rfl)) (pgs_cons (pg_name (i := 3) scP_is_triple.nd rfl (Or.inl rfl)) pgs_nil)))))
    (pss_cons (ps_if (PW.pt (pw_or (pt_not (pt_val (pe_call GP_is_int (hr.mono (by omega)) (by rfl) dP_is_int.g dP_is_int.F.kp dP_is_int.b .nil pass0 (pa_cons (pv 1) pa_nil)))) (pw_or1 (pt_not (pt_chain op_le op_le pe_int (pv 1) (pe_glob rfl cMM.g cMM.r))))))
      (pss_one (ps_ret pe_bl))
      pss_nil)
    (pss_one (ps_ret (pe_and (pe_call GP_is_int (hr.mono (by omega)) (by rfl) dP_is_int.g dP_is_int.F.kp dP_is_int.b .nil pass0 (pa_cons (pv 2) pa_nil)) (pe_and (pe_call GP_is_sketch (hr.mono (by omega)) (by rfl) dP_is_sketch.g dP_is_sketch.F.kp dP_is_sketch.b .nil pass0 (pa_cons (pv 3) pa_nil)) (pe_one (pe_cmpR op_eq (pv 2) (pe_ix ix_tup (pv 3) pe_int (fun _ _ => rfl)) (nomark _)))))))))), ?_⟩
    obtain ⟨t, ty, kI, kB, kS, kT⟩ := hx.ty
    refine ⟨v, rfl, v, _, t, _, isT x, rfl, .ty "tuple", ty, kT, isT x, rfl, ?_⟩
    cases x with
    | tup ds =>
      obtain ⟨a, xs, rfl, h1, h2, h3⟩ := hx.tup
      have hl := Paired.length h3
      refine iteF ⟨.ref a, rfl, a, _, rfl, .inr h1.seq, rfl, ?_⟩
      by_cases h2l : ds.length = 3
      · obtain ⟨d1, d2, d3, rfl⟩ := three h2l
        obtain ⟨x1, x2, x3, rfl⟩ := three (hl.trans h2l)
        obtain ⟨e1, e2, e3⟩ := paired3 h3
        refine ⟨false, rfl, iteF ?_⟩
        refine ⟨.ref a, rfl, a, _, rfl, h1.seq, rfl, _, _, rfl, _, _, rfl, _, _, rfl, rfl, ?_⟩
        have q : ∀ H', Same H H' → Q (.bl (srcB (intD d1) && ((intD d2).isSome && (skD d3 && decide (intD d2 = intD d3.at1))))) H' := q
        refine ⟨x1, rfl, x1, d1, rfl, e1, (intD d1).isSome, rfl, ?_⟩
        cases d1 with
        | int s =>
          obtain ⟨rfl, _⟩ := e1.int
          have q : ∀ H', Same H H' → Q (.bl ((decide (1 ≤ s) && decide (s ≤ 9)) && ((intD d2).isSome && (skD d3 && decide (intD d2 = intD d3.at1))))) H' := q
          have fin : 1 ≤ s → s ≤ 9 → ∀ {R : Prop}, R → R := fun _ _ _ r => r
          refine iteF ⟨.int s, rfl, _, _, rfl, rfl, decide (1 ≤ s), rfl, ?_⟩
          by_cases c1 : 1 ≤ s
          · rw [decide_eq_true c1] at q ⊢
            rw [Bool.true_and] at q
            refine iteT ⟨_, _, rfl, rfl, decide (s ≤ 9), rfl, ?_⟩
            by_cases c9 : s ≤ 9
            · rw [decide_eq_true c9] at q ⊢
              rw [Bool.true_and] at q
              refine iteF ⟨x2, rfl, x2, d2, rfl, e2, (intD d2).isSome, rfl, ?_⟩
              cases d2 with
              | int i =>
                obtain ⟨rfl, _⟩ := e2.int
                have q : ∀ H', Same H H' → Q (.bl (skD d3 && decide (some i = intD d3.at1))) H' := q
                refine iteT ⟨x3, rfl, x3, d3, rfl, e3, fun H1 s1 => ⟨skD d3, rfl, ?_⟩⟩
                cases cs : skD d3 with
                | false =>
                  rw [cs, Bool.false_and] at q
                  exact iteF (q H1 s1)
                | true =>
                  rw [cs, Bool.true_and] at q
                  obtain ⟨r, m, o, ks, rfl, _⟩ := skD_is cs
                  obtain ⟨b, ys, rfl, g1, g2, g3⟩ := e3.tup
                  obtain ⟨y1, y2, y3, y4, rfl⟩ := four (show ys.length = 4 from Paired.length g3)
                  obtain ⟨f1, f2, f3, f4⟩ := paired4 g3
                  obtain ⟨rfl, _⟩ := f2.int
                  have q : ∀ H', Same H H' → Q (.bl (decide (some i = some m))) H' := q
                  refine iteT ⟨.int i, rfl, .ref b, rfl, b, _, _, _, rfl, rfl, (g1.same s1).seq, atI_nat (j := 1) rfl, ?_⟩
                  refine ⟨rfl, ?_⟩
                  rw [show decide (V.int i = V.int m) = decide (some i = some m) by rw [dec_int, Bool.eq_iff_iff]; simp]
                  exact q H1 s1
              | _ => exact iteF (q H (Same.refl H))
            · rw [decide_eq_false c9] at q ⊢
              rw [Bool.false_and] at q
              exact iteT (q H (Same.refl H))
          · rw [decide_eq_false c1] at q ⊢
            rw [Bool.false_and, Bool.false_and] at q
            exact iteF ⟨false, rfl, iteT (q H (Same.refl H))⟩
        | _ => exact iteT (iteT (q H (Same.refl H)))
      · rw [trB_long h2l] at q
        refine ⟨true, congrArg V.bl ?_, iteT (q H (Same.refl H))⟩
        rw [decide_eq_false (by
          intro z
          injection z with z
          omega)]
        rfl
    | _ => exact iteT (iteT (q H (Same.refl H)))
theorem stepsB_len (ds : List Dat) : (stepsB ds).length = min ds.length (ds.drop 1).length := by
  unfold stepsB
  rw [List.length_map, List.length_zip]
theorem stepsB_at {ds : List Dat} {i : Nat} {d e : Dat} (h1 : ds[i]? = some d) (h2 : (ds.drop 1)[i]? = some e) : (stepsB ds)[i]? = some (stepB d e) := by
  unfold stepsB
  rw [List.getElem?_map, (List.getElem?_zip_eq_some (z := (d, e))).mpr ⟨h1, h2⟩]
  rfl
/-- a right triple, where it stands -/
theorem tr_of {H : Hp} {v : V} {d : Dat} (h : DtAt K H v d) (c : trB d = true) : ∃ (t s : Addr) (i r m : Int) (y3 y4 : V), v = .ref t ∧ Ptp H t [.int i, .int m, .ref s] ∧ Ptp H s [.int r, .int m, y3, y4] ∧ i = srcT d ∧ m = numT d ∧ r = roomT d ∧ DtAt K H (.ref s) d.at2 ∧ skD d.at2 = true := by
  obtain ⟨i, r, m, o, ks, rfl, _, _, _, _, _, sk⟩ := trB_is c
  obtain ⟨t, xs, rfl, h1, h2, h3⟩ := h.tup
  obtain ⟨x1, x2, x3, rfl⟩ := three (show xs.length = 3 from Paired.length h3)
  obtain ⟨e1, e2, e3⟩ := paired3 h3
  obtain ⟨rfl, _⟩ := e1.int
  obtain ⟨rfl, _⟩ := e2.int
  have e3' := e3
  obtain ⟨s, ys, rfl, g1, g2, g3⟩ := e3.tup
  obtain ⟨y1, y2, y3, y4, rfl⟩ := four (show ys.length = 4 from Paired.length g3)
  obtain ⟨f1, f2, f3, f4⟩ := paired4 g3
  obtain ⟨rfl, _⟩ := f1.int
  obtain ⟨rfl, _⟩ := f2.int
  exact ⟨t, s, i, r, m, y3, y4, rfl, h1, g1, rfl, rfl, rfl, e3', sk⟩
/-! is_book -/
def spIsBookD (K : PySem.W.Frag) : Sp := fun vs H Q _ => ∃ (v : V) (d : Dat), vs = [v] ∧ DtAt K H v d ∧ ∀ H', Same H H' → Q (.bl (bookB d)) H'
theorem ok_is_bookD (T : Blt mg) (n_zip : mg "zip" = none) (cM : Cst mg "MOST_ROOM" (.int 64)) (cL : Cst mg "LONGEST_NAME" (.int 8)) (cMM : Cst mg "MOST_MACHINES" (.int 9)) (dP_is_int : DnIsInt K mg) (dP_is_number : DnIsNumber K mg) (dP_is_room : DnIsRoom K mg) (dP_is_name : DnIsName K mg) (dP_is_counted : DnIsCounted K mg) (dP_are_counts : DnAreCounts K mg)
    (dP_lost_of : DnLostOf K mg) (dP_is_sketch : DnIsSketch K mg) (dP_is_triple : DnIsTriple K mg) (d : DnIsBook K mg) : FnOk P w K mg base CX0 6 d.f d.fd ["thing"] (spIsBookD K) := by
  have GP_is_triple : FnOk P w K mg base CX0 5 dP_is_triple.f dP_is_triple.fd ["thing"] (spIsTripleD K) := ok_is_tripleD T cM cL cMM dP_is_int dP_is_number dP_is_room dP_is_name dP_is_counted dP_are_counts dP_lost_of dP_is_sketch dP_is_triple
  refine d.F.ok scP_is_book (fun vs H Q E h => ?_) (fun cdv A outer s H vs Q E hr h => ?_)
  · obtain ⟨v, n, rfl, _⟩ := h
    rfl
  · obtain ⟨v, x, rfl, hx, q⟩ := h
    refine ⟨_, (pss_cons (ps_if (PW.pt (pw_or (pt_not (pt_val (pe_callB (call_isD (K := K) rfl) (by rfl) T.n_isinstance (by decide +kernel) (pa_cons (pv 0) (pa_cons (pe_bltn (v := .ty "tuple") (by rfl) T.n_tuple (by decide +kernel) rfl) pa_nil))))) (pw_or1 (pt_not (pt_val (pe_callB (cr_all rfl) (by rfl) T.n_all (by decide +kernel) (pa_cons (pe_lc (own := [("triple", 3)]) (g := gName 3) (tt := tYes) rfl scP_is_book.nd (pi_tup (pv 0)) (blkOk_by (N := NP_is_book) (sc := defScope sP_is_book) (by decide +kernel)) (fun _ _ _ _ _ => pg_name (i := 3) scP_is_book.nd rfl (Or.inl rfl)) (fun _ _ _ _ _ => pts_nil) (fun _ _ _ _ _ => (pe_call GP_is_triple (hr.mono (by omega)) (by rfl) dP_is_triple.g dP_is_triple.F.kp dP_is_triple.b .nil pass0 (pa_cons (pv 3) pa_nil)))) pa_nil)))))))
      (pss_one (ps_ret pe_bl))
      pss_nil)
    (pss_one (ps_ret (pe_callB (cr_all rfl) (by rfl) T.n_all (by decide +kernel) (pa_cons (pe_lc (own := [("one", 1), ("other", 2)]) (g := gTup K 2 (gCons (gName 1) (gCons (gName 2) gNil))) (tt := tYes) rfl scP_is_book.nd (pi_zipA (by rfl) n_zip (pa_cons (pv 0) (pa_cons (pe_slice sl_tupP (pv 0) (po_some pe_int) po_none) pa_nil))) (blkOk_by (N := NP_is_book) (sc := defScope sP_is_book) (by decide +kernel)) (fun _ _ _ _ _ => pg_tup (by rfl) (pgs_cons (pg_name (i := 1) scP_is_book.nd rfl (Or.inl rfl)) (pgs_cons (pg_name (i := 2) scP_is_book.nd rfl (Or.inl rfl)) pgs_nil))) (fun _ _ _ _ _ => pts_nil) (fun _ _ _ _ _ => (pe_and (pe_cmpR op_lt (pe_ix (r := rIxT K) ix_tup (pv 1) pe_int (fun _ _ => rfl)) (pe_ix (r := rIxT K) ix_tup (pv 2) pe_int (fun _ _ => rfl)) (nomark _)) (pe_one (pe_cmpR op_eq (pe_ix (r := rIxT K) ix_tup (pe_ix (r := rIxT K) ix_tup (pv 1) pe_int (fun _ _ => rfl)) pe_int (fun _ _ => rfl)) (pe_ix (r := rIxT K) ix_tup (pe_ix (r := rIxT K) ix_tup (pv 2) pe_int (fun _ _ => rfl)) pe_int (fun _ _ => rfl)) (nomark _)))))) pa_nil))))), ?_⟩
    obtain ⟨t, ty, kI, kB, kS, kT⟩ := hx.ty
    refine ⟨v, rfl, v, _, t, _, isT x, rfl, .ty "tuple", ty, kT, isT x, rfl, ?_⟩
    cases x with
    | tup ds =>
      obtain ⟨a, xs, rfl, h1, h2, h3⟩ := hx.tup
      have hl := Paired.length h3
      have q : ∀ H', Same H H' → Q (.bl (ds.all trB && (stepsB ds).all id)) H' := q
      refine iteF ⟨.ref a, rfl, a, rfl, ⟨_, h1.seq⟩, fun D nD => ?_⟩
      refine lc_tup (xs := xs) (fun i H3 => Same H H3 ∧ H3 D = some (.lst (((ds.take i).map trB).map V.bl))) ⟨same_upd nD, upd_same⟩ (fun i H3 _ h3 => (h1.same h3.1).seq) (fun i u H3 hu g3 => ?_) (fun H3 g3 => ?_)
      · obtain ⟨e, he, hat⟩ := paired_at h3 hu
        obtain ⟨s3, hD⟩ := g3
        refine ⟨rfl, u, rfl, u, e, rfl, hat.same s3, fun H4 s4 => ⟨_, s4 _ _ hD, ?_, Same.put (s3.trans s4) nD, ?_⟩⟩
        · rw [List.length_map, List.length_map, List.length_take, sizeLine_eq]
          omega
        · rw [upd_same, List.take_add_one, he, List.map_append, List.map_append]
          rfl
      · obtain ⟨s3, hD⟩ := g3
        rw [hl, List.take_length] at hD
        refine ⟨D, _, rfl, sql hD, ds.all trB, congrArg V.bl (by rw [List.all_map]; rfl), ?_⟩
        cases ct : ds.all trB with
        | false =>
          rw [ct, Bool.false_and] at q
          exact iteT (q H3 s3)
        | true =>
          rw [ct, Bool.true_and] at q
          refine iteF ⟨.ref a, rfl, .ref a, rfl, 1, rfl, a, _, rfl, h1.same s3, fun p H5 s35 hp => ?_⟩
          rw [cut_from1] at hp
          have s5 := s3.trans s35
          refine ⟨a, p, xs, xs.drop 1, rfl, .inr ⟨(h1.same s5).seq, hp.seq, fun D2 nD2 => ?_⟩⟩
          have nD20 := Same.gone s5 nD2
          have pD2 : p ≠ D2 := hp.ne nD2
          refine lc_it (walk_zipTg (K := K) (xs := xs) (ys := xs.drop 1) rfl) (fun i H7 => Same H H7 ∧ Ptp H7 p (xs.drop 1) ∧ H7 D2 = some (.lst (((stepsB ds).take i).map V.bl))) ⟨Same.new s5 nD2, hp.same (same_upd nD2), upd_same⟩ (fun i H7 _ h7 => ⟨(h1.same h7.1).seq, h7.2.1.seq⟩) (fun i v H7 H8 hi h7 y => ?_) (fun H7 h7 => ?_)
          · obtain ⟨s7, hp7, hD7⟩ := h7
            obtain ⟨TT, x1, x2, rfl, nT, rfl, hx1, hx2⟩ := y
            obtain ⟨d1, hd1, at1⟩ := paired_at h3 hx1
            have hx2' : (xs.drop 1)[i]? = some x2 := hx2
            rw [List.getElem?_drop] at hx2'
            obtain ⟨d2, hd2, at2⟩ := paired_at h3 hx2'
            have hd2' : (ds.drop 1)[i]? = some d2 := by rw [List.getElem?_drop]; exact hd2
            have c1 : trB d1 = true := List.all_eq_true.mp ct d1 (List.mem_of_getElem? hd1)
            have c2 : trB d2 = true := List.all_eq_true.mp ct d2 (List.mem_of_getElem? hd2)
            have sT : Same H (upd H7 TT (.tup [x1, x2])) := Same.new s7 nT
            obtain ⟨t1, k1, i1, r1, m1, y3, y4, rfl, g1, g2, e1, e2, e3, _⟩ := tr_of (at1.same sT) c1
            obtain ⟨t2, k2, i2, r2, m2, z3, z4, rfl, f1, f2, e4, e5, e6, _⟩ := tr_of (at2.same sT) c2
            have DT : D2 ≠ TT := ne_of_none hD7 nT
            have est := stepsB_at hd1 hd2'
            have hi2 := (List.getElem?_eq_some_iff.mp est).1
            have fin : ∀ b, b = stepB d1 d2 → ∃ acc, (upd H7 TT (.tup [.ref t1, .ref t2])) D2 = some (.lst acc) ∧ acc.length < sizeLine ∧ Same H (upd (upd H7 TT (.tup [.ref t1, .ref t2])) D2 (.lst (acc ++ [V.bl b]))) ∧ Ptp (upd (upd H7 TT (.tup [.ref t1, .ref t2])) D2 (.lst (acc ++ [V.bl b]))) p (xs.drop 1) ∧ (upd (upd H7 TT (.tup [.ref t1, .ref t2])) D2 (.lst (acc ++ [V.bl b]))) D2 = some (.lst (((stepsB ds).take (i + 1)).map V.bl)) := fun b hb => by
              refine ⟨_, by rw [upd_ne DT]; exact hD7, ?_, Same.put sT nD20, (hp7.same (same_upd nT)).upd pD2, ?_⟩
              · have := stepsB_len ds
                rw [List.length_map, List.length_take, sizeLine_eq]
                omega
              · rw [upd_same, List.take_add_one, est, List.map_append, hb]
                rfl
            refine ⟨TT, _, rfl, .inl (.inl upd_same), rfl, _, _, rfl, _, _, rfl, rfl, rfl, .ref t1, rfl, t1, _, _, _, rfl, rfl, g1.seq, atI_nat (j := 0) rfl, .ref t2, rfl, t2, _, _, _, rfl, rfl, f1.seq, atI_nat (j := 0) rfl, _, _, rfl, rfl, decide (i1 < i2), rfl, ?_⟩
            have eb : stepB d1 d2 = (decide (i1 < i2) && decide (r1 = r2)) := by rw [e1, e4, e3, e6]; rfl
            cases cl : decide (i1 < i2) with
            | false => exact iteF (fin false (by rw [eb, cl, Bool.false_and]))
            | true =>
              refine iteT ⟨.ref t1, rfl, t1, _, _, _, rfl, rfl, g1.seq, atI_nat (j := 2) rfl, k1, _, _, _, rfl, rfl, g2.seq, atI_nat (j := 0) rfl, .ref t2, rfl, t2, _, _, _, rfl, rfl, f1.seq, atI_nat (j := 2) rfl, k2, _, _, _, rfl, rfl, f2.seq, atI_nat (j := 0) rfl, rfl, ?_⟩
              refine fin _ ?_
              rw [eb, cl, Bool.true_and, dec_int, Bool.eq_iff_iff]
              simp
          · obtain ⟨s7, hp7, hD7⟩ := h7
            have el : min xs.length (xs.drop 1).length = (stepsB ds).length := by
              rw [stepsB_len, List.length_drop, List.length_drop, hl]
            rw [el, List.take_length] at hD7
            refine ⟨D2, _, rfl, sql hD7, ?_⟩
            exact q H7 s7
    | _ => exact iteT (q H (Same.refl H))
end
end Kb

namespace Kb
open PySem PySem.Spec PyProof.Rows L2 SrtZ SrtO RZ
/-! books joined, as mathematics -/
def rng19 : List Int := [1, 2, 3, 4, 5, 6, 7, 8, 9]
theorem rng_mem {s : Int} : s ∈ rng19 ↔ 1 ≤ s ∧ s ≤ 9 := by
  unfold rng19
  simp only [List.mem_cons, List.not_mem_nil, or_false]
  omega
theorem rng_asc : rng19.Pairwise (· < ·) := by decide
abbrev Fb := Int → Option Dat
def putF1 (F : Fb) (d : Dat) : Fb := fun s => if s = srcT d then some d else F s
def ups (F : Fb) (d : Dat) : Fb := match F (srcT d) with
  | none => putF1 F d
  | some f => if numT f < numT d then putF1 F d else F
def jnF (ds : List Dat) : Fb := ds.foldl ups (fun _ => none)
def lsF (F : Fb) : List Dat := rng19.filterMap F
def jnD (ds es : List Dat) : List Dat := lsF (jnF (ds ++ es))
def clashB : Dat → Dat → Bool
  | .tup (d :: _), .tup (e :: _) => !decide (roomT d = roomT e)
  | _, _ => false
theorem jnF_snoc {ds : List Dat} {i : Nat} {d : Dat} (h : ds[i]? = some d) : jnF (ds.take (i + 1)) = ups (jnF (ds.take i)) d := by
  unfold jnF
  rw [List.take_add_one, h, List.foldl_append]
  rfl
theorem jnF_app {ds es : List Dat} {i : Nat} {d : Dat} (h : es[i]? = some d) : jnF (ds ++ es.take (i + 1)) = ups (jnF (ds ++ es.take i)) d := by
  unfold jnF
  rw [List.take_add_one, h, List.foldl_append, List.foldl_append, List.foldl_append]
  rfl
/-- what stands where: by its source -/
def FOk (F : Fb) : Prop := ∀ s d, F s = some d → trB d = true ∧ srcT d = s
theorem srcT_rng {d : Dat} (h : trB d = true) : 1 ≤ srcT d ∧ srcT d ≤ 9 := by
  obtain ⟨s, r, m, o, ks, rfl, h1, h9, _⟩ := trB_is h
  exact ⟨h1, h9⟩
theorem putF1_ok {F : Fb} {d : Dat} (h : FOk F) (c : trB d = true) : FOk (putF1 F d) := fun s e he => by
  unfold putF1 at he
  split at he
  · rename_i hs
    cases he
    exact ⟨c, hs.symm⟩
  · exact h s e he
theorem ups_ok {F : Fb} {d : Dat} (h : FOk F) (c : trB d = true) : FOk (ups F d) := by
  unfold ups
  split
  · exact putF1_ok h c
  · split
    · exact putF1_ok h c
    · exact h
theorem jnF_ok : ∀ {ds : List Dat}, (∀ d ∈ ds, trB d = true) → FOk (jnF ds) := fun {ds} h => by
  unfold jnF
  suffices ∀ (ds : List Dat) (F : Fb), FOk F → (∀ d ∈ ds, trB d = true) → FOk (ds.foldl ups F) from this ds _ (fun s d e => (nomatch e)) h
  intro ds
  induction ds with
  | nil => exact fun F hF _ => hF
  | cons d r ih => exact fun F hF h => ih _ (ups_ok hF (h d List.mem_cons_self)) fun e he => h e (List.mem_cons_of_mem _ he)
/-- a book's sources ascend -/
theorem steps_asc : ∀ {ds : List Dat}, (stepsB ds).all id = true → ds.Pairwise (fun d e => srcT d < srcT e) ∧ ∀ d ∈ ds, ∀ e ∈ ds, roomT d = roomT e
  | [], _ => ⟨.nil, fun _ h => (nomatch h)⟩
  | [d], _ => ⟨List.pairwise_singleton _ _, fun x hx y hy => by rw [List.mem_singleton.mp hx, List.mem_singleton.mp hy]⟩
  | d :: e :: r, h => by
    have h : (stepB d e && (stepsB (e :: r)).all id) = true := h
    rw [Bool.and_eq_true] at h
    obtain ⟨h1, h2⟩ := h
    obtain ⟨p, q⟩ := steps_asc h2
    unfold stepB at h1
    rw [Bool.and_eq_true, decide_eq_true_eq, decide_eq_true_eq] at h1
    refine ⟨List.Pairwise.cons (fun x hx => ?_) p, ?_⟩
    · rcases List.mem_cons.mp hx with rfl | hx
      · exact h1.1
      · have := List.rel_of_pairwise_cons p hx
        omega
    · have k : ∀ x ∈ e :: r, roomT d = roomT x := fun x hx => h1.2.trans (q e List.mem_cons_self x hx)
      intro x hx y hy
      rcases List.mem_cons.mp hx with hx | hx
      · rcases List.mem_cons.mp hy with hy | hy
        · rw [hx, hy]
        · rw [hx]
          exact k y hy
      · rcases List.mem_cons.mp hy with hy | hy
        · rw [hy]
          exact (k x hx).symm
        · exact q x hx y hy
theorem bookB_is {d : Dat} (h : bookB d = true) : ∃ ds, d = .tup ds ∧ (∀ x ∈ ds, trB x = true) ∧ (stepsB ds).all id = true := by
  cases d with
  | tup ds =>
    have h : (ds.all trB && (stepsB ds).all id) = true := h
    rw [Bool.and_eq_true] at h
    exact ⟨ds, rfl, List.all_eq_true.mp h.1, h.2⟩
  | _ => cases h
theorem ups_ne {F : Fb} {d : Dat} {s : Int} (h : ¬ s = srcT d) : ups F d s = F s := by
  have e : putF1 F d s = F s := if_neg h
  unfold ups
  cases F (srcT d) with
  | none => exact e
  | some f =>
    show (if numT f < numT d then putF1 F d else F) s = F s
    split
    · exact e
    · rfl
/-- ascending sources: none of them stands there already -/
theorem jnF_asc : ∀ {ds : List Dat}, ds.Pairwise (fun d e => srcT d < srcT e) → ∀ (i : Nat) (d : Dat), ds[i]? = some d → jnF (ds.take i) (srcT d) = none := fun {ds} p i d hd => by
  have sup : ∀ (l : List Dat) (F : Fb) (s : Int), F s = none → (∀ x ∈ l, srcT x ≠ s) → l.foldl ups F s = none := by
    intro l
    induction l with
    | nil => exact fun F s h _ => h
    | cons x r ih =>
      intro F s h hx
      refine ih _ s ?_ fun y hy => hx y (List.mem_cons_of_mem _ hy)
      rw [ups_ne fun z => hx x List.mem_cons_self z.symm]
      exact h
  refine sup _ _ _ rfl fun x hx => ?_
  obtain ⟨j, hj⟩ := List.mem_iff_getElem?.mp hx
  rw [List.getElem?_take] at hj
  split at hj
  · rename_i hji
    obtain ⟨h1, e1⟩ := List.getElem?_eq_some_iff.mp hj
    obtain ⟨h2, e2⟩ := List.getElem?_eq_some_iff.mp hd
    have := List.pairwise_iff_getElem.mp p j i h1 h2 hji
    rw [e1, e2] at this
    omega
  · cases hj
theorem ups_new {F : Fb} {d : Dat} (h : F (srcT d) = none) : ups F d = putF1 F d := by
  unfold ups
  rw [h]
/-! dicts of triples by their sources -/
structure DcT (K : PySem.W.Frag) (H : Hp) (d : Addr) (F : Fb) : Prop where
  ok : FOk F
  ex : ∃ (kvs : List (Key × V)) (ks : List Int), H d = some (.dK kvs) ∧ kvs.map (·.1) = ks.map Sum.inl ∧ ks.Nodup ∧ (∀ s, s ∈ ks ↔ (F s).isSome = true) ∧ (∀ s e, F s = some e → ∃ v, valV kvs (.inl s) = some v ∧ DtAt K H v e) ∧ ∀ s, F s = none → valV kvs (.inl s) = none
theorem keys_len {F : Fb} {ks : List Int} (ok : FOk F) (nd : ks.Nodup) (h : ∀ s, s ∈ ks ↔ (F s).isSome = true) : ks.Perm (rng19.filter fun s => (F s).isSome) := by
  refine (List.perm_ext_iff_of_nodup nd ?_).mpr fun s => ?_
  · exact List.Nodup.sublist List.filter_sublist (by decide)
  · rw [h s, List.mem_filter]
    refine ⟨fun k => ⟨?_, k⟩, fun k => k.2⟩
    obtain ⟨d, hd⟩ := Option.isSome_iff_exists.mp k
    obtain ⟨c, e⟩ := ok s d hd
    rw [← e]
    exact rng_mem.mpr (srcT_rng c)
theorem keys_le {F : Fb} {ks : List Int} (ok : FOk F) (nd : ks.Nodup) (h : ∀ s, s ∈ ks ↔ (F s).isSome = true) : ks.length ≤ 9 := by
  rw [(keys_len ok nd h).length_eq]
  exact List.length_filter_le _ _
theorem keys_srt {F : Fb} {ks ys : List Int} (ok : FOk F) (nd : ks.Nodup) (h : ∀ s, s ∈ ks ↔ (F s).isSome = true) (p : ys.Perm ks) (so : ys.Pairwise (· ≤ ·)) : ys = rng19.filter fun s => (F s).isSome := by
  refine List.Perm.eq_of_pairwise (le := (· ≤ ·)) (fun a b _ _ h1 h2 => by omega) so ?_ (p.trans (keys_len ok nd h))
  exact (List.Pairwise.sublist List.filter_sublist rng_asc).imp fun h => Int.le_of_lt h
theorem fm_filter {F : Fb} : ∀ l : List Int, (l.filter fun s => (F s).isSome).filterMap F = l.filterMap F
  | [] => rfl
  | s :: r => by
    cases h : F s with
    | none => rw [List.filter_cons_of_neg (by rw [h]; exact Bool.false_ne_true), List.filterMap_cons_none h, fm_filter r]
    | some d => rw [List.filter_cons_of_pos (by rw [h]; rfl), List.filterMap_cons_some h, List.filterMap_cons_some h, fm_filter r]
theorem fm_snoc {F : Fb} {l : List Int} {i : Nat} {s : Int} {d : Dat} (h : l[i]? = some s) (hd : F s = some d) : (l.take (i + 1)).filterMap F = (l.take i).filterMap F ++ [d] := by
  rw [List.take_add_one, h, List.filterMap_append]
  show _ ++ List.filterMap F [s] = _
  rw [List.filterMap_cons_some hd]
  rfl
theorem kpD_dict {H : Hp} {d : Addr} {k k' : List (Key × V)} (h : H d = some (.dK k)) : KpD H (upd H d (.dK k')) :=
  ⟨fun b xs ⟨o, e, z⟩ => ⟨o, by rw [upd_ne (ne_of e h (by intro z; cases z))]; exact e, z⟩, fun b xs e => ⟨xs, by rw [upd_ne (ne_of e h (by intro z; cases z))]; exact e⟩, fun b x e => by
    by_cases hb : b = d
    · subst hb
      exact ⟨k', upd_same⟩
    · exact ⟨x, by rw [upd_ne hb]; exact e⟩⟩
theorem kpD_list {H : Hp} {d : Addr} {xs ys : List V} (h : H d = some (.lst xs)) : KpD H (upd H d (.lst ys)) :=
  ⟨fun b zs ⟨o, e, z⟩ => ⟨o, by rw [upd_ne (ne_of e h (by intro z; cases z))]; exact e, z⟩, fun b zs e => by
    by_cases hb : b = d
    · subst hb
      exact ⟨ys, upd_same⟩
    · exact ⟨zs, by rw [upd_ne hb]; exact e⟩, fun b x e => ⟨x, by rw [upd_ne (ne_of e h (by intro z; cases z))]; exact e⟩⟩
theorem putK_keys {kvs : List (Key × V)} {ks : List Int} {s : Int} {v : V} (e : kvs.map (·.1) = ks.map Sum.inl) : (s ∈ ks → (putK kvs (Sum.inl s) v).map (·.1) = ks.map Sum.inl) ∧ (s ∉ ks → (putK kvs (Sum.inl s) v).map (·.1) = (ks ++ [s]).map Sum.inl) := by
  have hany : (kvs.any fun kv => decide (kv.1 = (Sum.inl s : Key))) = true ↔ s ∈ ks := by
    rw [List.any_eq_true]
    constructor
    · rintro ⟨x, hx, h⟩
      have : x.1 ∈ kvs.map (·.1) := List.mem_map.mpr ⟨x, hx, rfl⟩
      rw [e, of_decide_eq_true h] at this
      obtain ⟨t, ht, h2⟩ := List.mem_map.mp this
      cases h2
      exact ht
    · intro h
      have : (Sum.inl s : Key) ∈ kvs.map (·.1) := by rw [e]; exact List.mem_map.mpr ⟨s, h, rfl⟩
      obtain ⟨x, hx, h2⟩ := List.mem_map.mp this
      exact ⟨x, hx, decide_eq_true h2⟩
  constructor
  · intro h
    unfold putK
    rw [if_pos (hany.mpr h), List.map_map, ← e]
    refine List.map_congr_left fun x _ => ?_
    show (if x.1 = _ then _ else _ : Key × V).1 = x.1
    split <;> rfl
  · intro h
    unfold putK
    rw [if_neg (fun z => h (hany.mp z)), List.map_append, List.map_append, e]
    rfl
/-- a triple stored at its source -/
theorem DcT.put {K : PySem.W.Frag} {H : Hp} {p : Addr} {F : Fb} {d : Dat} {v : V} (h : DcT K H p F) (c : trB d = true) (hv : DtAt K H v d) {kvs : List (Key × V)} (hp : H p = some (.dK kvs)) : DcT K (upd H p (.dK (putK kvs (Sum.inl (srcT d)) v))) p (putF1 F d) := by
  obtain ⟨ok, kvs', ks, h1, h2, h3, h4, h5, h6⟩ := h
  rw [hp] at h1
  cases h1
  obtain ⟨k1, k2⟩ := putK_keys (s := srcT d) (v := v) h2
  have kp : KpD H (upd H p (.dK (putK kvs (Sum.inl (srcT d)) v))) := kpD_dict hp
  refine ⟨putF1_ok ok c, _, if srcT d ∈ ks then ks else ks ++ [srcT d], upd_same, ?_, ?_, fun s => ?_, fun s e he => ?_, fun s he => ?_⟩
  · split
    · rename_i hin; exact k1 hin
    · rename_i hin; exact k2 hin
  · split
    · exact h3
    · rename_i hin
      exact List.nodup_append.mpr ⟨h3, List.pairwise_singleton _ _, fun x hx y hy => by rw [List.mem_singleton.mp hy]; exact fun z => hin (z ▸ hx)⟩
  · unfold putF1
    by_cases hs : s = srcT d
    · subst hs
      rw [if_pos rfl]
      refine ⟨fun _ => rfl, fun _ => ?_⟩
      split
      · rename_i hin; exact hin
      · exact List.mem_append_right _ (List.mem_singleton.mpr rfl)
    · rw [if_neg hs, ← h4 s]
      split
      · exact Iff.rfl
      · rw [List.mem_append, List.mem_singleton]
        exact ⟨fun z => z.elim id fun z => absurd z hs, .inl⟩
  · unfold putF1 at he
    rw [valV_put]
    by_cases hs : s = srcT d
    · subst hs
      rw [if_pos rfl] at he
      cases he
      exact ⟨v, if_pos rfl, hv.keep kp⟩
    · rw [if_neg hs] at he
      obtain ⟨u, e1, e2⟩ := h5 s e he
      exact ⟨u, by rw [if_neg (fun z => hs (Sum.inl.inj z))]; exact e1, e2.keep kp⟩
  · unfold putF1 at he
    by_cases hs : s = srcT d
    · rw [if_pos hs] at he
      cases he
    · rw [if_neg hs] at he
      rw [valV_put, if_neg (fun z => hs (Sum.inl.inj z))]
      exact h6 s he
theorem DcT.same {K : PySem.W.Frag} {H H' : Hp} {p : Addr} {F : Fb} (h : DcT K H p F) (s : Same H H') : DcT K H' p F := by
  obtain ⟨ok, kvs, ks, h1, h2, h3, h4, h5, h6⟩ := h
  exact ⟨ok, kvs, ks, s _ _ h1, h2, h3, h4, fun t e he => let ⟨v, e1, e2⟩ := h5 t e he; ⟨v, e1, e2.same s⟩, h6⟩
theorem DcT.nil {K : PySem.W.Frag} {H : Hp} {p : Addr} (h : H p = some (.dK [])) : DcT K H p (fun _ => none) :=
  ⟨fun s d e => (nomatch e), [], [], h, rfl, .nil, fun s => ⟨fun z => (nomatch z), fun z => (nomatch z)⟩, fun s e he => (nomatch he), fun s _ => rfl⟩
end Kb

namespace Kb
open PySem PySem.Spec PyProof.Rows L2 SrtZ SrtO RZ
abbrev sP_joined_books : Stmt := topS 26
abbrev NP_joined_books : List Str := ["one", "other", "triples", "number", "_", "triple", "source"]
theorem scP_joined_books : FnScope ["one", "other", "triples", "number", "_", "triple", "source"] ["one", "other"] (defScope sP_joined_books) := ⟨rfl, rfl, rfl, by decide +kernel, rfl, by decide +kernel, by decide +kernel⟩
abbrev DnJoinedBooks (K : PySem.W.Frag) (mg : Str → Option Value) := Dn K mg "joined_books" sP_joined_books ["one", "other"]
abbrev sP_whole : Stmt := topS 27
abbrev NP_whole : List Str := ["room", "book", "tally", "triple"]
theorem scP_whole : FnScope ["room", "book", "tally", "triple"] ["room", "book"] (defScope sP_whole) := ⟨rfl, rfl, rfl, by decide +kernel, rfl, by decide +kernel, by decide +kernel⟩
abbrev DnWhole (K : PySem.W.Frag) (mg : Str → Option Value) := Dn K mg "whole" sP_whole ["room", "book"]
section
variable {X : Cx} {pos : Pos} {x : Str} {p : Pos}
/-- C(), C an own class of errors without own __init__ -/
theorem pmk_bare {C : Addr} {bmB : List Value} {B newId initId : String} (F : ExcBaseFacts B newId initId bmB) (isExc : PySem.W.excIn X.K C bmB newId = true) (at_ : X.mg x = some (.ref C)) (kept : PySem.W.keepIn X.K (.ref C) = true) (may : Raises X (.ref C)) (gl : Gl X x)
    (nodebug : (x == ("__debug__" : Str)) = false := by decide) : PMk X (.Call (.Name x p) [] [] pos) (fun _ H Q => Q (.ref C) none H) := by
  intro pins s σ H Q I h
  refine wpAny_Call_Name_kw (ld_glob I gl at_ ?_ nodebug)
  refine PySem.W.callWith_K0 I.kIn kept ?_
  obtain ⟨_, _, _, _, _, _, _, _, _, _, _, _, _, _, _, _, _, isC, names, noInit, tail⟩ := exc_obj I.kIn isExc
  exact wpAny_call_exc_subT F tail isC names noInit (fun h' e' made => mk_of I made may h (I.hok.gone made.new)) (Nat.zero_le _)
end
/-- an own class of errors -/
structure TxE (K : PySem.W.Frag) (mg : Str → Option Value) (nm : Str) where
  C : Addr
  gC : mg nm = some (.ref C)
  exc : PySem.W.excIn K C [.type "ValueError", .type "Exception", .type "BaseException", .type "object"] "ValueError.__new__" = true
  kp : PySem.W.keepIn K (.ref C) = true
  sub : PySem.W.subIn K (.ref C) (.type "BaseException") = some true
  ty : PySem.W.typeIn K (.ref C) = some (.type "type")
  isC : ExcC K C

/-! right sketches by their data -/
def tlD : Dat → Tl
  | .tup [_, .int m, .int o, .tup ks] => ⟨m, o, ks.map kvO⟩
  | _ => tl0
theorem tlD_asc {d : Dat} (h : skD d = true) : skT (tlD d) = tlD d := by
  obtain ⟨r, m, o, ks, rfl, _, _, _, _, c, _⟩ := skD_is h
  obtain ⟨cc, _, _⟩ := ctsB_cts c
  show (⟨m, o, srtZ (ks.map kvO)⟩ : Tl) = ⟨m, o, ks.map kvO⟩
  rw [← srtZ_of cc.asc (List.Perm.refl _) (cts_nd cc)]
theorem skO_of {d : Dat} (c : skD d = true) : SkO (geI d.at0) (tlD d) := by
  obtain ⟨r, m, o, ks, rfl, r1, r64, m0, o0, cts, hl⟩ := skD_is c
  have c : (isRB (some r) && (isNB (some m) && (isNB (some o) && (ctD (.tup ks) && (decide ((lenD (.tup ks) : Int) ≤ r) && (decide ((r + 1) * o ≤ m - sumC (kvD (.tup ks))) && decide (m - sumC (kvD (.tup ks)) ≤ 2 * r * o))))))) = true := c
  simp only [Bool.and_eq_true, decide_eq_true_eq] at c
  obtain ⟨_, _, _, _, _, c6, c7⟩ := c
  obtain ⟨cc, _, al⟩ := ctsB_cts cts
  refine ⟨r1, r64, ⟨cts_nd cc, ?_, cc.pos, cc.nm⟩, ⟨c6, c7, o0, m0⟩⟩
  show ((ks.map kvO).length : Int) ≤ r
  rw [List.length_map]
  exact hl
theorem skY_of {K : PySem.W.Frag} {H : Hp} {v : V} {d : Dat} (h : DtAt K H v d) (c : skD d = true) : ∃ s : Addr, v = .ref s ∧ SkY K H s (geI d.at0) (tlD d) := by
  have ea := tlD_asc c
  obtain ⟨r, m, o, ks, rfl, r1, r64, m0, o0, cts, hl⟩ := skD_is c
  obtain ⟨a, xs, rfl, h1, h2, h3⟩ := h.tup
  obtain ⟨x1, x2, x3, x4, rfl⟩ := four (show xs.length = 4 from Paired.length h3)
  obtain ⟨e1, e2, e3, e4⟩ := paired4 h3
  obtain ⟨rfl, _⟩ := e1.int
  obtain ⟨rfl, _⟩ := e2.int
  obtain ⟨rfl, _⟩ := e3.int
  obtain ⟨k, ys, rfl, g1, g2, g3⟩ := e4.tup
  obtain ⟨cc, _, al⟩ := ctsB_cts cts
  obtain ⟨ts, rfl, hts⟩ := prs_of g3 al
  refine ⟨a, rfl, k, ts, h1.seq, g1, ?_⟩
  have : (skT (tlD (.tup [.int r, .int m, .int o, .tup ks]))).c = ks.map kvO := by rw [ea]; rfl
  show Paired (PrAt K H) ts (skT (tlD (.tup [.int r, .int m, .int o, .tup ks]))).c
  rw [this]
  exact hts
section
variable {P : Program} {w : World} {K : PySem.W.Frag} {mg : Str → Option Value} {base : Heap}
/-! joined_books -/
def spJoinedX (K : PySem.W.Frag) (CB CO : Addr) : Sp := fun vs H Q E => ∃ (v u : V) (d e : Dat), vs = [v, u] ∧ DtAt K H v d ∧ DtAt K H u e ∧
  ((bookB d && bookB e) = false → ∀ H', Same H H' → E (.ref CB) none H') ∧
  ((bookB d && bookB e) = true → clashB d e = true → ∀ H', Same H H' → E (.ref CO) none H') ∧
  (∀ ds es, d = .tup ds → e = .tup es → (bookB d && bookB e) = true → clashB d e = false → ∀ H' p, Same H H' → DtAt K H' (.ref p) (.tup (jnD ds es)) → Q (.ref p) H')
theorem ok_joinedX (T : Blt mg) (EB : TxE K mg "NoBook") (EO : TxE K mg "OtherRoom") (n_zip : mg "zip" = none) (cM : Cst mg "MOST_ROOM" (.int 64)) (cL : Cst mg "LONGEST_NAME" (.int 8)) (cMM : Cst mg "MOST_MACHINES" (.int 9)) (dP_is_int : DnIsInt K mg) (dP_is_number : DnIsNumber K mg) (dP_is_room : DnIsRoom K mg) (dP_is_name : DnIsName K mg) (dP_is_counted : DnIsCounted K mg) (dP_are_counts : DnAreCounts K mg)
    (dP_lost_of : DnLostOf K mg) (dP_is_sketch : DnIsSketch K mg) (dP_is_triple : DnIsTriple K mg) (dP_is_book : DnIsBook K mg) (d : DnJoinedBooks K mg) : FnOk P w K mg base (L2.CX P w) 7 d.f d.fd ["one", "other"] (spJoinedX K EB.C EO.C) := by
  have GP_is_book : FnOk P w K mg base CX0 6 dP_is_book.f dP_is_book.fd ["thing"] (spIsBookD K) := ok_is_bookD T n_zip cM cL cMM dP_is_int dP_is_number dP_is_room dP_is_name dP_is_counted dP_are_counts dP_lost_of dP_is_sketch dP_is_triple dP_is_book
  refine d.F.okX scP_joined_books (fun vs H Q E h => ?_) (fun cdv A outer s H vs Q E hr h => ?_)
  · obtain ⟨v, u, d, e, rfl, _⟩ := h
    rfl
  · obtain ⟨v, u, d, e, rfl, hd, he, q1, q2, q3⟩ := h
    have hu := hu_of hr
    refine ⟨_, (pss_cons (ps_if (PW.pt (pw_or (pt_not (pt_val (pe_call GP_is_book (hr.mono (by omega)) (by rfl) dP_is_book.g dP_is_book.F.kp dP_is_book.b .nil pass0 (pa_cons (pv 0) pa_nil)))) (pw_or1 (pt_not (pt_val (pe_call GP_is_book (hr.mono (by omega)) (by rfl) dP_is_book.g dP_is_book.F.kp dP_is_book.b .nil pass0 (pa_cons (pv 1) pa_nil)))))))
      (pss_one (ps_raise rfl (takes_of rfl rfl rfl rfl) (pmk_bare PySem.F.excBase_ValueError EB.exc EB.gC EB.kp (raises_own EB.sub EB.ty) rfl)))
      pss_nil)
    (C8.pss_cut (ps_if (PW.pt (pw_and (pt_truth (pv 0) (by intro _; rfl)) (pw_and (pt_truth (pv 1) (by intro _; rfl)) (pw_and1 (pt_cmpR op_ne (pe_ix ix_tup (pe_ix ix_tup (pe_ix ix_tup (pv 0) pe_int (fun _ _ => rfl)) pe_int (fun _ _ => rfl)) pe_int (fun _ _ => rfl)) (pe_ix ix_tup (pe_ix ix_tup (pe_ix ix_tup (pv 1) pe_int (fun _ _ => rfl)) pe_int (fun _ _ => rfl)) pe_int (fun _ _ => rfl)) (nomark _))))))
      (pss_one (ps_raise rfl (takes_of rfl rfl rfl rfl) (pmk_bare PySem.F.excBase_ValueError EO.exc EO.gC EO.kp (raises_own EO.sub EO.ty) rfl)))
      pss_nil)
    (pss_cons (ps_asg (pe_dc rfl scP_joined_books.nd (own := [("triple", 5)]) (g := gName 5) (tt := tYes) (pi_tup (pv 0)) (blkOk_by (N := NP_joined_books) (sc := defScope sP_joined_books) (by decide +kernel)) (fun _ _ _ _ _ => pg_name (i := 5) scP_joined_books.nd rfl (Or.inl rfl)) (fun _ _ _ _ _ => pts_nil) (fun _ _ _ _ _ => (pe_ix (r := rIxT K) ix_tup (pv 5) pe_int (fun _ _ => rfl))) (fun _ _ _ _ _ => (pv 5))) (pg_name (i := 2) scP_joined_books.nd rfl (Or.inr rfl)))
    (pss_cons (ps_for (passes_of rfl) rfl (pi_tup (pv 1)) (pg_name (i := 5) scP_joined_books.nd rfl (Or.inl rfl))
      (pss_cons (ps_asg (pv 5) (pg_tup (by rfl) (pgs_cons (pg_name (i := 6) scP_joined_books.nd rfl (Or.inl rfl)) (pgs_cons (pg_name (i := 3) scP_joined_books.nd rfl (Or.inl rfl)) (pgs_cons (pg_name (i := 4) scP_joined_books.nd rfl (Or.inl rfl)) pgs_nil)))))
      (pss_one (ps_if (PW.pt (pw_or (pt_cmp (pc_dnotin hu (pv 6) (pv 2))) (pw_or1 (pt_cmpR op_gt (pv 3) (pe_ix ix_tup (pe_dget hu (pv 2) (pv 6) (fun _ _ => rfl)) pe_int (fun _ _ => rfl)) (nomark _)))))
        (pss_one (ps_dput hu (pv 2) (pv 6) (pv 5) rfl))
        pss_nil))))
    (pss_one (ps_ret (pe_callTy call_tupleF (by rfl) T.n_tuple (by decide +kernel) (pa_cons (pe_lc (own := [("source", 6)]) (g := gName 6) (tt := tYes) rfl scP_joined_books.nd (pi_list (pe_callB (call_sortedDI rfl) (by rfl) T.n_sorted (by decide +kernel) (pa_cons (pv 2) pa_nil))) (blkOk_by (N := NP_joined_books) (sc := defScope sP_joined_books) (by decide +kernel)) (fun _ _ _ _ _ => pg_name (i := 6) scP_joined_books.nd rfl (Or.inl rfl)) (fun _ _ _ _ _ => pts_nil) (fun _ _ _ _ _ => (pe_dget hu (pv 2) (pv 6) (fun _ _ => rfl)))) pa_nil)))))))), ?_⟩
    refine ⟨v, rfl, v, d, rfl, hd, fun H1 s1 => ⟨bookB d, rfl, ?_⟩⟩
    cases cd : bookB d with
    | false =>
      rw [cd, Bool.false_and] at q1
      exact iteT (iteT (q1 rfl H1 s1))
    | true =>
      rw [cd, Bool.true_and] at q1 q2 q3
      refine iteF ⟨u, rfl, u, e, rfl, he.same s1, fun H2 s12 => ⟨bookB e, rfl, ?_⟩⟩
      have s2 := s1.trans s12
      cases ce : bookB e with
      | false =>
        rw [ce] at q1
        exact iteT (q1 rfl H2 s2)
      | true =>
        rw [ce] at q2 q3
        refine iteF ?_
        obtain ⟨ds, rfl, td, sd⟩ := bookB_is cd
        obtain ⟨es, rfl, te, se⟩ := bookB_is ce
        obtain ⟨a, xs, rfl, h1, h2, h3⟩ := (hd.same s2).tup
        obtain ⟨b, ys, rfl, g1, g2, g3⟩ := (he.same s2).tup
        have hl := Paired.length h3
        have gl := Paired.length g3
        refine ⟨fun σ H3 => H3 = H2 ∧ σ = [some (.ref a), some (.ref b), none, none, none, none, none] ∧ clashB (.tup ds) (.tup es) = false, ?_, ?_⟩
        · refine ⟨.ref a, rfl, !xs.isEmpty, .inr (.inl ⟨xs, h1.seq, rfl⟩), ?_⟩
          cases h3 with
          | nil => exact iteF ⟨rfl, rfl, rfl⟩
          | @cons x1 d1 xs' ds' e1 t1 =>
            refine iteT ⟨.ref b, rfl, !ys.isEmpty, .inr (.inl ⟨ys, g1.seq, rfl⟩), ?_⟩
            cases g3 with
            | nil => exact iteF ⟨rfl, rfl, rfl⟩
            | @cons y1 d2 ys' es' e2 t2 =>
              obtain ⟨u1, k1, i1, r1, m1, y3, y4, rfl, f1, f2, _, _, f3, _⟩ := tr_of e1 (td _ List.mem_cons_self)
              obtain ⟨u2, k2, i2, r2, m2, z3, z4, rfl, f4, f5, _, _, f6, _⟩ := tr_of e2 (te _ List.mem_cons_self)
              refine iteT ⟨.ref a, rfl, a, _, _, _, rfl, rfl, h1.seq, atI_nat (j := 0) rfl, u1, _, _, _, rfl, rfl, f1.seq, atI_nat (j := 2) rfl, k1, _, _, _, rfl, rfl, f2.seq, atI_nat (j := 0) rfl, .ref b, rfl, b, _, _, _, rfl, rfl, g1.seq, atI_nat (j := 0) rfl, u2, _, _, _, rfl, rfl, f4.seq, atI_nat (j := 2) rfl, k2, _, _, _, rfl, rfl, f5.seq, atI_nat (j := 0) rfl, rfl, !decide (V.int r1 = V.int r2), rfl, ?_⟩
              have ec : clashB (.tup (d1 :: ds')) (.tup (d2 :: es')) = !decide (V.int r1 = V.int r2) := by
                show (!decide (roomT d1 = roomT d2)) = _
                rw [← f3, ← f6, dec_int]
                rfl
              cases cc : (!decide (V.int r1 = V.int r2)) with
              | true => exact iteT (q2 rfl (ec.trans cc) H2 s2)
              | false => exact iteF ⟨rfl, rfl, ec.trans cc⟩
        · rintro σ H3 ⟨rfl, rfl, cl⟩
          have q4 := q3 ds es rfl rfl rfl cl
          obtain ⟨asc, _⟩ := steps_asc sd
          refine ⟨.ref a, rfl, a, rfl, ⟨_, h1.seq⟩, fun D nD => ?_⟩
          refine dc_tup (xs := xs) (fun i H4 => Same H3 H4 ∧ DcT K H4 D (jnF (ds.take i))) ⟨same_upd nD, DcT.nil upd_same⟩ (fun i H4 _ h4 => (h1.same h4.1).seq) (fun i x H4 hx h4 => ?_) (fun H4 h4 => ?_)
          · obtain ⟨s4, D4⟩ := h4
            obtain ⟨dd, hdd, hat⟩ := paired_at h3 hx
            have ct := td _ (List.mem_of_getElem? hdd)
            obtain ⟨u1, k1, i1, r1, m1, y3, y4, rfl, f1, f2, f0, _, f3, _⟩ := tr_of (hat.same s4) ct
            obtain ⟨kvs, ks, hD4, e2, e3, e4, e5, e6⟩ := D4.ex
            refine ⟨rfl, .ref u1, rfl, u1, _, _, _, rfl, rfl, f1.seq, atI_nat (j := 0) rfl, .ref u1, rfl, kvs, .inl i1, rfl, hD4, ?_, Same.put s4 nD, ?_⟩
            · have := keys_le D4.ok e3 e4
              have hk : kvs.length = ks.length := by
                have := congrArg List.length e2
                rw [List.length_map, List.length_map] at this
                exact this
              rw [sizeLine_eq]
              omega
            · rw [jnF_snoc hdd, ups_new (jnF_asc asc i dd hdd), f0]
              exact D4.put ct (hat.same s4) hD4
          · obtain ⟨s4, D4⟩ := h4
            rw [hl, List.take_length] at D4
            refine ⟨.ref b, rfl, b, rfl, ⟨_, (g1.same s4).seq⟩, for_tup (xs := ys) (fun i σ H5 => ∃ y3 y4 y5 y6 : Option V, σ = [some (.ref a), some (.ref b), some (.ref D), y3, y4, y5, y6] ∧ Same H3 H5 ∧ DcT K H5 D (jnF (ds ++ es.take i)))
              ⟨none, none, none, none, rfl, s4, by rw [List.take_zero, List.append_nil]; exact D4⟩ (fun i σ H5 _ ⟨_, _, _, _, _, b5, _⟩ => (g1.same b5).seq) ?_ ?_⟩
            · rintro i v σ H5 hi ⟨y3, y4, y5, y6, rfl, s5, D5⟩
              obtain ⟨dd, hdd, hat⟩ := paired_at g3 hi
              have ct := te _ (List.mem_of_getElem? hdd)
              obtain ⟨u1, k1, i1, r1, m1, z3, z4, rfl, f1, f2, f0, fn, f3, _⟩ := tr_of (hat.same s5) ct
              obtain ⟨kvs, ks, hD5, e2, e3, e4, e5, e6⟩ := D5.ex
              have hkl : kvs.length < sizeLine := by
                have := keys_le D5.ok e3 e4
                have hk : kvs.length = ks.length := by
                  have := congrArg List.length e2
                  rw [List.length_map, List.length_map] at this
                  exact this
                rw [sizeLine_eq]
                omega
              refine ⟨.ref u1, rfl, u1, _, rfl, f1.seq, rfl, _, _, rfl, _, _, rfl, _, _, rfl, rfl, ?_⟩
              refine ⟨.int i1, rfl, .ref D, rfl, D, _, rfl, DGet.k (k := Sum.inl i1) hD5, _, rfl, ?_⟩
              have put : ∀ {R : Prop}, (DcT K (upd H5 D (.dK (putK kvs (Sum.inl i1) (.ref u1)))) D (putF1 (jnF (ds ++ es.take i)) dd) → R) → R := fun {R} k => k (by rw [f0]; exact D5.put ct (hat.same s5) hD5)
              cases hF : jnF (ds ++ es.take i) i1 with
              | none =>
                rw [e6 i1 hF]
                refine iteT ⟨.ref u1, rfl, .ref D, rfl, .int i1, rfl, D, _, rfl, DPut.k (k := Sum.inl i1) hD5 hkl, ?_⟩
                refine put fun k => ⟨_, _, _, _, rfl, Same.put s5 nD, ?_⟩
                rw [jnF_app hdd, ups_new (by rw [← f0]; exact hF)]
                exact k
              | some fd =>
                obtain ⟨w1, hv1, hat1⟩ := e5 i1 fd hF
                rw [hv1]
                obtain ⟨ct1, _⟩ := D5.ok i1 fd hF
                obtain ⟨u2, k2, i2, r2, m2, z3', z4', rfl, f4, f5, _, fn2, _⟩ := tr_of hat1 ct1
                refine iteF ⟨.int m1, rfl, .ref D, rfl, .int i1, rfl, D, .ref u2, rfl, ?_, u2, _, _, _, rfl, rfl, f4.seq, atI_nat (j := 1) rfl, _, _, rfl, rfl, decide (m1 > m2), rfl, ?_⟩
                · rw [← hv1]
                  exact DGet.k (k := Sum.inl i1) hD5
                have eu : ups (jnF (ds ++ es.take i)) dd = if m2 < m1 then putF1 (jnF (ds ++ es.take i)) dd else jnF (ds ++ es.take i) := by
                  unfold ups
                  rw [← f0, hF, fn, fn2]
                by_cases hlt : m2 < m1
                · rw [show decide (m1 > m2) = true from decide_eq_true hlt]
                  refine iteT ⟨.ref u1, rfl, .ref D, rfl, .int i1, rfl, D, _, rfl, DPut.k (k := Sum.inl i1) hD5 hkl, ?_⟩
                  refine put fun k => ⟨_, _, _, _, rfl, Same.put s5 nD, ?_⟩
                  rw [jnF_app hdd, eu, if_pos hlt]
                  exact k
                · rw [show decide (m1 > m2) = false from decide_eq_false hlt]
                  refine iteF ⟨_, _, _, _, rfl, s5, ?_⟩
                  rw [jnF_app hdd, eu, if_neg hlt]
                  exact D5
            · rintro σ H5 ⟨y3, y4, y5, y6, rfl, s5, D5⟩
              rw [gl, List.take_length] at D5
              generalize hFg : jnF (ds ++ es) = F at D5
              obtain ⟨kvs, ks, hD5, e2, e3, e4, e5, e6⟩ := D5.ex
              refine ⟨.ref D, rfl, D, kvs, ks, rfl, .inl hD5, e2, (by have := keys_le D5.ok e3 e4; omega), fun ss l pm so nl => ?_⟩
              have ess := keys_srt D5.ok e3 e4 pm so
              have s6 := same_upd (o := .lst (ss.map V.int)) nl
              have hl6 : (upd H5 l (.lst (ss.map V.int))) l = some (.lst (ss.map V.int)) := upd_same
              have hD6 := s6 _ _ hD5
              have s06 := s5.trans s6
              generalize upd H5 l (.lst (ss.map V.int)) = H6 at s6 hl6 hD6 s06 ⊢
              refine ⟨l, rfl, ⟨_, sql hl6⟩, fun D2 nD2 => ?_⟩
              refine lc_list (xs := ss.map V.int) (fun i H7 => Same H6 H7 ∧ ∃ us : List V, H7 D2 = some (.lst us) ∧ us.length ≤ 9 ∧ Paired (DtAt K H7) us ((ss.take i).filterMap F))
                ⟨same_upd nD2, [], upd_same, Nat.zero_le _, .nil⟩ (fun i H7 _ h7 => sql (h7.1 _ _ hl6)) (fun i x H7 hx h7 => ?_) (fun H7 h7 => ?_)
              · obtain ⟨z, hz, rfl⟩ := map_at hx
                obtain ⟨s7, us, hD7, hul, hpr⟩ := h7
                have hin : z ∈ ks := pm.mem_iff.mp (List.mem_of_getElem? hz)
                obtain ⟨fd, hfd⟩ := Option.isSome_iff_exists.mp ((e4 z).mp hin)
                obtain ⟨w1, hv1, hat1⟩ := e5 z fd hfd
                have dg : DGet H7 D (.int z) (some w1) := .inl ⟨kvs, Sum.inl z, .inl (s7 _ _ hD6), rfl, hv1.symm⟩
                refine ⟨rfl, .ref D, rfl, .int z, rfl, D, w1, rfl, dg, us, hD7, (by rw [sizeLine_eq]; omega), Same.put s7 nD2, us ++ [w1], upd_same, ?_, ?_⟩
                · have hlen := Paired.length hpr
                  have : ((ss.take (i + 1)).filterMap F).length ≤ (ss.take (i + 1)).length := List.length_filterMap_le _ _
                  rw [fm_snoc hz hfd, List.length_append, List.length_singleton] at this
                  have hss : ss.length ≤ 9 := by
                    rw [pm.length_eq]
                    exact keys_le D5.ok e3 e4
                  rw [List.length_take] at this
                  rw [List.length_append, List.length_singleton]
                  omega
                · rw [fm_snoc hz hfd]
                  have kp : KpD H7 (upd H7 D2 (.lst (us ++ [w1]))) := kpD_list hD7
                  exact paired_snoc (paired_imp (fun _ _ h => h.keep kp) hpr) ((hat1.same (s6.trans s7)).keep kp)
              · obtain ⟨s7, us, hD7, hul, hpr⟩ := h7
                rw [List.length_map, List.take_length, ess, fm_filter] at hpr
                refine ⟨D2, us, rfl, sql hD7, fun p o np ho => ?_⟩
                have s8 := same_upd (o := .frz o (.tup us)) np
                refine q4 _ p (s2.trans (s06.trans (s7.trans s8))) ?_
                unfold jnD
                rw [hFg]
                exact DtAt.mk ⟨o, upd_same, ho⟩ (by omega) (paired_imp (fun _ _ h => h.same s8) hpr)
end
end Kb

namespace Kb
open PySem PySem.Spec PyProof.Rows L2 SrtZ SrtO RZ
/-! books poured, as mathematics -/
def whT (r : Int) (ds : List Dat) : Tl := ds.foldl (fun t d => pourT r (tlD d.at2) t) tl0
theorem whT_snoc {r : Int} {ds : List Dat} {i : Nat} {d : Dat} (h : ds[i]? = some d) : whT r (ds.take (i + 1)) = pourT r (tlD d.at2) (whT r (ds.take i)) := by
  unfold whT
  rw [List.take_add_one, h, List.foldl_append]
  rfl
def offB : Dat → Dat → Bool
  | dr, .tup (d :: _) => !decide (roomT d = geI dr)
  | _, _ => false
/-- all triples' sketches have the room -/
theorem rooms_all {dr : Dat} {ds : List Dat} (h : (stepsB ds).all id = true) (o : offB dr (.tup ds) = false) : ∀ d ∈ ds, roomT d = geI dr := by
  obtain ⟨_, q⟩ := steps_asc h
  cases ds with
  | nil => exact fun d h => nomatch h
  | cons x r =>
    have o : (!decide (roomT x = geI dr)) = false := o
    have o : roomT x = geI dr := by simpa using o
    exact fun d hd => (q d hd x List.mem_cons_self).trans o
theorem trB_sk {d : Dat} (h : trB d = true) : skD d.at2 = true := by
  obtain ⟨i, r, m, o, ks, rfl, _, _, _, _, _, sk⟩ := trB_is h
  exact sk
theorem whT_ok {r : Int} (hr : 1 ≤ r) : ∀ {ds : List Dat}, (∀ d ∈ ds, trB d = true ∧ roomT d = r) → TlOk r (whT r ds) := fun {ds} h => by
  unfold whT
  suffices ∀ (ds : List Dat) (x : Tl), TlOk r x → (∀ d ∈ ds, trB d = true ∧ roomT d = r) → TlOk r (ds.foldl (fun t d => pourT r (tlD d.at2) t) x) from this ds _ (tl0_ok hr) h
  intro ds
  induction ds with
  | nil => exact fun x hx _ => hx
  | cons d l ih =>
    intro x hx h
    obtain ⟨c, e⟩ := h d List.mem_cons_self
    have o := (skO_of (trB_sk c)).ok
    have o : TlOk r (tlD d.at2) := by
      rw [show geI d.at2.at0 = r from e] at o
      exact o
    exact ih _ (pourT_ok hx o (by omega)) fun y hy => h y (List.mem_cons_of_mem _ hy)
section
variable {P : Program} {w : World} {K : PySem.W.Frag} {mg : Str → Option Value} {base : Heap}
/-! whole -/
def spWholeX (K : PySem.W.Frag) (CR CB CO : Addr) : Sp := fun vs H Q E => ∃ (v u : V) (dr d : Dat), vs = [v, u] ∧ DtAt K H v dr ∧ DtAt K H u d ∧
  (isRB (intD dr) = false → E (.ref CR) none H) ∧
  (isRB (intD dr) = true → bookB d = false → ∀ H', Same H H' → E (.ref CB) none H') ∧
  (isRB (intD dr) = true → bookB d = true → offB dr d = true → ∀ H', Same H H' → E (.ref CO) none H') ∧
  (∀ r ds, dr = .int r → d = .tup ds → 1 ≤ r → r ≤ 64 → bookB d = true → offB dr d = false → ∀ H' s, Same H H' → SkAt H' s r (whT r ds) → Q (.ref s) H')
theorem ok_wholeX (T : Blt mg) (ER : TxE K mg "NoRoom") (EB : TxE K mg "NoBook") (EO : TxE K mg "OtherRoom") (n_zip : mg "zip" = none) (cM : Cst mg "MOST_ROOM" (.int 64)) (cL : Cst mg "LONGEST_NAME" (.int 8)) (cMM : Cst mg "MOST_MACHINES" (.int 9)) (dP_is_int : DnIsInt K mg) (dP_is_number : DnIsNumber K mg) (dP_is_room : DnIsRoom K mg) (dP_is_name : DnIsName K mg) (dP_is_counted : DnIsCounted K mg) (dP_are_counts : DnAreCounts K mg)
    (dP_lost_of : DnLostOf K mg) (dP_is_sketch : DnIsSketch K mg) (dP_bare : DnBare K mg) (L : Tal K mg) (dP_is_triple : DnIsTriple K mg) (dP_is_book : DnIsBook K mg) (d : DnWhole K mg) : FnOk P w K mg base (L2.CX P w) 7 d.f d.fd ["room", "book"] (spWholeX K ER.C EB.C EO.C) := by
  have GP_is_room : FnOk P w K mg base CX0 2 dP_is_room.f dP_is_room.fd ["thing"] (spIsRoomD K) := ok_is_roomD T cM dP_is_int dP_is_room
  have GP_is_book : FnOk P w K mg base CX0 6 dP_is_book.f dP_is_book.fd ["thing"] (spIsBookD K) := ok_is_bookD T n_zip cM cL cMM dP_is_int dP_is_number dP_is_room dP_is_name dP_is_counted dP_are_counts dP_lost_of dP_is_sketch dP_is_triple dP_is_book
  have GP_bare : FnOk P w K mg base CX0 3 dP_bare.f dP_bare.fd ["room"] spBare := ok_bare T cM dP_is_int dP_is_room dP_bare
  have GI : FnOk P w K mg base CX0 1 L.fI L.dI ["self", "sketch"] (spTinit K L.C) := ok_Tinit T L
  have Gsketch : FnOk P w K mg base CX0 1 L.fS L.dS ["self"] (spTsketch L.C) := ok_Tsketch T L
  have Gpour : FnOk P w K mg base CX0 2 L.fP L.dP ["self", "sketch"] (spTpour K L.C) := ok_Tpour T L
  refine d.F.okX scP_whole (fun vs H Q E h => ?_) (fun cdv A outer s H vs Q E hr h => ?_)
  · obtain ⟨v, u, d, e, rfl, _⟩ := h
    rfl
  · obtain ⟨v, u, dr, d, rfl, hdr, hd, q1, q2, q3, q4⟩ := h
    refine ⟨_, (pss_cons (ps_if (pt_not (pt_val (pe_call GP_is_room (hr.mono (by omega)) (by rfl) dP_is_room.g dP_is_room.F.kp dP_is_room.b .nil pass0 (pa_cons (pv 0) pa_nil))))
      (pss_one (ps_raise rfl (takes_of rfl rfl rfl rfl) (pmk_bare PySem.F.excBase_ValueError ER.exc ER.gC ER.kp (raises_own ER.sub ER.ty) rfl)))
      pss_nil)
    (pss_cons (ps_if (pt_not (pt_val (pe_call GP_is_book (hr.mono (by omega)) (by rfl) dP_is_book.g dP_is_book.F.kp dP_is_book.b .nil pass0 (pa_cons (pv 1) pa_nil))))
      (pss_one (ps_raise rfl (takes_of rfl rfl rfl rfl) (pmk_bare PySem.F.excBase_ValueError EB.exc EB.gC EB.kp (raises_own EB.sub EB.ty) rfl)))
      pss_nil)
    (C8.pss_cut (ps_if (PW.pt (pw_and (pt_truth (pv 1) (by intro _; rfl)) (pw_and1 (pt_cmpR op_ne (pe_ix ix_tup (pe_ix ix_tup (pe_ix ix_tup (pv 1) pe_int (fun _ _ => rfl)) pe_int (fun _ _ => rfl)) pe_int (fun _ _ => rfl)) (pv 0) (nomark _)))))
      (pss_one (ps_raise rfl (takes_of rfl rfl rfl rfl) (pmk_bare PySem.F.excBase_ValueError EO.exc EO.gC EO.kp (raises_own EO.sub EO.ty) rfl)))
      pss_nil)
    (pss_cons (ps_set (i := 2) scP_whole.nd rfl (Or.inl rfl) (pe_make L.mI GI (hr.mono (by omega)) (by rfl) L.g L.bI .nil pass0 (pa_cons (pe_call GP_bare (hr.mono (by omega)) (by rfl) dP_bare.g dP_bare.F.kp dP_bare.b .nil pass0 (pa_cons (pv 0) pa_nil)) pa_nil)))
    (pss_cons (ps_for (passes_of rfl) rfl (pi_tup (pv 1)) (pg_name (i := 3) scP_whole.nd rfl (Or.inl rfl))
      (pss_one (ps_expr (pe_meth (pv 2) L.cl L.mP Gpour (hr.mono (by omega)) L.bP .nil pass0 (pa_cons (pe_ix ix_tup (pv 3) pe_int (fun _ _ => rfl)) pa_nil)))))
    (pss_one (ps_ret (pe_meth0 (pv 2) L.cl L.mS Gsketch (hr.mono (by omega)) L.bS .nil pass0)))))))), ?_⟩
    refine ⟨v, rfl, v, dr, rfl, hdr, isRB (intD dr), rfl, ?_⟩
    cases cr : isRB (intD dr) with
    | false => exact iteT (q1 cr)
    | true =>
      obtain ⟨r, rfl, r1, r64⟩ := isRB_is cr
      obtain ⟨rfl, _⟩ := hdr.int
      refine iteF ⟨u, rfl, u, d, rfl, hd, fun H1 s1 => ⟨bookB d, rfl, ?_⟩⟩
      cases cb : bookB d with
      | false => exact iteT (q2 cr cb H1 s1)
      | true =>
        refine iteF ?_
        obtain ⟨ds, rfl, td, sd⟩ := bookB_is cb
        obtain ⟨a, xs, rfl, h1, h2, h3⟩ := (hd.same s1).tup
        have hl := Paired.length h3
        refine ⟨fun σ H3 => H3 = H1 ∧ σ = [some (.int r), some (.ref a), none, none] ∧ offB (.int r) (.tup ds) = false, ?_, ?_⟩
        · refine ⟨.ref a, rfl, !xs.isEmpty, .inr (.inl ⟨xs, h1.seq, rfl⟩), ?_⟩
          cases h3 with
          | nil => exact iteF ⟨rfl, rfl, rfl⟩
          | @cons x1 d1 xs' ds' e1 t1 =>
            obtain ⟨u1, k1, i1, r2, m1, y3, y4, rfl, f1, f2, _, _, f3, _⟩ := tr_of e1 (td _ List.mem_cons_self)
            refine iteT ⟨.ref a, rfl, a, _, _, _, rfl, rfl, h1.seq, atI_nat (j := 0) rfl, u1, _, _, _, rfl, rfl, f1.seq, atI_nat (j := 2) rfl, k1, _, _, _, rfl, rfl, f2.seq, atI_nat (j := 0) rfl, .int r, rfl, rfl, !decide (V.int r2 = V.int r), rfl, ?_⟩
            have ec : offB (.int r) (.tup (d1 :: ds')) = !decide (V.int r2 = V.int r) := by
              show (!decide (roomT d1 = r)) = _
              rw [← f3, dec_int]
              rfl
            cases cc : (!decide (V.int r2 = V.int r)) with
            | true => exact iteT (q3 cr cb (ec.trans cc) H1 s1)
            | false => exact iteF ⟨rfl, rfl, ec.trans cc⟩
        · rintro σ H3 ⟨rfl, rfl, cl⟩
          have q5 := q4 r ds rfl rfl r1 r64 cb cl
          have rms := rooms_all sd cl
          refine ⟨.int r, rfl, r, rfl, r1, r64, fun H2 s0 k0 s2 ns0 hs0 hk0 t dx nt ndx hne => ?_⟩
          have s5 : Same H2 (upd (upd H2 dx (.own t)) t (.ins L.C dx [])) := Same.new (same_upd ndx) (by rw [upd_ne hne.symm]; exact nt)
          refine ⟨t, dx, s0, k0, r, 0, 0, [], [], rfl, upd_same, .inl (.inl (s5 _ _ hs0)), hk0.same s5, .nil, List.nodup_nil, fun H5 d5 kp5 nd5 ta5 => ⟨rfl, ?_⟩⟩
          have nt0 : H3 t = none := Same.gone s2 nt
          have s35 : Same H3 H5 := fun q u e => kp5 q u (ne_of_none e nt0) (s5 q u (s2 q u e))
          have nd50 : H3 d5 = none := Same.gone s2 (Same.gone s5 nd5)
          refine ⟨.ref a, rfl, a, rfl, ⟨_, (h1.same s35).seq⟩, for_tup (xs := xs) (fun i σ H6 => ∃ y3 : Option V, σ = [some (.int r), some (.ref a), some (.ref t), y3] ∧ Same H3 H6 ∧ ∃ d6, H3 d6 = none ∧ TalAt L.C H6 t d6 r (whT r (ds.take i)).m (whT r (ds.take i)).o (whT r (ds.take i)).c)
            ⟨none, rfl, s35, d5, nd50, ta5⟩ (fun i σ H6 _ ⟨_, _, b6, _⟩ => (h1.same b6).seq) ?_ ?_⟩
          · rintro i v σ H6 hi ⟨y3, rfl, s6, d6, nd6, ta6⟩
            obtain ⟨dd, hdd, hat⟩ := paired_at h3 hi
            have ct := td _ (List.mem_of_getElem? hdd)
            obtain ⟨u1, k1, i1, r2, m1, z3, z4, rfl, f1, f2, _, _, f3, hsk, csk⟩ := tr_of (hat.same s6) ct
            obtain ⟨k1', ek, kk, ts, g1, g2, g3⟩ := skY_of hsk csk
            cases ek
            have osk := skO_of csk
            have hrm : geI dd.at2.at0 = r := rms _ (List.mem_of_getElem? hdd)
            have okx : TlOk r (whT r (ds.take i)) := whT_ok r1 fun x hx => ⟨td x (List.mem_of_mem_take hx), rms x (List.mem_of_mem_take hx)⟩
            have lx := okx.len
            have ly := osk.ok.len
            rw [hrm] at ly
            obtain ⟨⟨dx6, ht6⟩, _⟩ := id ta6
            refine ⟨.ref t, rfl, t, dx6, _, rfl, ht6, g_no _ _ _ _ (by decide +kernel) (by decide +kernel) (by decide +kernel) (by decide +kernel), .ref u1, rfl, u1, _, _, _, rfl, rfl, f1.seq, atI_nat (j := 2) rfl, t, d6, k1, kk, r, _, whT r (ds.take i), tlD dd.at2, rfl, ta6, okx.nd, (by omega), g1, ⟨ts, g2.seq, ?_⟩, (by omega), (by omega), fun H7 d7 b7 hd7 ta7 => ?_⟩
            · have := g3
              rw [show srtZ (tlD dd.at2).c = (tlD dd.at2).c from congrArg Tl.c (tlD_asc csk)] at this
              exact this
            · refine ⟨_, rfl, fun q u e => b7 q u (ne_of_none e nt0) (ne_of_none e nd6) (s6 q u e), d7, ?_, ?_⟩
              · rcases hd7 with rfl | hd7
                · exact nd6
                · exact Same.gone s6 hd7
              · rw [whT_snoc hdd]
                exact ta7
          · rintro σ H6 ⟨y3, rfl, s6, d6, nd6, ta6⟩
            rw [hl, List.take_length] at ta6
            have okx : TlOk r (whT r ds) := whT_ok r1 fun x hx => ⟨td x hx, rms x hx⟩
            have lx := okx.len
            obtain ⟨⟨dx6, ht6⟩, _⟩ := id ta6
            refine ⟨.ref t, rfl, t, dx6, _, rfl, ht6, g_no _ _ _ _ (by decide +kernel) (by decide +kernel) (by decide +kernel) (by decide +kernel), t, d6, r, _, _, _, rfl, ta6, okx.nd, (by omega), fun H8 s8 k8 ys ts8 sm8 ns8 hs8 hk8 hpr pm asc => ?_⟩
            have eys := srtZ_of asc pm okx.nd
            subst eys
            exact q5 H8 s8 (s1.trans (s6.trans sm8)) ⟨k8, ts8, hs8, hk8, hpr⟩
end
end Kb

namespace Kb
open PySem PySem.Spec PyProof.Rows L2 SrtZ SrtO RZ
/-! sketches as data -/
def kvDat (e : Str × Int) : Dat := .tup [.str e.1, .int e.2]
def skDat (r : Int) (x : Tl) : Dat := .tup [.int r, .int x.m, .int x.o, .tup ((srtZ x.c).map kvDat)]
theorem kvO_dat (e : Str × Int) : kvO (kvDat e) = e := rfl
theorem kvs_dat (c : Ct) : (c.map kvDat).map kvO = c := by
  rw [List.map_map]
  conv => rhs; rw [← List.map_id c]
  exact List.map_congr_left fun e _ => rfl
theorem ctsB_dat : ∀ {c : Ct} {la : Str}, (∀ e ∈ c, Nm e.1) → (∀ e ∈ c, 1 ≤ e.2) → Asc c → (∀ e ∈ c, ltZ la e.1 = true) → ctsB la (c.map kvDat) = true
  | [], _, _, _, _, _ => rfl
  | e :: r, la, hn, hp, ha, hl => by
    show (cntB (kvDat e) && (ltZ la (nmOf (kvDat e)) && ctsB (nmOf (kvDat e)) (r.map kvDat))) = true
    have h1 : cntB (kvDat e) = true := by
      show (nmB e.1 && decide (1 ≤ e.2)) = true
      rw [nmB_nm.mpr (hn e List.mem_cons_self), decide_eq_true (hp e List.mem_cons_self)]
      rfl
    have h2 : ltZ la (nmOf (kvDat e)) = true := hl e List.mem_cons_self
    have h3 : ctsB (nmOf (kvDat e)) (r.map kvDat) = true := ctsB_dat (fun x hx => hn x (List.mem_cons_of_mem _ hx)) (fun x hx => hp x (List.mem_cons_of_mem _ hx)) (List.Pairwise.of_cons ha) (fun x hx => List.rel_of_pairwise_cons ha hx)
    rw [h1, h2, h3]
    rfl
theorem nm_pos {z : Str} (h : Nm z) : ltZ (Str.ofString "") z = true := by
  unfold ltZ
  refine decide_eq_true ?_
  rw [show (Str.ofString "").cps.toList = [] by decide +kernel]
  have : z.cps.toList ≠ [] := fun e => by
    have h1 := h.pos
    have h2 := cs_len z
    have : (cs z).length = 0 := by rw [show cs z = [] from e]; rfl
    omega
  match h : z.cps.toList, this with
  | c :: l, _ => exact List.Lex.nil
theorem skDat_ok {r : Int} {x : Tl} (h : SkO r x) : skD (skDat r x) = true := by
  have ok := skT_ok h.ok
  have asc := srtZ_asc h.ok.nd
  have c4 : ctsB (Str.ofString "") ((srtZ x.c).map kvDat) = true := ctsB_dat ok.nm ok.pos asc fun e he => nm_pos (ok.nm e he)
  have hlen : (((srtZ x.c).map kvDat).length : Int) ≤ r := by
    rw [List.length_map]
    exact ok.len
  have hs : sumC ((srtZ x.c).map kvDat |>.map kvO) = sumC x.c := by
    rw [kvs_dat]
    exact sumC_perm' (srtZ_perm x.c)
  have e : skD (skDat r x) = ((decide (1 ≤ r) && decide (r ≤ 64)) && (decide (0 ≤ x.m) && (decide (0 ≤ x.o) && (ctsB (Str.ofString "") ((srtZ x.c).map kvDat) && (decide ((((srtZ x.c).map kvDat).length : Int) ≤ r) && (decide ((r + 1) * x.o ≤ x.m - sumC (((srtZ x.c).map kvDat).map kvO)) && decide (x.m - sumC (((srtZ x.c).map kvDat).map kvO) ≤ 2 * r * x.o))))))) := rfl
  rw [e, c4, hs, decide_eq_true h.r1, decide_eq_true h.r64, decide_eq_true h.bd.many, decide_eq_true h.bd.off, decide_eq_true hlen, decide_eq_true h.bd.low, decide_eq_true h.bd.high]
  rfl
theorem tlD_dat (r : Int) (x : Tl) : tlD (skDat r x) = skT x := by
  show (⟨x.m, x.o, ((srtZ x.c).map kvDat).map kvO⟩ : Tl) = _
  rw [kvs_dat]
  rfl
/-- a pair as a plain tuple -/
abbrev PrP (H : Hp) (t : Addr) (e : Str × Int) : Prop := Ptp H t [.str e.1, .int e.2]
theorem sum_ge : ∀ {c : Ct}, (∀ e ∈ c, 1 ≤ e.2) → 0 ≤ sumC c ∧ ∀ e ∈ c, e.2 ≤ sumC c
  | [], _ => ⟨Int.le_refl _, fun _ h => nomatch h⟩
  | e :: r, h => by
    obtain ⟨h0, h1⟩ := sum_ge (c := r) fun x hx => h x (List.mem_cons_of_mem _ hx)
    have e0 : sumC (e :: r) = e.2 + sumC r := rfl
    have p := h e List.mem_cons_self
    refine ⟨by omega, fun x hx => ?_⟩
    rcases List.mem_cons.mp hx with rfl | hx
    · omega
    · have := h1 x hx
      omega
theorem off_le {r : Int} {x : Tl} (h : SkO r x) : x.o ≤ x.m ∧ ∀ e ∈ x.c, e.2 ≤ x.m := by
  obtain ⟨s0, s1⟩ := sum_ge h.ok.pos
  have l := h.bd.low
  have o := h.bd.off
  have r1 := h.r1
  have : 1 * x.o ≤ (r + 1) * x.o := Int.mul_le_mul_of_nonneg_right (by omega) o
  have z : 0 ≤ (r + 1) * x.o := Int.mul_nonneg (by omega) o
  refine ⟨by omega, fun e he => ?_⟩
  have := s1 e he
  omega
theorem nat_le {i B : Int} (h0 : 0 ≤ i) (h : i ≤ B) (hB : B ≤ 1000000) : i.natAbs ≤ 2 ^ 90 := by
  have : i.natAbs ≤ 1000000 := by omega
  exact Nat.le_trans this (by decide)
/-- a sketch as data, of its tuples -/
theorem skDat_at {K : PySem.W.Frag} {H : Hp} {p k : Addr} {ts : List Addr} {r : Int} {x : Tl} (h : Ptp H p [.int r, .int x.m, .int x.o, .ref k]) (hk : Ptp H k (ts.map V.ref)) (hp : Paired (PrP H) ts (srtZ x.c)) (o : SkO r x) (hm : x.m ≤ 1000000) : DtAt K H (.ref p) (skDat r x) := by
  have m0 := o.bd.many
  have o0 := o.bd.off
  obtain ⟨l1, l2⟩ := off_le o
  have r1 := o.r1
  have r64 := o.r64
  have hl := o.ok.len
  have hlen : ts.length = x.c.length := (Paired.length hp).trans (srtZ_perm x.c).length_eq
  refine DtAt.mk h (by show 4 ≤ 5000; decide) (.cons (.lf ⟨rfl, nat_le (by omega) r64 (by omega)⟩) (.cons (.lf ⟨rfl, nat_le m0 hm (by omega)⟩) (.cons (.lf ⟨rfl, nat_le o0 (by omega : x.o ≤ 1000000) (by omega)⟩) (.cons (DtAt.mk hk (by rw [List.length_map]; omega) ?_) .nil))))
  have cm : ∀ e ∈ srtZ x.c, Nm e.1 ∧ 1 ≤ e.2 ∧ e.2 ≤ 1000000 := fun e he => by
    have := (srtZ_perm x.c).mem_iff.mp he
    have := l2 e this
    exact ⟨o.ok.nm e (by assumption), o.ok.pos e (by assumption), by omega⟩
  generalize srtZ x.c = c at hp cm
  clear hlen hk h
  induction hp with
  | nil => exact .nil
  | cons h t ih =>
    obtain ⟨n, p1, p2⟩ := cm _ List.mem_cons_self
    refine .cons (DtAt.mk h (by show 2 ≤ 5000; decide) (.cons (.lf ⟨rfl, by have := n.len; omega⟩) (.cons (.lf ⟨rfl, nat_le (by omega) p2 (by omega)⟩) .nil))) (ih fun e he => cm e (List.mem_cons_of_mem _ he))
theorem takeZ_asc {a : Int} {kvs : Ct} (h : Asc kvs) : Asc (takeZ a kvs) := by
  unfold Asc takeZ
  rw [List.pairwise_map]
  exact List.Pairwise.filter _ h
theorem srtZ_self {kvs : Ct} (h : Asc kvs) (nd : NdZ kvs) : srtZ kvs = kvs := (srtZ_of h (List.Perm.refl _) nd).symm
/-- sorted names with their counts: the counts, ascending -/
theorem srt_names {kvs : Ct} {ss : List Str} (nd : NdZ kvs) (p : ss.Perm (kvs.map (·.1))) (so : Srtd ltZ ss) : (ss.map fun n => (n, gd kvs n)) = srtZ kvs := by
  have nds : ss.Nodup := p.nodup_iff.mpr nd
  refine srtZ_of ?_ ?_ nd
  · unfold Asc
    rw [List.pairwise_map]
    refine List.Pairwise.imp₂ (fun {a b} h1 h2 => ?_) so nds
    rcases bcase (ltZ a b) with q | q
    · exact q
    · exact absurd (ltZ_tri q h1) h2
  · refine (p.map fun n => (n, gd kvs n)).trans ?_
    rw [List.map_map]
    refine List.Perm.of_eq ?_
    conv => rhs; rw [← List.map_id kvs]
    refine List.map_congr_left fun e he => ?_
    show (e.1, gd kvs e.1) = e
    unfold gd
    rw [getZ_mem nd he]
    rfl
theorem keys_kV (kvs : Ct) : (kvs.map entZ).map (fun kv => kV kv.1) = (kvs.map (·.1)).map V.str := by
  rw [List.map_map, List.map_map]
  rfl
theorem prp_same {H H' : Hp} {ts : List Addr} {ys : Ct} (h : Paired (PrP H) ts ys) (s : Same H H') : Paired (PrP H') ts ys := paired_imp (fun _ _ k => k.same s) h
abbrev sfed : Stmt := topS 34
abbrev Nfed : List Str := ["_law_sketch", "_law_name", "_law_room", "_law_many", "_law_off", "_law_kept", "_law_counts", "_law_one", "_law_count"]
theorem scfed : FnScope ["_law_sketch", "_law_name", "_law_room", "_law_many", "_law_off", "_law_kept", "_law_counts", "_law_one", "_law_count"] ["_law_sketch", "_law_name"] (defScope sfed) := ⟨rfl, rfl, rfl, by decide +kernel, rfl, by decide +kernel, by decide +kernel⟩
abbrev Dnfed (K : PySem.W.Frag) (mg : Str → Option Value) := Dn K mg "_law_fed" sfed ["_law_sketch", "_law_name"]
section
variable {P : Program} {w : World} {K : PySem.W.Frag} {mg : Str → Option Value} {base : Heap}
/-! _law_fed -/
def spFedL (K : PySem.W.Frag) : Sp := fun vs H Q _ => ∃ (s : Addr) (r : Int) (n : Str) (x : Tl), vs = [.ref s, .str n] ∧ SkY K H s r x ∧ TlOk r x ∧ SkO r (feedT r n 1 x) ∧ (feedT r n 1 x).m ≤ 1000000 ∧
  ∀ H' p, Same H H' → H p = none → DtAt K H' (.ref p) (skDat r (feedT r n 1 x)) → Q (.ref p) H'
theorem ok_fedL (T : Blt mg) (d : Dnfed K mg) : FnOk P w K mg base CX0 1 d.f d.fd ["_law_sketch", "_law_name"] (spFedL K) := by
  refine d.F.ok scfed (fun vs H Q E h => ?_) (fun cdv A outer s H vs Q E hr h => ?_)
  · obtain ⟨s, r, n, x, rfl, _⟩ := h
    rfl
  · obtain ⟨sk, r, n, ⟨m, o, kvs0⟩, rfl, ⟨k, ts, hs, hk, hp0⟩, ok0, oF, mF, q⟩ := h
    dsimp only at hs hk hp0
    have hr1 := oF.r1
    have hr2 := oF.r64
    have hu := hu_of hr
    have ok : TlOk r ⟨m, o, srtZ kvs0⟩ := skT_ok ok0
    have esk : skT (feedT r n 1 ⟨m, o, srtZ kvs0⟩) = skT (feedT r n 1 ⟨m, o, kvs0⟩) := feed_skT (x := ⟨m, o, kvs0⟩) ok0.nd
    have efeed : ∀ {H' : Hp} {p k : Addr} {ts : List Addr}, Ptp H' p [.int r, .int (feedT r n 1 ⟨m, o, srtZ kvs0⟩).m, .int (feedT r n 1 ⟨m, o, srtZ kvs0⟩).o, .ref k] → Ptp H' k (ts.map V.ref) → Paired (PrP H') ts (srtZ (feedT r n 1 ⟨m, o, srtZ kvs0⟩).c) → DtAt K H' (.ref p) (skDat r (feedT r n 1 ⟨m, o, kvs0⟩)) := fun {H' p k ts} h1 h2 h3 => by
      have e1 : (feedT r n 1 ⟨m, o, srtZ kvs0⟩).m = (feedT r n 1 ⟨m, o, kvs0⟩).m := by have := congrArg Tl.m esk; exact this
      have e2 : (feedT r n 1 ⟨m, o, srtZ kvs0⟩).o = (feedT r n 1 ⟨m, o, kvs0⟩).o := by have := congrArg Tl.o esk; exact this
      have e3 : srtZ (feedT r n 1 ⟨m, o, srtZ kvs0⟩).c = srtZ (feedT r n 1 ⟨m, o, kvs0⟩).c := by have := congrArg Tl.c esk; exact this
      rw [e1, e2] at h1
      rw [e3] at h3
      exact skDat_at h1 h2 h3 oF mF
    have asc := srtZ_asc ok0.nd
    generalize srtZ kvs0 = kvs at hp0 ok asc efeed
    clear esk
    refine ⟨_, (pss_cons (ps_asg (pv 0) (pg_tup (by rfl) (pgs_cons (pg_name (i := 2) scfed.nd rfl (Or.inl rfl)) (pgs_cons (pg_name (i := 3) scfed.nd rfl (Or.inl rfl)) (pgs_cons (pg_name (i := 4) scfed.nd rfl (Or.inl rfl)) (pgs_cons (pg_name (i := 5) scfed.nd rfl (Or.inl rfl)) pgs_nil))))))
    (pss_cons (ps_asg (pe_callTy (call_dictPT rfl) (by rfl) T.n_dict (by decide +kernel) (pa_cons (pv 5) pa_nil)) (pg_name (i := 6) scfed.nd rfl (Or.inr rfl)))
    (pss_cons (ps_if (PW.pt (pw_or (pt_cmp (pc_din hu (pv 1) (pv 6))) (pw_or1 (pt_cmpR op_lt (pe_callB call_lenD (by rfl) T.n_len (by decide +kernel) (pa_cons (pv 6) pa_nil)) (pv 2) (nomark _)))))
      (pss_cons (ps_dput hu (pv 6) (pv 1) (pe_op op_add (pe_dget2 hu (pv 6) (pv 1) pe_int ⟨rfl, rfl, rfl, rfl⟩) pe_int) rfl)
      (pss_one (ps_ret (pe_tupF (pa_cons (pv 2) (pa_cons (pe_op op_add (pv 3) pe_int) (pa_cons (pv 4) (pa_cons (pe_callTy call_tupleF (by rfl) T.n_tuple (by decide +kernel) (pa_cons (pe_lc (own := [("_law_one", 7)]) (g := gName 7) (tt := tYes) rfl scfed.nd (pi_list (pe_callB cr_sortedSL (by rfl) T.n_sorted (by decide +kernel) (pa_cons (pe_callTy (call_list_dK rfl) (by rfl) T.n_list (by decide +kernel) (pa_cons (pv 6) pa_nil)) pa_nil))) (blkOk_by (N := Nfed) (sc := defScope sfed) (by decide +kernel)) (fun _ _ _ _ _ => pg_name (i := 7) scfed.nd rfl (Or.inl rfl)) (fun _ _ _ _ _ => pts_nil) (fun _ _ _ _ _ => (pe_tupF (pa_cons (pv 7) (pa_cons (pe_dget hu (pv 6) (pv 7) (fun _ _ => rfl)) pa_nil))))) pa_nil)) pa_nil))))))))
      pss_nil)
    (pss_one (ps_ret (pe_tupF (pa_cons (pv 2) (pa_cons (pe_op op_add (pv 3) pe_int) (pa_cons (pe_op op_add (pv 4) pe_int) (pa_cons (pe_callTy call_tupleF (by rfl) T.n_tuple (by decide +kernel) (pa_cons (pe_lc (own := [("_law_one", 7), ("_law_count", 8)]) (g := gTup K 2 (gCons (gName 7) (gCons (gName 8) gNil))) rfl scfed.nd (pi_tup (pv 5)) (blkOk_by (N := Nfed) (sc := defScope sfed) (by decide +kernel)) (fun _ _ _ _ _ => pg_tup (by rfl) (pgs_cons (pg_name (i := 7) scfed.nd rfl (Or.inl rfl)) (pgs_cons (pg_name (i := 8) scfed.nd rfl (Or.inl rfl)) pgs_nil))) (fun _ _ _ _ _ => pts_one (pt_cmpR op_gt (pv 8) pe_int (nomark _))) (fun _ _ _ _ _ => (pe_tupF (pa_cons (pv 7) (pa_cons (pe_op op_sub (pv 8) pe_int) pa_nil))))) pa_nil)) pa_nil)))))))))), ?_⟩
    refine ⟨.ref sk, rfl, sk, _, rfl, hs, rfl, _, _, rfl, _, _, rfl, _, _, rfl, _, _, rfl, rfl, ?_⟩
    refine ⟨.ref k, rfl, k, ts, kvs.map entZ, rfl, hk, ents_paired hp0, fun p np => ?_⟩
    have em : mergeK [] (kvs.map entZ) = kvs.map entZ := mergeZ kvs [] (by rw [List.nil_append]; exact ok.nd)
    rw [em]
    have hp : (upd H p (.dK (kvs.map entZ))) p = some (.dK (kvs.map entZ)) := upd_same
    have s1 : Same H (upd H p (.dK (kvs.map entZ))) := same_upd np
    generalize upd H p (.dK (kvs.map entZ)) = H1 at hp s1 ⊢
    have hlen : kvs.length ≤ 64 := by
      have : (kvs.length : Int) ≤ r := ok.len
      omega
    refine ⟨.str n, rfl, .ref p, rfl, p, _, rfl, DGet.k (k := Sum.inr n) hp, _, rfl, ?_⟩
    rw [getZ_val]
    cases hf : full r n kvs with
    | false =>
      cases hg : getZ kvs n
      case' none =>
        refine iteF ⟨.ref p, rfl, p, _, rfl, hp, .int r, rfl, _, _, rfl, rfl, true, congrArg V.bl (decide_eq_true (by
          rw [List.length_map]
          have h1 : (kvs.length : Int) ≤ r := ok.len
          have h2 : ¬ (kvs.length : Int) = r := fun z => by
            rw [full_yes hg z] at hf
            cases hf
          omega)), iteT ?_⟩
      case' some v => refine iteT ?_
      all_goals
        refine ⟨.ref p, rfl, p, rfl, .inl ⟨_, .inl hp⟩, .str n, rfl, _, DGet.k (k := Sum.inr n) hp, ?_⟩
        rw [getZ_val]
        refine ⟨(getZ kvs n).getD 0, 1, ?_, rfl, ?_⟩
        · cases getZ kvs n <;> rfl
        · refine ⟨.ref p, rfl, .str n, rfl, p, _, rfl, DPut.k (k := Sum.inr n) hp (by rw [List.length_map, sizeLine_eq]; omega), ?_⟩
          rw [putZ_put]
          rw [feed_add hf (by decide)] at efeed
          have s2 : Same H (upd H1 p (.dK ((putZ kvs n ((getZ kvs n).getD 0 + 1)).map entZ))) := Same.put s1 np
          have hp2 : (upd H1 p (.dK ((putZ kvs n ((getZ kvs n).getD 0 + 1)).map entZ))) p = some (.dK ((addZ kvs n 1).map entZ)) := upd_same
          generalize upd H1 p (.dK ((putZ kvs n ((getZ kvs n).getD 0 + 1)).map entZ)) = H2 at s2 hp2 ⊢
          have nda := addZ_nd (n := n) (c := 1) ok.nd
          have hal : (addZ kvs n 1).length ≤ kvs.length + 1 := addZ_len
          generalize addZ kvs n 1 = all at hp2 nda hal efeed
          refine ⟨.int r, rfl, .int m, rfl, _, _, rfl, rfl, .int o, rfl, .ref p, rfl, p, _, rfl, hp2, fun l nl => ?_⟩
          have s3 := same_upd (o := .lst ((all.map entZ).map fun kv => kV kv.1)) nl
          have hl3 : (upd H2 l (.lst ((all.map entZ).map fun kv => kV kv.1))) l = some (.lst ((all.map (·.1)).map V.str)) := by rw [upd_same, keys_kV]
          have hp3 := s3 _ _ hp2
          have s03 := s2.trans s3
          generalize upd H2 l (.lst ((all.map entZ).map fun kv => kV kv.1)) = H3 at hl3 hp3 s03 ⊢
          refine ⟨l, all.map (·.1), rfl, sql hl3, fun ss l2 pms sos nl2 => ?_⟩
          have ey := srt_names nda pms sos
          have s4 := same_upd (o := .lst (ss.map V.str)) nl2
          have hl4 : (upd H3 l2 (.lst (ss.map V.str))) l2 = some (.lst (ss.map V.str)) := upd_same
          have hp4 := s4 _ _ hp3
          have s04 := s03.trans s4
          generalize upd H3 l2 (.lst (ss.map V.str)) = H4 at hl4 hp4 s04 ⊢
          have hsl : ss.length = all.length := by rw [pms.length_eq, List.length_map]
          refine ⟨l2, rfl, ⟨_, sql hl4⟩, fun D2 nD2 => ?_⟩
          refine lc_list (xs := ss.map V.str) (fun i H3 => Same H4 H3 ∧ ∃ us : List Addr, H3 D2 = some (.lst (us.map V.ref)) ∧ us.length ≤ i ∧ Paired (PrP H3) us ((srtZ all).take i))
            ⟨same_upd nD2, [], upd_same, Nat.zero_le _, .nil⟩ (fun i H3 _ h3 => sql (h3.1 _ _ hl4)) (fun i x H3 hx h3 => ?_) (fun H3 h3 => ?_)
          · obtain ⟨z, hz, rfl⟩ := map_at hx
            obtain ⟨s3, us, hD, hul, hpr⟩ := h3
            have he : (srtZ all)[i]? = some (z, gd all z) := by
              rw [← ey, List.getElem?_map, hz]
              rfl
            have hmem : z ∈ all.map (·.1) := pms.mem_iff.mp (List.mem_of_getElem? hz)
            have dg : DGet H3 p (.str z) (some (.int (gd all z))) := .inl ⟨all.map entZ, Sum.inr z, .inl (s3 _ _ hp4), rfl, by
              rw [getZ_val]
              unfold gd
              cases hg : getZ all z with
              | none => exact absurd hmem (getZ_none.mp hg)
              | some v => rfl⟩
            refine ⟨rfl, .str z, rfl, .ref p, rfl, .str z, rfl, p, .int (gd all z), rfl, dg, (by show 2 ≤ sizeLine; decide), fun t ot nt hot => ?_⟩
            have Dp : D2 ≠ t := ne_of_none hD nt
            refine ⟨_, by rw [upd_ne Dp]; exact hD, ?_, Same.put (Same.new s3 nt) nD2, us ++ [t], by rw [upd_same, List.map_append]; rfl, by rw [List.length_append, List.length_singleton]; omega, ?_⟩
            · have := (List.getElem?_eq_some_iff.mp hz).1
              rw [List.length_map, sizeLine_eq]
              omega
            · rw [List.take_add_one, he]
              refine paired_snoc (paired_imp (fun t e' ht => ?_) hpr) ?_
              · obtain ⟨ob, hb, hd⟩ := ht
                exact ⟨ob, by rw [upd_ne (ne_of hb hD (by intro z; cases z)), upd_ne (ne_of_none hb nt)]; exact hb, hd⟩
              · exact ⟨ot, by rw [upd_ne Dp.symm]; exact upd_same, hot⟩
          · obtain ⟨s3, us, hD, hul, hpr⟩ := h3
            rw [List.length_map, hsl, show (srtZ all).take all.length = srtZ all by rw [← (srtZ_perm all).length_eq, List.take_length]] at hpr
            have sb : Same H H3 := s04.trans s3
            refine ⟨D2, _, rfl, sql hD, fun k2 ob nk2 ho => ⟨(by show 4 ≤ sizeLine; decide), fun t ot nt hot => ?_⟩⟩
            have sc : Same H3 (upd H3 k2 (.frz ob (.tup (us.map V.ref)))) := same_upd nk2
            have hk2 : (upd H3 k2 (.frz ob (.tup (us.map V.ref)))) k2 = some (.frz ob (.tup (us.map V.ref))) := upd_same
            generalize upd H3 k2 (.frz ob (.tup (us.map V.ref))) = H5 at nt sc hk2 ⊢
            have sd := same_upd (o := .frz ot (.tup [.int r, .int (m + 1), .int o, .ref k2])) nt
            exact q _ t ((sb.trans sc).trans sd) (Same.gone (sb.trans sc) nt) (efeed ⟨ot, upd_same, hot⟩ ⟨ob, sd _ _ hk2, ho⟩ (prp_same (prp_same hpr sc) sd))
    | true =>
      obtain ⟨hg, hl⟩ := full_of hf
      have m1 := mn_pos (ne_of_full hr1 hl) ok.pos
      rw [feed_lt hf m1] at efeed
      rw [hg]
      refine iteF ⟨.ref p, rfl, p, _, rfl, hp, .int r, rfl, _, _, rfl, rfl, false, congrArg V.bl (decide_eq_false (by rw [List.length_map]; omega)), iteF ?_⟩
      have hk1 := hk.same s1
      refine ⟨.int r, rfl, .int m, rfl, _, _, rfl, rfl, .int o, rfl, _, _, rfl, rfl, .ref k, rfl, k, rfl, ⟨_, hk1.seq⟩, fun D nD => ?_⟩
      refine lc_tup (xs := ts.map V.ref) (fun i H3 => Same H1 H3 ∧ ∃ us : List Addr, H3 D = some (.lst (us.map V.ref)) ∧ us.length ≤ i ∧ Paired (PrP H3) us (takeZ 1 (kvs.take i)))
        ⟨same_upd nD, [], upd_same, Nat.zero_le _, .nil⟩ (fun i H3 _ h3 => (hk1.same h3.1).seq) (fun i x H3 hx h3 => ?_) (fun H3 h3 => ?_)
      · obtain ⟨tp, htp, rfl⟩ := map_at hx
        obtain ⟨e, he, hat⟩ := paired_at hp0 htp
        obtain ⟨s3, us, hD, hul, hpr⟩ := h3
        refine ⟨tp, _, rfl, seqT (seqT hat s1) s3, rfl, _, _, rfl, _, _, rfl, rfl, rfl, .int e.2, rfl, _, _, rfl, rfl, _, rfl, ite2 (fun hgt => ?_) fun hgt => ?_⟩
        · have hgt := of_decide_eq_true hgt
          refine ⟨.str e.1, rfl, .int e.2, rfl, _, _, rfl, rfl, (by show 2 ≤ sizeLine; decide), fun t ot nt hot => ?_⟩
          have Dp : D ≠ t := ne_of_none hD nt
          refine ⟨_, by rw [upd_ne Dp]; exact hD, ?_, Same.put (Same.new s3 nt) nD, us ++ [t], by rw [upd_same, List.map_append]; rfl, by rw [List.length_append, List.length_singleton]; omega, ?_⟩
          · have := (List.getElem?_eq_some_iff.mp he).1
            rw [List.length_map, sizeLine_eq]
            omega
          · rw [List.take_add_one, he]
            show Paired _ _ (takeZ 1 (kvs.take i ++ [e]))
            rw [takeZ_snoc, if_pos (show 1 < e.2 by omega)]
            refine paired_snoc (paired_imp (fun t e' ht => ?_) hpr) ?_
            · obtain ⟨ob, hb, hd⟩ := ht
              exact ⟨ob, by rw [upd_ne (ne_of hb hD (by intro z; cases z)), upd_ne (ne_of_none hb nt)]; exact hb, hd⟩
            · exact ⟨ot, by rw [upd_ne Dp.symm]; exact upd_same, hot⟩
        · have hgt : ¬ 1 < e.2 := fun z => hgt (decide_eq_true z)
          refine ⟨s3, us, hD, by omega, ?_⟩
          rw [List.take_add_one, he]
          show Paired _ _ (takeZ 1 (kvs.take i ++ [e]))
          rw [takeZ_snoc, if_neg hgt, List.append_nil]
          exact hpr
      · obtain ⟨s3, us, hD, hul, hpr⟩ := h3
        rw [show kvs.take (ts.map V.ref).length = kvs by rw [List.length_map, Paired.length hp0, List.take_length]] at hpr
        have sb : Same H H3 := s1.trans s3
        refine ⟨D, _, rfl, sql hD, fun k2 ob nk2 ho => ⟨(by show 4 ≤ sizeLine; decide), fun t ot nt hot => ?_⟩⟩
        have sc : Same H3 (upd H3 k2 (.frz ob (.tup (us.map V.ref)))) := same_upd nk2
        have hk2 : (upd H3 k2 (.frz ob (.tup (us.map V.ref)))) k2 = some (.frz ob (.tup (us.map V.ref))) := upd_same
        generalize upd H3 k2 (.frz ob (.tup (us.map V.ref))) = H4 at nt sc hk2 ⊢
        have sd := same_upd (o := .frz ot (.tup [.int r, .int (m + 1), .int (o + 1), .ref k2])) nt
        refine q _ t ((sb.trans sc).trans sd) (Same.gone (sb.trans sc) nt) (efeed ⟨ot, upd_same, hot⟩ ⟨ob, sd _ _ hk2, ho⟩ ?_)
        rw [show srtZ (takeZ 1 kvs) = takeZ 1 kvs from srtZ_self (takeZ_asc asc) (takeZ_nd ok.nd)]
        exact prp_same (prp_same hpr sc) sd
end
end Kb

namespace Kb
open PySem PySem.Spec PyProof.Rows L2 SrtZ SrtO RZ SrtR
abbrev sof : Stmt := topS 35
abbrev Nof : List Str := ["_law_room", "_law_names_here", "_law_found", "_law_name"]
theorem scof : FnScope ["_law_room", "_law_names_here", "_law_found", "_law_name"] ["_law_room", "_law_names_here"] (defScope sof) := ⟨rfl, rfl, rfl, by decide +kernel, rfl, by decide +kernel, by decide +kernel⟩
abbrev Dnof (K : PySem.W.Frag) (mg : Str → Option Value) := Dn K mg "_law_of" sof ["_law_room", "_law_names_here"]
abbrev spoured : Stmt := topS 36
abbrev Npoured : List Str := ["_law_one", "_law_other", "_law_counts", "_law_count", "_law_falling", "_law_taken", "_law_left", "_law_name"]
theorem scpoured : FnScope ["_law_one", "_law_other", "_law_counts", "_law_count", "_law_falling", "_law_taken", "_law_left", "_law_name"] ["_law_one", "_law_other"] (defScope spoured) := ⟨rfl, rfl, rfl, by decide +kernel, rfl, by decide +kernel, by decide +kernel⟩
abbrev Dnpoured (K : PySem.W.Frag) (mg : Str → Option Value) := Dn K mg "_law_poured" spoured ["_law_one", "_law_other"]
abbrev swhole : Stmt := topS 41
abbrev Nwhole : List Str := ["_law_room", "_law_book_here", "_law_found", "_law_triple"]
theorem scwhole : FnScope ["_law_room", "_law_book_here", "_law_found", "_law_triple"] ["_law_room", "_law_book_here"] (defScope swhole) := ⟨rfl, rfl, rfl, by decide +kernel, rfl, by decide +kernel, by decide +kernel⟩
abbrev Dnwhole (K : PySem.W.Frag) (mg : Str → Option Value) := Dn K mg "_law_whole" swhole ["_law_room", "_law_book_here"]
theorem skO_feeds {r : Int} {zs : List Str} (hr : 1 ≤ r) (h64 : r ≤ 64) (hn : ∀ z ∈ zs, Nm z) : SkO r (feedsT r zs tl0) ∧ (feedsT r zs tl0).m = (zs.length : Int) := by
  obtain ⟨b, e⟩ := bd_stream hr hn
  exact ⟨⟨hr, h64, feedsT_ok hr (tl0_ok hr) hn, b⟩, e⟩
theorem skY_dat {K : PySem.W.Frag} {H : Hp} {s : Addr} {r : Int} {x : Tl} (h : DtAt K H (.ref s) (skDat r x)) (o : SkO r x) : SkY K H s r (skT x) := by
  obtain ⟨s', e, k⟩ := skY_of h (skDat_ok o)
  cases e
  rw [tlD_dat] at k
  exact k
/-- a sketch's own order means nothing where it stands -/
theorem SkY.skT {K : PySem.W.Frag} {H : Hp} {s : Addr} {r : Int} {x : Tl} (nd : NdZ x.c) (h : SkY K H s r (skT x)) : SkY K H s r x := by
  obtain ⟨k, ts, h1, h2, h3⟩ := h
  have e : srtZ (Kb.skT x).c = srtZ x.c := by have := congrArg Tl.c (skT_skT nd); exact this
  rw [e] at h3
  exact ⟨k, ts, h1, h2, h3⟩
theorem take_srt {a : Int} {kvs : Ct} (nd : NdZ kvs) : srtZ (takeZ a kvs) = takeZ a (srtZ kvs) :=
  (srtZ_of (takeZ_asc (srtZ_asc nd)) (takeZ_perm (srtZ_perm kvs) a) (takeZ_nd nd)).symm
theorem prt_same' {H H' : Hp} {ts : List Addr} {ys : Ct} (h : Paired (PrT H) ts ys) (s : Same H H') : Paired (PrT H') ts ys := paired_imp (fun _ _ k => s _ _ k) h
theorem fall_at {kvs : Ct} {r : Nat} {ns : List Int} (p : ns.Perm (kvs.map (·.2))) (so : ns.Pairwise (· ≥ ·)) (h : r < kvs.length) : ns[r]? = some (fallZ kvs r) := by
  have e := fall_uniq p so
  have hl : ns.length = kvs.length := by rw [p.length_eq, List.length_map]
  unfold fallZ
  rw [Int.toNat_natCast, ← e, List.getD_eq_getElem?_getD, List.getElem?_eq_getElem (show r < ns.length by omega)]
  rfl
section
variable {P : Program} {w : World} {K : PySem.W.Frag} {mg : Str → Option Value} {base : Heap}
/-! _law_of -/
def spOf (K : PySem.W.Frag) : Sp := fun vs H Q _ => ∃ (r : Int) (a : Addr) (zs : List Str), vs = [.int r, .ref a] ∧ SqL K H a (zs.map V.str) ∧ (∀ z ∈ zs, Nm z) ∧ 1 ≤ r ∧ r ≤ 64 ∧ zs.length ≤ 1000 ∧
  ∀ H' p, Same H H' → DtAt K H' (.ref p) (skDat r (feedsT r zs tl0)) → Q (.ref p) H'
theorem sqL_same {H H' : Hp} {a : Addr} {xs : List V} (h : SqL K H a xs) (s : Same H H') : SqL K H' a xs := by
  rcases h with (h | ⟨o, h⟩) | h
  · exact .inl (.inl (s _ _ h))
  · exact .inl (.inr ⟨o, s _ _ h⟩)
  · exact .inr h
theorem ok_of (T : Blt mg) (dfed : Dnfed K mg) (d : Dnof K mg) : FnOk P w K mg base CX0 2 d.f d.fd ["_law_room", "_law_names_here"] (spOf K) := by
  have Gfed : FnOk P w K mg base CX0 1 dfed.f dfed.fd ["_law_sketch", "_law_name"] (spFedL K) := ok_fedL T dfed
  refine d.F.ok scof (fun vs H Q E h => ?_) (fun cdv A outer s H vs Q E hr h => ?_)
  · obtain ⟨r, a, zs, rfl, _⟩ := h
    rfl
  · obtain ⟨r, a, zs, rfl, hl, hn, r1, r64, hz, q⟩ := h
    refine ⟨_, (pss_cons (ps_set (i := 2) scof.nd rfl (Or.inl rfl) (pe_tupF (pa_cons (pv 0) (pa_cons pe_int (pa_cons pe_int (pa_cons (pe_tupF pa_nil) pa_nil))))))
    (pss_cons (ps_for PassesOwn.never rfl (pi_list (pv 1)) (pg_name (i := 3) scof.nd rfl (Or.inl rfl))
      (pss_one (ps_set (i := 2) scof.nd rfl (Or.inl rfl) (pe_call Gfed (hr.mono (by omega)) (by rfl) dfed.g dfed.F.kp dfed.b .nil pass0 (pa_cons (pv 2) (pa_cons (pv 3) pa_nil))))))
    (pss_one (ps_ret (pv 2))))), ?_⟩
    refine ⟨.int r, rfl, (by show 0 ≤ sizeLine; decide), fun k ok nk hok => ⟨(by show 4 ≤ sizeLine; decide), fun t ot nt hot => ?_⟩⟩
    have s1 := same_upd (o := .frz ok (.tup [])) nk
    have hk1 : (upd H k (.frz ok (.tup []))) k = some (.frz ok (.tup [])) := upd_same
    generalize upd H k (.frz ok (.tup [])) = H1 at s1 hk1 nt ⊢
    have s2 := same_upd (o := .frz ot (.tup [.int r, .int 0, .int 0, .ref k])) nt
    have ht2 : (upd H1 t (.frz ot (.tup [.int r, .int 0, .int 0, .ref k]))) t = some (.frz ot (.tup [.int r, .int 0, .int 0, .ref k])) := upd_same
    have hk2 := s2 _ _ hk1
    have s02 := s1.trans s2
    generalize upd H1 t (.frz ot (.tup [.int r, .int 0, .int 0, .ref k])) = H2 at s02 ht2 hk2 ⊢
    have o0 : SkO r tl0 := (skO_feeds r1 r64 (zs := []) (fun _ h => nomatch h)).1
    have d0 : DtAt K H2 (.ref t) (skDat r tl0) := skDat_at (ts := []) ⟨ot, ht2, hot⟩ ⟨ok, hk2, hok⟩ (by rw [show srtZ tl0.c = [] from srtZ_self .nil List.nodup_nil]; exact .nil) o0 (by show (0 : Int) ≤ 1000000; decide)
    refine ⟨.ref a, rfl, a, rfl, ⟨_, sqL_same hl s02⟩, for_list (xs := zs.map V.str) (fun i σ H3 => ∃ (p : Addr) (y : Option V), σ = [some (.int r), some (.ref a), some (.ref p), y] ∧ Same H H3 ∧ DtAt K H3 (.ref p) (skDat r (feedsT r (zs.take i) tl0)))
      ⟨t, none, rfl, s02, d0⟩ (fun i σ H3 _ ⟨_, _, _, b3, _⟩ => sqL_same hl b3) ?_ ?_⟩
    · rintro i v σ H3 hi ⟨p, y, rfl, s3, d3⟩
      obtain ⟨z, hz', rfl⟩ := map_at hi
      have hnt : ∀ x ∈ zs.take i, Nm x := fun x hx => hn x (List.mem_of_mem_take hx)
      have hnt1 : ∀ x ∈ zs.take (i + 1), Nm x := fun x hx => hn x (List.mem_of_mem_take hx)
      obtain ⟨oi, ei⟩ := skO_feeds r1 r64 hnt
      obtain ⟨oj, ej⟩ := skO_feeds r1 r64 hnt1
      rw [feedsT_snoc hz'] at oj ej
      refine ⟨.ref p, rfl, .str z, rfl, p, r, z, feedsT r (zs.take i) tl0, rfl, (skY_dat d3 oi).skT oi.ok.nd, oi.ok, oj, ?_, fun H4 p4 s4 n4 d4 => ⟨p4, _, rfl, s3.trans s4, ?_⟩⟩
      · rw [ej, List.length_take]
        omega
      · rw [feedsT_snoc hz']
        exact d4
    · rintro σ H3 ⟨p, y, rfl, s3, d3⟩
      rw [List.length_map, List.take_length] at d3
      exact ⟨_, rfl, q H3 p s3 d3⟩
/-! _law_poured -/
def spPouredL (K : PySem.W.Frag) : Sp := fun vs H Q _ => ∃ (s1 s2 : Addr) (r : Int) (x y : Tl), vs = [.ref s1, .ref s2] ∧ SkY K H s1 r x ∧ SkY K H s2 r y ∧ TlOk r x ∧ TlOk r y ∧ 1 ≤ r ∧ r ≤ 64 ∧
  ∀ H' p, Same H H' → H p = none → SkAt H' p r (pourT r y x) → Q (.ref p) H'
theorem ok_pouredL (T : Blt mg) (d : Dnpoured K mg) : FnOk P w K mg base CX0 1 d.f d.fd ["_law_one", "_law_other"] (spPouredL K) := by
  refine d.F.ok scpoured (fun vs H Q E h => ?_) (fun cdv A outer s H vs Q E hr h => ?_)
  · obtain ⟨s1, s2, r, x, y, rfl, _⟩ := h
    rfl
  · obtain ⟨s1, s2, r, ⟨m, o, kvs0⟩, ⟨m2, o2, ks0⟩, rfl, ⟨k1, ts1, h1, hk1, hp1⟩, ⟨k2, ts2, h2, hk2, hp2⟩, ok01, ok02, hr1, hr2, q⟩ := h
    dsimp only at h1 hk1 hp1 h2 hk2 hp2
    have hu := hu_of hr
    obtain ⟨rn, rfl⟩ := Int.eq_ofNat_of_zero_le (show 0 ≤ r by omega)
    have ok1 : TlOk rn ⟨m, o, srtZ kvs0⟩ := skT_ok ok01
    have ok2 : TlOk rn ⟨m2, o2, srtZ ks0⟩ := skT_ok ok02
    have epq : ∀ {H' : Hp} {p : Addr}, SkAt H' p rn (pourT rn ⟨m2, o2, srtZ ks0⟩ ⟨m, o, srtZ kvs0⟩) → SkAt H' p rn (pourT rn ⟨m2, o2, ks0⟩ ⟨m, o, kvs0⟩) := fun h => h.congr (pour_skT ok1.nd ok2.nd (skT_skT (x := ⟨m, o, kvs0⟩) ok01.nd) (skT_skT (x := ⟨m2, o2, ks0⟩) ok02.nd))
    generalize srtZ kvs0 = kvs at hp1 ok1 epq
    generalize srtZ ks0 = ks at hp2 ok2 epq
    refine ⟨_, (pss_cons (ps_asg (pe_callTy (call_dictPT rfl) (by rfl) T.n_dict (by decide +kernel) (pa_cons (pe_ix ix_tup (pv 0) pe_int (fun _ _ => rfl)) pa_nil)) (pg_name (i := 2) scpoured.nd rfl (Or.inr rfl)))
    (pss_cons (ps_for PassesOwn.never rfl (pi_tup (pe_ix ix_tup (pv 1) pe_int (fun _ _ => rfl))) (pg_tup (by rfl) (pgs_cons (pg_name (i := 7) scpoured.nd rfl (Or.inl rfl)) (pgs_cons (pg_name (i := 3) scpoured.nd rfl (Or.inl rfl)) pgs_nil)))
      (pss_one (ps_dput hu (pv 2) (pv 7) (pe_op op_add (pe_dget2 hu (pv 2) (pv 7) pe_int ⟨rfl, rfl, rfl, rfl⟩) (pv 3)) rfl)))
    (pss_cons (ps_set (i := 4) scpoured.nd rfl (Or.inl rfl) (pe_callBK (cr_sortedRev (b := true)) (by rfl) T.n_sorted (by decide +kernel) (pa_cons (pe_lock (pe_lc (own := [("_law_name", 7)]) (g := gName 7) (tt := tYes) rfl scpoured.nd (pi_keys (pv 2)) (blkOk_by (N := Npoured) (sc := defScope spoured) (by decide +kernel)) (fun _ _ _ _ _ => pg_name (i := 7) scpoured.nd rfl (Or.inl rfl)) (fun _ _ _ _ _ => pts_nil) (fun _ _ _ _ _ => (pe_dget hu (pv 2) (pv 7) (fun _ _ => rfl))))) pa_nil) (pk_cons pe_bl pk_nil)))
    (C8.pss_cut (ps_asg (pe_ifExp (pt_cmpR op_gt (pe_callB call_len_seq (by rfl) T.n_len (by decide +kernel) (pa_cons (pv 4) pa_nil)) (pe_ix ix_tup (pv 0) pe_int (fun _ _ => rfl)) (nomark _)) (pe_ix ix_list (pv 4) (pe_ix ix_tup (pv 0) pe_int (fun _ _ => rfl)) (fun _ _ => rfl)) pe_int) (pg_name (i := 5) scpoured.nd rfl (Or.inr rfl)))
    (pss_cons (ps_set (i := 6) scpoured.nd rfl (Or.inl rfl) (pe_callTy call_tupleF (by rfl) T.n_tuple (by decide +kernel) (pa_cons (pe_lc (own := [("_law_name", 7)]) (g := gName 7) rfl scpoured.nd (pi_list (pe_callB cr_sortedSL (by rfl) T.n_sorted (by decide +kernel) (pa_cons (pe_callTy (call_list_dK rfl) (by rfl) T.n_list (by decide +kernel) (pa_cons (pv 2) pa_nil)) pa_nil))) (blkOk_by (N := Npoured) (sc := defScope spoured) (by decide +kernel)) (fun _ _ _ _ _ => pg_name (i := 7) scpoured.nd rfl (Or.inl rfl)) (fun _ _ _ _ _ => pts_one (pt_cmpR op_gt (pe_dget hu (pv 2) (pv 7) (fun _ _ => rfl)) (pv 5) (nomark _))) (fun _ _ _ _ _ => (pe_tup (pa_cons (pv 7) (pa_cons (pe_op op_sub (pe_dget hu (pv 2) (pv 7) (fun _ _ => rfl)) (pv 5)) pa_nil))))) pa_nil)))
    (pss_one (ps_ret (pe_tup (pa_cons (pe_ix ix_tup (pv 0) pe_int (fun _ _ => rfl)) (pa_cons (pe_op op_add (pe_ix ix_tup (pv 0) pe_int (fun _ _ => rfl)) (pe_ix ix_tup (pv 1) pe_int (fun _ _ => rfl))) (pa_cons (pe_op op_add (pe_op op_add (pe_ix ix_tup (pv 0) pe_int (fun _ _ => rfl)) (pe_ix ix_tup (pv 1) pe_int (fun _ _ => rfl))) (pv 5)) (pa_cons (pv 6) pa_nil)))))))))))), ?_⟩
    refine ⟨.ref s1, rfl, s1, _, _, _, rfl, rfl, h1, atI_nat (j := 3) rfl, k1, ts1, kvs.map entZ, rfl, hk1, ents_paired hp1, fun p np => ?_⟩
    have em : mergeK [] (kvs.map entZ) = kvs.map entZ := mergeZ kvs [] (by rw [List.nil_append]; exact ok1.nd)
    rw [em]
    have hlen1 : kvs.length ≤ 64 := by
      have : (kvs.length : Int) ≤ rn := ok1.len
      omega
    have hlen2 : ks.length ≤ 64 := by
      have : (ks.length : Int) ≤ rn := ok2.len
      omega
    have hp : (upd H p (.dK (kvs.map entZ))) p = some (.dK (kvs.map entZ)) := upd_same
    have s01 : Same H (upd H p (.dK (kvs.map entZ))) := same_upd np
    generalize upd H p (.dK (kvs.map entZ)) = H1 at hp s01 ⊢
    refine ⟨.ref s2, rfl, s2, _, _, _, rfl, rfl, seqT h2 s01, atI_nat (j := 3) rfl, k2, rfl, ⟨_, (hk2.same s01).seq⟩, for_tup (xs := ts2.map V.ref) (fun i σ H3 => ∃ y6 y7 : Option V, σ = [some (.ref s1), some (.ref s2), some (.ref p), y6, none, none, none, y7] ∧ Same H H3 ∧ H3 p = some (.dK ((sumsZ (ks.take i) kvs).map entZ)))
      ⟨none, none, rfl, s01, hp⟩ (fun i σ H3 _ ⟨_, _, _, b3, _⟩ => (hk2.same b3).seq) ?_ ?_⟩
    · rintro i v σ H3 hi ⟨y6, y7, rfl, b3, hp3⟩
      obtain ⟨tp, htp, rfl⟩ := map_at hi
      obtain ⟨e, he, hat⟩ := paired_at hp2 htp
      refine ⟨tp, _, rfl, seqT hat b3, rfl, _, _, rfl, _, _, rfl, rfl, ?_⟩
      refine ⟨.ref p, rfl, p, rfl, .inl ⟨_, .inl hp3⟩, .str e.1, rfl, _, DGet.k (k := Sum.inr e.1) hp3, ?_⟩
      rw [getZ_val]
      refine ⟨.int e.2, rfl, (getZ (sumsZ (ks.take i) kvs) e.1).getD 0, e.2, ?_, rfl, ?_⟩
      · cases getZ (sumsZ (ks.take i) kvs) e.1 <;> rfl
      have hlen := sumsZ_len (more := ks.take i) (kvs := kvs)
      rw [List.length_take] at hlen
      refine ⟨.ref p, rfl, .str e.1, rfl, p, _, rfl, DPut.k (k := Sum.inr e.1) hp3 (by rw [List.length_map, sizeLine_eq]; omega), ?_⟩
      rw [putZ_put]
      refine ⟨some (.int e.2), some (.str e.1), rfl, Same.put b3 np, ?_⟩
      rw [upd_same, sumsZ_snoc he]
      rfl
    rintro σ H3 ⟨y6, y7, rfl, s03, hp3⟩
    rw [show ks.take (ts2.map V.ref).length = ks by rw [List.length_map, Paired.length hp2, List.take_length]] at hp3
    have nda := sumsZ_nd (more := ks) (kvs := kvs) ok1.nd
    have posa := sumsZ_pos (more := ks) (kvs := kvs) ok2.pos ok1.pos
    have lla := sumsZ_len (more := ks) (kvs := kvs)
    have epour : pourT (rn : Int) ⟨m2, o2, ks⟩ ⟨m, o, kvs⟩ = if (rn : Int) < ((sumsZ ks kvs).length : Int) then ⟨m + m2, o + o2 + fallZ (sumsZ ks kvs) rn, takeZ (fallZ (sumsZ ks kvs) rn) (sumsZ ks kvs)⟩ else ⟨m + m2, o + o2, sumsZ ks kvs⟩ := rfl
    generalize sumsZ ks kvs = all at hp3 nda posa lla epour
    -- falling
    refine ⟨p, _, hp3, trivial, fun oe => ?_⟩
    refine ⟨.ref p, rfl, p, oe, rfl, .inl ⟨_, upd_same, fun D nD => ?_⟩⟩
    generalize hHl : upd H3 p (.frz oe (.dK (all.map entZ))) = Hm at nD ⊢
    have hlm : Hm p = some (.frz oe (.dK (all.map entZ))) := by rw [← hHl]; exact upd_same
    have pD : p ≠ D := ne_of_none hlm nD
    refine lc_it (walk_keys (kvs := all.map entZ)) (fun i H3 => Same Hm H3 ∧ H3 D = some (.lst ((all.take i).map fun e => V.int e.2)))
      ⟨same_upd nD, upd_same⟩ (fun i H3 _ h3 => h3.1 _ _ hlm) (fun i x H5 H6 hi h3 y => ?_) (fun H5 h5 => ?_)
    · obtain ⟨rfl, kk, v, hkv, rfl⟩ := y
      obtain ⟨e, he, hkv2⟩ := map_at hkv
      cases hkv2
      obtain ⟨s4, hD⟩ := h3
      refine ⟨rfl, .ref p, rfl, .str e.1, rfl, p, .int e.2, rfl, ?_, _, hD, ?_, Same.put s4 nD, ?_⟩
      · refine .inl ⟨all.map entZ, Sum.inr e.1, .inr ⟨oe, s4 _ _ hlm⟩, rfl, ?_⟩
        rw [getZ_val, getZ_self nda he]
        rfl
      · rw [List.length_map, List.length_take, sizeLine_eq]
        omega
      · rw [upd_same, List.take_add_one, he, List.map_append]
        rfl
    obtain ⟨s5, hD5⟩ := h5
    rw [List.length_map, List.take_length] at hD5
    refine ⟨s5 _ _ hlm, ?_⟩
    have s06 : Same H (upd H5 p (.dK (all.map entZ))) := s03.trans (fun b u e => by
      by_cases hb : b = p
      · subst hb
        rw [hp3] at e
        cases e
        exact upd_same
      · rw [upd_ne hb]
        refine s5 b u ?_
        rw [← hHl, upd_ne hb]
        exact e)
    have hp6 : (upd H5 p (.dK (all.map entZ))) p = some (.dK (all.map entZ)) := upd_same
    have hD6 : (upd H5 p (.dK (all.map entZ))) D = some (.lst (all.map fun e => V.int e.2)) := by rw [upd_ne pD.symm]; exact hD5
    generalize upd H5 p (.dK (all.map entZ)) = H6 at s06 hp6 hD6 ⊢
    refine ⟨D, all.map (·.2), rfl, rfl, sql (by rw [hD6, List.map_map]; rfl), fun nsr l pm so nl => ?_⟩
    have so : nsr.Pairwise (· ≥ ·) := so
    have s67 := same_upd (o := .lst (nsr.map V.int)) nl
    have hp7 := s67 _ _ hp6
    have hl7 : (upd H6 l (.lst (nsr.map V.int))) l = some (.lst (nsr.map V.int)) := upd_same
    have s07 : Same H (upd H6 l (.lst (nsr.map V.int))) := s06.trans s67
    generalize upd H6 l (.lst (nsr.map V.int)) = H7 at hp7 hl7 s07 ⊢
    have hnl : nsr.length = all.length := by rw [pm.length_eq, List.length_map]
    -- taken
    refine ⟨fun σ H8 => H8 = H7 ∧ ∃ (tk : Int), σ = [some (.ref s1), some (.ref s2), some (.ref p), y6, some (.ref l), some (.int tk), none, y7] ∧ pourT (rn : Int) ⟨m2, o2, ks⟩ ⟨m, o, kvs⟩ = ⟨m + m2, o + o2 + tk, takeZ tk all⟩, ?_, ?_⟩
    · refine ⟨.ref l, rfl, l, _, rfl, .inl (sql hl7), .ref s1, rfl, s1, _, _, _, rfl, rfl, seqT h1 s07, atI_nat (j := 0) rfl, _, _, rfl, rfl, _, rfl, ?_⟩
      refine ite2 (fun hgt => ?_) fun hgt => ?_
      · have hgt := of_decide_eq_true hgt
        rw [List.length_map, hnl] at hgt
        have hv := fall_at pm so (show rn < all.length by omega)
        refine ⟨.ref l, rfl, .ref s1, rfl, s1, _, _, _, rfl, rfl, seqT h1 s07, atI_nat (j := 0) rfl, l, _, _, .int (fallZ all rn), rfl, rfl, sql hl7, atI_nat (by rw [List.getElem?_map, hv]; rfl), rfl, _, rfl, ?_⟩
        rw [epour, if_pos hgt]
      · have hgt : ¬ (rn : Int) < (all.length : Int) := fun z => hgt (decide_eq_true (by rw [List.length_map, hnl]; exact z))
        refine ⟨rfl, 0, rfl, ?_⟩
        rw [epour, if_neg hgt, Int.add_zero, takeZ_zero posa]
    · rintro σ H8 ⟨rfl, tk, rfl, ep⟩
      rw [ep] at epq
      refine ⟨.ref p, rfl, p, _, rfl, hp7, fun la nla => ?_⟩
      have s7a := same_upd (o := .lst ((all.map entZ).map fun kv => kV kv.1)) nla
      have hla : (upd H8 la (.lst ((all.map entZ).map fun kv => kV kv.1))) la = some (.lst ((all.map (·.1)).map V.str)) := by rw [upd_same, keys_kV]
      have hp7 := s7a _ _ hp7
      have s07 := s07.trans s7a
      generalize upd H8 la (.lst ((all.map entZ).map fun kv => kV kv.1)) = H8 at hla hp7 s07 ⊢
      refine ⟨la, all.map (·.1), rfl, sql hla, fun ss l2 pms sos nl2 => ?_⟩
      have ey := srt_names nda pms sos
      have s89 := same_upd (o := .lst (ss.map V.str)) nl2
      have hl9 : (upd H8 l2 (.lst (ss.map V.str))) l2 = some (.lst (ss.map V.str)) := upd_same
      have hp9 := s89 _ _ hp7
      have s09 := s07.trans s89
      generalize upd H8 l2 (.lst (ss.map V.str)) = H9 at hl9 hp9 s09 ⊢
      have hsl : ss.length = all.length := by rw [pms.length_eq, List.length_map]
      refine ⟨l2, rfl, ⟨_, sql hl9⟩, fun D2 nD2 => ?_⟩
      refine lc_list (xs := ss.map V.str) (fun i H3 => Same H9 H3 ∧ ∃ us : List Addr, H3 D2 = some (.lst (us.map V.ref)) ∧ us.length ≤ i ∧ Paired (PrT H3) us (takeZ tk ((srtZ all).take i)))
        ⟨same_upd nD2, [], upd_same, Nat.zero_le _, .nil⟩ (fun i H3 _ h3 => sql (h3.1 _ _ hl9)) (fun i x H3 hx h3 => ?_) (fun H3 h3 => ?_)
      · obtain ⟨z, hz, rfl⟩ := map_at hx
        obtain ⟨s3, us, hD, hul, hpr⟩ := h3
        have he : (srtZ all)[i]? = some (z, gd all z) := by
          rw [← ey, List.getElem?_map, hz]
          rfl
        have hmem : z ∈ all.map (·.1) := pms.mem_iff.mp (List.mem_of_getElem? hz)
        have dg : DGet H3 p (.str z) (some (.int (gd all z))) := .inl ⟨all.map entZ, Sum.inr z, .inl (s3 _ _ hp9), rfl, by
          rw [getZ_val]
          unfold gd
          cases hg : getZ all z with
          | none => exact absurd hmem (getZ_none.mp hg)
          | some v => rfl⟩
        refine ⟨rfl, .ref p, rfl, .str z, rfl, p, .int (gd all z), rfl, dg, .int tk, rfl, _, _, rfl, rfl, _, rfl, ite2 (fun hg9 => ?_) fun hg9 => ?_⟩
        · have hg9 := of_decide_eq_true hg9
          refine ⟨.str z, rfl, .ref p, rfl, .str z, rfl, p, .int (gd all z), rfl, dg, .int tk, rfl, _, _, rfl, rfl, (by show 2 ≤ sizeLine; decide), fun t nt => ?_⟩
          have Dp : D2 ≠ t := ne_of_none hD nt
          refine ⟨_, by rw [upd_ne Dp]; exact hD, ?_, Same.put (Same.new s3 nt) nD2, us ++ [t], by rw [upd_same, List.map_append]; rfl, by rw [List.length_append, List.length_singleton]; omega, ?_⟩
          · have := (List.getElem?_eq_some_iff.mp hz).1
            rw [List.length_map, sizeLine_eq]
            omega
          · rw [List.take_add_one, he]
            show Paired _ _ (takeZ tk ((srtZ all).take i ++ [(z, gd all z)]))
            rw [takeZ_snoc, if_pos (show tk < gd all z by exact hg9)]
            refine paired_snoc (paired_imp (fun t e' ht => ?_) hpr) ?_
            · show _ = _
              rw [upd_ne (ne_of ht hD (by intro z; cases z)), upd_ne (ne_of_none ht nt)]
              exact ht
            · show _ = _
              rw [upd_ne Dp.symm]
              exact upd_same
        · have hg9 : ¬ tk < gd all z := fun z => hg9 (decide_eq_true z)
          refine ⟨s3, us, hD, by omega, ?_⟩
          rw [List.take_add_one, he]
          show Paired _ _ (takeZ tk ((srtZ all).take i ++ [(z, gd all z)]))
          rw [takeZ_snoc, if_neg hg9, List.append_nil]
          exact hpr
      · obtain ⟨s3, us, hD, hul, hpr⟩ := h3
        rw [show (srtZ all).take (ss.map V.str).length = srtZ all by rw [List.length_map, hsl, ← (srtZ_perm all).length_eq, List.take_length]] at hpr
        have sb : Same H H3 := s09.trans s3
        refine ⟨D2, _, rfl, sql hD, fun kk ob nkk ho => ?_⟩
        have sc : Same H3 (upd H3 kk (.frz ob (.tup (us.map V.ref)))) := same_upd nkk
        have hkk : (upd H3 kk (.frz ob (.tup (us.map V.ref)))) kk = some (.frz ob (.tup (us.map V.ref))) := upd_same
        have hpr := prt_same' hpr sc
        generalize upd H3 kk (.frz ob (.tup (us.map V.ref))) = H4 at sc hkk hpr ⊢
        have sb4 := sb.trans sc
        have h1b : SqT K H4 s1 [.int (rn : Int), .int m, .int o, .ref k1] := seqT h1 sb4
        have h2b : SqT K H4 s2 [.int (rn : Int), .int m2, .int o2, .ref k2] := seqT h2 sb4
        refine ⟨.ref s1, rfl, s1, _, _, _, rfl, rfl, h1b, atI_nat (j := 0) rfl, .ref s1, rfl, s1, _, _, _, rfl, rfl, h1b, atI_nat (j := 1) rfl, .ref s2, rfl, s2, _, _, _, rfl, rfl, h2b, atI_nat (j := 1) rfl, _, _, rfl, rfl, .ref s1, rfl, s1, _, _, _, rfl, rfl, h1b, atI_nat (j := 2) rfl, .ref s2, rfl, s2, _, _, _, rfl, rfl, h2b, atI_nat (j := 2) rfl, _, _, rfl, rfl, .int tk, rfl, _, _, rfl, rfl, .ref kk, rfl, (by show 4 ≤ sizeLine; decide), fun t nt => ?_⟩
        have sd := same_upd (o := .tup [.int (rn : Int), .int (m + m2), .int (o + o2 + tk), .ref kk]) nt
        refine q _ t (sb4.trans sd) (Same.gone sb4 nt) (epq ⟨kk, us, upd_same, ⟨ob, sd _ _ hkk, ho⟩, ?_⟩)
        rw [take_srt nda]
        exact prt_same' hpr sd
/-! _law_whole -/
def spWholeL (K : PySem.W.Frag) : Sp := fun vs H Q _ => ∃ (r : Int) (a : Addr) (ds : List Dat), vs = [.int r, .ref a] ∧ DtAt K H (.ref a) (.tup ds) ∧ (∀ d ∈ ds, trB d = true ∧ roomT d = r) ∧ 1 ≤ r ∧ r ≤ 64 ∧
  ∀ H' s, Same H H' → SkAt H' s r (whT r ds) → Q (.ref s) H'
theorem ok_wholeL (T : Blt mg) (dpoured : Dnpoured K mg) (d : Dnwhole K mg) : FnOk P w K mg base CX0 2 d.f d.fd ["_law_room", "_law_book_here"] (spWholeL K) := by
  have Gpoured : FnOk P w K mg base CX0 1 dpoured.f dpoured.fd ["_law_one", "_law_other"] (spPouredL K) := ok_pouredL T dpoured
  refine d.F.ok scwhole (fun vs H Q E h => ?_) (fun cdv A outer s H vs Q E hr h => ?_)
  · obtain ⟨r, a, ds, rfl, _⟩ := h
    rfl
  · obtain ⟨r, a, ds, rfl, hd, tr, r1, r64, q⟩ := h
    refine ⟨_, (pss_cons (ps_set (i := 2) scwhole.nd rfl (Or.inl rfl) (pe_tup (pa_cons (pv 0) (pa_cons pe_int (pa_cons pe_int (pa_cons (pe_tupF pa_nil) pa_nil))))))
    (pss_cons (ps_for PassesOwn.never rfl (pi_tup (pv 1)) (pg_name (i := 3) scwhole.nd rfl (Or.inl rfl))
      (pss_one (ps_set (i := 2) scwhole.nd rfl (Or.inl rfl) (pe_call Gpoured (hr.mono (by omega)) (by rfl) dpoured.g dpoured.F.kp dpoured.b .nil pass0 (pa_cons (pv 2) (pa_cons (pe_ix ix_tup (pv 3) pe_int (fun _ _ => rfl)) pa_nil))))))
    (pss_one (ps_ret (pv 2))))), ?_⟩
    refine ⟨.int r, rfl, (by show 0 ≤ sizeLine; decide), fun k ok nk hok => ⟨(by show 4 ≤ sizeLine; decide), fun t nt => ?_⟩⟩
    have s1 := same_upd (o := .frz ok (.tup [])) nk
    have hk1 : (upd H k (.frz ok (.tup []))) k = some (.frz ok (.tup [])) := upd_same
    generalize upd H k (.frz ok (.tup [])) = H1 at s1 hk1 nt ⊢
    have s2 := same_upd (o := .tup [.int r, .int 0, .int 0, .ref k]) nt
    have ht2 : (upd H1 t (.tup [.int r, .int 0, .int 0, .ref k])) t = some (.tup [.int r, .int 0, .int 0, .ref k]) := upd_same
    have hk2 := s2 _ _ hk1
    have s02 := s1.trans s2
    generalize upd H1 t (.tup [.int r, .int 0, .int 0, .ref k]) = H2 at s02 ht2 hk2 ⊢
    have d0 : SkAt H2 t r tl0 := ⟨k, [], ht2, ⟨ok, hk2, hok⟩, by rw [show srtZ tl0.c = [] from srtZ_self .nil List.nodup_nil]; exact .nil⟩
    obtain ⟨_, xs, e, h1, h2, h3⟩ := hd.tup
    cases e
    have hl := Paired.length h3
    refine ⟨.ref a, rfl, a, rfl, ⟨_, (h1.same s02).seq⟩, for_tup (xs := xs) (fun i σ H3 => ∃ (p : Addr) (y : Option V), σ = [some (.int r), some (.ref a), some (.ref p), y] ∧ Same H H3 ∧ SkAt H3 p r (whT r (ds.take i)))
      ⟨t, none, rfl, s02, d0⟩ (fun i σ H3 _ ⟨_, _, _, b3, _⟩ => (h1.same b3).seq) ?_ ?_⟩
    · rintro i v σ H3 hi ⟨p, y, rfl, s3, d3⟩
      obtain ⟨dd, hdd, hat⟩ := paired_at h3 hi
      obtain ⟨ct, hrm⟩ := tr _ (List.mem_of_getElem? hdd)
      obtain ⟨u1, k1, i1, r2, m1, z3, z4, rfl, f1, f2, _, _, f3, hsk, csk⟩ := tr_of (hat.same s3) ct
      obtain ⟨k1', ek, hY⟩ := skY_of hsk csk
      cases ek
      have osk := skO_of csk
      rw [show geI dd.at2.at0 = r from hrm] at hY osk
      have okx : TlOk r (whT r (ds.take i)) := whT_ok r1 fun x hx => tr x (List.mem_of_mem_take hx)
      refine ⟨.ref p, rfl, .ref u1, rfl, u1, _, _, _, rfl, rfl, f1.seq, atI_nat (j := 2) rfl, p, k1, r, _, _, rfl, d3.y, hY, okx, osk.ok, r1, r64, fun H4 p4 s4 n4 d4 => ⟨p4, _, rfl, s3.trans s4, ?_⟩⟩
      rw [whT_snoc hdd]
      exact d4
    · rintro σ H3 ⟨p, y, rfl, s3, d3⟩
      rw [hl, List.take_length] at d3
      exact ⟨_, rfl, q H3 p s3 d3⟩
end
end Kb

namespace Kb
open PySem PySem.Spec PyProof.Rows L2 SrtZ SrtO RZ SrtR
abbrev snames : Stmt := topS 37
abbrev Nnames : List Str := ["_law_pot_here", "_law_letters", "_law_first", "_law_some", "_law_k"]
theorem scnames : FnScope ["_law_pot_here", "_law_letters", "_law_first", "_law_some", "_law_k"] ["_law_pot_here"] (defScope snames) := ⟨rfl, rfl, rfl, by decide +kernel, rfl, by decide +kernel, by decide +kernel⟩
abbrev Dnnames (K : PySem.W.Frag) (mg : Str → Option Value) := Dn K mg "_law_names" snames ["_law_pot_here"]
abbrev sstreams : Stmt := topS 38
abbrev Nstreams : List Str := ["_law_pot_here", "_law_room", "_law_found", "_law_s", "_law_names_here", "_law_cuts", "_law_cut", "_law_k"]
theorem scstreams : FnScope ["_law_pot_here", "_law_room", "_law_found", "_law_s", "_law_names_here", "_law_cuts", "_law_cut", "_law_k"] ["_law_pot_here", "_law_room"] (defScope sstreams) := ⟨rfl, rfl, rfl, by decide +kernel, rfl, by decide +kernel, by decide +kernel⟩
abbrev Dnstreams (K : PySem.W.Frag) (mg : Str → Option Value) := Dn K mg "_law_streams" sstreams ["_law_pot_here", "_law_room"]
theorem nmC_of {c : Nat} (h1 : 97 ≤ c) (h2 : c ≤ 122) : nmC c = true := by
  unfold nmC
  rw [show decide (c < 97) = false from decide_eq_false (by omega), show decide (122 < c) = false from decide_eq_false (by omega)]
  rfl
theorem nm_of {z : Str} {l : List Nat} (e : cs z = l) (h1 : 1 ≤ l.length) (h8 : l.length ≤ 8) (h : ∀ c ∈ l, 97 ≤ c ∧ c ≤ 122) : Nm z := by
  have hl : z.length = l.length := by rw [← cs_len, e]
  refine ⟨by omega, by omega, fun c hc => ?_⟩
  rw [e] at hc
  exact nmC_of (h c hc).1 (h c hc).2
section
variable {P : Program} {w : World} {K : PySem.W.Frag} {mg : Str → Option Value} {base : Heap}
/-! _law_names -/
def spNames : Sp := fun vs H Q _ => ∃ (a c : Addr), vs = [.ref a] ∧ Wl a c H ∧
  ∀ H' p (zs : List Str), Exw a H H' → Wl a c H' → H p = none → p ≠ a → p ≠ c → H' p = some (.lst (zs.map V.str)) → (∀ z ∈ zs, Nm z) → zs.length ≤ 40 → Q (.ref p) H'
theorem ok_names (T : Blt mg) (ddraw : Dndraw K mg) (dany : Dnany K mg) (d : Dnnames K mg) : FnOk P w K mg base CX0 3 d.f d.fd ["_law_pot_here"] spNames := by
  have Gdraw : FnOk P w K mg base CX0 1 ddraw.f ddraw.fd ["_law_pot_here", "_law_many"] spDraw := ok_draw T ddraw
  have Gany : FnOk P w K mg base CX0 2 dany.f dany.fd ["_law_pot_here", "_law_things"] spAny := ok_any T ddraw dany
  refine d.F.ok scnames (fun vs H Q E h => ?_) (fun cdv A outer s H vs Q E hr h => ?_)
  · obtain ⟨a, c, rfl, _⟩ := h
    rfl
  · obtain ⟨a, c, rfl, hw, q⟩ := h
    refine ⟨_, (pss_cons (ps_asg (pe_tup (pa_cons pe_str (pa_cons (pe_call Gany (hr.mono (by omega)) (by rfl) dany.g dany.F.kp dany.b .nil pass0 (pa_cons (pv 0) (pa_cons (pe_lst (pa_cons pe_str (pa_cons pe_str (pa_cons pe_str (pa_cons pe_str (pa_cons pe_str pa_nil)))))) pa_nil))) pa_nil))) (pg_tup (by rfl) (pgs_cons (pg_name (i := 1) scnames.nd rfl (Or.inr rfl)) (pgs_cons (pg_name (i := 2) scnames.nd rfl (Or.inr rfl)) pgs_nil))))
    (pss_cons (ps_asg (pe_lc (own := [("_law_k", 4)]) (g := gName 4) (tt := tYes) rfl scnames.nd (pi_range1 (by rfl) T.n_range (pa_cons (pe_op op_add pe_int (pe_call Gdraw (hr.mono (by omega)) (by rfl) ddraw.g ddraw.F.kp ddraw.b .nil pass0 (pa_cons (pv 0) (pa_cons pe_int pa_nil)))) pa_nil)) (blkOk_by (N := Nnames) (sc := defScope snames) (by decide +kernel)) (fun _ _ _ _ _ => pg_name (i := 4) scnames.nd rfl (Or.inl rfl)) (fun _ _ _ _ _ => pts_nil) (fun _ _ _ _ _ => (pe_op op_add_str (pv 2) (pe_ix ix_str (pv 1) (pe_call Gdraw (hr.mono (by omega)) (by rfl) ddraw.g ddraw.F.kp ddraw.b .nil pass0 (pa_cons (pv 0) (pa_cons pe_int pa_nil))) (fun _ _ => rfl))))) (pg_name (i := 3) scnames.nd rfl (Or.inr rfl)))
    (pss_one (ps_ret (pe_lc (own := [("_law_k", 4)]) (g := gName 4) (tt := tYes) rfl scnames.nd (pi_range1 (by rfl) T.n_range (pa_cons (pe_call Gany (hr.mono (by omega)) (by rfl) dany.g dany.F.kp dany.b .nil pass0 (pa_cons (pv 0) (pa_cons (pe_lst (pa_cons pe_int (pa_cons pe_int (pa_cons pe_int (pa_cons pe_int (pa_cons pe_int (pa_cons pe_int pa_nil))))))) pa_nil))) pa_nil)) (blkOk_by (N := Nnames) (sc := defScope snames) (by decide +kernel)) (fun _ _ _ _ _ => pg_name (i := 4) scnames.nd rfl (Or.inl rfl)) (fun _ _ _ _ _ => pts_nil) (fun _ _ _ _ _ => (pe_call Gany (hr.mono (by omega)) (by rfl) dany.g dany.F.kp dany.b .nil pass0 (pa_cons (pv 0) (pa_cons (pv 3) pa_nil))))))))), ?_⟩
    refine ⟨.ref a, rfl, (by show 5 ≤ sizeLine; decide), fun l nl => ?_⟩
    have lw := hw.ne2 nl
    have s1 := same_upd (o := .lst [.str (Str.ofString ""), .str (Str.ofString ""), .str (Str.ofString "q"), .str (Str.ofString "zz"), .str (Str.ofString "abcdefg")]) nl
    refine ⟨a, c, l, _, rfl, hw.same s1, lw.1, upd_same, (by show 0 < 5; decide), (by show 5 ≤ 100000; decide), fun H1 x x1 w1 hx => ?_⟩
    obtain ⟨z, rfl, hzl, hza⟩ : ∃ (z : Str), x = .str z ∧ z.length ≤ 7 ∧ ∀ c ∈ cs z, 97 ≤ c ∧ c ≤ 122 := by
      have e0 : (Str.ofString "").length ≤ 7 ∧ ∀ c ∈ cs (Str.ofString ""), 97 ≤ c ∧ c ≤ 122 := by decide +kernel
      have e1 : (Str.ofString "q").length ≤ 7 ∧ ∀ c ∈ cs (Str.ofString "q"), 97 ≤ c ∧ c ≤ 122 := by decide +kernel
      have e2 : (Str.ofString "zz").length ≤ 7 ∧ ∀ c ∈ cs (Str.ofString "zz"), 97 ≤ c ∧ c ≤ 122 := by decide +kernel
      have e3 : (Str.ofString "abcdefg").length ≤ 7 ∧ ∀ c ∈ cs (Str.ofString "abcdefg"), 97 ≤ c ∧ c ≤ 122 := by decide +kernel
      simp only [List.mem_cons, List.not_mem_nil, or_false] at hx
      rcases hx with rfl | rfl | rfl | rfl | rfl
      · exact ⟨_, rfl, e0⟩
      · exact ⟨_, rfl, e0⟩
      · exact ⟨_, rfl, e1⟩
      · exact ⟨_, rfl, e2⟩
      · exact ⟨_, rfl, e3⟩
    have x01 : Exw a H H1 := fun b o n e => x1 b o n (s1 _ _ e)
    refine ⟨(by show 2 ≤ sizeLine; decide), fun t nt => ⟨t, _, rfl, .inl (.inl upd_same), rfl, _, _, rfl, _, _, rfl, rfl, ?_⟩⟩
    have tw := w1.ne2 nt
    have s2 := same_upd (o := .tup [.str (Str.ofString "abcdefghijklmnopqrstuvwxyz"), .str z]) nt
    have x02 := x01.same s2
    have w2 := w1.same s2
    generalize upd H1 t (.tup [.str (Str.ofString "abcdefghijklmnopqrstuvwxyz"), .str z]) = H2 at x02 w2 ⊢
    refine ⟨.ref a, rfl, a, c, 8, rfl, w2, by decide, by decide, fun H3 r x3 w3 r0 r8 => ⟨_, _, rfl, rfl, _, rfl, (by show -_ ≤ 1 + r; omega), (by show 1 + r < _; omega), fun D nD => ?_⟩⟩
    have Dw := w3.ne2 nD
    have x03 := x02.trans x3
    have nD0 : H D = none := x03.gone Dw.1 nD
    obtain ⟨rn, rfl⟩ := Int.eq_ofNat_of_zero_le r0
    have ern : (1 + (rn : Int)).toNat = rn + 1 := by omega
    rw [ern]
    refine lc_range (lo := 0) (n := rn + 1) (fun i H4 => Exw a H H4 ∧ Wl a c H4 ∧ ∃ zs : List Str, H4 D = some (.lst (zs.map V.str)) ∧ zs.length = i ∧ ∀ z ∈ zs, Nm z) ⟨x03.new nD, w3.put Dw, [], upd_same, rfl, fun _ h => nomatch h⟩ (fun i H4 hi h4 => ?_) (fun H4 h4 => ?_)
    · obtain ⟨x4, w4, zs, hD, hzl2, hzn⟩ := h4
      refine ⟨rfl, .str z, rfl, _, rfl, .ref a, rfl, a, c, 26, rfl, w4, by decide, by decide, fun H5 k x5 w5 k0 k26 => ?_⟩
      obtain ⟨kn, rfl⟩ := Int.eq_ofNat_of_zero_le k0
      have hk : kn < 26 := by omega
      have hzls : (Str.ofString "abcdefghijklmnopqrstuvwxyz").length ≤ sizeLine := by
        rw [show (Str.ofString "abcdefghijklmnopqrstuvwxyz").length = 26 by decide +kernel, sizeLine_eq]
        decide
      have a1 : atI (Str.ofString "abcdefghijklmnopqrstuvwxyz").cps.toList (kn : Int) = some (97 + kn) := atI_nat (abc_at ⟨kn, hk⟩)
      refine ⟨_, _, _, rfl, rfl, hzls, a1, _, _, rfl, rfl, (by rw [sizeLine_eq]; show z.length + 1 ≤ _; omega), ?_⟩
      have hD5 := x5 _ _ Dw.1 hD
      have hn : Nm (z ++ ⟨#[97 + kn]⟩) := by
        refine nm_of (l := cs z ++ [97 + kn]) (cs_app _ _) (by rw [List.length_append]; show 1 ≤ _ + 1; omega) (by rw [List.length_append, cs_len]; show _ + 1 ≤ 8; omega) fun x hx => ?_
        rcases List.mem_append.mp hx with hx | hx
        · exact hza x hx
        · rw [List.mem_singleton.mp hx]
          omega
      refine ⟨_, hD5, by rw [List.length_map, sizeLine_eq]; omega, (x4.trans x5).put nD0, w5.put Dw, zs ++ [z ++ ⟨#[97 + kn]⟩], by rw [upd_same, List.map_append]; rfl, by rw [List.length_append, hzl2]; rfl, fun y hy => ?_⟩
      rcases List.mem_append.mp hy with hy | hy
      · exact hzn y hy
      · rw [List.mem_singleton.mp hy]
        exact hn
    · obtain ⟨x4, w4, zs, hD, hzl2, hzn⟩ := h4
      refine ⟨.ref a, rfl, (by show 6 ≤ sizeLine; decide), fun l2 nl2 => ?_⟩
      have lw2 := w4.ne2 nl2
      have s4 := same_upd (o := .lst [.int 0, .int 1, .int 3, .int 8, .int 20, .int 40]) nl2
      refine ⟨a, c, l2, _, rfl, w4.same s4, lw2.1, upd_same, (by show 0 < 6; decide), (by show 6 ≤ 100000; decide), fun H5 x x5 w5 hx => ?_⟩
      obtain ⟨n, rfl, hn⟩ : ∃ n : Nat, x = .int (n : Int) ∧ n ≤ 40 := by
        simp only [List.mem_cons, List.not_mem_nil, or_false] at hx
        rcases hx with rfl | rfl | rfl | rfl | rfl | rfl
        · exact ⟨0, rfl, by decide⟩
        · exact ⟨1, rfl, by decide⟩
        · exact ⟨3, rfl, by decide⟩
        · exact ⟨8, rfl, by decide⟩
        · exact ⟨20, rfl, by decide⟩
        · exact ⟨40, rfl, by decide⟩
      have x45 : Exw a H H5 := x4.trans fun b o n e => x5 b o n (s4 _ _ e)
      have hD5 : H5 D = some (.lst (zs.map V.str)) := x5 _ _ Dw.1 (s4 _ _ hD)
      refine ⟨(n : Int), rfl, by omega, by omega, fun E2 nE => ?_⟩
      rw [Int.toNat_natCast]
      have Ew := w5.ne2 nE
      have nE0 : H E2 = none := x45.gone Ew.1 nE
      have DE : D ≠ E2 := ne_of_none hD5 nE
      refine lc_range (lo := 0) (n := n) (fun i H6 => Exw a H H6 ∧ Wl a c H6 ∧ H6 D = some (.lst (zs.map V.str)) ∧ ∃ ys : List Str, H6 E2 = some (.lst (ys.map V.str)) ∧ ys.length = i ∧ ∀ z ∈ ys, Nm z) ⟨x45.new nE, w5.put Ew, by rw [upd_ne DE]; exact hD5, [], upd_same, rfl, fun _ h => nomatch h⟩ (fun i H6 hi h6 => ?_) (fun H6 h6 => ?_)
      · obtain ⟨x6, w6, hD6, ys, hE, hyl, hyn⟩ := h6
        refine ⟨rfl, .ref a, rfl, .ref D, rfl, a, c, D, _, rfl, w6, Dw.1, hD6, by rw [List.length_map]; omega, by rw [List.length_map]; omega, fun H7 x x7 w7 hx => ?_⟩
        obtain ⟨y, hy, rfl⟩ := List.mem_map.mp hx
        have hE7 := x7 _ _ Ew.1 hE
        have hD7 := x7 _ _ Dw.1 hD6
        refine ⟨_, hE7, by rw [List.length_map, sizeLine_eq]; omega, (x6.trans x7).put nE0, w7.put Ew, by rw [upd_ne DE]; exact hD7, ys ++ [y], by rw [upd_same, List.map_append]; rfl, by rw [List.length_append, hyl]; rfl, fun u hu => ?_⟩
        rcases List.mem_append.mp hu with hu | hu
        · exact hyn u hu
        · rw [List.mem_singleton.mp hu]
          exact hzn y hy
      · obtain ⟨x6, w6, hD6, ys, hE, hyl, hyn⟩ := h6
        exact q H6 E2 ys x6 w6 nE0 Ew.1 Ew.2 hE hyn (by omega)
end
end Kb

namespace Kb
open PySem PySem.Spec PyProof.Rows L2 SrtZ SrtO RZ SrtR
theorem call_lenK {X : Cx} {K : PySem.W.Frag} (hK : X.K = K) : CallR X (.builtin "len") (fun xs H Q => ∃ p ys, xs = [.ref p] ∧ (SqL K H p ys ∨ SqT K H p ys) ∧ Q (.int (ys.length : Int)) H) := by
  subst hK
  exact call_len_seq
abbrev sbook : Stmt := topS 39
abbrev Nbook : List Str := ["_law_pot_here", "_law_streams_here", "_law_some", "_law_s"]
theorem scbook : FnScope ["_law_pot_here", "_law_streams_here", "_law_some", "_law_s"] ["_law_pot_here", "_law_streams_here"] (defScope sbook) := ⟨rfl, rfl, rfl, by decide +kernel, rfl, by decide +kernel, by decide +kernel⟩
abbrev Dnbook (K : PySem.W.Frag) (mg : Str → Option Value) := Dn K mg "_law_book" sbook ["_law_pot_here", "_law_streams_here"]
/-- a cut of a stream with its sketch -/
def PrD (r : Int) (zs : List Str) (d : Dat) : Prop := ∃ c : Nat, c ≤ zs.length ∧ d = .tup [.int (c : Int), skDat r (feedsT r (zs.take c) tl0)]
def LsAt (K : PySem.W.Frag) (a : Addr) (H : Hp) (l : Addr) (r : Int) (zs : List Str) : Prop := l ≠ a ∧ ∃ xs, H l = some (.lst xs) ∧ 0 < xs.length ∧ xs.length ≤ 10 ∧ ∀ x ∈ xs, ∃ d, DtAt K H x d ∧ PrD r zs d
abbrev Nms := Int → List Str
structure StAt (K : PySem.W.Frag) (a : Addr) (H : Hp) (p : Addr) (r : Int) (N : Nms) (n : Nat) : Prop where
  nm : ∀ s, (N s).length ≤ 40 ∧ ∀ z ∈ N s, Nm z
  ex : ∃ kvs : List (Key × V), H p = some (.dK kvs) ∧ kvs.length ≤ n ∧ ∀ s : Int, 1 ≤ s → s ≤ (n : Int) → ∃ l, valV kvs (.inl s) = some (.ref l) ∧ LsAt K a H l r (N s)
theorem LsAt.exw {K : PySem.W.Frag} {a c : Addr} {H H' : Hp} {l : Addr} {r : Int} {zs : List Str} (h : LsAt K a H l r zs) (x : Exw a H H') (w : Wl a c H) (w' : Wl a c H') : LsAt K a H' l r zs := by
  obtain ⟨ne, xs, h1, h2, h3, h4⟩ := h
  exact ⟨ne, xs, x _ _ ne h1, h2, h3, fun y hy => let ⟨d, k1, k2⟩ := h4 y hy; ⟨d, k1.keep (kpD_exw x w w'), k2⟩⟩
theorem StAt.exw {K : PySem.W.Frag} {a c : Addr} {H H' : Hp} {p : Addr} {r : Int} {N : Nms} {n : Nat} (h : StAt K a H p r N n) (x : Exw a H H') (w : Wl a c H) (w' : Wl a c H') : StAt K a H' p r N n := by
  obtain ⟨nm, kvs, h1, h2, h3⟩ := h
  exact ⟨nm, kvs, x.at w h1 (by intro _ z; cases z), h2, fun s k1 k2 => let ⟨l, e1, e2⟩ := h3 s k1 k2; ⟨l, e1, e2.exw x w w'⟩⟩
theorem cut_to (xs : List V) (c : Nat) : cutV xs none (some (c : Int)) = xs.take c := by
  unfold cutV
  rw [show HT.sIx xs.length xs.length (some (c : Int)) = min c xs.length from HT.sIx_nat xs.length xs.length c, HT.sIx_none, List.drop_zero, Nat.sub_zero]
  by_cases h : c ≤ xs.length
  · rw [Nat.min_eq_left h]
  · rw [Nat.min_eq_right (by omega), List.take_length, List.take_of_length_le (by omega)]
section
variable {P : Program} {w : World} {K : PySem.W.Frag} {mg : Str → Option Value} {base : Heap}
/-! _law_streams -/
def spStreams (K : PySem.W.Frag) : Sp := fun vs H Q _ => ∃ (a c : Addr) (r : Int), vs = [.ref a, .int r] ∧ Wl a c H ∧ 1 ≤ r ∧ r ≤ 64 ∧
  ∀ H' p N, Exw a H H' → Wl a c H' → H p = none → p ≠ a → StAt K a H' p r N 9 → Q (.ref p) H'
theorem ok_streams (T : Blt mg) (ddraw : Dndraw K mg) (dany : Dnany K mg) (dfed : Dnfed K mg) (dof : Dnof K mg) (dnames : Dnnames K mg) (d : Dnstreams K mg) : FnOk P w K mg base CX0 4 d.f d.fd ["_law_pot_here", "_law_room"] (spStreams K) := by
  have Gdraw : FnOk P w K mg base CX0 1 ddraw.f ddraw.fd ["_law_pot_here", "_law_many"] spDraw := ok_draw T ddraw
  have Gof : FnOk P w K mg base CX0 2 dof.f dof.fd ["_law_room", "_law_names_here"] (spOf K) := ok_of T dfed dof
  have Gnames : FnOk P w K mg base CX0 3 dnames.f dnames.fd ["_law_pot_here"] spNames := ok_names T ddraw dany dnames
  refine d.F.ok scstreams (fun vs H Q E h => ?_) (fun cdv A outer s H vs Q E hr h => ?_)
  · obtain ⟨a, c, r, rfl, _⟩ := h
    rfl
  · obtain ⟨a, c, r, rfl, hw, r1, r64, q⟩ := h
    have hu := hu_of hr
    refine ⟨_, (pss_cons (ps_set (i := 2) scstreams.nd rfl (Or.inl rfl) pe_dnewK)
    (pss_cons (ps_for PassesOwn.never rfl (pi_range2 (by rfl) T.n_range (pa_cons pe_int (pa_cons pe_int pa_nil))) (pg_name (i := 3) scstreams.nd rfl (Or.inl rfl))
      (pss_cons (ps_asg (pe_call Gnames (hr.mono (by omega)) (by rfl) dnames.g dnames.F.kp dnames.b .nil pass0 (pa_cons (pv 0) pa_nil)) (pg_name (i := 4) scstreams.nd rfl (Or.inr rfl)))
      (pss_cons (ps_set (i := 5) scstreams.nd rfl (Or.inl rfl) (pe_op op_cat (pe_callB cr_sortedI (by rfl) T.n_sorted (by decide +kernel) (pa_cons (pe_lc (own := [("_law_k", 7)]) (g := gName 7) (tt := tYes) rfl scstreams.nd (pi_range1 (by rfl) T.n_range (pa_cons pe_int pa_nil)) (blkOk_by (N := Nstreams) (sc := defScope sstreams) (by decide +kernel)) (fun _ _ _ _ _ => pg_name (i := 7) scstreams.nd rfl (Or.inl rfl)) (fun _ _ _ _ _ => pts_nil) (fun _ _ _ _ _ => (pe_call Gdraw (hr.mono (by omega)) (by rfl) ddraw.g ddraw.F.kp ddraw.b .nil pass0 (pa_cons (pv 0) (pa_cons (pe_op op_add (pe_callB (call_lenK (K := K) rfl) (by rfl) T.n_len (show bootBuiltins (Str.ofString "len") = some (Value.builtin "len") by decide +kernel) (pa_cons (pv 4) pa_nil)) pe_int) pa_nil))))) pa_nil)) (pe_lst (pa_cons (pe_callB call_len_seq (by rfl) T.n_len (by decide +kernel) (pa_cons (pv 4) pa_nil)) pa_nil))))
      (pss_one (ps_dput hu (pv 2) (pv 3) (pe_lc (own := [("_law_cut", 6)]) (g := gName 6) (tt := tYes) rfl scstreams.nd (pi_list (pv 5)) (blkOk_by (N := Nstreams) (sc := defScope sstreams) (by decide +kernel)) (fun _ _ _ _ _ => pg_name (i := 6) scstreams.nd rfl (Or.inl rfl)) (fun _ _ _ _ _ => pts_nil) (fun _ _ _ _ _ => (pe_tupF (pa_cons (pv 6) (pa_cons (pe_call Gof (hr.mono (by omega)) (by rfl) dof.g dof.F.kp dof.b .nil pass0 (pa_cons (pv 1) (pa_cons (pe_slice (r := rSlL K) sl_list (pv 4) po_none (po_some (pv 6))) pa_nil))) pa_nil))))) rfl)))))
    (pss_one (ps_ret (pv 2))))), ?_⟩
    intro p np
    have pw := hw.ne2 np
    have h0 : StAt K a (upd H p (.dK [])) p r (fun _ => []) 0 := ⟨fun s => ⟨Nat.zero_le _, fun _ h => nomatch h⟩, [], upd_same, Nat.le_refl _, fun s k1 k2 => by omega⟩
    refine ⟨1, 10, rfl, ⟨by decide, by decide, by decide, by decide⟩, ?_⟩
    refine for_range (lo := 1) (n := 9) (fun i σ H3 => ∃ (y3 y4 y5 : Option V) (N : Nms), σ = [some (.ref a), some (.int r), some (.ref p), y3, y4, y5, none, none] ∧ Exw a H H3 ∧ Wl a c H3 ∧ StAt K a H3 p r N i)
      ⟨none, none, none, _, rfl, (Exw.refl a H).new np, hw.put pw, h0⟩ ?_ ?_
    · rintro i σ H3 hi ⟨y3, y4, y5, N, rfl, x3, w3, S3⟩
      refine ⟨.ref a, rfl, a, c, rfl, w3, fun H4 l zs x4 w4 nl lna lnc hl4 hzn hzl => ?_⟩
      have x04 := x3.trans x4
      have S4 := S3.exw x4 w3 w4
      have nl0 : H l = none := x3.gone lna nl
      -- cuts
      refine ⟨2, rfl, by decide, by decide, fun D nD => ?_⟩
      have Dw := w4.ne2 nD
      have nD0 : H D = none := x04.gone Dw.1 nD
      have lD : l ≠ D := ne_of_none hl4 nD
      refine lc_range (lo := 0) (n := 2) (fun j H5 => Exw a H4 H5 ∧ Wl a c H5 ∧ ∃ ns : List Int, H5 D = some (.lst (ns.map V.int)) ∧ ns.length = j ∧ ∀ n ∈ ns, 0 ≤ n ∧ n ≤ (zs.length : Int)) ⟨(Exw.refl a H4).new nD, w4.put Dw, [], upd_same, rfl, fun _ h => nomatch h⟩ (fun j H5 hj h5 => ?_) (fun H5 h5 => ?_)
      · obtain ⟨x5, w5, ns, hD, hnl, hnn⟩ := h5
        refine ⟨rfl, .ref a, rfl, .ref l, rfl, l, _, rfl, .inl (sql (x5 _ _ lna hl4)), _, _, rfl, rfl, a, c, _, rfl, w5, by rw [List.length_map]; omega, by rw [List.length_map]; omega, fun H6 k x6 w6 k0 k1 => ?_⟩
        rw [List.length_map] at k1
        have hD6 := x6 _ _ Dw.1 hD
        refine ⟨_, hD6, by rw [List.length_map, sizeLine_eq]; omega, (x5.trans x6).put nD, w6.put Dw, ns ++ [k], by rw [upd_same, List.map_append]; rfl, by rw [List.length_append, hnl]; rfl, fun y hy => ?_⟩
        rcases List.mem_append.mp hy with hy | hy
        · exact hnn y hy
        · rw [List.mem_singleton.mp hy]
          omega
      · obtain ⟨x5, w5, ns, hD, hnl, hnn⟩ := h5
        refine ⟨D, ns, rfl, sql hD, fun ms l2 pm so nl2 => ?_⟩
        have l2w := w5.ne2 nl2
        have s6 := same_upd (o := .lst (ms.map V.int)) nl2
        have hl6 : (upd H5 l2 (.lst (ms.map V.int))) l2 = some (.lst (ms.map V.int)) := upd_same
        have x6 := x5.same s6
        have w6 := w5.same s6
        generalize upd H5 l2 (.lst (ms.map V.int)) = H6 at s6 hl6 x6 w6 ⊢
        have hl46 := x6 _ _ lna hl4
        refine ⟨.ref l, rfl, l, _, rfl, .inl (sql hl46), (by show 1 ≤ sizeLine; decide), fun l3 nl3 => ?_⟩
        have s7 := same_upd (o := .lst [V.int (((zs.map V.str).length : Nat) : Int)]) nl3
        have hl67 := s7 _ _ hl6
        have hl37 : (upd H6 l3 (.lst [V.int (((zs.map V.str).length : Nat) : Int)])) l3 = some (.lst [V.int (((zs.map V.str).length : Nat) : Int)]) := upd_same
        have x7 := x6.same s7
        have w7 := w6.same s7
        generalize upd H6 l3 (.lst [V.int (((zs.map V.str).length : Nat) : Int)]) = H7 at hl67 hl37 x7 w7 ⊢
        have hml : ms.length = 2 := by rw [pm.length_eq, hnl]
        refine ⟨l2, l3, _, _, rfl, rfl, hl67, hl37, (by rw [List.length_map, hml]; show 2 + 1 ≤ sizeLine; decide), fun l4 nl4 => ?_⟩
        have l4w := w7.ne2 nl4
        obtain ⟨cs3, ecs, hcl, hcn⟩ : ∃ cs3 : List Nat, ms.map V.int ++ [V.int (((zs.map V.str).length : Nat) : Int)] = cs3.map (fun c : Nat => V.int (c : Int)) ∧ cs3.length = 3 ∧ ∀ c ∈ cs3, c ≤ zs.length := by
          refine ⟨ms.map Int.toNat ++ [zs.length], ?_, ?_, fun c hc => ?_⟩
          · rw [List.map_append, List.map_map, List.length_map]
            congr 1
            refine List.map_congr_left fun m hm => ?_
            have := hnn m (pm.mem_iff.mp hm)
            show V.int m = V.int ((m.toNat : Nat) : Int)
            rw [Int.toNat_of_nonneg this.1]
          · rw [List.length_append, List.length_map, hml]
            rfl
          · rcases List.mem_append.mp hc with hc | hc
            · obtain ⟨m, hm, rfl⟩ := List.mem_map.mp hc
              have := hnn m (pm.mem_iff.mp hm)
              omega
            · rw [List.mem_singleton.mp hc]
              exact Nat.le_refl _
        rw [ecs]
        have s8 := same_upd (o := .lst (cs3.map fun c : Nat => V.int (c : Int))) nl4
        have hl8 : (upd H7 l4 (.lst (cs3.map fun c : Nat => V.int (c : Int)))) l4 = some (.lst (cs3.map fun c : Nat => V.int (c : Int))) := upd_same
        have x8 := x7.same s8
        have w8 := w7.same s8
        generalize upd H7 l4 (.lst (cs3.map fun c : Nat => V.int (c : Int))) = H8 at s8 hl8 x8 w8 ⊢
        have hl48 := x8 _ _ lna hl4
        have x08 := x04.trans x8
        have S8 := S4.exw x8 w4 w8
        -- the cuts with their sketches
        refine ⟨.ref l4, rfl, l4, rfl, ⟨_, sql hl8⟩, fun E2 nE => ?_⟩
        have Ew := w8.ne2 nE
        have nE0 : H E2 = none := x08.gone Ew.1 nE
        refine lc_list (xs := cs3.map fun c : Nat => V.int (c : Int)) (fun j H9 => Same H8 H9 ∧ ∃ us : List V, H9 E2 = some (.lst us) ∧ us.length = j ∧ ∀ x ∈ us, ∃ d, DtAt K H9 x d ∧ PrD r zs d)
          ⟨same_upd nE, [], upd_same, rfl, fun _ h => nomatch h⟩ (fun j H9 _ h9 => sql (h9.1 _ _ hl8)) (fun j x H9 hx h9 => ?_) (fun H9 h9 => ?_)
        · obtain ⟨cc, hcc, rfl⟩ := map_at hx
          obtain ⟨s9, us, hE, hul, hus⟩ := h9
          have hcz := hcn cc (List.mem_of_getElem? hcc)
          refine ⟨rfl, .int (cc : Int), rfl, .int r, rfl, .ref l, rfl, .int (cc : Int), rfl, (cc : Int), rfl, l, _, rfl, sql (s9 _ _ hl48), fun p9 np9 => ?_⟩
          rw [cut_to, ← List.map_take]
          have sA := same_upd (o := .lst ((zs.take cc).map V.str)) np9
          refine ⟨r, p9, zs.take cc, rfl, sql upd_same, fun z hz => hzn z (List.mem_of_mem_take hz), r1, r64, by rw [List.length_take]; omega, fun HB pB sB dB => ⟨(by show 2 ≤ sizeLine; decide), fun t ot nt hot => ?_⟩⟩
          have s9B := sA.trans sB
          have hEB := s9B _ _ hE
          have ET : E2 ≠ t := ne_of_none hEB nt
          have sT := same_upd (o := .frz ot (.tup [.int (cc : Int), .ref pB])) nt
          have dT : DtAt K (upd HB t (.frz ot (.tup [.int (cc : Int), .ref pB]))) (.ref t) (.tup [.int (cc : Int), skDat r (feedsT r (zs.take cc) tl0)]) :=
            DtAt.mk ⟨ot, upd_same, hot⟩ (by show 2 ≤ 5000; decide) (.cons (.lf ⟨rfl, nat_le (by omega) (by omega : (cc : Int) ≤ 40) (by omega)⟩) (.cons (dB.same sT) .nil))
          have sAll := s9B.trans sT
          generalize upd HB t (.frz ot (.tup [.int (cc : Int), .ref pB])) = HC at dT sAll ⊢
          have hEC := sAll _ _ hE
          have kp : KpD HC (upd HC E2 (.lst (us ++ [V.ref t]))) := kpD_list hEC
          refine ⟨us, hEC, by rw [sizeLine_eq]; have := (List.getElem?_eq_some_iff.mp hcc).1; omega, Same.put (s9.trans sAll) nE, us ++ [.ref t], upd_same, by rw [List.length_append, hul]; rfl, fun x hx => ?_⟩
          rcases List.mem_append.mp hx with hx | hx
          · obtain ⟨d, k1, k2⟩ := hus x hx
            exact ⟨d, (k1.same sAll).keep kp, k2⟩
          · rw [List.mem_singleton.mp hx]
            exact ⟨_, dT.keep kp, cc, hcz, rfl⟩
        · obtain ⟨s9, us, hE, hul, hus⟩ := h9
          rw [List.length_map, hcl] at hul
          obtain ⟨nm, kvs, hp9, hkl, hall⟩ := S8.exw (Same.exw s9) w8 (w8.same s9)
          have w9 := w8.same s9
          have x09 := x08.same s9
          have pE : p ≠ E2 := ne_of hp9 hE (by intro z; cases z)
          refine ⟨.ref p, rfl, .int (1 + (i : Int)), rfl, p, _, rfl, DPut.k (k := Sum.inl (1 + (i : Int))) hp9 (by rw [sizeLine_eq]; omega), ?_⟩
          have kp : KpD H9 (upd H9 p (.dK (putK kvs (Sum.inl (1 + (i : Int))) (.ref E2)))) := kpD_dict hp9
          refine ⟨_, _, _, fun s => if s = 1 + (i : Int) then zs else N s, rfl, x09.put np, w9.put pw, fun s => ?_, _, upd_same, ?_, fun s k1 k2 => ?_⟩
          · show (if s = 1 + (i : Int) then zs else N s).length ≤ 40 ∧ ∀ z ∈ (if s = 1 + (i : Int) then zs else N s), Nm z
            split
            · exact ⟨hzl, hzn⟩
            · exact nm s
          · have := length_putK kvs (Sum.inl (1 + (i : Int))) (V.ref E2)
            omega
          · rw [valV_put]
            show ∃ l, _ ∧ LsAt K a _ l r (if s = 1 + (i : Int) then zs else N s)
            by_cases hs : s = 1 + (i : Int)
            · subst hs
              rw [if_pos rfl, if_pos rfl]
              exact ⟨E2, rfl, Ew.1, us, by rw [upd_ne pE.symm]; exact hE, by omega, by omega, fun x hx => let ⟨d, k1, k2⟩ := hus x hx; ⟨d, k1.keep kp, k2⟩⟩
            · rw [if_neg hs, if_neg (fun z => hs (Sum.inl.inj z))]
              obtain ⟨l', e1, ne, xs, e2, e3, e4, e5⟩ := hall s k1 (by omega)
              refine ⟨l', e1, ne, xs, by rw [upd_ne (ne_of e2 hp9 (by intro z; cases z))]; exact e2, e3, e4, fun x hx => let ⟨d, k1, k2⟩ := e5 x hx; ⟨d, k1.keep kp, k2⟩⟩
    · rintro σ H3 ⟨y3, y4, y5, N, rfl, x3, w3, S3⟩
      exact ⟨_, rfl, q H3 p N x3 w3 np pw.1 S3⟩
end
end Kb

namespace Kb
open PySem PySem.Spec PyProof.Rows L2 SrtZ SrtO RZ SrtR
/-! data of ints, texts and tuples -/
def plB : Nat → Dat → Bool
  | _, .int _ => true
  | _, .str z => PyData.strOk z
  | n + 1, .tup ds => decide (ds.length ≤ 1000) && ds.all (plB n)
  | _, _ => false
def pyD : Nat → Dat → PyData
  | _, .int i => .int i
  | _, .str z => .str z
  | n + 1, .tup ds => .tuple (ds.map (pyD n))
  | _, _ => .none
theorem plB_tup {n : Nat} {ds : List Dat} (h : plB (n + 1) (.tup ds) = true) : ds.length ≤ 1000 ∧ ∀ d ∈ ds, plB n d = true := by
  have h : (decide (ds.length ≤ 1000) && ds.all (plB n)) = true := h
  rw [Bool.and_eq_true, decide_eq_true_eq, List.all_eq_true] at h
  exact h
theorem plB_cases {n : Nat} {d : Dat} (h : plB n d = true) : (∃ i, d = .int i) ∨ (∃ z, d = .str z ∧ PyData.strOk z = true) ∨ ∃ m ds, n = m + 1 ∧ d = .tup ds := by
  cases d with
  | int i => exact .inl ⟨i, rfl⟩
  | str z => cases n <;> exact .inr (.inl ⟨z, rfl, h⟩)
  | tup ds =>
    cases n with
    | zero => cases h
    | succ n => exact .inr (.inr ⟨n, ds, rfl, rfl⟩)
  | _ => cases n <;> cases h
theorem py_int {n : Nat} {i : Int} : pyD n (.int i) = .int i := by cases n <;> rfl
theorem py_str {n : Nat} {z : Str} : pyD n (.str z) = .str z := by cases n <;> rfl
theorem dp_dat {K : PySem.W.Frag} {H : Hp} : ∀ {n : Nat} {v : V} {d : Dat}, plB n d = true → DtAt K H v d → Dp K H v (pyD n d) := by
  intro n
  induction n with
  | zero =>
    intro v d p h
    rcases plB_cases p with ⟨i, rfl⟩ | ⟨z, rfl, hz⟩ | ⟨m, ds, e, _⟩
    · obtain ⟨rfl, _⟩ := h.int
      exact .int i
    · obtain ⟨rfl, _⟩ := h.str
      exact .str z
    · omega
  | succ n ih =>
    intro v d p h
    rcases plB_cases p with ⟨i, rfl⟩ | ⟨z, rfl, hz⟩ | ⟨m, ds, e, rfl⟩
    · obtain ⟨rfl, _⟩ := h.int
      exact .int i
    · obtain ⟨rfl, _⟩ := h.str
      exact .str z
    · obtain ⟨_, al⟩ := plB_tup p
      obtain ⟨a, xs, rfl, h1, h2, h3⟩ := h.tup
      have key : ∀ {xs : List V} {ds : List Dat}, Paired (DtAt K H) xs ds → (∀ d ∈ ds, plB n d = true) → DpAll K H xs (ds.map (pyD n)) := fun {xs ds} p => by
        induction p with
        | nil => exact fun _ => .nil
        | cons k t ih2 => exact fun al => .cons (ih (al _ List.mem_cons_self) k) (ih2 fun d hd => al d (List.mem_cons_of_mem _ hd))
      exact .tup h1.seq (key h3 al)
theorem py_lay : ∀ {n : Nat} {d : Dat}, plB n d = true → PyData.canLay0 (pyD n d) = true ∧ PyData.depth (pyD n d) ≤ n := by
  intro n
  induction n with
  | zero =>
    intro d p
    rcases plB_cases p with ⟨i, rfl⟩ | ⟨z, rfl, hz⟩ | ⟨m, ds, e, _⟩
    · exact ⟨rfl, Nat.le_refl _⟩
    · exact ⟨hz, Nat.le_refl _⟩
    · omega
  | succ n ih =>
    intro d p
    rcases plB_cases p with ⟨i, rfl⟩ | ⟨z, rfl, hz⟩ | ⟨m, ds, e, rfl⟩
    · exact ⟨rfl, Nat.zero_le _⟩
    · exact ⟨hz, Nat.zero_le _⟩
    · obtain ⟨_, al⟩ := plB_tup p
      have key : ∀ ds : List Dat, (∀ d ∈ ds, plB n d = true) → PyData.canLayAll0 (ds.map (pyD n)) = true ∧ PyData.depthAll (ds.map (pyD n)) ≤ n := by
        intro ds
        induction ds with
        | nil => exact fun _ => ⟨rfl, Nat.zero_le _⟩
        | cons d r ih2 =>
          intro h
          obtain ⟨a1, a2⟩ := ih (h d List.mem_cons_self)
          obtain ⟨b1, b2⟩ := ih2 fun x hx => h x (List.mem_cons_of_mem _ hx)
          refine ⟨?_, ?_⟩
          · show (PyData.canLay0 (pyD n d) && PyData.canLayAll0 (r.map (pyD n))) = true
            rw [a1, b1]
            rfl
          · show max (PyData.depth (pyD n d)) (PyData.depthAll (r.map (pyD n))) ≤ n
            omega
      obtain ⟨k1, k2⟩ := key ds al
      refine ⟨k1, ?_⟩
      show PyData.depthAll (ds.map (pyD n)) + 1 ≤ n + 1
      omega
theorem py_shaped {n : Nat} {d : Dat} (h : plB n d = true) (hn : n ≤ 60) : SeqAt.shaped (pyD n d) = true := by
  obtain ⟨h1, h2⟩ := py_lay h
  show (PyData.canLay0 (pyD n d) && decide (PyData.depth (pyD n d) ≤ 64)) = true
  rw [h1, decide_eq_true (by omega)]
  rfl
theorem py_eqv : ∀ {n : Nat} {d : Dat}, plB n d = true → PyData.eqv (pyD n d) (pyD n d) = true := by
  intro n
  induction n with
  | zero =>
    intro d p
    rcases plB_cases p with ⟨i, rfl⟩ | ⟨z, rfl, hz⟩ | ⟨m, ds, e, _⟩
    · show (i == i) = true
      exact beq_self_eq_true i
    · show (z == z) = true
      exact beq_self_eq_true z
    · omega
  | succ n ih =>
    intro d p
    rcases plB_cases p with ⟨i, rfl⟩ | ⟨z, rfl, hz⟩ | ⟨m, ds, e, rfl⟩
    · show (i == i) = true
      exact beq_self_eq_true i
    · show (z == z) = true
      exact beq_self_eq_true z
    · obtain ⟨_, al⟩ := plB_tup p
      have key : ∀ ds : List Dat, (∀ d ∈ ds, plB n d = true) → PyData.eqvAll (ds.map (pyD n)) (ds.map (pyD n)) = true := by
        intro ds
        induction ds with
        | nil => exact fun _ => rfl
        | cons d r ih2 =>
          intro h
          show (PyData.eqv (pyD n d) (pyD n d) && PyData.eqvAll (r.map (pyD n)) (r.map (pyD n))) = true
          rw [ih (h d List.mem_cons_self), ih2 fun x hx => h x (List.mem_cons_of_mem _ hx)]
          rfl
      exact key ds al
theorem paired_getl {α β : Type} {F : α → β → Prop} {xs : List α} {ys : List β} (p : Paired F xs ys) {i : Nat} {x : α} {y : β} (hx : xs[i]? = some x) (hy : ys[i]? = some y) : F x y := by
  obtain ⟨y', h1, h2⟩ := paired_at p hx
  rw [hy] at h1
  cases h1
  exact h2
/-- two values of the same data are alike -/
theorem eqv_dat {K : PySem.W.Frag} {H : Hp} : ∀ {n : Nat} {v u : V} {d : Dat}, plB n d = true → DtAt K H v d → DtAt K H u d → Eqv K n H v u := by
  intro n
  induction n with
  | zero =>
    intro v u d p h k
    rcases plB_cases p with ⟨i, rfl⟩ | ⟨z, rfl, hz⟩ | ⟨m, ds, e, _⟩
    · exact .inl ⟨i, h.int.1, k.int.1⟩
    · exact .inr ⟨z, h.str.1, k.str.1⟩
    · omega
  | succ n ih =>
    intro v u d p h k
    rcases plB_cases p with ⟨i, rfl⟩ | ⟨z, rfl, hz⟩ | ⟨m, ds, e, rfl⟩
    · exact .inl (.inl ⟨i, h.int.1, k.int.1⟩)
    · exact .inl (.inr ⟨z, h.str.1, k.str.1⟩)
    · obtain ⟨hl, al⟩ := plB_tup p
      obtain ⟨a, xs, rfl, h1, h2, h3⟩ := h.tup
      obtain ⟨b, ys, rfl, k1, k2, k3⟩ := k.tup
      have e1 := Paired.length h3
      have e2 := Paired.length k3
      refine .inr ⟨a, b, xs, ys, rfl, rfl, h1.seq, k1.seq, by omega, by omega, fun i x y hx hy => ?_⟩
      obtain ⟨d, hd, hat⟩ := paired_at h3 hx
      exact ih (al d (List.mem_of_getElem? hd)) hat (paired_getl k3 hy hd)
/-! books as what stands at each source -/
def FdB (ds : List Dat) : Fb := fun s => ds.find? fun d => decide (srcT d = s)
def upv : Option Dat → Option Dat → Option Dat
  | o, none => o
  | none, some e => some e
  | some f, some e => if numT f < numT e then some e else some f
abbrev AscD (ds : List Dat) : Prop := ds.Pairwise (fun d e => srcT d < srcT e)
theorem asc_ext {xs ys : List Dat} (h1 : AscD xs) (h2 : AscD ys) (h : ∀ d, d ∈ xs ↔ d ∈ ys) : xs = ys := by
  have nd : ∀ {l : List Dat}, AscD l → l.Nodup := fun {l} p => p.imp fun h e => by rw [e] at h; omega
  refine List.Perm.eq_of_pairwise (le := fun d e => srcT d < srcT e) (fun a b _ _ h1 h2 => by omega) h1 h2 ((List.perm_ext_iff_of_nodup (nd h1) (nd h2)).mpr h)
theorem fd_some {ds : List Dat} {s : Int} {d : Dat} (h : FdB ds s = some d) : d ∈ ds ∧ srcT d = s :=
  ⟨List.mem_of_find?_eq_some h, of_decide_eq_true (List.find?_some (p := fun d : Dat => decide (srcT d = s)) h)⟩
theorem fd_mem : ∀ {ds : List Dat} {d : Dat}, AscD ds → d ∈ ds → FdB ds (srcT d) = some d
  | e :: r, d, p, h => by
    unfold FdB
    by_cases he : srcT e = srcT d
    · rw [List.find?_cons_of_pos (by simpa using he)]
      rcases List.mem_cons.mp h with rfl | h
      · rfl
      · have := List.rel_of_pairwise_cons p h
        omega
    · rw [List.find?_cons_of_neg (by simpa using he)]
      rcases List.mem_cons.mp h with rfl | h
      · exact absurd rfl he
      · exact fd_mem (List.Pairwise.of_cons p) h
theorem lsF_mem {F : Fb} (ok : FOk F) {d : Dat} : d ∈ lsF F ↔ F (srcT d) = some d := by
  unfold lsF
  rw [List.mem_filterMap]
  constructor
  · rintro ⟨s, _, h⟩
    obtain ⟨_, e⟩ := ok s d h
    rw [e]
    exact h
  · intro h
    obtain ⟨c, _⟩ := ok _ d h
    exact ⟨srcT d, rng_mem.mpr (srcT_rng c), h⟩
theorem lsF_asc {F : Fb} (ok : FOk F) : AscD (lsF F) := by
  unfold lsF AscD
  rw [List.pairwise_filterMap]
  refine rng_asc.imp fun {a b} h d hd e he => ?_
  obtain ⟨_, e1⟩ := ok a d hd
  obtain ⟨_, e2⟩ := ok b e he
  omega
theorem fd_ok {ds : List Dat} (h : ∀ d ∈ ds, trB d = true) : FOk (FdB ds) := fun s d e => let ⟨h1, h2⟩ := fd_some e; ⟨h d h1, h2⟩
theorem ls_fd {ds : List Dat} (h : ∀ d ∈ ds, trB d = true) (p : AscD ds) : lsF (FdB ds) = ds := by
  have ok := fd_ok h
  refine asc_ext (lsF_asc ok) p fun d => ?_
  rw [lsF_mem ok]
  exact ⟨fun e => (fd_some e).1, fun m => fd_mem p m⟩
theorem fd_ls {F : Fb} (ok : FOk F) : FdB (lsF F) = F := by
  funext s
  cases h : F s with
  | none =>
    cases h2 : FdB (lsF F) s with
    | none => rfl
    | some d =>
      obtain ⟨m, e⟩ := fd_some h2
      have := (lsF_mem ok).mp m
      rw [e, h] at this
      cases this
  | some d =>
    obtain ⟨_, e⟩ := ok s d h
    have : d ∈ lsF F := (lsF_mem ok).mpr (by rw [e]; exact h)
    have := fd_mem (lsF_asc ok) this
    rw [e] at this
    exact this
theorem ups_at (F : Fb) (d : Dat) : ups F d (srcT d) = upv (F (srcT d)) (some d) := by
  unfold ups
  cases h : F (srcT d) with
  | none => exact if_pos rfl
  | some f =>
    show (if numT f < numT d then putF1 F d else F) (srcT d) = if numT f < numT d then some d else some f
    split
    · exact if_pos rfl
    · exact h
theorem fold_ups : ∀ {es : List Dat} {F : Fb}, AscD es → ∀ s, es.foldl ups F s = upv (F s) (FdB es s)
  | [], F, _, s => by cases h : F s <;> exact h
  | e :: r, F, p, s => by
    show r.foldl ups (ups F e) s = _
    rw [fold_ups (List.Pairwise.of_cons p) s]
    by_cases hs : s = srcT e
    · subst hs
      have n1 : FdB r (srcT e) = none := by
        cases h : FdB r (srcT e) with
        | none => rfl
        | some d =>
          obtain ⟨m, k⟩ := fd_some h
          have := List.rel_of_pairwise_cons p m
          omega
      have n2 : FdB (e :: r) (srcT e) = some e := by
        unfold FdB
        rw [List.find?_cons_of_pos (by simp)]
      rw [n1, n2, ups_at]
      cases upv (F (srcT e)) (some e) <;> rfl
    · have n2 : FdB (e :: r) s = FdB r s := by
        unfold FdB
        rw [List.find?_cons_of_neg (by simpa using fun z => hs z.symm)]
      rw [n2, ups_ne hs]
theorem jnF_fd {ds : List Dat} (p : AscD ds) : jnF ds = FdB ds := by
  funext s
  unfold jnF
  rw [fold_ups p s]
  cases FdB ds s <;> rfl
theorem jnF_two {ds es : List Dat} (p : AscD ds) (q : AscD es) : jnF (ds ++ es) = fun s => upv (FdB ds s) (FdB es s) := by
  funext s
  have : jnF (ds ++ es) = es.foldl ups (jnF ds) := by
    unfold jnF
    rw [List.foldl_append]
  rw [this, fold_ups q s, jnF_fd p]
end Kb

namespace Kb
open PySem PySem.Spec PyProof.Rows L2 SrtZ SrtO RZ SrtR
abbrev sis : Stmt := topS 33
abbrev Nis : List Str := ["_law_told", "_law_due", "_law_k"]
theorem scis : FnScope ["_law_told", "_law_due", "_law_k"] ["_law_told", "_law_due"] (defScope sis) := ⟨rfl, rfl, rfl, by decide +kernel, rfl, by decide +kernel, by decide +kernel⟩
abbrev Dnis (K : PySem.W.Frag) (mg : Str → Option Value) := Dn K mg "_law_is" sis ["_law_told", "_law_due"]
abbrev sjoined : Stmt := topS 40
abbrev Njoined : List Str := ["_law_one", "_law_other", "_law_found", "_law_triple", "_law_s"]
theorem scjoined : FnScope ["_law_one", "_law_other", "_law_found", "_law_triple", "_law_s"] ["_law_one", "_law_other"] (defScope sjoined) := ⟨rfl, rfl, rfl, by decide +kernel, rfl, by decide +kernel, by decide +kernel⟩
abbrev Dnjoined (K : PySem.W.Frag) (mg : Str → Option Value) := Dn K mg "_law_joined" sjoined ["_law_one", "_law_other"]
abbrev sflag : Stmt := topS 50
theorem scflag : FnScope ["_law_told", "_law_due"] ["_law_told", "_law_due"] (defScope sflag) := ⟨rfl, rfl, rfl, by decide +kernel, rfl, by decide +kernel, by decide +kernel⟩
abbrev Dnflag (K : PySem.W.Frag) (mg : Str → Option Value) := Dn K mg "_law_flag" sflag ["_law_told", "_law_due"]
section
variable {P : Program} {w : World} {K : PySem.W.Frag} {mg : Str → Option Value} {base : Heap}
def spIs (K : PySem.W.Frag) (n : Nat) : Sp := fun vs H Q _ => ∃ x y : V, vs = [x, y] ∧ Eqv K n H x y ∧ ∀ H', Same H H' → Q (.bl true) H'
def spIs' (K : PySem.W.Frag) : Nat → Sp
  | 0 => fun _ _ _ _ => False
  | n + 1 => spIs K n
theorem ok_is' (T : Blt mg) (dis : Dnis K mg) (n : Nat) (Gis : FnOk P w K mg base CX0 (n + 1) dis.f dis.fd ["_law_told", "_law_due"] (spIs' K n)) : FnOk P w K mg base CX0 (n + 2) dis.f dis.fd ["_law_told", "_law_due"] (spIs K n) := by
  refine dis.F.ok scis (fun vs H Q E h => ?_) (fun cdv A outer s H vs Q E hr h => ?_)
  · obtain ⟨x, y, rfl, _⟩ := h
    rfl
  · obtain ⟨x, y, rfl, he, q⟩ := h
    refine ⟨_, (pss_cons (ps_if (pt_val (pe_callB call_isiT (by rfl) T.n_isinstance (by decide +kernel) (pa_cons (pv 1) (pa_cons (pe_tup (pa_cons (pe_bltn (v := .ty "tuple") (by rfl) T.n_tuple (by decide +kernel) rfl) (pa_cons (pe_bltn (v := .ty "list") (by rfl) T.n_list (by decide +kernel) rfl) pa_nil))) pa_nil))))
      (pss_cons (ps_if (PW.pt (pw_or (pt_cmpR op_ne (pe_callB call_isi (by rfl) T.n_isinstance (by decide +kernel) (pa_cons (pv 0) (pa_cons (pe_bltn (v := .ty "tuple") (by rfl) T.n_tuple (by decide +kernel) rfl) pa_nil))) (pe_callB call_isi (by rfl) T.n_isinstance (by decide +kernel) (pa_cons (pv 1) (pa_cons (pe_bltn (v := .ty "tuple") (by rfl) T.n_tuple (by decide +kernel) rfl) pa_nil))) (nomark _)) (pw_or1 (pt_cmpR op_ne (pe_callB call_isi (by rfl) T.n_isinstance (by decide +kernel) (pa_cons (pv 0) (pa_cons (pe_bltn (v := .ty "list") (by rfl) T.n_list (by decide +kernel) rfl) pa_nil))) (pe_callB call_isi (by rfl) T.n_isinstance (by decide +kernel) (pa_cons (pv 1) (pa_cons (pe_bltn (v := .ty "list") (by rfl) T.n_list (by decide +kernel) rfl) pa_nil))) (nomark _)))))
        (pss_one (ps_ret pe_bl))
        pss_nil)
      (pss_one (ps_ret (pe_and (pe_cmpR op_eq (pe_callB call_len_seq (by rfl) T.n_len (by decide +kernel) (pa_cons (pv 0) pa_nil)) (pe_callB call_len_seq (by rfl) T.n_len (by decide +kernel) (pa_cons (pv 1) pa_nil)) (nomark _)) (pe_one (pe_callB (cr_all rfl) (by rfl) T.n_all (by decide +kernel) (pa_cons (pe_lc (own := [("_law_k", 2)]) (g := gName 2) (tt := tYes) rfl scis.nd (pi_range1 (by rfl) T.n_range (pa_cons (pe_callB call_len_seq (by rfl) T.n_len (by decide +kernel) (pa_cons (pv 1) pa_nil)) pa_nil)) (blkOk_by (N := Nis) (sc := defScope sis) (by decide +kernel)) (fun _ _ _ _ _ => pg_name (i := 2) scis.nd rfl (Or.inl rfl)) (fun _ _ _ _ _ => pts_nil) (fun _ _ _ _ _ => (pe_call Gis (hr.mono (by omega)) (by rfl) dis.g dis.F.kp dis.b .nil pass0 (pa_cons (pe_ix (r := rIxT K) ix_tup (pv 0) (pv 2) (fun _ _ => rfl)) (pa_cons (pe_ix (r := rIxT K) ix_tup (pv 1) (pv 2) (fun _ _ => rfl)) pa_nil))))) pa_nil)))))))
      pss_nil)
    (pss_one (ps_ret (pe_and (pe_cmpR op_eq (pe_callB call_isi (by rfl) T.n_isinstance (by decide +kernel) (pa_cons (pv 0) (pa_cons (pe_bltn (v := .ty "bool") (by rfl) T.n_bool (by decide +kernel) rfl) pa_nil))) (pe_callB call_isi (by rfl) T.n_isinstance (by decide +kernel) (pa_cons (pv 1) (pa_cons (pe_bltn (v := .ty "bool") (by rfl) T.n_bool (by decide +kernel) rfl) pa_nil))) (nomark _)) (pe_one (pe_cmpR op_eq (pv 0) (pv 1) (nomark _))))))), ?_⟩
    rcases he.cases with (⟨i, rfl, rfl⟩ | ⟨z, rfl, rfl⟩) | ⟨m, rfl, a, b, xs, ys, rfl, rfl, h1, h2, hl, hl2, h5⟩
    · refine ⟨.int i, rfl, (by show 2 ≤ sizeLine; decide), fun tp ntp => ⟨.int i, tp, _, _, [.type "tuple", .type "list"], false, rfl, upd_same, .cons (.ty "tuple") (.cons (.ty "list") .nil), .base (.int i), kitAny_cons (kit_ty (b := "tuple") (r := false) (by decide +kernel)) (fun _ => kitAny_cons (kit_ty (b := "list") (r := false) (by decide +kernel)) (fun _ => rfl) (fun h => by cases h)) (fun h => by cases h), false, rfl, iteF ?_⟩⟩
      refine ⟨.int i, rfl, .int i, _, _, _, false, rfl, .ty "bool", .base (.int i), kit_ty (by decide +kernel), .int i, rfl, .int i, _, _, _, false, rfl, .ty "bool", .base (.int i), kit_ty (by decide +kernel), rfl, true, rfl, iteT ⟨.int i, rfl, .int i, rfl, rfl, ?_⟩⟩
      rw [decide_eq_true rfl]
      exact q _ (same_upd ntp)
    · refine ⟨.str z, rfl, (by show 2 ≤ sizeLine; decide), fun tp ntp => ⟨.str z, tp, _, _, [.type "tuple", .type "list"], false, rfl, upd_same, .cons (.ty "tuple") (.cons (.ty "list") .nil), .base (.str z), kitAny_cons (kit_ty (b := "tuple") (r := false) (by decide +kernel)) (fun _ => kitAny_cons (kit_ty (b := "list") (r := false) (by decide +kernel)) (fun _ => rfl) (fun h => by cases h)) (fun h => by cases h), false, rfl, iteF ?_⟩⟩
      refine ⟨.str z, rfl, .str z, _, _, _, false, rfl, .ty "bool", .base (.str z), kit_ty (by decide +kernel), .str z, rfl, .str z, _, _, _, false, rfl, .ty "bool", .base (.str z), kit_ty (by decide +kernel), rfl, true, rfl, iteT ⟨.str z, rfl, .str z, rfl, rfl, ?_⟩⟩
      rw [decide_eq_true rfl]
      exact q _ (same_upd ntp)
    · refine ⟨.ref b, rfl, (by show 2 ≤ sizeLine; decide), fun tp ntp => ⟨.ref b, tp, _, _, [.type "tuple", .type "list"], true, rfl, upd_same, .cons (.ty "tuple") (.cons (.ty "list") .nil), tyT (seqT h2 (same_upd ntp)), kitAny_cons (kit_ty (b := "tuple") (r := true) (by decide +kernel)) (fun h => by cases h) (fun _ => rfl), true, rfl, iteT ?_⟩⟩
      have s1 : Same H (upd H tp (.tup [V.ty "tuple", V.ty "list"])) := same_upd ntp
      generalize upd H tp (.tup [V.ty "tuple", V.ty "list"]) = H1 at s1 ⊢
      have g1 := seqT h1 s1
      have g2 := seqT h2 s1
      refine ⟨.ref a, rfl, .ref a, _, _, _, true, rfl, .ty "tuple", tyT g1, kit_ty (by decide +kernel), .ref b, rfl, .ref b, _, _, _, true, rfl, .ty "tuple", tyT g2, kit_ty (by decide +kernel), rfl, false, rfl, iteF ?_⟩
      refine ⟨.ref a, rfl, .ref a, _, _, _, false, rfl, .ty "list", tyT g1, kit_ty (by decide +kernel), .ref b, rfl, .ref b, _, _, _, false, rfl, .ty "list", tyT g2, kit_ty (by decide +kernel), rfl, false, rfl, iteF ?_⟩
      refine ⟨.ref a, rfl, a, _, rfl, .inr g1, .ref b, rfl, b, _, rfl, .inr g2, rfl, true, congrArg V.bl (decide_eq_true (by rw [hl])), iteT ?_⟩
      refine ⟨.ref b, rfl, b, _, rfl, .inr g2, ys.length, rfl, by omega, by omega, fun D nD => ?_⟩
      rw [Int.toNat_natCast]
      refine lc_range (lo := 0) (n := ys.length) (fun i H3 => Same H1 H3 ∧ H3 D = some (.lst ((List.range i).map fun _ => V.bl true))) ⟨same_upd nD, upd_same⟩ (fun i H3 hi h3 => ?_) (fun H3 h3 => ?_)
      · have hxi : xs[i]? = some (xs[i]'(by omega)) := List.getElem?_eq_getElem (by omega)
        have hyi : ys[i]? = some ys[i] := List.getElem?_eq_getElem hi
        have ev := Eqv.same (fun b u e => h3.1 b u (s1 b u e)) (h5 i _ _ hxi hyi)
        refine ⟨rfl, .ref a, rfl, .int (0 + (i : Int)), rfl, a, _, _, _, rfl, rfl, seqT g1 h3.1, (by rw [Int.zero_add]; exact atI_nat hxi), .ref b, rfl, .int (0 + (i : Int)), rfl, b, _, _, _, rfl, rfl, seqT g2 h3.1, (by rw [Int.zero_add]; exact atI_nat hyi), _, _, rfl, ev, fun H4 s4 => ⟨_, s4 _ _ h3.2, ?_, ?_, ?_⟩⟩
        · rw [List.length_map, List.length_range, sizeLine_eq]
          omega
        · exact Same.put (fun b u e => s4 b u (h3.1 b u e)) nD
        · rw [upd_same, List.range_succ, List.map_append]
          rfl
      · refine ⟨D, (List.range ys.length).map fun _ => true, rfl, sql (by rw [h3.2, List.map_map]; rfl), ?_⟩
        rw [show (((List.range ys.length).map fun _ => true).all id) = true by simp]
        exact q H3 fun b u e => h3.1 b u (s1 b u e)
theorem ok_is (T : Blt mg) (dis : Dnis K mg) : ∀ n : Nat, FnOk P w K mg base CX0 (n + 1) dis.f dis.fd ["_law_told", "_law_due"] (spIs' K n)
  | 0 => dis.F.ok scis (fun _ _ _ _ h => h.elim) (fun _ _ _ _ _ _ _ _ _ h => h.elim)
  | n + 1 => ok_is' T dis n (ok_is T dis n)

/-! _law_flag -/
def spFlag (K : PySem.W.Frag) : Sp := fun vs H Q _ => ∃ a b : Bool, vs = [.bl a, .bl b] ∧ Q (.bl (a == b)) H
theorem ok_flag (T : Blt mg) (d : Dnflag K mg) : FnOk P w K mg base CX0 1 d.f d.fd ["_law_told", "_law_due"] (spFlag K) := by
  refine d.F.ok scflag (fun vs H Q E h => ?_) (fun cdv A outer s H vs Q E hr h => ?_)
  · obtain ⟨a, b, rfl, _⟩ := h
    rfl
  · obtain ⟨a, b, rfl, q⟩ := h
    refine ⟨_, (pss_one (ps_ret (pe_and (pe_callB call_isi (by rfl) T.n_isinstance (by decide +kernel) (pa_cons (pv 0) (pa_cons (pe_bltn (v := .ty "bool") (by rfl) T.n_bool (by decide +kernel) rfl) pa_nil))) (pe_one (pe_cmpR op_eq (pv 0) (pv 1) (nomark _)))))), ?_⟩
    refine ⟨.bl a, rfl, .bl a, _, _, _, true, rfl, .ty "bool", .base (.bl a), kit_ty (show kitB "bool" "bool" = some true by decide +kernel), true, rfl, iteT ⟨.bl a, rfl, .bl b, rfl, rfl, ?_⟩⟩
    rw [show decide (V.bl a = V.bl b) = (a == b) by cases a <;> cases b <;> decide]
    exact q
theorem paired_app {α β : Type} {F : α → β → Prop} : ∀ {xs : List α} {ys : List β} {zs : List α} {ws : List β}, Paired F xs ys → Paired F zs ws → Paired F (xs ++ zs) (ys ++ ws)
  | _, _, _, _, .nil, h => h
  | _, _, _, _, .cons h t, k => .cons h (paired_app t k)
theorem kvs_len {kvs : List (Key × V)} {ks : List Int} (e2 : kvs.map (·.1) = ks.map Sum.inl) : kvs.length = ks.length := by
  have := congrArg List.length e2
  rw [List.length_map, List.length_map] at this
  exact this
theorem kvs_ints {kvs : List (Key × V)} {ks : List Int} (e2 : kvs.map (·.1) = ks.map Sum.inl) : (kvs.map fun kv => kV kv.1) = ks.map V.int := by
  have : (kvs.map (·.1)).map kV = (ks.map Sum.inl).map kV := by rw [e2]
  rw [List.map_map, List.map_map] at this
  exact this
/-! _law_joined -/
def spJoinedL (K : PySem.W.Frag) : Sp := fun vs H Q _ => ∃ (a b : Addr) (ds es : List Dat), vs = [.ref a, .ref b] ∧ DtAt K H (.ref a) (.tup ds) ∧ DtAt K H (.ref b) (.tup es) ∧ (∀ d ∈ ds ++ es, trB d = true) ∧ (ds ++ es).length ≤ 1000 ∧
  ∀ H' p, Same H H' → DtAt K H' (.ref p) (.tup (jnD ds es)) → Q (.ref p) H'
theorem ok_joinedL (T : Blt mg) (d : Dnjoined K mg) : FnOk P w K mg base CX0 1 d.f d.fd ["_law_one", "_law_other"] (spJoinedL K) := by
  refine d.F.ok scjoined (fun vs H Q E h => ?_) (fun cdv A outer s H vs Q E hr h => ?_)
  · obtain ⟨a, b, ds, es, rfl, _⟩ := h
    rfl
  · obtain ⟨a, b, ds, es, rfl, hd, he, tr, hln, q⟩ := h
    have hu := hu_of hr
    refine ⟨_, (pss_cons (ps_asg pe_dnewK (pg_name (i := 2) scjoined.nd rfl (Or.inr rfl)))
    (pss_cons (ps_for PassesOwn.never rfl (pi_tup (pe_op op_catP (pv 0) (pv 1))) (pg_name (i := 3) scjoined.nd rfl (Or.inl rfl))
      (pss_one (ps_if (PW.pt (pw_or (pt_cmp (pc_dnotin hu (pe_ix ix_tup (pv 3) pe_int (fun _ _ => rfl)) (pv 2))) (pw_or1 (pt_cmpR op_lt (pe_ix ix_tup (pe_dget hu (pv 2) (pe_ix ix_tup (pv 3) pe_int (fun _ _ => rfl)) (fun _ _ => rfl)) pe_int (fun _ _ => rfl)) (pe_ix ix_tup (pv 3) pe_int (fun _ _ => rfl)) (nomark _)))))
        (pss_one (ps_dput hu (pv 2) (pe_ix ix_tup (pv 3) pe_int (fun _ _ => rfl)) (pv 3) rfl))
        pss_nil)))
    (pss_one (ps_ret (pe_callTy call_tupleF (by rfl) T.n_tuple (by decide +kernel) (pa_cons (pe_lc (own := [("_law_s", 4)]) (g := gName 4) (tt := tYes) rfl scjoined.nd (pi_list (pe_callB cr_sortedI (by rfl) T.n_sorted (by decide +kernel) (pa_cons (pe_callTy (call_list_dK rfl) (by rfl) T.n_list (by decide +kernel) (pa_cons (pv 2) pa_nil)) pa_nil))) (blkOk_by (N := Njoined) (sc := defScope sjoined) (by decide +kernel)) (fun _ _ _ _ _ => pg_name (i := 4) scjoined.nd rfl (Or.inl rfl)) (fun _ _ _ _ _ => pts_nil) (fun _ _ _ _ _ => (pe_dget hu (pv 2) (pv 4) (fun _ _ => rfl)))) pa_nil)))))), ?_⟩
    intro D nD
    have s1 : Same H (upd H D (.dK [])) := same_upd nD
    have D1 : DcT K (upd H D (.dK [])) D (fun _ => none) := DcT.nil upd_same
    generalize upd H D (.dK []) = H1 at s1 D1 ⊢
    obtain ⟨_, xs, e1, h1, h2, h3⟩ := (hd.same s1).tup
    cases e1
    obtain ⟨_, ys, e1, g1, g2, g3⟩ := (he.same s1).tup
    cases e1
    have hl := Paired.length h3
    have gl := Paired.length g3
    refine ⟨.ref a, rfl, .ref b, rfl, a, b, xs, ys, rfl, rfl, h1, g1, (by rw [sizeLine_eq]; omega), fun c H2 s12 hc => ?_⟩
    have hp3 : Paired (DtAt K H2) (xs ++ ys) (ds ++ es) := paired_app (paired_imp (fun _ _ h => h.same s12) h3) (paired_imp (fun _ _ h => h.same s12) g3)
    have hcl : (xs ++ ys).length = (ds ++ es).length := Paired.length hp3
    have s2 := s1.trans s12
    generalize xs ++ ys = zs at hc hp3 hcl
    generalize hal : ds ++ es = all at tr hln hp3 hcl
    refine ⟨c, rfl, ⟨_, hc.seq⟩, for_tup (xs := zs) (fun i σ H5 => ∃ y3 : Option V, σ = [some (.ref a), some (.ref b), some (.ref D), y3, none] ∧ Same H H5 ∧ KpD H2 H5 ∧ DcT K H5 D (jnF (all.take i)))
      ⟨none, rfl, s2, KpD.refl H2, D1.same s12⟩ (fun i σ H5 _ ⟨_, _, _, b5, _⟩ => (b5.t _ _ hc).seq) ?_ ?_⟩
    · rintro i v σ H5 hi ⟨y3, rfl, s5, s25, D5⟩
      obtain ⟨dd, hdd, hat⟩ := paired_at hp3 hi
      have ct := tr _ (List.mem_of_getElem? hdd)
      have hat5 := hat.keep s25
      obtain ⟨u1, k1, i1, r1, m1, z3, z4, rfl, f1, f2, f0, fn, f3, _⟩ := tr_of hat5 ct
      obtain ⟨kvs, ks, hD5, e2, e3, e4, e5, e6⟩ := D5.ex
      have hkl : kvs.length < sizeLine := by
        have := keys_le D5.ok e3 e4
        have hk := kvs_len e2
        rw [sizeLine_eq]
        omega
      refine ⟨.ref u1, rfl, u1, _, _, _, rfl, rfl, f1.seq, atI_nat (j := 0) rfl, .ref D, rfl, D, _, rfl, DGet.k (k := Sum.inl i1) hD5, _, rfl, ?_⟩
      have kpu : KpD H2 (upd H5 D (.dK (putK kvs (Sum.inl i1) (.ref u1)))) := s25.trans (kpD_dict hD5)
      have put : DcT K (upd H5 D (.dK (putK kvs (Sum.inl i1) (.ref u1)))) D (putF1 (jnF (all.take i)) dd) := by rw [f0]; exact D5.put ct hat5 hD5
      cases hF : jnF (all.take i) i1 with
      | none =>
        rw [e6 i1 hF]
        refine iteT ⟨.ref u1, rfl, .ref D, rfl, .ref u1, rfl, u1, _, _, _, rfl, rfl, f1.seq, atI_nat (j := 0) rfl, D, _, rfl, DPut.k (k := Sum.inl i1) hD5 hkl, ?_⟩
        refine ⟨_, rfl, Same.put s5 nD, kpu, ?_⟩
        rw [jnF_snoc hdd, ups_new (by rw [← f0]; exact hF)]
        exact put
      | some fd =>
        obtain ⟨w1, hv1, hat1⟩ := e5 i1 fd hF
        rw [hv1]
        obtain ⟨ct1, _⟩ := D5.ok i1 fd hF
        obtain ⟨u2, k2, i2, r2, m2, z3', z4', rfl, f4, f5, _, fn2, _⟩ := tr_of hat1 ct1
        have dg : DGet H5 D (.int i1) (some (.ref u2)) := by
          rw [← hv1]
          exact DGet.k (k := Sum.inl i1) hD5
        refine iteF ⟨.ref D, rfl, .ref u1, rfl, u1, _, _, _, rfl, rfl, f1.seq, atI_nat (j := 0) rfl, D, .ref u2, rfl, dg, u2, _, _, _, rfl, rfl, f4.seq, atI_nat (j := 1) rfl, .ref u1, rfl, u1, _, _, _, rfl, rfl, f1.seq, atI_nat (j := 1) rfl, _, _, rfl, rfl, decide (m2 < m1), rfl, ?_⟩
        have eu : ups (jnF (all.take i)) dd = if m2 < m1 then putF1 (jnF (all.take i)) dd else jnF (all.take i) := by
          unfold ups
          rw [← f0, hF, fn, fn2]
        by_cases hlt : m2 < m1
        · rw [show decide (m2 < m1) = true from decide_eq_true hlt]
          refine iteT ⟨.ref u1, rfl, .ref D, rfl, .ref u1, rfl, u1, _, _, _, rfl, rfl, f1.seq, atI_nat (j := 0) rfl, D, _, rfl, DPut.k (k := Sum.inl i1) hD5 hkl, ?_⟩
          refine ⟨_, rfl, Same.put s5 nD, kpu, ?_⟩
          rw [jnF_snoc hdd, eu, if_pos hlt]
          exact put
        · rw [show decide (m2 < m1) = false from decide_eq_false hlt]
          refine iteF ⟨_, rfl, s5, s25, ?_⟩
          rw [jnF_snoc hdd, eu, if_neg hlt]
          exact D5
    · rintro σ H5 ⟨y3, rfl, s5, s25, D5⟩
      rw [hcl, List.take_length] at D5
      have q : ∀ H' p, Same H H' → DtAt K H' (.ref p) (.tup (lsF (jnF all))) → Q (.ref p) H' := by rw [← hal]; exact q
      generalize jnF all = F at D5 q
      obtain ⟨kvs, ks, hD5, e2, e3, e4, e5, e6⟩ := D5.ex
      refine ⟨.ref D, rfl, D, kvs, rfl, hD5, fun la nla => ?_⟩
      rw [kvs_ints e2]
      have sa := same_upd (o := .lst (ks.map V.int)) nla
      have hla : (upd H5 la (.lst (ks.map V.int))) la = some (.lst (ks.map V.int)) := upd_same
      have hDa := sa _ _ hD5
      generalize upd H5 la (.lst (ks.map V.int)) = Ha at sa hla hDa ⊢
      refine ⟨la, ks, rfl, sql hla, fun ss l pm so nl => ?_⟩
      have ess := keys_srt D5.ok e3 e4 pm so
      have s6 := same_upd (o := .lst (ss.map V.int)) nl
      have hl6 : (upd Ha l (.lst (ss.map V.int))) l = some (.lst (ss.map V.int)) := upd_same
      have hD6 := s6 _ _ hDa
      have s56 := sa.trans s6
      have s06 := s5.trans s56
      generalize upd Ha l (.lst (ss.map V.int)) = H6 at s56 hl6 hD6 s06 ⊢
      refine ⟨l, rfl, ⟨_, sql hl6⟩, fun D2 nD2 => ?_⟩
      refine lc_list (xs := ss.map V.int) (fun i H7 => Same H6 H7 ∧ ∃ us : List V, H7 D2 = some (.lst us) ∧ us.length ≤ 9 ∧ Paired (DtAt K H7) us ((ss.take i).filterMap F))
        ⟨same_upd nD2, [], upd_same, Nat.zero_le _, .nil⟩ (fun i H7 _ h7 => sql (h7.1 _ _ hl6)) (fun i x H7 hx h7 => ?_) (fun H7 h7 => ?_)
      · obtain ⟨z, hz, rfl⟩ := map_at hx
        obtain ⟨s7, us, hD7, hul, hpr⟩ := h7
        have hin : z ∈ ks := pm.mem_iff.mp (List.mem_of_getElem? hz)
        obtain ⟨fd, hfd⟩ := Option.isSome_iff_exists.mp ((e4 z).mp hin)
        obtain ⟨w1, hv1, hat1⟩ := e5 z fd hfd
        have dg : DGet H7 D (.int z) (some w1) := .inl ⟨kvs, Sum.inl z, .inl (s7 _ _ hD6), rfl, hv1.symm⟩
        refine ⟨rfl, .ref D, rfl, .int z, rfl, D, w1, rfl, dg, us, hD7, (by rw [sizeLine_eq]; omega), Same.put s7 nD2, us ++ [w1], upd_same, ?_, ?_⟩
        · have hlen := Paired.length hpr
          have : ((ss.take (i + 1)).filterMap F).length ≤ (ss.take (i + 1)).length := List.length_filterMap_le _ _
          rw [fm_snoc hz hfd, List.length_append, List.length_singleton] at this
          have hss : ss.length ≤ 9 := by
            rw [pm.length_eq]
            exact keys_le D5.ok e3 e4
          rw [List.length_take] at this
          rw [List.length_append, List.length_singleton]
          omega
        · rw [fm_snoc hz hfd]
          have kp : KpD H7 (upd H7 D2 (.lst (us ++ [w1]))) := kpD_list hD7
          exact paired_snoc (paired_imp (fun _ _ h => h.keep kp) hpr) ((hat1.same (s56.trans s7)).keep kp)
      · obtain ⟨s7, us, hD7, hul, hpr⟩ := h7
        rw [List.length_map, List.take_length, ess, fm_filter] at hpr
        refine ⟨D2, us, rfl, sql hD7, fun p o np ho => ?_⟩
        have s8 := same_upd (o := .frz o (.tup us)) np
        exact q _ p (s06.trans (s7.trans s8)) (DtAt.mk ⟨o, upd_same, ho⟩ (by omega) (paired_imp (fun _ _ h => h.same s8) hpr))
/-! _law_book -/
def trD (r : Int) (N : Nms) (s : Int) (c : Nat) : Dat := .tup [.int s, .int (c : Int), skDat r (feedsT r ((N s).take c) tl0)]
def WdD (r : Int) (N : Nms) (d : Dat) : Prop := ∃ (s : Int) (c : Nat), 1 ≤ s ∧ s ≤ 9 ∧ c ≤ (N s).length ∧ d = trD r N s c
def spBook (K : PySem.W.Frag) : Sp := fun vs H Q _ => ∃ (a c p : Addr) (r : Int) (N : Nms), vs = [.ref a, .ref p] ∧ Wl a c H ∧ StAt K a H p r N 9 ∧
  ∀ H' b ds, Exw a H H' → Wl a c H' → DtAt K H' (.ref b) (.tup ds) → AscD ds → (∀ d ∈ ds, WdD r N d) → ds.length ≤ 9 → Q (.ref b) H'
theorem ok_book (T : Blt mg) (ddraw : Dndraw K mg) (dany : Dnany K mg) (d : Dnbook K mg) : FnOk P w K mg base CX0 3 d.f d.fd ["_law_pot_here", "_law_streams_here"] (spBook K) := by
  have Gdraw : FnOk P w K mg base CX0 1 ddraw.f ddraw.fd ["_law_pot_here", "_law_many"] spDraw := ok_draw T ddraw
  have Gany : FnOk P w K mg base CX0 2 dany.f dany.fd ["_law_pot_here", "_law_things"] spAny := ok_any T ddraw dany
  refine d.F.ok scbook (fun vs H Q E h => ?_) (fun cdv A outer s H vs Q E hr h => ?_)
  · obtain ⟨a, c, p, r, N, rfl, _⟩ := h
    rfl
  · obtain ⟨a, c, p, r, N, rfl, hw, S, q⟩ := h
    have hu := hu_of hr
    refine ⟨_, (pss_cons (ps_setLc (i := 2) (own := [("_law_s", 3)]) (g := gName 3) rfl scbook.nd rfl rfl (sw_true rfl rfl rfl (by decide +kernel)) (pi_range2 (by rfl) T.n_range (pa_cons pe_int (pa_cons pe_int pa_nil))) (blkOk_by (N := Nbook) (sc := defScope sbook) (by decide +kernel)) (fun _ _ _ _ _ => pg_name (i := 3) scbook.nd rfl (Or.inl rfl)) (fun _ _ _ _ _ => pts_one (pt_cmpR op_eq (pe_call Gdraw (hr.mono (by omega)) (by rfl) ddraw.g ddraw.F.kp ddraw.b .nil pass0 (pa_cons (pv 0) (pa_cons pe_int pa_nil))) pe_int (nomark _))) (fun _ _ _ _ _ => (pv 3)))
    (pss_one (ps_ret (pe_callTy call_tupleF (by rfl) T.n_tuple (by decide +kernel) (pa_cons (pe_lc (own := [("_law_s", 3)]) (g := gName 3) (tt := tYes) rfl scbook.nd (pi_list (pv 2)) (blkOk_by (N := Nbook) (sc := defScope sbook) (by decide +kernel)) (fun _ _ _ _ _ => pg_name (i := 3) scbook.nd rfl (Or.inl rfl)) (fun _ _ _ _ _ => pts_nil) (fun _ _ _ _ _ => (pe_op (r := rCatP K) op_catP (pe_tupF (pa_cons (pv 3) pa_nil)) (pe_call Gany (hr.mono (by omega)) (by rfl) dany.g dany.F.kp dany.b .nil pass0 (pa_cons (pv 0) (pa_cons (pe_dget hu (pv 1) (pv 3) (fun _ _ => rfl)) pa_nil)))))) pa_nil))))), ?_⟩
    refine ⟨1, 10, rfl, ⟨by decide, by decide, by decide, by decide⟩, fun D nD => ?_⟩
    have Dw := hw.ne2 nD
    refine lc_range (lo := 1) (n := 9) (fun i H3 => Exw a H H3 ∧ Wl a c H3 ∧ ∃ ss : List Int, H3 D = some (.lst (ss.map V.int)) ∧ ss.length ≤ i ∧ ss.Pairwise (· < ·) ∧ ∀ s ∈ ss, 1 ≤ s ∧ s < 1 + (i : Int)) ⟨(Exw.refl a H).new nD, hw.put Dw, [], upd_same, Nat.le_refl _, .nil, fun _ h => nomatch h⟩ (fun i H3 hi h3 => ?_) (fun H3 h3 => ?_)
    · obtain ⟨x3, w3, ss, hD, hsl, hsa, hsm⟩ := h3
      refine ⟨rfl, .ref a, rfl, a, c, 3, rfl, w3, by decide, by decide, fun H4 k x4 w4 k0 k3 => ⟨rfl, _, rfl, ite2 (fun _ => ?_) fun _ => ?_⟩⟩
      · have hD4 := x4 _ _ Dw.1 hD
        refine ⟨_, rfl, _, hD4, by rw [List.length_map, sizeLine_eq]; omega, (x3.trans x4).put nD, w4.put Dw, ss ++ [1 + (i : Int)], by rw [upd_same, List.map_append]; rfl, by rw [List.length_append, List.length_singleton]; omega, ?_, fun y hy => ?_⟩
        · rw [List.pairwise_append]
          exact ⟨hsa, List.pairwise_singleton _ _, fun x hx y hy => by rw [List.mem_singleton.mp hy]; exact (hsm x hx).2⟩
        · rcases List.mem_append.mp hy with hy | hy
          · have := hsm y hy
            omega
          · rw [List.mem_singleton.mp hy]
            omega
      · exact ⟨x3.trans x4, w4, ss, x4 _ _ Dw.1 hD, by omega, hsa, fun y hy => by have := hsm y hy; omega⟩
    · obtain ⟨x3, w3, ss, hD, hsl, hsa, hsm⟩ := h3
      have S3 := S.exw x3 hw w3
      refine ⟨.ref D, rfl, D, rfl, ⟨_, sql hD⟩, fun E2 nE => ?_⟩
      have Ew := w3.ne2 nE
      have nE0 : H E2 = none := x3.gone Ew.1 nE
      have DE : D ≠ E2 := ne_of_none hD nE
      refine lc_list (xs := ss.map V.int) (fun i H4 => Exw a H3 H4 ∧ Wl a c H4 ∧ H4 D = some (.lst (ss.map V.int)) ∧ ∃ (us : List V) (ds : List Dat), H4 E2 = some (.lst us) ∧ us.length = i ∧ Paired (DtAt K H4) us ds ∧ ds.map srcT = ss.take i ∧ ∀ d ∈ ds, WdD r N d)
        ⟨(Exw.refl a H3).new nE, w3.put Ew, by rw [upd_ne DE]; exact hD, [], [], upd_same, rfl, .nil, rfl, fun _ h => nomatch h⟩ (fun i H4 _ h4 => sql h4.2.2.1) (fun i x H4 hx h4 => ?_) (fun H4 h4 => ?_)
      · obtain ⟨z, hz, rfl⟩ := map_at hx
        obtain ⟨x4, w4, hD4, us, ds, hE, hul, hpr, hds, hW⟩ := h4
        have hzm := hsm z (List.mem_of_getElem? hz)
        have S4 := S3.exw x4 w3 w4
        refine ⟨rfl, .int z, rfl, (by show 1 ≤ sizeLine; decide), fun t ot nt hot => ?_⟩
        have s5 := same_upd (o := .frz ot (.tup [.int z])) nt
        have ht5 : Ptp (upd H4 t (.frz ot (.tup [.int z]))) t [.int z] := ⟨ot, upd_same, hot⟩
        have w5 := w4.same s5
        obtain ⟨nm, kvs, hp5, hkl, hall⟩ := S4.exw (Same.exw s5) w4 w5
        have hE5 := s5 _ _ hE
        generalize upd H4 t (.frz ot (.tup [.int z])) = H5 at s5 ht5 w5 hp5 hall hE5 ⊢
        obtain ⟨l, hv, lna, ls, hl, hl0, hl10, hls⟩ := hall z hzm.1 (by omega)
        refine ⟨.ref a, rfl, .ref p, rfl, .int z, rfl, p, .ref l, rfl, .inl ⟨kvs, Sum.inl z, .inl hp5, rfl, hv.symm⟩, a, c, l, ls, rfl, w5, lna, hl, hl0, by omega, fun H6 x x6 w6 hx => ?_⟩
        obtain ⟨d, hd, cc, hcc, rfl⟩ := hls x hx
        have hd6 := hd.keep (kpD_exw x6 w5 w6)
        obtain ⟨b, ys, rfl, g1, g2, g3⟩ := hd6.tup
        have ht6 := (kpD_exw x6 w5 w6).t _ _ ht5
        have hyl : ys.length = 2 := Paired.length g3
        refine ⟨t, b, [.int z], ys, rfl, rfl, ht6, g1, (by rw [hyl]; show 1 + 2 ≤ sizeLine; decide), fun e H7 s7 he7 => ?_⟩
        have x57 := x6.same s7
        have w7 := w6.same s7
        have hE7 := x57 _ _ Ew.1 hE5
        have x47 : Exw a H4 H7 := (Same.exw s5).trans x57
        have dE : DtAt K H7 (.ref e) (trD r N z cc) := DtAt.mk he7 (by rw [List.length_append, hyl]; show 1 + 2 ≤ 5000; decide) (.cons (.lf ⟨rfl, nat_le (by omega) (by omega : z ≤ 9) (by omega)⟩) (paired_imp (fun _ _ h => h.same s7) g3))
        have kp : KpD H7 (upd H7 E2 (.lst (us ++ [V.ref e]))) := kpD_list hE7
        refine ⟨us, hE7, ?_, (x4.trans x47).put nE, w7.put Ew, by rw [upd_ne DE]; exact x47 _ _ Dw.1 hD4, us ++ [.ref e], ds ++ [trD r N z cc], upd_same, by rw [List.length_append, hul]; rfl, ?_, ?_, fun y hy => ?_⟩
        · have := (List.getElem?_eq_some_iff.mp hz).1
          rw [sizeLine_eq]
          omega
        · exact paired_snoc (paired_imp (fun _ _ h => (h.keep ((kpD_exw x47 w4 w7))).keep kp) hpr) (dE.keep kp)
        · rw [List.map_append, hds, List.take_add_one, hz]
          rfl
        · rcases List.mem_append.mp hy with hy | hy
          · exact hW y hy
          · rw [List.mem_singleton.mp hy]
            exact ⟨z, cc, hzm.1, by omega, hcc, rfl⟩
      · obtain ⟨x4, w4, hD4, us, ds, hE, hul, hpr, hds, hW⟩ := h4
        rw [List.length_map] at hul
        rw [List.length_map, List.take_length] at hds
        refine ⟨E2, us, rfl, sql hE, fun b o nb ho => ?_⟩
        have s5 := same_upd (o := .frz o (.tup us)) nb
        have hdl : ds.length ≤ 9 := by
          have := congrArg List.length hds
          rw [List.length_map] at this
          omega
        have asc : AscD ds := by
          have : (ds.map srcT).Pairwise (· < ·) := by rw [hds]; exact hsa
          exact List.pairwise_map.mp this
        have := Paired.length hpr
        exact q _ b ds ((x3.trans x4).same s5) (w4.same s5) (DtAt.mk ⟨o, upd_same, ho⟩ (by omega) (paired_imp (fun _ _ h => h.same s5) hpr)) asc hW hdl
end
end Kb

namespace L2
open PySem PySem.Spec PyProof.Rows SrtO SrtZ
/-- a set of texts, in such a table as a walk wants -/
structure StrS (P : Program) (w : World) (h : Heap) (a : Addr) (S : Str → Bool) (n : Nat) (es : Array (Int × Value)) (ep : Nat) (t : SetTable) : Prop where
  ob : ∃ o, h.get? a = some o ∧ o.ExactSet ∧ o.data = .set es ep t
  el : ElemsOf (strKind P w) es.toList
  is_ : ∀ k : Str, S k = true ↔ ∃ e, e ∈ es.toList ∧ (strKind P w).is k e.2 = true
  lt : es.size < scanBound
  fits : t.fits es.size = true
  sz : es.size = n
  ris : Ris t.place.toList
  led : w.params.followText "set-order" = true ∨ t.led = true
def StrSet (P : Program) (w : World) (h : Heap) (a : Addr) (S : Str → Bool) (n : Nat) : Prop := ∃ es ep t, StrS P w h a S n es ep t
section
variable {P : Program} {w : World} {A : Around} {E : Value → Shared → Prop} {s : Shared} {a : Addr}
theorem strS_store {h : Heap} {o : Obj} {es0 : Array (Int × Value)} {ep : Nat} {t0 : SetTable} (h1 : h.get? a = some o) (h2 : o.ExactSet) (h3 : o.data = .set es0 ep t0) {es : Array (Int × Value)} {t : SetTable} {S : Str → Bool}
    (el : ElemsOf (strKind P w) es.toList) (is_ : ∀ k : Str, S k = true ↔ ∃ e, e ∈ es.toList ∧ (strKind P w).is k e.2 = true) (lt : es.size < scanBound) (fits : t.fits es.size = true) (ris : Ris t.place.toList) (led : w.params.followText "set-order" = true ∨ t.led = true) :
    StrS P w (h.update a (Obj.putSet es t)) a S es.size es (ep + 1) t :=
  ⟨⟨_, (SetOf_store (knd := strKind P w) h1 h2 h3 el is_ lt fits).1, h2, rfl⟩, el, is_, lt, fits, rfl, ris, led⟩
theorem strS_tail {g : Bool → Sem Unit} (hg : ∀ (b : Bool) (s₁ : Shared) (Q' : Unit → Shared → Prop), Q' () s₁ → wpAny (model P w) A (g b) Q' E s₁) {o : Obj} {es : Array (Int × Value)} {ep : Nat} {t : SetTable} (h1 : s.heap.get? a = some o) (h2 : o.ExactSet) (h3 : o.data = .set es ep t)
    {es1 : Array (Int × Value)} {t2 : SetTable} {S' : Str → Bool} (el : ElemsOf (strKind P w) es1.toList) (is_ : ∀ k : Str, S' k = true ↔ ∃ e, e ∈ es1.toList ∧ (strKind P w).is k e.2 = true) (lt : es1.size < scanBound) (fits : t2.fits es1.size = true) (ris : Ris t2.place.toList)
    (led : w.params.followText "set-order" = true ∨ t2.led = true) {wasDummy : Bool} {R : Option Bool → Shared → Prop}
    (q : ∀ h' : Heap, Heap.SameBut a s.heap h' → StrSet P w h' a S' es1.size → R (some true) { s with heap := h' }) :
    wpAny (model P w) A (do
      storeSet a es1 t2
      if (!wasDummy && t2.tooFull) = true then do
          g (relayAll t2 es1 (SetTable.grown es1.size)).2.2
          storeSet a (relayAll t2 es1 (SetTable.grown es1.size)).1 (relayAll t2 es1 (SetTable.grown es1.size)).2.1
          pure (some true)
        else pure (some true)) R E s := by
  have st := strS_store (P := P) (w := w) h1 h2 h3 el is_ lt fits ris led
  refine wpAny_bind (wpAny_storeSet_of h1 h3 ?_ (fits_of_scanBound lt))
  obtain ⟨o1, k1, k2, k3⟩ := st.ob
  split
  · refine wpAny_bind (hg _ _ _ ?_)
    have pm := relayAll_perm t2 es1 (SetTable.grown es1.size)
    have sz : (relayAll t2 es1 (SetTable.grown es1.size)).1.size = es1.size := by
      have := pm.length_eq
      simpa using this
    refine wpAny_bind (wpAny_storeSet_of k1 k3 ?_ (by rw [sz]; exact fits_of_scanBound lt))
    refine wpAny_pure ?_
    have st2 := strS_store (P := P) (w := w) (S := S') k1 k2 k3 (el.perm pm) (fun k => (is_ k).trans ⟨fun ⟨e, he, hk⟩ => ⟨e, pm.mem_iff.mpr he, hk⟩, fun ⟨e, he, hk⟩ => ⟨e, pm.mem_iff.mp he, hk⟩⟩) (by rw [sz]; exact lt) (relayAll_fits _ _ _) (relayAll_ris _ _ _) (by rw [relayAll_led]; exact led)
    rw [sz] at st2
    exact q _ (Heap.SameBut.trans (Heap.SameBut.update _ _ _) (Heap.SameBut.update _ _ _)) ⟨_, _, _, st2⟩
  · exact wpAny_pure (q _ (Heap.SameBut.update _ _ _) ⟨_, _, _, st⟩)
theorem gave_of {g : Bool → Sem Unit} (h1 : g true = rule "set.scan.the-table-gave-way") (h2 : g false = pure ()) : ∀ (b : Bool) (s₁ : Shared) (Q' : Unit → Shared → Prop), Q' () s₁ → wpAny (model P w) A (g b) Q' E s₁ := fun b s₁ Q' h => by
  cases b
  · rw [h2]
    exact wpAny_pure h
  · rw [h1]
    exact wpAny_rule h
theorem strS_add {S : Str → Bool} {n : Nat} {z : Str} {tk : Tok} {Q : Bool → Shared → Prop} (h : StrSet P w s.heap a S n) (hn : n + 1 < scanBound)
    (q : ∀ (b : Bool) (h' : Heap), Heap.SameBut a s.heap h' → StrSet P w h' a (fun k => S k || decide (k = z)) (if S z = true then n else n + 1) → Q b { s with heap := h' }) :
    wpAny (model P w) A (setAddHashed a (.str z tk) ((strKind P w).hash z)) Q E s := by
  obtain ⟨es, ep, t, ⟨⟨o, h1, h2, h3⟩, el, is_, lt, fits, sz, ris, led⟩⟩ := h
  subst sz
  unfold setAddHashed
  refine wpAny_holding ?_
  rw [setAddHashedIn.eq_def]
  dsimp only
  refine wpAny_bind (wpAny_setState_of h1 h3 fits ?_)
  dsimp only
  have hb : byScan (.str z tk) es = true := by
    unfold byScan
    rw [decide_eq_true lt]
    simp only [Bool.and_eq_true]
    refine ⟨⟨rfl, trivial⟩, ?_⟩
    rw [Array.all_eq_true']
    intro e he
    exact (el e (by simpa using he)).2
  rw [if_pos hb]
  refine wpAny_bind ?_
  unfold setAddByScan
  refine wpAny_bind (wpAny_rule ?_)
  have hk := strKind_is P w z tk
  refine wpAny_bind (wpAny_setScan_of hk h1 h3 fits el ?_)
  cases hf : List.findIdx? (fun e => (strKind P w).is z e.2) es.toList with
  | some j =>
    dsimp only
    refine wpAny_pure ?_
    dsimp only
    refine wpAny_pure ?_
    have hS : S z = true := by
      obtain ⟨hlt, hj, _⟩ := List.findIdx?_eq_some_iff_getElem.mp hf
      exact (is_ z).mpr ⟨_, List.getElem_mem hlt, hj⟩
    refine q _ _ (Heap.SameBut.refl _ _) ?_
    rw [if_pos hS]
    refine ⟨es, ep, t, ⟨⟨o, h1, h2, h3⟩, el, fun k => ?_, lt, fits, rfl, ris, led⟩⟩
    rw [← is_ k]
    by_cases hkz : k = z
    · subst hkz
      rw [hS]
      rfl
    · rw [decide_eq_false hkz, Bool.or_false]
  | none =>
    dsimp only
    have hS : S z = false := by
      cases e : S z with
      | false => rfl
      | true =>
        obtain ⟨e, he, hke⟩ := (is_ z).mp e
        have := List.findIdx?_eq_none_iff.mp hf e he
        rw [hke] at this
        cases this
    have pm := layNew_perm t es ((strKind P w).hash z) (.str z tk)
    have fi := layNew_fits t es ((strKind P w).hash z) (.str z tk)
    have ri := layNew_ris t es ((strKind P w).hash z) (.str z tk) ris
    have le := layNew_led t es ((strKind P w).hash z) (.str z tk)
    generalize layNew t es ((strKind P w).hash z) (.str z tk) = y at pm fi ri le ⊢
    obtain ⟨es1, t1, wasDummy, gave⟩ := y
    dsimp only at pm fi ri le ⊢
    have sz1 : es1.size = es.size + 1 := by
      have := pm.length_eq
      simpa using this
    have el1 : ElemsOf (strKind P w) es1.toList := fun e he => by
      have := pm.mem_iff.mp he
      rw [Array.toList_push, List.mem_append] at this
      rcases this with h | h
      · exact el e h
      · rw [List.mem_singleton.mp h]
        exact ⟨⟨z, hk, rfl⟩, rfl⟩
    have is1 : ∀ k : Str, (S k || decide (k = z)) = true ↔ ∃ e, e ∈ es1.toList ∧ (strKind P w).is k e.2 = true := fun k => by
      rw [Bool.or_eq_true, is_ k, decide_eq_true_eq]
      constructor
      · rintro (⟨e, he, h⟩ | rfl)
        · exact ⟨e, pm.mem_iff.mpr (by rw [Array.toList_push, List.mem_append]; exact .inl he), h⟩
        · exact ⟨_, pm.mem_iff.mpr (by rw [Array.toList_push, List.mem_append]; exact .inr (List.mem_singleton.mpr rfl)), hk⟩
      · rintro ⟨e, he, h⟩
        have := pm.mem_iff.mp he
        rw [Array.toList_push, List.mem_append] at this
        rcases this with h' | h'
        · exact .inl ⟨e, h', h⟩
        · rw [List.mem_singleton.mp h'] at h
          exact .inr ((strKind P w).inj _ _ _ h hk)
    have led1 : w.params.followText "set-order" = true ∨ t1.led = true := by rw [le]; exact led
    have fin : ∀ h' : Heap, Heap.SameBut a s.heap h' → StrSet P w h' a (fun k => S k || decide (k = z)) es1.size → Q true { s with heap := h' } := fun h' sb st => by
      refine q true h' sb ?_
      rw [hS, if_neg (by decide), ← sz1]
      exact st
    refine wpAny_bind (gave_of (by rfl) (by rfl) gave _ _ ?_)
    split
    · refine wpAny_bind ?_
      show wpAny _ _ (pure false) _ _ _
      refine wpAny_pure ?_
      rw [if_neg (by decide)]
      refine strS_tail (t2 := { t1 with plain := false }) ?hg1 h1 h2 h3 el1 is1 (by omega) fi ri led1 ?q1
      case q1 => exact fun h' sb st => wpAny_pure (fin h' sb st)
      case hg1 => exact gave_of (by rfl) (by rfl)
    · refine wpAny_bind (wpAny_pure ?_)
      rw [if_pos rfl]
      refine strS_tail ?hg2 h1 h2 h3 el1 is1 (by omega) fi ri led1 ?q2
      case q2 => exact fun h' sb st => wpAny_pure (fin h' sb st)
      case hg2 => exact gave_of (by rfl) (by rfl)
theorem StrSet.keep {S : Str → Bool} {n : Nat} {h h' : Heap} (st : StrSet P w h a S n) (k : ∀ o, h.get? a = some o → h'.get? a = some o) : StrSet P w h' a S n := by
  obtain ⟨es, ep, t, ⟨⟨o, h1, h2, h3⟩, el, is_, lt, fits, sz, ris, led⟩⟩ := st
  exact ⟨es, ep, t, ⟨⟨o, k o h1, h2, h3⟩, el, is_, lt, fits, sz, ris, led⟩⟩
theorem StrSet.congr {S S' : Str → Bool} {n : Nat} {h : Heap} (st : StrSet P w h a S n) (e : ∀ k, S k = S' k) : StrSet P w h a S' n := by
  rw [← show S = S' from funext e]
  exact st
def hasZ (xs : List Str) (i : Nat) : Str → Bool := fun k => (xs.take i).any fun x => decide (x = k)
theorem hasZ_snoc {xs : List Str} {i : Nat} {x : Str} (h : xs[i]? = some x) (k : Str) : hasZ xs (i + 1) k = (hasZ xs i k || decide (k = x)) := by
  unfold hasZ
  rw [List.take_add_one, h, List.any_append]
  congr 1
  show (decide (x = k) || false) = _
  rw [Bool.or_false]
  by_cases e : x = k
  · rw [decide_eq_true e, decide_eq_true e.symm]
  · rw [decide_eq_false e, decide_eq_false (Ne.symm e)]
/-- how many unlike ones stand before i -/
def dcz (xs : List Str) : Nat → Nat
  | 0 => 0
  | i + 1 => dcz xs i + (match xs[i]? with | some x => (if hasZ xs i x = true then 0 else 1) | none => 0)
theorem dcz_snoc {xs : List Str} {i : Nat} {x : Str} (h : xs[i]? = some x) : dcz xs (i + 1) = dcz xs i + (if hasZ xs i x = true then 0 else 1) := by
  show dcz xs i + _ = _
  rw [h]
theorem dcz_le (xs : List Str) : ∀ i, dcz xs i ≤ i
  | 0 => Nat.le_refl _
  | i + 1 => by
    have := dcz_le xs i
    show dcz xs i + _ ≤ i + 1
    split
    · split <;> omega
    · omega
theorem strS_loop {R : Result → Shared → Prop} {I : Addr} {fp wr : List Addr} {G : Array GenState → Array GenState → Prop} {n : Nat} {Pv : Nat → Value → Prop} {St : Nat → Shared → Prop} (wk : WalksS P w A.in1 I fp wr G n Pv St) (S : Addr) (hS : S ∉ fp) (xs : List Str) (hl : xs.length = n) (hn : n + 1 < scanBound)
    (hv : ∀ i v, Pv i v → ∃ x t, xs[i]? = some x ∧ v = Value.str x t) : ∀ (k i : Nat) (s : Shared), n - i = k → i ≤ n → St i s → (∃ m, m ≤ dcz xs i ∧ StrSet P w s.heap S (hasZ xs i) m) →
    (∀ s' : Shared, Moved (S :: wr) G s s' → (∃ m, m ≤ dcz xs n ∧ StrSet P w s'.heap S (hasZ xs n) m) → R (.ok (.ret .none)) s') →
    codeAny (model P w) A (.builtin "set.update.loop" { pos := [.ref S, .ref I] }) R s := by
  intro k
  induction k with
  | zero =>
    intro i s hk hi st ⟨m, hm, ss⟩ q
    have : i = n := by omega
    subst this
    refine codeAny_builtin F.entry_set_update_loop ?_
    rw [Around.under_plainId F.plain_set_update_loop]
    unfold Builtin.«set.update.loop»
    dsimp only
    refine wpAny_bind (wk.done s _ _ st fun s' mv => ?_)
    dsimp only
    refine wpAny_pure ?_
    dsimp only
    refine q s' (mv.mono fun b hb => List.mem_cons_of_mem _ hb) ⟨m, hm, ss.keep fun o e => mv.heap _ _ (fun z => hS (wk.sub _ z)) e⟩
  | succ k ih =>
    intro i s hk hi st ⟨m, hm, ss⟩ q
    refine codeAny_builtin F.entry_set_update_loop ?_
    rw [Around.under_plainId F.plain_set_update_loop]
    unfold Builtin.«set.update.loop»
    dsimp only
    refine wpAny_bind (wk.item i s _ _ (by omega) st fun v s' hp st' mv => ?_)
    obtain ⟨x, t, hx, rfl⟩ := hv i v hp
    dsimp only
    refine wpAny_bind (wpAny_holding ?_)
    unfold setAdd
    refine wpAny_holding (wpAny_bind ((strKind P w).pyHash (strKind_is P w x t) ?_))
    have ss' : StrSet P w s'.heap S (hasZ xs i) m := ss.keep fun o e => mv.heap _ _ (fun z => hS (wk.sub _ z)) e
    refine strS_add (s := { s' with toks := s'.toks + 1 }) ss' (by have := dcz_le xs i; omega) fun b h' sb ss2 => ?_
    refine wpAny_pure ?_
    refine ⟨plainId_quiet F.plain_set_update_loop _, ?_⟩
    have fr := wk.frame (i + 1) s' h' (s'.toks + 1) st' (Nat.le_succ _) fun b hb o e => by
      rw [sb.2 b (fun z => hS (z ▸ hb))]
      exact e
    refine ih (i + 1) _ (by omega) (by omega) fr ⟨_, ?_, ss2.congr fun k => (hasZ_snoc hx k).symm⟩ fun s2 mv2 ss3 => ?_
    · rw [dcz_snoc hx]
      split <;> omega
    · refine q s2 (Moved.trans (wk.gtrans) ?_ mv2) ss3
      refine (mv.mono fun b hb => List.mem_cons_of_mem _ hb).then_heap (Nat.le_succ _) fun b o hb e => ?_
      rw [sb.2 b (fun z => hb (z ▸ List.mem_cons_self))]
      exact e
end
end L2

namespace L2
open PySem PySem.Spec PyProof.Rows SrtO SrtZ
section
variable {P : Program} {w : World} {A : Around} {E : Value → Shared → Prop} {s : Shared} {a : Addr}
theorem call_set_init {self x : Value} {Q : Value → Shared → Prop} (hty : s.TypeIs self "set") (h : wpAny (model P w) A.in1 (Builtin.«set.__init__» { pos := [self, x] }) (fun fin s' => ∃ v, fin = Fin.done (.ret v) ∧ Q v s') E s) : wpAny (model P w) A (call (.builtin "set.__init__") [self, x]) Q E s := by
  refine wpAny_call (codeAny_call_builtin F.called_set.init.plain F.entry_set_init (check_set_init_1 hty (wpAny_mono h ?_ ?_)))
  · rintro fin s' ⟨v, rfl, hq⟩
    exact hq
  · exact fun _ _ h => h
theorem call_set_strs {l : Addr} {items : Array Value} {xs : List Str} {Q : Value → Shared → Prop} (hA : A.handled = none) (hl : s.heap.IsList l items) (hx : StrsAre items.toList xs) (hn : xs.length + 1 < scanBound)
    (q : ∀ (h' : Heap) (tk m : Nat), m ≤ dcz xs xs.length → StrSet P w h' s.heap.objs.size (hasZ xs xs.length) m → (∀ b o, s.heap.get? b = some o → h'.get? b = some o) → Q (.ref s.heap.objs.size) { s with heap := h', toks := tk }) :
    wpAny (model P w) A (call (.type "set") [.ref l]) Q E s := by
  have T := F.called_set
  obtain ⟨c, tl, hm⟩ := T.mro
  refine wpAny_call (codeAny_of_tree (wpAny_pure ⟨Code.quiet_builtin _ (by decide +kernel), ?_⟩))
  refine codeAny_builtin F.entry_type_call ?_
  rw [Around.under_plain (weight_type_call_type "set" [.ref l] []) rfl]
  unfold Builtin.«type.__call__»
  dsimp only
  rw [if_neg (by rw [T.notType]; decide), if_neg (by rw [show _ = false from T.canCreate]; decide)]
  rw [F.typeCall_set_1]
  refine wpAny_bind (wpAny_pure ?_)
  refine wpAny_bind (wpAny_of_eq hm ?_)
  rw [if_neg (by simp)]
  refine wpAny_bind (wpAny_of_eq T.made ?_)
  dsimp only
  refine wpAny_bind (wpAny_pure ?_)
  refine wpAny_bind (wpAny_holding (wpAny_call ?_))
  refine codeAny_mono (code_set_led1 (E := E) (Q₁ := fun v s' => v = .ref s.heap.objs.size ∧ s' = { s with heap := s.heap.push { cls := .type "set", data := .set #[] 0 (SetTable.fresh 0 0 !w.params.followText "set-order") } }) (.ref l) ⟨rfl, rfl⟩) fun r s' h => ?_
  match r, h with
  | .ok (.ret v), h =>
    obtain ⟨rfl, rfl⟩ := h
    dsimp only
    generalize hob : ({ cls := .type "set", data := .set #[] 0 (SetTable.fresh 0 0 !w.params.followText "set-order") } : Obj) = ob
    have hnew : (s.heap.push ob).get? s.heap.objs.size = some ob := Heap.get?_push_size _ (by rw [← hob]; rfl)
    have hty : ({ s with heap := s.heap.push ob } : Shared).TypeIs (.ref s.heap.objs.size) "set" := ⟨ob, hnew, by rw [← hob]⟩
    refine wpAny_bind (wpAny_isInstance hty T.sub ?_)
    rw [if_neg (by decide)]
    refine wpAny_bind (wpAny_holding ?_)
    unfold callSpecial?
    refine wpAny_bind (wpAny_specialOf hty T.init.lookup ?_)
    dsimp only
    refine wpAny_holding (wpAny_bind (wpAny_of_eq (T.init.bind _) ?_))
    dsimp only
    refine wpAny_bind (call_set_init hty ?_)
    unfold Builtin.«set.__init__»
    dsimp only
    refine wpAny_bind ?_
    unfold noKeywords
    rw [if_pos (by rfl)]
    refine wpAny_pure ?_
    unfold typeNameOfCut
    refine wpAny_bind (wpAny_bind ?_)
    unfold shownTypeOf
    refine wpAny_bind (wpAny_typeOf hty ?_)
    rw [if_neg (by decide +kernel)]
    refine wpAny_pure ?_
    unfold typeNameCut
    dsimp only
    unfold typeName
    refine wpAny_pure ?_
    refine wpAny_bind (show wpAny _ _ (pure ()) _ _ _ from wpAny_pure ?_)
    refine wpAny_bind (show wpAny _ _ (pure _) _ _ _ from wpAny_pure ?_)
    unfold setUsed
    have hfr : (SetTable.fresh 0 0 !w.params.followText "set-order").fits (#[] : Array (Int × Value)).size = true := rfl
    have hdat : ob.data = .set #[] 0 (SetTable.fresh 0 0 !w.params.followText "set-order") := by rw [← hob]
    refine wpAny_bind (wpAny_bind (wpAny_setState_of hnew hdat hfr (wpAny_pure ?_)))
    rw [if_neg (by simp [SetTable.fresh, SetTable.fill])]
    refine wpAny_bind ?_
    unfold Builtin.Frozenset.updateFrom Builtin.Frozenset.isAnySet
    obtain ⟨lo, hlo, hlc, hld⟩ := id hl
    have htl : ({ s with heap := s.heap.push ob } : Shared).TypeIs (.ref l) "list" := ⟨lo, Heap.get?_push_of_some _ hlo, hlc⟩
    refine wpAny_bind ?_
    unfold orM
    refine wpAny_bind (wpAny_isInstance htl F.sub_list_set ?_)
    refine wpAny_isInstance htl F.sub_list_frozenset ?_
    rw [if_neg (by decide)]
    refine wpAny_bind (wpAny_typeOf htl ?_)
    rw [if_neg (by decide +kernel)]
    refine wpAny_bind (wpAny_pyIter_list (hl.push ob) ?_)
    refine wpAny_bind (wpAny_runValue ?_)
    have hnl : s.heap.objs.size ≠ l := fun z => absurd (Heap.lt_size hlo) (by rw [← z]; exact Nat.lt_irrefl _)
    have isz : (s.heap.push ob).objs.size = s.heap.objs.size + 1 := size_push' _ _
    have hlI : l ≠ (s.heap.push ob).objs.size := fun z => by
      have h0 := Heap.lt_size hlo
      rw [z, isz] at h0
      exact Nat.not_lt.mpr (Nat.le_succ _) h0
    have hA2 : (A.in1.in1.in1).handled = none := hA
    have wk := (Walks.list (prog := P) (w := w) hA2 (s.heap.push ob).objs.size l hlI items).toS
    have hlen : xs.length = items.size := by
      have := hx.len_eq
      simpa using this.symm
    have hfp : s.heap.objs.size ∉ [(s.heap.push ob).objs.size, l] := fun z => by
      rcases List.mem_cons.mp z with z | z
      · omega
      · exact hnl (List.mem_singleton.mp z)
    have st0 : StrSet P w ((s.heap.push ob).push { cls := .type "list_iterator", data := .fields #[.ref l, .int 0 0] }) s.heap.objs.size (hasZ xs 0) 0 := by
      refine ⟨#[], 0, _, ⟨⟨ob, Heap.get?_push_of_some _ hnew, ?_, hdat⟩, (fun e he => by simp at he), fun k => ?_, (by decide), hfr, rfl, List.Pairwise.nil, ?_⟩⟩
      · rw [← hob]
        exact ⟨rfl, rfl, rfl⟩
      · unfold hasZ
        simp
      · show _ ∨ (!w.params.followText "set-order") = true
        cases w.params.followText "set-order" <;> simp
    refine strS_loop wk s.heap.objs.size hfp xs hlen (by omega) (fun i v hv => ?_) items.size 0 _ rfl (Nat.zero_le _) ⟨⟨_, Heap.get?_push_size _ rfl, rfl, rfl⟩, (hl.push ob).push _⟩ ⟨0, Nat.le_refl _, st0⟩ fun s' mv hs => ?_
    · obtain ⟨t, ht⟩ := SS.strs_at hx i v (by simpa using hv)
      have hi : i < xs.length := by
        rw [hlen]
        exact (Array.getElem?_eq_some_iff.mp hv).1
      exact ⟨_, t, List.getElem?_eq_getElem hi, by rw [ht]; simp [List.getD, hi]⟩
    obtain ⟨m, hm, ss⟩ := hs
    rw [← hlen] at hm ss
    dsimp only
    refine wpAny_pure (wpAny_pure ⟨_, rfl, wpAny_pure ?_⟩)
    dsimp only
    rw [if_neg (by decide)]
    refine wpAny_pure ?_
    dsimp only
    obtain ⟨h', g', d', tk', os'⟩ := s'
    have e1 := mv.gens
    have e2 := mv.drawn
    have e3 := mv.os
    dsimp only at e1 e2 e3 ss ⊢
    subst e1 e2 e3
    refine q h' tk' m hm ss fun b o e => mv.heap b o (fun z => ?_) (Heap.get?_push_of_some _ (Heap.get?_push_of_some _ e))
    have hb := Heap.lt_size e
    rcases List.mem_cons.mp z with z | z
    · rw [z] at hb
      exact absurd hb (Nat.lt_irrefl _)
    · rw [List.mem_singleton.mp z, isz] at hb
      exact Nat.not_lt.mpr (Nat.le_succ _) hb
  | .error e, h => exact h
end
end L2

namespace L2
open PySem PySem.Spec PyProof.Rows SrtO SrtZ
section
variable {P : Program} {w : World} {A : Around} {E : Value → Shared → Prop} {s : Shared} {a : Addr}
theorem isStr_of {z : Str} {v : Value} (h : (strKind P w).is z v = true) : ∃ t, v = .str z t := by
  cases v with
  | str x t =>
    have h := (strKind P w).inj (.str x t) z x h (strKind_is P w x t)
    exact ⟨t, by rw [h]⟩
  | _ => exact absurd h (by first | decide | (intro z; cases z))
theorem sorted_strS {S : Str → Bool} {n : Nat} {Q : Value → Shared → Prop} (hs : StrSet P w s.heap a S n) (hA : A.handled = none)
    (q : ∀ (s' : Shared) (p : Nat) (ys : List Str) (out : List Value), (∀ b o, s.heap.get? b = some o → s'.heap.get? b = some o) → s'.gens = s.gens → s'.os = s.os → s.heap.objs.size ≤ p → (∃ c, s'.heap.get? p = some (seqObj "list" out.toArray c)) → StrsAre out ys → (∀ z, z ∈ ys ↔ S z = true) → ys.length = n → Srtd ltZ ys → Q (.ref p) s') :
    wpAny (model P w) A (call (.builtin "sorted") [.ref a]) Q E s := by
  obtain ⟨es, ep, t, ⟨⟨o, h1, h2, h3⟩, el, is_, lt, fits, sz, ris, led⟩⟩ := hs
  subst sz
  refine call_function_entry_kw kind_sorted plain_sorted entry_sorted (args_sorted1 _) ?_
  unfold Builtin.«sorted»
  refine wpAny_bind (m := checkCount "sorted" 1 1 _) (wpAny_pure ?_)
  refine wpAny_bind (collect_set (A := A.in1) hA ⟨o, h1, h2.1, h3⟩ fits lt ris led fun s1 vs kp1 sz1 g1 os1 pm => ?_)
  have vl : vs.length = es.size := by
    have := pm.length_eq
    simpa using this
  have isS : ∀ v ∈ vs, ∃ x t, v = Value.str x t := fun v hv => by
    obtain ⟨e, he, rfl⟩ := List.mem_map.mp (pm.mem_iff.mp hv)
    obtain ⟨⟨k, hk, _⟩, _⟩ := el e he
    obtain ⟨t, ht⟩ := isStr_of hk
    exact ⟨k, t, ht⟩
  have hz : vs.length ≤ sizeLine := by rw [vl]; exact fits_of_scanBound lt
  refine wpAny_bind (wpAny_newList ?_ hz)
  have hoL : (s1.heap.push (seqObj "list" vs.toArray 0)).get? s1.heap.objs.size = some (seqObj "list" vs.toArray 0) := Heap.get?_push_size _ rfl
  refine wpAny_bind (wpAny_holding (wpAny_call_entry_kw slot_list_sort ⟨_, hoL, rfl⟩ entry_list_sort ?_ (args_list_sort _)))
  rw [plain_rev]
  refine SrtR.list_sort_ordR (s := { s1 with heap := s1.heap.push (seqObj "list" vs.toArray 0) }) (b := false) (ltv := ltSv) swo_str hoL hz (fun h2 => strs_sortable (strsAre_map vs isS) h2) fun out hs hb => ⟨_, rfl, ?_⟩
  refine wpAny_pure ⟨_, rfl, ?_⟩
  have pm2 : out.Perm vs := by
    have := hb.perm
    rwa [if_neg (by decide)] at this
  have isO : ∀ v ∈ out, ∃ x t, v = Value.str x t := fun v hv => isS v (pm2.mem_iff.mp hv)
  refine q _ _ (out.map strOf) out (fun b u e => ?_) g1 os1 sz1 (sortedHeap_at hoL) (strsAre_map out isO) (fun z => ?_) ?_ (srtd_map hs)
  · have k1 := kp1 b u e
    exact (sortedHeap_old (Nat.ne_of_lt (Heap.lt_size k1)) (Heap.lt_size (Heap.get?_push_of_some _ k1))).trans (Heap.get?_push_of_some _ k1)
  · rw [is_ z]
    constructor
    · intro h
      obtain ⟨v, hv, rfl⟩ := List.mem_map.mp h
      obtain ⟨e, he, rfl⟩ := List.mem_map.mp (pm.mem_iff.mp (pm2.mem_iff.mp hv))
      obtain ⟨⟨k, hk, _⟩, _⟩ := el e he
      obtain ⟨t, ht⟩ := isStr_of hk
      refine ⟨e, he, ?_⟩
      rw [ht] at hk ⊢
      exact hk
    · rintro ⟨e, he, hk⟩
      obtain ⟨t, ht⟩ := isStr_of hk
      refine List.mem_map.mpr ⟨e.2, pm2.mem_iff.mpr (pm.mem_iff.mpr (List.mem_map.mpr ⟨e, he, rfl⟩)), ?_⟩
      rw [ht]
      rfl
  · rw [List.length_map, pm2.length_eq, vl]
end
def SetS (P : Program) (w : World) (a : Addr) (S : Str → Bool) (n : Nat) : HO := .ext fun h => StrSet P w h a S n
theorem setS_ok {P : Program} {w : World} {H : Hp} {h : Heap} {a : Addr} {S : Str → Bool} {n : Nat} (st : StrSet P w h a S n) : ObjOk P w H h a (SetS P w a S n) :=
  ⟨st, (let ⟨_, _, _, ⟨⟨o, e, _⟩, _, _, _, _, _, _, _⟩⟩ := st; ⟨o, e⟩), fun h1 h2 x k => StrSet.keep x k⟩
section
variable {X : Cx}
/-- set(xs), xs a list of texts -/
def rSetOfS (K : PySem.W.Frag) (P : Program) (w : World) : List V → Hp → VK → Prop := fun xs H Q => ∃ (l : Addr) (zs : List Str), xs = [V.ref l] ∧ SqL K H l (zs.map V.str) ∧ zs.length ≤ 1000 ∧ ∀ (p : Addr) (n : Nat), H p = none → n ≤ dcz zs zs.length → Q (.ref p) (upd H p (SetS P w p (hasZ zs zs.length) n))
theorem cr_setOfS (hc : X.calm = true) : CallR X (.type "set") (rSetOfS X.K X.prog X.w) := by
  intro pins s σ H xs us Q I r h
  obtain ⟨l, zs, rfl, hS, hz, q⟩ := h
  obtain rfl := Vals.ref1 r
  obtain ⟨its, r', pl, hz'⟩ := I.list hS
  have h1 := strs_of_vals r'
  refine call_set_strs (items := its.toArray) (xs := zs) (I.ok.hd hc) pl.isList (by simpa using h1) (by show zs.length + 1 < 4096; omega) fun h' tk m hm ss kp => ?_
  have hf : H s.heap.objs.size = none := I.hok.fresh (Nat.le_refl _)
  exact ⟨.ref s.heap.objs.size, _, I.laid (t' := tk) kp (Nat.le_refl _) (setS_ok ss), rfl, q _ m hf hm⟩
/-- sorted(s), s a set of texts -/
def rSortedSS (P : Program) (w : World) : List V → Hp → VK → Prop := fun vs H Q => ∃ (a : Addr) (S : Str → Bool) (n : Nat), vs = [V.ref a] ∧ H a = some (SetS P w a S n) ∧ n ≤ 1000 ∧ ∀ (ys : List Str) (l : Addr), Srtd ltZ ys → (∀ z, z ∈ ys ↔ S z = true) → ys.length = n → H l = none → Q (.ref l) (upd H l (.lst (ys.map V.str)))
theorem cr_sortedSS (hc : X.calm = true) : CallR X (.builtin "sorted") (rSortedSS X.prog X.w) := by
  intro pins s σ H xs us Q I r h
  obtain ⟨a, S, n, rfl, ha, hn, q⟩ := h
  obtain rfl := Vals.ref1 r
  have ss : StrSet X.prog X.w s.heap a S n := (show ObjOk X.prog X.w H s.heap a (SetS X.prog X.w a S n) from I.hok a _ ha).1
  refine sorted_strS ss (I.ok.hd hc) fun s' p ys out kp g1 os1 hp hat hys hmem hlen hsrt => ?_
  obtain ⟨c, hat⟩ := hat
  have hf : H p = none := I.hok.fresh hp
  have hlen2 : (ys.map V.str).length ≤ sizeLine := by rw [List.length_map, hlen, sizeLine_eq]; omega
  have ok : ObjOk X.prog X.w (upd H p (.lst (ys.map V.str))) s'.heap p (.lst (ys.map V.str)) := ⟨hlen2, out, c, vals_of_strs hys, hat⟩
  obtain ⟨h', g', d', tk', os'⟩ := s'
  dsimp only at g1 os1 kp hat ok
  subst g1 os1
  exact ⟨.ref p, _, I.call (ch := []) (Un.laid kp hp hf) (I.hok.laid kp hp ok) I.bare (fun _ h => nomatch h), rfl, q ys p hsrt hmem hlen hf⟩
end
theorem memlen : ∀ {l m : List Str}, l.Nodup → (∀ x ∈ l, x ∈ m) → l.length ≤ m.length
  | [], _, _, _ => Nat.zero_le _
  | x :: l, m, nd, h => by
    rw [List.nodup_cons] at nd
    have hx := h x List.mem_cons_self
    have ih := memlen (l := l) (m := m.erase x) nd.2 fun y hy => (List.mem_erase_of_ne (fun z => nd.1 (by rw [← z]; exact hy))).mpr (h y (List.mem_cons_of_mem _ hy))
    rw [List.length_erase_of_mem hx] at ih
    have := List.length_pos_of_mem hx
    show l.length + 1 ≤ m.length
    omega
theorem memnd : ∀ {l m : List Str}, l.Nodup → (∀ x ∈ l, x ∈ m) → m.length ≤ l.length → m.Nodup
  | [], m, _, _, h => by
    have : m = [] := List.eq_nil_of_length_eq_zero (Nat.le_zero.mp h)
    rw [this]
    exact List.nodup_nil
  | x :: l, m, nd, h, hl => by
    have nd' := nd
    rw [List.nodup_cons] at nd
    have hx := h x List.mem_cons_self
    have hsub : ∀ y ∈ l, y ∈ m.erase x := fun y hy => (List.mem_erase_of_ne (fun z => nd.1 (by rw [← z]; exact hy))).mpr (h y (List.mem_cons_of_mem _ hy))
    have hle := List.length_erase_of_mem hx
    have hl' : m.length ≤ l.length + 1 := hl
    have ih := memnd (l := l) (m := m.erase x) nd.2 hsub (by omega)
    have hno : x ∉ m.erase x := fun z => by
      have := memlen (l := x :: l) (m := m.erase x) nd' fun y hy => by
        rcases List.mem_cons.mp hy with rfl | hy
        · exact z
        · exact hsub y hy
      have h0 : l.length + 1 ≤ (m.erase x).length := this
      have := List.length_pos_of_mem hx
      omega
    exact (List.perm_cons_erase hx).nodup_iff.mpr (List.nodup_cons.mpr ⟨hno, ih⟩)
/-- the unlike ones, each once -/
theorem dcz_list (xs : List Str) : ∀ i, i ≤ xs.length → ∃ l : List Str, l.Nodup ∧ l.length = dcz xs i ∧ ∀ z, z ∈ l ↔ hasZ xs i z = true
  | 0, _ => ⟨[], List.nodup_nil, rfl, fun z => by unfold hasZ; simp⟩
  | i + 1, h => by
    obtain ⟨l, nd, hl, hm⟩ := dcz_list xs i (by omega)
    have hx : xs[i]? = some xs[i] := List.getElem?_eq_getElem (by omega)
    generalize xs[i] = x at hx
    have hs := hasZ_snoc hx
    have hd := dcz_snoc hx
    cases e : hasZ xs i x with
    | true =>
      rw [e, if_pos rfl] at hd
      refine ⟨l, nd, by omega, fun z => ?_⟩
      rw [hm, hs, Bool.or_eq_true]
      constructor
      · exact .inl
      · rintro (h | h)
        · exact h
        · rw [of_decide_eq_true h]
          exact e
    | false =>
      rw [e, if_neg (by decide)] at hd
      refine ⟨x :: l, List.nodup_cons.mpr ⟨fun z => ?_, nd⟩, by rw [List.length_cons]; omega, fun z => ?_⟩
      · rw [hm, e] at z
        cases z
      · rw [List.mem_cons, hm, hs, Bool.or_eq_true, decide_eq_true_eq]
        exact Or.comm
theorem dcz_nd {xs ys : List Str} (h : ∀ z, z ∈ ys ↔ hasZ xs xs.length z = true) (hl : ys.length ≤ dcz xs xs.length) : ys.Nodup := by
  obtain ⟨l, nd, h1, h2⟩ := dcz_list xs xs.length (Nat.le_refl _)
  exact memnd nd (fun z hz => (h z).mpr ((h2 z).mp hz)) (by omega)
theorem hasZ_all (xs : List Str) (z : Str) : hasZ xs xs.length z = true ↔ z ∈ xs := by
  unfold hasZ
  rw [List.take_length, List.any_eq_true]
  constructor
  · rintro ⟨x, hx, e⟩
    rw [← of_decide_eq_true e]
    exact hx
  · intro h
    exact ⟨z, h, decide_eq_true rfl⟩
end L2

/-! set(a list of ints), sorted and counted -/
namespace L2
open PySem PySem.Spec PyProof.Rows SrtO SrtZ
def hasI (xs : List Int) (i : Nat) : Int → Bool := fun k => (xs.take i).any fun x => decide (x = k)
theorem hasI_snoc {xs : List Int} {i : Nat} {x : Int} (h : xs[i]? = some x) (k : Int) : hasI xs (i + 1) k = (hasI xs i k || decide (k = x)) := by
  unfold hasI
  rw [List.take_add_one, h, List.any_append]
  congr 1
  show (decide (x = k) || false) = _
  rw [Bool.or_false]
  by_cases e : x = k
  · rw [decide_eq_true e, decide_eq_true e.symm]
  · rw [decide_eq_false e, decide_eq_false (Ne.symm e)]
theorem hasI_all (xs : List Int) (k : Int) : hasI xs xs.length k = true ↔ k ∈ xs := by
  unfold hasI
  rw [List.take_length, List.any_eq_true]
  exact ⟨fun ⟨x, h, e⟩ => (of_decide_eq_true e) ▸ h, fun h => ⟨k, h, decide_eq_true rfl⟩⟩
theorem ints_at : ∀ {its : List Value} {xs : List Int}, IntsAre its xs → ∀ {i : Nat} {v : Value}, its[i]? = some v → ∃ x t, xs[i]? = some x ∧ v = Value.int x t
  | _, _, .nil, _, _, h => by cases h
  | _, _, .cons x t r, i, v, h => by
    cases i with
    | zero => cases h; exact ⟨x, t, rfl, rfl⟩
    | succ i => exact ints_at r (i := i) h
section
variable {P : Program} {w : World} {A : Around} {E : Value → Shared → Prop} {s : Shared} {a : Addr}
theorem setR_loop {R : Result → Shared → Prop} {I : Addr} {fp wr : List Addr} {G : Array GenState → Array GenState → Prop} {n : Nat} {Pv : Nat → Value → Prop} {St : Nat → Shared → Prop} (wk : WalksS P w A.in1 I fp wr G n Pv St) (S : Addr) (hS : S ∉ fp) (xs : List Int) (hl : xs.length = n) (hn : n + 1 < scanBound)
    (hv : ∀ i v, Pv i v → ∃ x t, xs[i]? = some x ∧ v = Value.int x t) : ∀ (k i : Nat) (s : Shared), n - i = k → i ≤ n → St i s → (∃ m, m ≤ i ∧ SetR w s.heap S (hasI xs i) m) →
    (∀ s' : Shared, Moved (S :: wr) G s s' → (∃ m, m ≤ n ∧ SetR w s'.heap S (hasI xs n) m) → R (.ok (.ret .none)) s') →
    codeAny (model P w) A (.builtin "set.update.loop" { pos := [.ref S, .ref I] }) R s := by
  intro k
  induction k with
  | zero =>
    intro i s hk hi st ⟨m, hm, ss⟩ q
    have : i = n := by omega
    subst this
    refine codeAny_builtin F.entry_set_update_loop ?_
    rw [Around.under_plainId F.plain_set_update_loop]
    unfold Builtin.«set.update.loop»
    dsimp only
    refine wpAny_bind (wk.done s _ _ st fun s' mv => ?_)
    dsimp only
    refine wpAny_pure ?_
    dsimp only
    refine q s' (mv.mono fun b hb => List.mem_cons_of_mem _ hb) ⟨m, hm, ss.at fun o e => mv.heap _ _ (fun z => hS (wk.sub _ z)) e⟩
  | succ k ih =>
    intro i s hk hi st ⟨m, hm, ss⟩ q
    refine codeAny_builtin F.entry_set_update_loop ?_
    rw [Around.under_plainId F.plain_set_update_loop]
    unfold Builtin.«set.update.loop»
    dsimp only
    refine wpAny_bind (wk.item i s _ _ (by omega) st fun v s' hp st' mv => ?_)
    obtain ⟨x, t, hx, rfl⟩ := hv i v hp
    dsimp only
    refine wpAny_bind (wpAny_holding ?_)
    unfold setAdd
    refine wpAny_holding (wpAny_bind ((intKind P w).pyHash (intKind_is P w x t) ?_))
    have ss' : SetR w s'.heap S (hasI xs i) m := ss.at fun o e => mv.heap _ _ (fun z => hS (wk.sub _ z)) e
    refine setR_add_hashed (s := { s' with toks := s'.toks + 1 }) ss' (by omega) fun h' sb ss2 => ?_
    refine wpAny_pure ?_
    refine ⟨plainId_quiet F.plain_set_update_loop _, ?_⟩
    have fr := wk.frame (i + 1) s' h' (s'.toks + 1) st' (Nat.le_succ _) fun b hb o e => by
      rw [sb.2 b (fun z => hS (z ▸ hb))]
      exact e
    refine ih (i + 1) _ (by omega) (by omega) fr ⟨_, ?_, ss2.congr fun k => hasI_snoc hx k⟩ fun s2 mv2 ss3 => ?_
    · split <;> omega
    · refine q s2 (Moved.trans (wk.gtrans) ?_ mv2) ss3
      refine (mv.mono fun b hb => List.mem_cons_of_mem _ hb).then_heap (Nat.le_succ _) fun b o hb e => ?_
      rw [sb.2 b (fun z => hb (z ▸ List.mem_cons_self))]
      exact e
theorem call_set_intsR {l : Addr} {items : Array Value} {xs : List Int} {Q : Value → Shared → Prop} (hA : A.handled = none) (hl : s.heap.IsList l items) (hx : IntsAre items.toList xs) (hn : xs.length + 1 < scanBound)
    (q : ∀ (h' : Heap) (tk m : Nat), m ≤ xs.length → SetR w h' s.heap.objs.size (hasI xs xs.length) m → (∀ b o, s.heap.get? b = some o → h'.get? b = some o) → Q (.ref s.heap.objs.size) { s with heap := h', toks := tk }) :
    wpAny (model P w) A (call (.type "set") [.ref l]) Q E s := by
  have T := F.called_set
  obtain ⟨c, tl, hm⟩ := T.mro
  refine wpAny_call (codeAny_of_tree (wpAny_pure ⟨Code.quiet_builtin _ (by decide +kernel), ?_⟩))
  refine codeAny_builtin F.entry_type_call ?_
  rw [Around.under_plain (weight_type_call_type "set" [.ref l] []) rfl]
  unfold Builtin.«type.__call__»
  dsimp only
  rw [if_neg (by rw [T.notType]; decide), if_neg (by rw [show _ = false from T.canCreate]; decide)]
  rw [F.typeCall_set_1]
  refine wpAny_bind (wpAny_pure ?_)
  refine wpAny_bind (wpAny_of_eq hm ?_)
  rw [if_neg (by simp)]
  refine wpAny_bind (wpAny_of_eq T.made ?_)
  dsimp only
  refine wpAny_bind (wpAny_pure ?_)
  refine wpAny_bind (wpAny_holding (wpAny_call ?_))
  refine codeAny_mono (code_set_led1 (E := E) (Q₁ := fun v s' => v = .ref s.heap.objs.size ∧ s' = { s with heap := s.heap.push { cls := .type "set", data := .set #[] 0 (SetTable.fresh 0 0 !w.params.followText "set-order") } }) (.ref l) ⟨rfl, rfl⟩) fun r s' h => ?_
  match r, h with
  | .ok (.ret v), h =>
    obtain ⟨rfl, rfl⟩ := h
    dsimp only
    generalize hob : ({ cls := .type "set", data := .set #[] 0 (SetTable.fresh 0 0 !w.params.followText "set-order") } : Obj) = ob
    have hnew : (s.heap.push ob).get? s.heap.objs.size = some ob := Heap.get?_push_size _ (by rw [← hob]; rfl)
    have hty : ({ s with heap := s.heap.push ob } : Shared).TypeIs (.ref s.heap.objs.size) "set" := ⟨ob, hnew, by rw [← hob]⟩
    refine wpAny_bind (wpAny_isInstance hty T.sub ?_)
    rw [if_neg (by decide)]
    refine wpAny_bind (wpAny_holding ?_)
    unfold callSpecial?
    refine wpAny_bind (wpAny_specialOf hty T.init.lookup ?_)
    dsimp only
    refine wpAny_holding (wpAny_bind (wpAny_of_eq (T.init.bind _) ?_))
    dsimp only
    refine wpAny_bind (call_set_init hty ?_)
    unfold Builtin.«set.__init__»
    dsimp only
    refine wpAny_bind ?_
    unfold noKeywords
    rw [if_pos (by rfl)]
    refine wpAny_pure ?_
    unfold typeNameOfCut
    refine wpAny_bind (wpAny_bind ?_)
    unfold shownTypeOf
    refine wpAny_bind (wpAny_typeOf hty ?_)
    rw [if_neg (by decide +kernel)]
    refine wpAny_pure ?_
    unfold typeNameCut
    dsimp only
    unfold typeName
    refine wpAny_pure ?_
    refine wpAny_bind (show wpAny _ _ (pure ()) _ _ _ from wpAny_pure ?_)
    refine wpAny_bind (show wpAny _ _ (pure _) _ _ _ from wpAny_pure ?_)
    unfold setUsed
    have hfr : (SetTable.fresh 0 0 !w.params.followText "set-order").fits (#[] : Array (Int × Value)).size = true := rfl
    have hdat : ob.data = .set #[] 0 (SetTable.fresh 0 0 !w.params.followText "set-order") := by rw [← hob]
    refine wpAny_bind (wpAny_bind (wpAny_setState_of hnew hdat hfr (wpAny_pure ?_)))
    rw [if_neg (by simp [SetTable.fresh, SetTable.fill])]
    refine wpAny_bind ?_
    unfold Builtin.Frozenset.updateFrom Builtin.Frozenset.isAnySet
    obtain ⟨lo, hlo, hlc, hld⟩ := id hl
    have htl : ({ s with heap := s.heap.push ob } : Shared).TypeIs (.ref l) "list" := ⟨lo, Heap.get?_push_of_some _ hlo, hlc⟩
    refine wpAny_bind ?_
    unfold orM
    refine wpAny_bind (wpAny_isInstance htl F.sub_list_set ?_)
    refine wpAny_isInstance htl F.sub_list_frozenset ?_
    rw [if_neg (by decide)]
    refine wpAny_bind (wpAny_typeOf htl ?_)
    rw [if_neg (by decide +kernel)]
    refine wpAny_bind (wpAny_pyIter_list (hl.push ob) ?_)
    refine wpAny_bind (wpAny_runValue ?_)
    have hnl : s.heap.objs.size ≠ l := fun z => absurd (Heap.lt_size hlo) (by rw [← z]; exact Nat.lt_irrefl _)
    have isz : (s.heap.push ob).objs.size = s.heap.objs.size + 1 := size_push' _ _
    have hlI : l ≠ (s.heap.push ob).objs.size := fun z => by
      have h0 := Heap.lt_size hlo
      rw [z, isz] at h0
      exact Nat.not_lt.mpr (Nat.le_succ _) h0
    have hA2 : (A.in1.in1.in1).handled = none := hA
    have wk := (Walks.list (prog := P) (w := w) hA2 (s.heap.push ob).objs.size l hlI items).toS
    have hlen : xs.length = items.size := by
      have := hx.length
      simpa using this.symm
    have hfp : s.heap.objs.size ∉ [(s.heap.push ob).objs.size, l] := fun z => by
      rcases List.mem_cons.mp z with z | z
      · omega
      · exact hnl (List.mem_singleton.mp z)
    have st0 : SetR w ((s.heap.push ob).push { cls := .type "list_iterator", data := .fields #[.ref l, .int 0 0] }) s.heap.objs.size (hasI xs 0) 0 := by
      have := setR_fresh (h := s.heap) w
      have e2 : s.heap.push { cls := .type "set", dict := none, data := .set #[] 0 (.fresh 0 0 (!w.params.followText "set-order")) } = s.heap.push ob := by rw [← hob]
      rw [e2] at this
      exact (this.congr fun k => by unfold hasI; simp).at fun o e => Heap.get?_push_of_some _ e
    refine setR_loop wk s.heap.objs.size hfp xs hlen (by omega) (fun i v hv => ?_) items.size 0 _ rfl (Nat.zero_le _) ⟨⟨_, Heap.get?_push_size _ rfl, rfl, rfl⟩, (hl.push ob).push _⟩ ⟨0, Nat.le_refl _, st0⟩ fun s' mv hs => ?_
    · obtain ⟨x, t, hx1, hx2⟩ := ints_at hx (i := i) (v := v) (by simpa using hv)
      exact ⟨x, t, hx1, hx2⟩
    obtain ⟨m, hm, ss⟩ := hs
    rw [← hlen] at hm ss
    dsimp only
    refine wpAny_pure (wpAny_pure ⟨_, rfl, wpAny_pure ?_⟩)
    dsimp only
    rw [if_neg (by decide)]
    refine wpAny_pure ?_
    dsimp only
    obtain ⟨h', g', d', tk', os'⟩ := s'
    have e1 := mv.gens
    have e2 := mv.drawn
    have e3 := mv.os
    dsimp only at e1 e2 e3 ss ⊢
    subst e1 e2 e3
    refine q h' tk' m hm ss fun b o e => mv.heap b o (fun z => ?_) (Heap.get?_push_of_some _ (Heap.get?_push_of_some _ e))
    have hb := Heap.lt_size e
    rcases List.mem_cons.mp z with z | z
    · rw [z] at hb
      exact absurd hb (Nat.lt_irrefl _)
    · rw [List.mem_singleton.mp z, isz] at hb
      exact Nat.not_lt.mpr (Nat.le_succ _) hb
  | .error e, h => exact h
end
section
variable {X : Cx}
/-- set(ns), a list of ints -/
def rSetOfI (K : PySem.W.Frag) (w : World) : List V → Hp → VK → Prop := fun xs H Q => ∃ (l : Addr) (ns : List Int), xs = [V.ref l] ∧ SqL K H l (ns.map V.int) ∧ ns.length ≤ 2000 ∧ ∀ (p : Addr) (n : Nat) (ms : List Int), H p = none → n ≤ ns.length → ms.Nodup → ms.length = n → (∀ k, k ∈ ms ↔ k ∈ ns) → Q (.ref p) (upd H p (SetO w p (hasI ns ns.length) n))
theorem cr_setOfI (hc : X.calm = true) : CallR X (.type "set") (rSetOfI X.K X.w) := by
  intro pins s σ H xs us Q I r h
  obtain ⟨l, ns, rfl, hS, hz, q⟩ := h
  obtain rfl := Vals.ref1 r
  obtain ⟨its, r', pl, hz'⟩ := I.list hS
  have h1 := r'.ints
  refine call_set_intsR (items := its.toArray) (xs := ns) (I.ok.hd hc) pl.isList (by simpa using h1) (by show ns.length + 1 < 4096; omega) fun h' tk m hm ss kp => ?_
  have hf : H s.heap.objs.size = none := I.hok.fresh (Nat.le_refl _)
  obtain ⟨o, es, ep, t, k1, k2, k3, k4, k5, k6, k7, k8, k9, _⟩ := id ss
  refine ⟨.ref s.heap.objs.size, _, I.laid (t' := tk) kp (Nat.le_refl _) (setO_new ss), rfl, q _ m (es.toList.map keyOf) hf hm k5 ?_ fun k => ?_⟩
  · rw [List.length_map, Array.length_toList, k9]
  · rw [← k6 k]
    exact hasI_all ns k
/-- len(s), s a set of ints -/
theorem call_lenSet : CallR X (.builtin "len") (fun xs H Q => ∃ (a : Addr) (S : Int → Bool) (n : Nat), xs = [V.ref a] ∧ H a = some (SetO X.w a S n) ∧ n ≤ 2000 ∧ Q (.int (n : Int)) H) := by
  intro pins s σ H xs us Q I r h
  obtain ⟨a, S, n, rfl, ha, hn, q⟩ := h
  obtain rfl := Vals.ref1 r
  obtain ⟨o, es, ep, t, k1, k2, k3, k4, k5, k6, k7, k8, k9, _⟩ := setO_get I ha
  exact call_len_set k1 k2 k3 k8 (by rw [k9]; omega) ⟨.int n, H, I.tok _, ⟨_, by rw [k9]⟩, q⟩
end
end L2

namespace Kb
open PySem PySem.Spec PyProof.Rows L2 SrtZ SrtO RZ SrtR
abbrev sis_int : Stmt := topS 42
theorem scis_int : FnScope ["_law_thing", "_law_least"] ["_law_thing", "_law_least"] (defScope sis_int) := ⟨rfl, rfl, rfl, by decide +kernel, rfl, by decide +kernel, by decide +kernel⟩
abbrev Dnis_int (K : PySem.W.Frag) (mg : Str → Option Value) := Dn K mg "_law_is_int" sis_int ["_law_thing", "_law_least"]
abbrev sis_name : Stmt := topS 43
abbrev Nis_name : List Str := ["_law_thing", "_law_sign"]
theorem scis_name : FnScope ["_law_thing", "_law_sign"] ["_law_thing"] (defScope sis_name) := ⟨rfl, rfl, rfl, by decide +kernel, rfl, by decide +kernel, by decide +kernel⟩
abbrev Dnis_name (K : PySem.W.Frag) (mg : Str → Option Value) := Dn K mg "_law_is_name" sis_name ["_law_thing"]
abbrev sis_sketch : Stmt := topS 44
abbrev Nis_sketch : List Str := ["_law_thing", "_law_room", "_law_many", "_law_off", "_law_kept", "_law_names_here", "_law_lost", "_law_pair", "_law_one"]
theorem scis_sketch : FnScope ["_law_thing", "_law_room", "_law_many", "_law_off", "_law_kept", "_law_names_here", "_law_lost", "_law_pair", "_law_one"] ["_law_thing"] (defScope sis_sketch) := ⟨rfl, rfl, rfl, by decide +kernel, rfl, by decide +kernel, by decide +kernel⟩
abbrev Dnis_sketch (K : PySem.W.Frag) (mg : Str → Option Value) := Dn K mg "_law_is_sketch" sis_sketch ["_law_thing"]
abbrev sis_book : Stmt := topS 45
abbrev Nis_book : List Str := ["_law_thing", "_law_s", "_law_number", "_law_sketch", "_law_sources", "_law_one"]
theorem scis_book : FnScope ["_law_thing", "_law_s", "_law_number", "_law_sketch", "_law_sources", "_law_one"] ["_law_thing"] (defScope sis_book) := ⟨rfl, rfl, rfl, by decide +kernel, rfl, by decide +kernel, by decide +kernel⟩
abbrev Dnis_book (K : PySem.W.Frag) (mg : Str → Option Value) := Dn K mg "_law_is_book" sis_book ["_law_thing"]
def geB (k : Int) : Option Int → Bool
  | some i => decide (k ≤ i)
  | none => false
section
variable {P : Program} {w : World} {K : PySem.W.Frag} {mg : Str → Option Value} {base : Heap}
/-! _law_is_int -/
def spIsIntL (K : PySem.W.Frag) : Sp := fun vs H Q _ => ∃ (v : V) (d : Dat) (k : Int), vs = [v, .int k] ∧ DtAt K H v d ∧ Q (.bl (geB k (intD d))) H
theorem ok_is_intL (T : Blt mg) (d : Dnis_int K mg) : FnOk P w K mg base CX0 1 d.f d.fd ["_law_thing", "_law_least"] (spIsIntL K) := by
  refine d.F.ok scis_int (fun vs H Q E h => ?_) (fun cdv A outer s H vs Q E hr h => ?_)
  · obtain ⟨v, x, k, rfl, _⟩ := h
    rfl
  · obtain ⟨v, x, k, rfl, hx, q⟩ := h
    refine ⟨_, (pss_one (ps_ret (pe_and (pe_callB (call_isD (K := K) rfl) (by rfl) T.n_isinstance (by decide +kernel) (pa_cons (pv 0) (pa_cons (pe_bltn (v := .ty "int") (by rfl) T.n_int (by decide +kernel) rfl) pa_nil))) (pe_and (pe_not (pe_callB (call_isD (K := K) rfl) (by rfl) T.n_isinstance (by decide +kernel) (pa_cons (pv 0) (pa_cons (pe_bltn (v := .ty "bool") (by rfl) T.n_bool (by decide +kernel) rfl) pa_nil)))) (pe_one (pe_cmpR op_ge (pv 0) (pv 1) (nomark _))))))), ?_⟩
    obtain ⟨t, ty, kI, kB, kS, kT⟩ := hx.ty
    refine ⟨v, rfl, v, _, t, _, isI x, rfl, .ty "int", ty, kI, isI x, rfl, ?_⟩
    cases x with
    | int i =>
      obtain ⟨rfl, _⟩ := hx.int
      exact iteT ⟨_, rfl, _, _, t, _, false, rfl, .ty "bool", ty, kB, false, rfl, true, rfl, iteT ⟨.int i, rfl, .int k, rfl, _, _, rfl, rfl, q⟩⟩
    | bl b => exact iteT ⟨_, rfl, _, _, t, _, true, rfl, .ty "bool", ty, kB, true, rfl, false, rfl, iteF q⟩
    | _ => exact iteF q
/-! _law_is_name -/
theorem ok_is_nameL (T : Blt mg) (d : Dnis_name K mg) : FnOk P w K mg base CX0 1 d.f d.fd ["_law_thing"] (spIsNameD K) := by
  refine d.F.ok scis_name (fun vs H Q E h => ?_) (fun cdv A outer s H vs Q E hr h => ?_)
  · obtain ⟨v, n, rfl, _⟩ := h
    rfl
  · obtain ⟨v, x, rfl, hx, q⟩ := h
    refine ⟨_, (pss_one (ps_ret (pe_and (pe_callB (call_isD (K := K) rfl) (by rfl) T.n_isinstance (by decide +kernel) (pa_cons (pv 0) (pa_cons (pe_bltn (v := .ty "str") (by rfl) T.n_str (by decide +kernel) rfl) pa_nil))) (pe_and (pe_chain op_le op_le pe_int (pe_callB call_len_str (by rfl) T.n_len (by decide +kernel) (pa_cons (pv 0) pa_nil)) pe_int) (pe_one (pe_callB (cr_all rfl) (by rfl) T.n_all (by decide +kernel) (pa_cons (pe_lc (own := [("_law_sign", 1)]) (g := gName 1) (tt := tYes) rfl scis_name.nd (pi_str (pv 0)) (blkOk_by (N := Nis_name) (sc := defScope sis_name) (by decide +kernel)) (fun _ _ _ _ _ => pg_name (i := 1) scis_name.nd rfl (Or.inl rfl)) (fun _ _ _ _ _ => pts_nil) (fun _ _ _ _ _ => (pe_chain op_le_str op_le_str pe_str (pv 1) pe_str))) pa_nil))))))), ?_⟩
    obtain ⟨t, ty, kI, kB, kS, kT⟩ := hx.ty
    refine ⟨v, rfl, v, _, t, _, isS x, rfl, .ty "str", ty, kS, isS x, rfl, ?_⟩
    cases x with
    | str z =>
      obtain ⟨rfl, hz⟩ := hx.str
      have q : ∀ H', Same H H' → Q (.bl (decide (1 ≤ z.length) && (decide (z.length ≤ 8) && (cs z).all nmC))) H' := q
      refine iteT ⟨.str z, rfl, z, rfl, (by rw [sizeLine_eq]; omega), _, _, rfl, rfl, ?_⟩
      by_cases h1 : 1 ≤ z.length
      · rw [decide_eq_true h1, Bool.true_and] at q
        refine ⟨true, congrArg V.bl (decide_eq_true (by omega)), iteT ⟨_, _, rfl, rfl, ?_⟩⟩
        by_cases h8 : z.length ≤ 8
        · rw [decide_eq_true h8, Bool.true_and] at q
          refine ⟨true, congrArg V.bl (decide_eq_true (by omega)), iteT ⟨.str z, rfl, z, rfl, fun D nD => ?_⟩⟩
          refine lc_it walk_str (fun i H3 => Same H H3 ∧ H3 D = some (.lst (((cs z).take i).map fun c => V.bl (nmC c)))) ⟨same_upd nD, upd_same⟩ (fun _ _ _ _ => trivial) (fun i x H3 H4 hi h3 y => ?_) (fun H3 h3 => ?_)
          · obtain ⟨rfl, c, hc, rfl⟩ := y
            have hc2 : (cs z)[i]? = some c := by
              rw [← hc]
              simp [cs]
            have fin : ∃ xs, H4 D = some (.lst xs) ∧ xs.length + 1 ≤ sizeLine ∧ (Same H (upd H4 D (.lst (xs ++ [V.bl (nmC c)]))) ∧ (upd H4 D (.lst (xs ++ [V.bl (nmC c)]))) D = some (.lst (((cs z).take (i + 1)).map fun c => V.bl (nmC c)))) := by
              refine ⟨_, h3.2, ?_, fun b o e => ?_, ?_⟩
              · rw [List.length_map, List.length_take, sizeLine_eq]
                have := cs_len z
                omega
              · rw [upd_ne (ne_of_none e nD)]
                exact h3.1 b o e
              · rw [upd_same, List.take_add_one, hc2, List.map_append]
                rfl
            have e1 : (!decide ((cs ⟨#[c]⟩) < (Str.ofString "a").cps.toList)) = !decide (c < 97) := by
              rw [show (Str.ofString "a").cps.toList = [97] by decide +kernel]
              show (!decide ([c] < [97])) = _
              rw [lt_one]
            have e2 : (!decide ((Str.ofString "z").cps.toList < cs ⟨#[c]⟩)) = !decide (122 < c) := by
              rw [show (Str.ofString "z").cps.toList = [122] by decide +kernel]
              show (!decide ([122] < [c])) = _
              rw [lt_one]
            refine ⟨rfl, .str ⟨#[c]⟩, rfl, _, _, rfl, rfl, !decide (c < 97), congrArg V.bl e1, ite2 (fun ea => ⟨_, _, rfl, rfl, ?_⟩) (fun ea => ?_)⟩
            · have en : nmC c = !decide (122 < c) := by
                unfold nmC
                rw [ea, Bool.true_and]
              rw [en] at fin
              show ∃ xs, _
              rw [show (!decide ((Str.ofString "z").cps.toList < ([c] : List Nat))) = !decide (122 < c) from e2]
              exact fin
            · have en : nmC c = false := by
                unfold nmC
                rw [show (!decide (c < 97)) = false by simpa using ea, Bool.false_and]
              rw [en] at fin
              exact fin
          · refine ⟨D, (cs z).map nmC, rfl, sql ?_, ?_⟩
            · rw [h3.2, List.map_map]
              rw [List.take_of_length_le (by
                show (cs z).length ≤ z.cps.size
                simp [cs])]
              rfl
            · rw [show ((cs z).map nmC).all id = (cs z).all nmC by rw [List.all_map]; rfl]
              exact q H3 h3.1
        · rw [decide_eq_false h8, Bool.false_and] at q
          exact ⟨false, congrArg V.bl (decide_eq_false (by omega)), iteF (q H (Same.refl H))⟩
      · rw [decide_eq_false h1, Bool.false_and] at q
        exact ⟨false, congrArg V.bl (decide_eq_false (by omega)), iteF ⟨false, rfl, iteF (q H (Same.refl H))⟩⟩
    | _ => exact iteF (q H (Same.refl H))
end
end Kb

namespace Kb
open PySem PySem.Spec PyProof.Rows L2 SrtZ SrtO RZ SrtR
theorem strOk_nm {z : Str} (h : Nm z) : PyData.strOk z = true := by
  unfold PyData.strOk
  refine Array.all_eq_true_iff_forall_mem.mpr fun c hc => ?_
  have := h.abc c (Array.mem_toList_iff.mpr hc)
  unfold nmC at this
  have h2 : (!decide (122 < c)) = true := by
    cases hx : (!decide (122 < c)) with
    | true => rfl
    | false => rw [hx] at this; simp at this
  have h3 : ¬ 122 < c := by simpa using h2
  exact decide_eq_true (by omega)
theorem lay_strs : ∀ {zs : List Str}, (∀ z ∈ zs, Nm z) → PyData.canLayAll0 (zs.map PyData.str) = true ∧ PyData.depthAll (zs.map PyData.str) = 0
  | [], _ => ⟨rfl, rfl⟩
  | z :: zs, h => by
    obtain ⟨h1, h2⟩ := lay_strs (zs := zs) fun y hy => h y (List.mem_cons_of_mem _ hy)
    constructor
    · show (PyData.strOk z && PyData.canLayAll0 (zs.map PyData.str)) = true
      rw [strOk_nm (h z List.mem_cons_self), h1]
      rfl
    · show max 0 (PyData.depthAll (zs.map PyData.str)) = 0
      rw [h2]
      rfl
theorem dp_strs {K : PySem.W.Frag} {H : Hp} : ∀ zs : List Str, DpAll K H (zs.map V.str) (zs.map PyData.str)
  | [] => .nil
  | z :: zs => .cons (.str z) (dp_strs zs)
theorem eqv_strs : ∀ a b : List Str, PyData.eqvAll (a.map PyData.str) (b.map PyData.str) = true ↔ a = b
  | [], [] => ⟨fun _ => rfl, fun _ => rfl⟩
  | [], y :: b => ⟨fun h => (nomatch h), fun h => (nomatch h)⟩
  | x :: a, [] => ⟨fun h => (nomatch h), fun h => (nomatch h)⟩
  | x :: a, y :: b => by
    show ((x == y) && PyData.eqvAll (a.map PyData.str) (b.map PyData.str)) = true ↔ _
    rw [Bool.and_eq_true, eqv_strs a b, beq_iff_eq]
    constructor
    · rintro ⟨rfl, rfl⟩
      rfl
    · intro h
      injection h with h1 h2
      exact ⟨h1, h2⟩
/-- the names sorted, each once: the names themselves only if they ascend -/
theorem names_asc {L S : List Str} (so : Srtd ltZ S) (nd : S.Nodup) (hm : ∀ z, z ∈ S ↔ z ∈ L) : L = S ↔ L.Pairwise fun a b => ltZ a b = true := by
  have sS : S.Pairwise fun a b => ltZ a b = true := by
    refine List.Pairwise.imp₂ (fun {a b} h1 h2 => ?_) so nd
    rcases bcase (ltZ a b) with q | q
    · exact q
    · exact absurd (ltZ_tri q h1) h2
  constructor
  · rintro rfl
    exact sS
  · intro h
    have ndL : L.Nodup := by
      refine List.Pairwise.imp (fun {a b} h e => ?_) h
      rw [e, ltZ_irr] at h
      cases h
    have p : L.Perm S := (List.perm_ext_iff_of_nodup ndL nd).mpr fun z => (hm z).symm
    exact List.Perm.eq_of_pairwise (le := fun (a b : Str) => ltZ a b = true) (fun a b _ _ h1 h2 => by
      have := ltZ_asym h1
      rw [this] at h2
      cases h2) h sS p

/-- counts that are right: right pairs with ascending names -/
theorem ctsB_split {ks : List Dat} (h : ∀ d ∈ ks, cntB d = true) : ctsB (Str.ofString "") ks = true ↔ ((ks.map kvO).map (·.1)).Pairwise fun a b => ltZ a b = true := by
  constructor
  · intro c
    obtain ⟨cc, _, _⟩ := ctsB_cts c
    exact List.pairwise_map.mpr cc.asc
  · intro p
    have e : ks = (ks.map kvO).map kvDat := by
      rw [List.map_map]
      conv => lhs; rw [← List.map_id ks]
      refine List.map_congr_left fun d hd => ?_
      obtain ⟨z, i, rfl, _, _⟩ := cntB_is (h d hd)
      rfl
    have hk : ∀ x ∈ ks.map kvO, Nm x.1 ∧ 1 ≤ x.2 := fun x hx => by
      obtain ⟨d, hd, rfl⟩ := List.mem_map.mp hx
      obtain ⟨z, i, rfl, h1, h2⟩ := cntB_is (h d hd)
      exact ⟨h1, h2⟩
    rw [e]
    exact ctsB_dat (fun x hx => (hk x hx).1) (fun x hx => (hk x hx).2) (List.pairwise_map.mp p) fun x hx => nm_pos (hk x hx).1
def isT2 : Dat → Bool
  | .tup [_, _] => true
  | _ => false
def cnt2 : Dat → Bool
  | .tup [d1, d2] => nameD d1 && geB 1 (intD d2)
  | _ => false
theorem cnt2_eq (d : Dat) : cnt2 d = cntB d := by
  match d with
  | .tup [d1, d2] =>
    show (nameD d1 && geB 1 (intD d2)) = (nameD d1 && isPB (intD d2))
    cases intD d2 <;> rfl
  | .tup [] => rfl
  | .tup [_] => rfl
  | .tup (_ :: _ :: _ :: _) => rfl
  | .non => rfl
  | .bl _ => rfl
  | .int _ => rfl
  | .str _ => rfl
  | .lst _ => rfl
  | .dic _ => rfl
  | .err => rfl
theorem isT2_is {d : Dat} (h : isT2 d = true) : ∃ d1 d2, d = .tup [d1, d2] := by
  match d, h with
  | .tup [d1, d2], _ => exact ⟨d1, d2, rfl⟩
theorem isT2_no {ds : List Dat} (h : ds.length ≠ 2) : isT2 (.tup ds) = false := by
  match ds, h with
  | [], _ => rfl
  | [_], _ => rfl
  | [_, _], h => exact absurd rfl h
  | _ :: _ :: _ :: _, _ => rfl
theorem paired2 {α β : Type} {F : α → β → Prop} {a b : α} {e f : β} (p : Paired F [a, b] [e, f]) : F a e ∧ F b f := by
  cases p with | cons h1 p =>
  cases p with | cons h2 p =>
  exact ⟨h1, h2⟩
theorem two {α : Type} {xs : List α} (h : xs.length = 2) : ∃ a b, xs = [a, b] := match xs, h with | [a, b], _ => ⟨a, b, rfl⟩
theorem skD_yes {r m o : Int} {ks : List Dat} (h1 : 1 ≤ r) (h64 : r ≤ 64) (hm : 0 ≤ m) (ho : 0 ≤ o) (hl : (ks.length : Int) ≤ r) (hc : ∀ d ∈ ks, cntB d = true) :
    skD (.tup [.int r, .int m, .int o, .tup ks]) = (decide (((ks.map kvO).map (·.1)).Pairwise fun a b => ltZ a b = true) && (decide ((r + 1) * o ≤ m - sumC (ks.map kvO)) && decide (m - sumC (ks.map kvO) ≤ 2 * r * o))) := by
  have e : skD (.tup [.int r, .int m, .int o, .tup ks]) = ((decide (1 ≤ r) && decide (r ≤ 64)) && (decide (0 ≤ m) && (decide (0 ≤ o) && (ctsB (Str.ofString "") ks && (decide ((ks.length : Int) ≤ r) && (decide ((r + 1) * o ≤ m - sumC (ks.map kvO)) && decide (m - sumC (ks.map kvO) ≤ 2 * r * o))))))) := rfl
  have ec : ctsB (Str.ofString "") ks = decide (((ks.map kvO).map (·.1)).Pairwise fun a b => ltZ a b = true) := by
    rw [Bool.eq_iff_iff, decide_eq_true_eq]
    exact ctsB_split hc
  rw [e, ec, decide_eq_true h1, decide_eq_true h64, decide_eq_true hm, decide_eq_true ho, decide_eq_true hl]
  simp only [Bool.true_and]
section
variable {P : Program} {w : World} {K : PySem.W.Frag} {mg : Str → Option Value} {base : Heap}
/-! _law_is_sketch -/
theorem ok_is_sketchL (T : Blt mg) (n_set : mg "set" = none) (dis_int : Dnis_int K mg) (dis_name : Dnis_name K mg) (d : Dnis_sketch K mg) : FnOk P w K mg base CX0 2 d.f d.fd ["_law_thing"] (spIsSketchD K) := by
  have Gis_int : FnOk P w K mg base CX0 1 dis_int.f dis_int.fd ["_law_thing", "_law_least"] (spIsIntL K) := ok_is_intL T dis_int
  have Gis_name : FnOk P w K mg base CX0 1 dis_name.f dis_name.fd ["_law_thing"] (spIsNameD K) := ok_is_nameL T dis_name
  refine d.F.ok scis_sketch (fun vs H Q E h => ?_) (fun cdv A outer s H vs Q E hr h => ?_)
  · obtain ⟨v, n, rfl, _⟩ := h
    rfl
  · obtain ⟨v, x, rfl, hx, q⟩ := h
    refine ⟨_, (pss_cons (ps_if (PW.pt (pw_or (pt_not (pt_val (pe_callB (call_isD (K := K) rfl) (by rfl) T.n_isinstance (by decide +kernel) (pa_cons (pv 0) (pa_cons (pe_bltn (v := .ty "tuple") (by rfl) T.n_tuple (by decide +kernel) rfl) pa_nil))))) (pw_or (pt_cmpR op_ne (pe_callB call_len_seq (by rfl) T.n_len (by decide +kernel) (pa_cons (pv 0) pa_nil)) pe_int (nomark _)) (pw_or1 (pt_not (pt_val (pe_callB (cr_all rfl) (by rfl) T.n_all (by decide +kernel) (pa_cons (pe_lc (own := [("_law_one", 8)]) (g := gName 8) (tt := tYes) rfl scis_sketch.nd (pi_tup (pe_slice sl_tupP (pv 0) po_none (po_some pe_int))) (blkOk_by (N := Nis_sketch) (sc := defScope sis_sketch) (by decide +kernel)) (fun _ _ _ _ _ => pg_name (i := 8) scis_sketch.nd rfl (Or.inl rfl)) (fun _ _ _ _ _ => pts_nil) (fun _ _ _ _ _ => (pe_call Gis_int (hr.mono (by omega)) (by rfl) dis_int.g dis_int.F.kp dis_int.b .nil pass0 (pa_cons (pv 8) (pa_cons pe_int pa_nil))))) pa_nil))))))))
      (pss_one (ps_ret pe_bl))
      pss_nil)
    (pss_cons (ps_asg (pv 0) (pg_tup (by rfl) (pgs_cons (pg_name (i := 1) scis_sketch.nd rfl (Or.inl rfl)) (pgs_cons (pg_name (i := 2) scis_sketch.nd rfl (Or.inl rfl)) (pgs_cons (pg_name (i := 3) scis_sketch.nd rfl (Or.inl rfl)) (pgs_cons (pg_name (i := 4) scis_sketch.nd rfl (Or.inl rfl)) pgs_nil))))))
    (pss_cons (ps_if (PW.pt (pw_or (pt_not (pt_chain op_le op_le pe_int (pv 1) pe_int)) (pw_or (pt_not (pt_val (pe_callB (call_isD (K := K) rfl) (by rfl) T.n_isinstance (by decide +kernel) (pa_cons (pv 4) (pa_cons (pe_bltn (v := .ty "tuple") (by rfl) T.n_tuple (by decide +kernel) rfl) pa_nil))))) (pw_or1 (pt_cmpR op_gt (pe_callB call_len_seq (by rfl) T.n_len (by decide +kernel) (pa_cons (pv 4) pa_nil)) (pv 1) (nomark _))))))
      (pss_one (ps_ret pe_bl))
      pss_nil)
    (pss_cons (ps_if (pt_not (pt_val (pe_callB (cr_all rfl) (by rfl) T.n_all (by decide +kernel) (pa_cons (pe_lc (own := [("_law_pair", 7)]) (g := gName 7) (tt := tYes) rfl scis_sketch.nd (pi_tup (pv 4)) (blkOk_by (N := Nis_sketch) (sc := defScope sis_sketch) (by decide +kernel)) (fun _ _ _ _ _ => pg_name (i := 7) scis_sketch.nd rfl (Or.inl rfl)) (fun _ _ _ _ _ => pts_nil) (fun _ _ _ _ _ => (pe_and (pe_callB (r := rIsE' K) (call_isD (K := K) rfl) (by rfl) T.n_isinstance (show bootBuiltins (Str.ofString "isinstance") = some (Value.builtin "isinstance") by decide +kernel) (pa_cons (pv 7) (pa_cons (pe_bltn (v := .ty "tuple") (by rfl) T.n_tuple (by decide +kernel) rfl) pa_nil))) (pe_one (pe_cmpR op_eq (pe_callB (call_lenK (K := K) rfl) (by rfl) T.n_len (show bootBuiltins (Str.ofString "len") = some (Value.builtin "len") by decide +kernel) (pa_cons (pv 7) pa_nil)) pe_int (nomark _)))))) pa_nil))))
      (pss_one (ps_ret pe_bl))
      pss_nil)
    (pss_cons (ps_if (pt_not (pt_val (pe_callB (cr_all rfl) (by rfl) T.n_all (by decide +kernel) (pa_cons (pe_lc (own := [("_law_pair", 7)]) (g := gName 7) (tt := tYes) rfl scis_sketch.nd (pi_tup (pv 4)) (blkOk_by (N := Nis_sketch) (sc := defScope sis_sketch) (by decide +kernel)) (fun _ _ _ _ _ => pg_name (i := 7) scis_sketch.nd rfl (Or.inl rfl)) (fun _ _ _ _ _ => pts_nil) (fun _ _ _ _ _ => (pe_and (pe_call Gis_name (hr.mono (by omega)) (by rfl) dis_name.g dis_name.F.kp dis_name.b .nil pass0 (pa_cons (pe_ix (r := rIxT K) ix_tup (pv 7) pe_int (fun _ _ => rfl)) pa_nil)) (pe_one (pe_call Gis_int (hr.mono (by omega)) (by rfl) dis_int.g dis_int.F.kp dis_int.b .nil pass0 (pa_cons (pe_ix (r := rIxT K) ix_tup (pv 7) pe_int (fun _ _ => rfl)) (pa_cons pe_int pa_nil))))))) pa_nil))))
      (pss_one (ps_ret pe_bl))
      pss_nil)
    (pss_cons (ps_setLc (i := 5) (own := [("_law_pair", 7)]) (g := gName 7) (tt := tYes) rfl scis_sketch.nd rfl rfl (sw_true rfl rfl rfl (by decide +kernel)) (pi_tup (pv 4)) (blkOk_by (N := Nis_sketch) (sc := defScope sis_sketch) (by decide +kernel)) (fun _ _ _ _ _ => pg_name (i := 7) scis_sketch.nd rfl (Or.inl rfl)) (fun _ _ _ _ _ => pts_nil) (fun _ _ _ _ _ => (pe_ix (r := rIxT K) ix_tup (pv 7) pe_int (fun _ _ => rfl))))
    (pss_cons (ps_set (i := 6) scis_sketch.nd rfl (Or.inl rfl) (pe_op op_sub (pv 2) (pe_callB (cr_sum rfl) (by rfl) T.n_sum (by decide +kernel) (pa_cons (pe_lc (own := [("_law_pair", 7)]) (g := gName 7) (tt := tYes) rfl scis_sketch.nd (pi_tup (pv 4)) (blkOk_by (N := Nis_sketch) (sc := defScope sis_sketch) (by decide +kernel)) (fun _ _ _ _ _ => pg_name (i := 7) scis_sketch.nd rfl (Or.inl rfl)) (fun _ _ _ _ _ => pts_nil) (fun _ _ _ _ _ => (pe_ix (r := rIxT K) ix_tup (pv 7) pe_int (fun _ _ => rfl)))) pa_nil))))
    (pss_one (ps_ret (pe_and (pe_cmpR (op_eqD hr.units) (pv 5) (pe_callB (cr_sortedSS rfl) (by rfl) T.n_sorted (by decide +kernel) (pa_cons (pe_callTy (cr_setOfS rfl) (by rfl) n_set (by decide +kernel) (pa_cons (pv 5) pa_nil)) pa_nil)) (nomark _)) (pe_one (pe_chain op_le op_le (pe_op op_mul (pe_op op_add (pv 1) pe_int) (pv 3)) (pv 6) (pe_op op_mul (pe_op op_mul pe_int (pv 1)) (pv 3)))))))))))))), ?_⟩
    obtain ⟨t, ty, kI, kB, kS, kT⟩ := hx.ty
    refine ⟨v, rfl, v, _, t, _, isT x, rfl, .ty "tuple", ty, kT, isT x, rfl, ?_⟩
    cases x with
    | tup ds =>
      obtain ⟨a, xs, rfl, h1, h2, h3⟩ := hx.tup
      have hl := Paired.length h3
      refine iteF ⟨.ref a, rfl, a, _, rfl, .inr h1.seq, rfl, ?_⟩
      by_cases h2l : ds.length = 4
      · obtain ⟨d1, d2, d3, d4, rfl⟩ := four h2l
        obtain ⟨x1, x2, x3, x4, rfl⟩ := four (hl.trans h2l)
        obtain ⟨e1, e2, e3, e4⟩ := paired4 h3
        have no : ∀ {H'}, Same H H' → ¬ skD (.tup [d1, d2, d3, d4]) = true → Q (.bl false) H' := fun {H'} s n => by
          have := q H' s
          rw [show skD (.tup [d1, d2, d3, d4]) = false by simpa using n] at this
          exact this
        refine ⟨false, rfl, iteF ⟨.ref a, rfl, 3, rfl, a, _, rfl, h1, fun p H1 s1 hp => ?_⟩⟩
        rw [show cutV [x1, x2, x3, x4] none (some 3) = [x1, x2, x3] from cut_to _ 3] at hp
        refine ⟨p, rfl, ⟨_, hp.seq⟩, fun D nD => ?_⟩
        have p3 : Paired (DtAt K H1) [x1, x2, x3] [d1, d2, d3] := .cons (e1.same s1) (.cons (e2.same s1) (.cons (e3.same s1) .nil))
        refine lc_tup (xs := [x1, x2, x3]) (fun i H3 => Same H1 H3 ∧ H3 D = some (.lst ((([d1, d2, d3].take i).map fun d => geB 0 (intD d)).map V.bl))) ⟨same_upd nD, upd_same⟩ (fun i H3 _ h3 => (hp.same h3.1).seq) (fun i u H3 hu g3 => ?_) (fun H3 g3 => ?_)
        · obtain ⟨e, he, hat⟩ := paired_at p3 hu
          obtain ⟨s3, hD⟩ := g3
          refine ⟨rfl, u, rfl, u, e, 0, rfl, hat.same s3, _, hD, ?_, Same.put s3 nD, ?_⟩
          · rw [List.length_map, List.length_map, List.length_take, sizeLine_eq]
            show min i 3 < _
            omega
          · rw [upd_same, List.take_add_one, he, List.map_append, List.map_append]
            rfl
        obtain ⟨s3, hD⟩ := g3
        have s03 := s1.trans s3
        have hD : H3 D = some (.lst ([geB 0 (intD d1), geB 0 (intD d2), geB 0 (intD d3)].map V.bl)) := hD
        refine ⟨D, _, rfl, sql hD, _, rfl, ?_⟩
        cases hall : [geB 0 (intD d1), geB 0 (intD d2), geB 0 (intD d3)].all id with
        | false =>
          refine iteT (no s03 fun c => ?_)
          obtain ⟨r, m, o, ks, e, r1, r64, m0, o0, _⟩ := skD_is c
          cases e
          have : (decide ((0 : Int) ≤ r) && (decide ((0 : Int) ≤ m) && (decide ((0 : Int) ≤ o) && true))) = false := hall
          rw [decide_eq_true (by omega), decide_eq_true m0, decide_eq_true o0] at this
          cases this
        | true =>
          have hall : (geB 0 (intD d1) && (geB 0 (intD d2) && (geB 0 (intD d3) && true))) = true := hall
          simp only [Bool.and_eq_true] at hall
          obtain ⟨c1, c2, c3, _⟩ := hall
          have geI_is : ∀ {d : Dat}, geB 0 (intD d) = true → ∃ i, d = .int i ∧ 0 ≤ i := fun {d} h => by
            cases d with
            | int i => exact ⟨i, rfl, of_decide_eq_true h⟩
            | _ => cases h
          obtain ⟨r, rfl, r0⟩ := geI_is c1
          obtain ⟨m, rfl, m0⟩ := geI_is c2
          obtain ⟨o, rfl, o0⟩ := geI_is c3
          obtain ⟨rfl, _⟩ := e1.int
          obtain ⟨rfl, _⟩ := e2.int
          obtain ⟨rfl, _⟩ := e3.int
          refine iteF ?_
          refine ⟨.ref a, rfl, a, _, rfl, (h1.same s03).seq, rfl, _, _, rfl, _, _, rfl, _, _, rfl, _, _, rfl, rfl, ?_⟩
          have nsk : ¬ (1 ≤ r ∧ r ≤ 64) → ¬ skD (.tup [.int r, .int m, .int o, d4]) = true := fun h c => by
            obtain ⟨r', m', o', ks, e, k1, k2, _⟩ := skD_is c
            cases e
            exact h ⟨k1, k2⟩
          refine ⟨.int r, rfl, _, _, rfl, rfl, decide (1 ≤ r), rfl, ?_⟩
          by_cases r1 : 1 ≤ r
          case' neg =>
            rw [decide_eq_false r1]
            exact iteF ⟨false, rfl, iteT (iteT (no s03 (nsk fun z => r1 z.1)))⟩
          by_cases r64 : r ≤ 64
          case' neg =>
            rw [decide_eq_true r1]
            refine iteT ⟨_, _, rfl, rfl, decide (r ≤ 64), rfl, ?_⟩
            rw [decide_eq_false r64]
            exact iteT (iteT (no s03 (nsk fun z => r64 z.2)))
          rw [decide_eq_true r1]
          refine iteT ⟨_, _, rfl, rfl, decide (r ≤ 64), rfl, ?_⟩
          rw [decide_eq_true r64]
          refine iteF ?_
          obtain ⟨t4, ty4, _, _, _, kT4⟩ := (e4.same s03).ty
          refine ⟨x4, rfl, x4, _, t4, _, isT d4, rfl, .ty "tuple", ty4, kT4, isT d4, rfl, ?_⟩
          cases d4 with
          | tup ks =>
            refine iteF ?_
            obtain ⟨k, ys, rfl, g1, g2, g3⟩ := (e4.same s03).tup
            have gl := Paired.length g3
            refine ⟨.ref k, rfl, k, _, rfl, .inr g1.seq, .int r, rfl, _, _, rfl, rfl, decide ((ys.length : Int) > r), rfl, ?_⟩
            by_cases hkl : (ys.length : Int) > r
            · rw [decide_eq_true hkl]
              refine iteT (no s03 fun c => ?_)
              obtain ⟨r', m', o', ks', e, _, _, _, _, _, k3⟩ := skD_is c
              cases e
              omega
            rw [decide_eq_false hkl]
            refine iteF ?_
            have klen : (ks.length : Int) ≤ r := by omega
            have cts_all : skD (.tup [.int r, .int m, .int o, .tup ks]) = true → ∀ d ∈ ks, cntB d = true := fun c => by
              obtain ⟨r', m', o', ks', e, _, _, _, _, c2, _⟩ := skD_is c
              cases e
              exact (ctsB_cts c2).2.2
            -- pairs
            refine ⟨.ref k, rfl, k, rfl, ⟨_, g1.seq⟩, fun D2 nD2 => ?_⟩
            refine lc_tup (xs := ys) (fun i H4 => Same H3 H4 ∧ H4 D2 = some (.lst (((ks.take i).map isT2).map V.bl))) ⟨same_upd nD2, upd_same⟩ (fun i H4 _ h4 => (g1.same h4.1).seq) (fun i u H4 hu h4 => ?_) (fun H4 h4 => ?_)
            · obtain ⟨e, he, hat⟩ := paired_at g3 hu
              obtain ⟨s4, hD2⟩ := h4
              have hat4 := hat.same s4
              have fin : ∃ acc, H4 D2 = some (.lst acc) ∧ acc.length < sizeLine ∧ (Same H3 (upd H4 D2 (.lst (acc ++ [V.bl (isT2 e)]))) ∧ (upd H4 D2 (.lst (acc ++ [V.bl (isT2 e)]))) D2 = some (.lst (((ks.take (i + 1)).map isT2).map V.bl))) := by
                refine ⟨_, hD2, ?_, Same.put s4 nD2, ?_⟩
                · rw [List.length_map, List.length_map, List.length_take, sizeLine_eq]
                  omega
                · rw [upd_same, List.take_add_one, he, List.map_append, List.map_append]
                  rfl
              obtain ⟨te, tye, _, _, _, kTe⟩ := hat4.ty
              refine ⟨rfl, u, rfl, u, _, te, _, isT e, rfl, .ty "tuple", tye, kTe, isT e, rfl, ?_⟩
              cases e with
              | tup es =>
                obtain ⟨b, zs, rfl, b1, b2, b3⟩ := hat4.tup
                have bl := Paired.length b3
                refine iteT ⟨.ref b, rfl, b, zs, rfl, .inr b1.seq, rfl, ?_⟩
                by_cases h2 : es.length = 2
                · rw [show decide (V.int ((zs.length : Nat) : Int) = V.int 2) = true from decide_eq_true (by rw [bl, h2]; rfl)]
                  obtain ⟨y1, y2, rfl⟩ := two h2
                  exact fin
                · rw [show decide (V.int ((zs.length : Nat) : Int) = V.int 2) = false from decide_eq_false (fun z => h2 (by injection z with z; omega))]
                  rw [isT2_no h2] at fin
                  exact fin
              | _ => exact iteF fin
            obtain ⟨s4, hD2⟩ := h4
            rw [gl, List.take_length] at hD2
            refine ⟨D2, _, rfl, sql hD2, _, rfl, ?_⟩
            cases hal2 : (ks.map isT2).all id with
            | false =>
              refine iteT (no (s03.trans s4) fun c => ?_)
              have : (ks.map isT2).all id = true := by
                rw [List.all_map]
                refine List.all_eq_true.mpr fun d hd => ?_
                obtain ⟨z, i, rfl, _, _⟩ := cntB_is (cts_all c d hd)
                rfl
              rw [this] at hal2
              cases hal2
            | true =>
              rw [List.all_map] at hal2
              have ht2 : ∀ d ∈ ks, isT2 d = true := fun d hd => List.all_eq_true.mp hal2 d hd
              have s04 := s03.trans s4
              refine iteF ⟨.ref k, rfl, k, rfl, ⟨_, (g1.same s4).seq⟩, fun D3 nD3 => ?_⟩
              refine lc_tup (xs := ys) (fun i H5 => Same H4 H5 ∧ H5 D3 = some (.lst (((ks.take i).map cnt2).map V.bl))) ⟨same_upd nD3, upd_same⟩ (fun i H5 _ h5 => (g1.same (s4.trans h5.1)).seq) (fun i u H5 hu h5 => ?_) (fun H5 h5 => ?_)
              · obtain ⟨e, he, hat⟩ := paired_at g3 hu
                obtain ⟨s5, hD3⟩ := h5
                have hat5 := hat.same (s4.trans s5)
                obtain ⟨f1, f2, rfl⟩ := isT2_is (ht2 e (List.mem_of_getElem? he))
                have fin : ∀ b H6, Same H5 H6 → b = cnt2 (.tup [f1, f2]) → ∃ acc, H6 D3 = some (.lst acc) ∧ acc.length < sizeLine ∧ (Same H4 (upd H6 D3 (.lst (acc ++ [V.bl b]))) ∧ (upd H6 D3 (.lst (acc ++ [V.bl b]))) D3 = some (.lst (((ks.take (i + 1)).map cnt2).map V.bl))) := fun b H6 s6 hb => by
                  refine ⟨_, s6 _ _ hD3, ?_, Same.put (s5.trans s6) nD3, ?_⟩
                  · rw [List.length_map, List.length_map, List.length_take, sizeLine_eq]
                    omega
                  · rw [upd_same, List.take_add_one, he, List.map_append, List.map_append, hb]
                    rfl
                obtain ⟨b, zs, rfl, b1, b2, b3⟩ := hat5.tup
                obtain ⟨z1, z2, rfl⟩ := two (show zs.length = 2 from Paired.length b3)
                obtain ⟨p1, p2⟩ := paired2 b3
                refine ⟨rfl, .ref b, rfl, b, _, _, _, rfl, rfl, b1.seq, atI_nat (j := 0) rfl, z1, f1, rfl, p1, fun H6 s6 => ⟨nameD f1, rfl, ?_⟩⟩
                cases hn : nameD f1 with
                | false => exact iteF (fin false H6 s6 (by show false = (nameD f1 && geB 1 (intD f2)); rw [hn]; rfl))
                | true =>
                  refine iteT ⟨.ref b, rfl, b, _, _, _, rfl, rfl, (b1.same s6).seq, atI_nat (j := 1) rfl, z2, f2, 1, rfl, p2.same s6, ?_⟩
                  exact fin _ H6 s6 (by show geB 1 (intD f2) = (nameD f1 && geB 1 (intD f2)); rw [hn]; rfl)
              obtain ⟨s5, hD3⟩ := h5
              rw [gl, List.take_length] at hD3
              have s05 := s04.trans s5
              refine ⟨D3, _, rfl, sql hD3, _, rfl, ?_⟩
              cases hal3 : (ks.map cnt2).all id with
              | false =>
                refine iteT (no s05 fun c => ?_)
                have : (ks.map cnt2).all id = true := by
                  rw [List.all_map]
                  refine List.all_eq_true.mpr fun d hd => ?_
                  show cnt2 d = true
                  rw [cnt2_eq]
                  exact cts_all c d hd
                rw [this] at hal3
                cases hal3
              | true =>
                rw [List.all_map] at hal3
                have hcnt : ∀ d ∈ ks, cntB d = true := fun d hd => by
                  have : cnt2 d = true := List.all_eq_true.mp hal3 d hd
                  rw [cnt2_eq] at this
                  exact this
                obtain ⟨us, rfl, hpr⟩ := prs_of g3 hcnt
                have eys := skD_yes r1 r64 m0 o0 klen hcnt
                have hkv : (ks.map kvO).length = ks.length := List.length_map ..
                have hnm : ∀ x ∈ ks.map kvO, Nm x.1 ∧ 1 ≤ x.2 := fun x hx => by
                  obtain ⟨d, hd, rfl⟩ := List.mem_map.mp hx
                  obtain ⟨z, i, rfl, k1, k2⟩ := cntB_is (hcnt d hd)
                  exact ⟨k1, k2⟩
                generalize ks.map kvO = kvs at hpr eys hkv hnm
                have hprl := Paired.length hpr
                have s35 := s4.trans s5
                refine iteF ⟨.ref k, rfl, k, rfl, ⟨_, (g1.same s35).seq⟩, fun D4 nD4 => ?_⟩
                refine lc_tup (xs := us.map V.ref) (fun i H6 => Same H5 H6 ∧ H6 D4 = some (.lst ((kvs.take i).map fun e => V.str e.1))) ⟨same_upd nD4, upd_same⟩ (fun i H6 _ h6 => (g1.same (s35.trans h6.1)).seq) (fun i x H6 hx h6 => ?_) (fun H6 h6 => ?_)
                · obtain ⟨t, ht, rfl⟩ := map_at hx
                  obtain ⟨e, he, hat⟩ := paired_at hpr ht
                  have hq : SqT K H6 t [.str e.1, .int e.2] := seqT hat (s35.trans h6.1)
                  refine ⟨rfl, .ref t, rfl, t, _, _, _, rfl, rfl, hq, atI_nat (j := 0) rfl, _, h6.2, ?_, Same.put h6.1 nD4, ?_⟩
                  · have := (List.getElem?_eq_some_iff.mp ht).1
                    rw [List.length_map, List.length_take, sizeLine_eq]
                    omega
                  · rw [upd_same, List.take_add_one, he, List.map_append]
                    rfl
                obtain ⟨s6, hD6⟩ := h6
                rw [List.length_map, hprl, List.take_length] at hD6
                have s06 := s05.trans s6
                refine ⟨.int m, rfl, .ref k, rfl, k, rfl, ⟨_, (g1.same (s35.trans s6)).seq⟩, fun D5 nD5 => ?_⟩
                refine lc_tup (xs := us.map V.ref) (fun i H7 => Same H6 H7 ∧ H7 D5 = some (.lst ((kvs.take i).map fun e => V.int e.2))) ⟨same_upd nD5, upd_same⟩ (fun i H7 _ h7 => (g1.same ((s35.trans s6).trans h7.1)).seq) (fun i x H7 hx h7 => ?_) (fun H7 h7 => ?_)
                · obtain ⟨t, ht, rfl⟩ := map_at hx
                  obtain ⟨e, he, hat⟩ := paired_at hpr ht
                  have hq : SqT K H7 t [.str e.1, .int e.2] := seqT hat ((s35.trans s6).trans h7.1)
                  refine ⟨rfl, .ref t, rfl, t, _, _, _, rfl, rfl, hq, atI_nat (j := 1) rfl, _, h7.2, ?_, Same.put h7.1 nD5, ?_⟩
                  · have := (List.getElem?_eq_some_iff.mp ht).1
                    rw [List.length_map, List.length_take, sizeLine_eq]
                    omega
                  · rw [upd_same, List.take_add_one, he, List.map_append]
                    rfl
                obtain ⟨s7, hD7⟩ := h7
                rw [List.length_map, hprl, List.take_length] at hD7
                have s07 := s06.trans s7
                refine ⟨D5, kvs.map (fun e : Str × Int => e.2), rfl, sql (by rw [hD7, List.map_map]; rfl), _, _, rfl, rfl, ?_⟩
                have hD4' : H7 D4 = some (.lst ((kvs.map (·.1)).map V.str)) := by rw [s7 _ _ hD6, List.map_map]; rfl
                have hyl : kvs.length ≤ 1000 := by omega
                refine ⟨.ref D4, rfl, .ref D4, rfl, D4, kvs.map (·.1), rfl, sql hD4', (by rw [List.length_map]; exact hyl), fun p n np hn => ?_⟩
                have hnl : n ≤ 1000 := by
                  have := dcz_le (kvs.map (·.1)) (kvs.map (·.1)).length
                  rw [List.length_map] at this
                  rw [List.length_map] at hn
                  omega
                refine ⟨p, _, n, rfl, upd_same, hnl, fun S l so hmem hSl nl => ?_⟩
                have ndS := dcz_nd hmem (by omega)
                have hmem2 : ∀ z, z ∈ S ↔ z ∈ kvs.map (·.1) := fun z => (hmem z).trans (hasZ_all _ z)
                generalize SetS _ _ p (hasZ (kvs.map (·.1)) (kvs.map (·.1)).length) n = so2 at nl ⊢
                have s8 : Same H7 (upd (upd H7 p so2) l (.lst (S.map V.str))) := Same.new (same_upd np) nl
                have n1 : ∀ z ∈ kvs.map (·.1), Nm z := fun z hz => by
                  obtain ⟨e, he, rfl⟩ := List.mem_map.mp hz
                  exact (hnm e he).1
                obtain ⟨l1, l2⟩ := lay_strs n1
                obtain ⟨l3, l4⟩ := lay_strs (zs := S) fun z hz => n1 z ((hmem2 z).mp hz)
                have hlst := sql (K := K) (s8 _ _ hD4')
                have hl2 : SqL K (upd (upd H7 p so2) l (.lst (S.map V.str))) l (S.map V.str) := sql upd_same
                generalize upd (upd H7 p so2) l (.lst (S.map V.str)) = H8 at s8 hlst hl2 ⊢
                refine ⟨.list ((kvs.map (·.1)).map PyData.str), .list (S.map PyData.str), .lst hlst (dp_strs _), .lst hl2 (dp_strs _), ?_, ?_, PyData.eqvAll ((kvs.map (·.1)).map PyData.str) (S.map PyData.str), rfl, ?_⟩
                · show (PyData.canLayAll0 ((kvs.map (·.1)).map PyData.str) && decide (PyData.depthAll ((kvs.map (·.1)).map PyData.str) + 1 ≤ 64)) = true
                  rw [l1, l2]
                  rfl
                · show (PyData.canLayAll0 (S.map PyData.str) && decide (PyData.depthAll (S.map PyData.str) + 1 ≤ 64)) = true
                  rw [l3, l4]
                  rfl
                have ea : PyData.eqvAll ((kvs.map (·.1)).map PyData.str) (S.map PyData.str) = decide ((kvs.map (·.1)).Pairwise fun a b => ltZ a b = true) := by
                  rw [Bool.eq_iff_iff, decide_eq_true_eq, eqv_strs, names_asc so ndS hmem2]
                have q : ∀ H', Same H H' → Q (.bl (skD (.tup [.int r, .int m, .int o, .tup ks]))) H' := q
                rw [eys, ← ea] at q
                have s08 := s07.trans s8
                have esum : (kvs.map (fun e : Str × Int => e.2)).sum = sumC kvs := rfl
                cases hea : PyData.eqvAll ((kvs.map (·.1)).map PyData.str) (S.map PyData.str) with
                | false =>
                  rw [hea, Bool.false_and] at q
                  exact iteF (q H8 s08)
                | true =>
                  rw [hea, Bool.true_and] at q
                  refine iteT ⟨.int r, rfl, _, _, rfl, rfl, .int o, rfl, _, _, rfl, rfl, cmulL (by omega) (by omega), .int (m - (kvs.map (fun e : Str × Int => e.2)).sum), rfl, _, _, rfl, rfl, _, rfl, ?_⟩
                  rw [esum]
                  by_cases k1 : (r + 1) * o ≤ m - sumC kvs
                  · rw [decide_eq_true k1] at q ⊢
                    rw [Bool.true_and] at q
                    refine iteT ⟨.int r, rfl, _, _, rfl, rfl, cmulL (by decide) (by decide), .int o, rfl, _, _, rfl, rfl, cmulL (by omega) (by omega), _, _, rfl, rfl, ?_⟩
                    exact q H8 s08
                  · rw [decide_eq_false k1] at q ⊢
                    rw [Bool.false_and] at q
                    exact iteF (q H8 s08)
          | _ => exact iteT (iteT (no s03 fun c => by obtain ⟨_, _, _, _, e, _⟩ := skD_is c; cases e))
      · rw [skD_long h2l] at q
        refine ⟨true, congrArg V.bl ?_, iteT (iteT (q H (Same.refl H)))⟩
        rw [decide_eq_false (by
          intro z
          injection z with z
          omega)]
        rfl
    | _ => exact iteT (iteT (q H (Same.refl H)))
end
end Kb

namespace Kb
open PySem PySem.Spec PyProof.Rows L2 SrtZ SrtO RZ SrtR
theorem steps_iff : ∀ {ds : List Dat}, (stepsB ds).all id = true ↔ (AscD ds ∧ ∀ d ∈ ds, ∀ e ∈ ds, roomT d = roomT e) := fun {ds} => by
  refine ⟨steps_asc, fun ⟨h1, h2⟩ => ?_⟩
  refine List.all_eq_true.mpr fun b hb => ?_
  unfold stepsB at hb
  obtain ⟨⟨d, e⟩, hm, rfl⟩ := List.mem_map.mp hb
  obtain ⟨i, hi⟩ := List.mem_iff_getElem?.mp hm
  obtain ⟨k1, k2⟩ := (List.getElem?_zip_eq_some (z := (d, e))).mp hi
  rw [List.getElem?_drop] at k2
  obtain ⟨l1, e1⟩ := List.getElem?_eq_some_iff.mp k1
  obtain ⟨l2, e2⟩ := List.getElem?_eq_some_iff.mp k2
  have := List.pairwise_iff_getElem.mp h1 i (1 + i) l1 l2 (by omega)
  rw [e1, e2] at this
  show (decide (srcT d < srcT e) && decide (roomT d = roomT e)) = true
  rw [decide_eq_true this, decide_eq_true (h2 d (List.mem_of_getElem? k1) e (List.mem_of_getElem? k2))]
  rfl
theorem eqv_ints : ∀ a b : List Int, PyData.eqvAll (a.map PyData.int) (b.map PyData.int) = true ↔ a = b
  | [], [] => ⟨fun _ => rfl, fun _ => rfl⟩
  | [], y :: b => ⟨fun h => (nomatch h), fun h => (nomatch h)⟩
  | x :: a, [] => ⟨fun h => (nomatch h), fun h => (nomatch h)⟩
  | x :: a, y :: b => by
    show ((x == y) && PyData.eqvAll (a.map PyData.int) (b.map PyData.int)) = true ↔ _
    rw [Bool.and_eq_true, eqv_ints a b, beq_iff_eq]
    constructor
    · rintro ⟨rfl, rfl⟩
      rfl
    · intro h
      injection h with h1 h2
      exact ⟨h1, h2⟩
theorem lay_ints : ∀ xs : List Int, PyData.canLayAll0 (xs.map PyData.int) = true ∧ PyData.depthAll (xs.map PyData.int) = 0
  | [] => ⟨rfl, rfl⟩
  | x :: xs => by
    obtain ⟨h1, h2⟩ := lay_ints xs
    constructor
    · show (true && PyData.canLayAll0 (xs.map PyData.int)) = true
      rw [h1]
      rfl
    · show max 0 (PyData.depthAll (xs.map PyData.int)) = 0
      rw [h2]
      rfl
theorem dp_ints {K : PySem.W.Frag} {H : Hp} : ∀ xs : List Int, DpAll K H (xs.map V.int) (xs.map PyData.int)
  | [] => .nil
  | x :: xs => .cons (.int x) (dp_ints xs)
theorem ints_shaped (xs : List Int) : SeqAt.shaped (.list (xs.map PyData.int)) = true := by
  obtain ⟨l1, l2⟩ := lay_ints xs
  show (PyData.canLayAll0 (xs.map PyData.int) && decide (PyData.depthAll (xs.map PyData.int) + 1 ≤ 64)) = true
  rw [l1, l2]
  rfl
/-- ints sorted, each once: themselves only if they ascend -/
theorem ints_asc {L S : List Int} (so : S.Pairwise (· < ·)) (hm : ∀ z, z ∈ S ↔ z ∈ L) : L = S ↔ L.Pairwise (· < ·) := by
  have nd : ∀ {l : List Int}, l.Pairwise (· < ·) → l.Nodup := fun {l} p => p.imp fun h e => by rw [e] at h; omega
  constructor
  · rintro rfl
    exact so
  · intro h
    exact List.Perm.eq_of_pairwise (le := fun (a b : Int) => a < b) (fun a b _ _ h1 h2 => by omega) h so ((List.perm_ext_iff_of_nodup (nd h) (nd so)).mpr fun z => (hm z).symm)
theorem one_room {ms L : List Int} (nd : ms.Nodup) (hm : ∀ k, k ∈ ms ↔ k ∈ L) : ms.length ≤ 1 ↔ ∀ x ∈ L, ∀ y ∈ L, x = y := by
  constructor
  · intro h x hx y hy
    have hx := (hm x).mpr hx
    have hy := (hm y).mpr hy
    match ms, h, hx, hy with
    | [z], _, hx, hy => rw [List.mem_singleton.mp hx, List.mem_singleton.mp hy]
  · intro h
    match ms, nd, hm with
    | [], _, _ => exact Nat.zero_le _
    | [_], _, _ => exact Nat.le_refl _
    | a :: b :: r, nd, hm =>
      have := h a ((hm a).mp List.mem_cons_self) b ((hm b).mp (List.mem_cons_of_mem _ List.mem_cons_self))
      rw [List.nodup_cons] at nd
      exact absurd (this ▸ List.mem_cons_self) nd.1
theorem nd_le9 {ms : List Int} (nd : ms.Nodup) (h : ∀ k ∈ ms, 1 ≤ k ∧ k ≤ 9) : ms.length ≤ 9 := by
  have : ms.Perm (rng19.filter fun k => decide (k ∈ ms)) := (List.perm_ext_iff_of_nodup nd (List.Nodup.sublist List.filter_sublist (by decide))).mpr fun k => by
    rw [List.mem_filter, decide_eq_true_eq, rng_mem]
    exact ⟨fun z => ⟨h k z, z⟩, fun z => z.2⟩
  rw [this.length_eq]
  exact List.length_filter_le _ _
def isT3 : Dat → Bool
  | .tup [_, _, _] => true
  | _ => false
theorem isT3_is {d : Dat} (h : isT3 d = true) : ∃ d1 d2 d3, d = .tup [d1, d2, d3] := by
  match d, h with
  | .tup [d1, d2, d3], _ => exact ⟨d1, d2, d3, rfl⟩
theorem isT3_no {ds : List Dat} (h : ds.length ≠ 3) : isT3 (.tup ds) = false := by
  match ds, h with
  | [], _ => rfl
  | [_], _ => rfl
  | [_, _], _ => rfl
  | [_, _, _], h => exact absurd rfl h
  | _ :: _ :: _ :: _ :: _, _ => rfl
section
variable {P : Program} {w : World} {K : PySem.W.Frag} {mg : Str → Option Value} {base : Heap}
/-! _law_is_book -/
def spIsBookL (K : PySem.W.Frag) : Sp := fun vs H Q _ => ∃ (v : V) (d : Dat), vs = [v] ∧ DtAt K H v d ∧ (∀ ds, d = .tup ds → ds.length ≤ 1000) ∧ ∀ H', Same H H' → Q (.bl (bookB d)) H'
theorem ok_is_bookL (T : Blt mg) (n_set : mg "set" = none) (dis_int : Dnis_int K mg) (dis_name : Dnis_name K mg) (dis_sketch : Dnis_sketch K mg) (d : Dnis_book K mg) : FnOk P w K mg base CX0 3 d.f d.fd ["_law_thing"] (spIsBookL K) := by
  have Gis_int : FnOk P w K mg base CX0 1 dis_int.f dis_int.fd ["_law_thing", "_law_least"] (spIsIntL K) := ok_is_intL T dis_int
  have Gis_sketch : FnOk P w K mg base CX0 2 dis_sketch.f dis_sketch.fd ["_law_thing"] (spIsSketchD K) := ok_is_sketchL T n_set dis_int dis_name dis_sketch
  refine d.F.ok scis_book (fun vs H Q E h => ?_) (fun cdv A outer s H vs Q E hr h => ?_)
  · obtain ⟨v, n, rfl, _⟩ := h
    rfl
  · obtain ⟨v, x, rfl, hx, hlen, q⟩ := h
    refine ⟨_, (pss_cons (ps_if (PW.pt (pw_or (pt_not (pt_val (pe_callB (call_isD (K := K) rfl) (by rfl) T.n_isinstance (by decide +kernel) (pa_cons (pv 0) (pa_cons (pe_bltn (v := .ty "tuple") (by rfl) T.n_tuple (by decide +kernel) rfl) pa_nil))))) (pw_or1 (pt_not (pt_val (pe_callB (cr_all rfl) (by rfl) T.n_all (by decide +kernel) (pa_cons (pe_lc (own := [("_law_one", 5)]) (g := gName 5) (tt := tYes) rfl scis_book.nd (pi_tup (pv 0)) (blkOk_by (N := Nis_book) (sc := defScope sis_book) (by decide +kernel)) (fun _ _ _ _ _ => pg_name (i := 5) scis_book.nd rfl (Or.inl rfl)) (fun _ _ _ _ _ => pts_nil) (fun _ _ _ _ _ => (pe_and (pe_callB (r := rIsE' K) (call_isD (K := K) rfl) (by rfl) T.n_isinstance (show bootBuiltins (Str.ofString "isinstance") = some (Value.builtin "isinstance") by decide +kernel) (pa_cons (pv 5) (pa_cons (pe_bltn (v := .ty "tuple") (by rfl) T.n_tuple (by decide +kernel) rfl) pa_nil))) (pe_one (pe_cmpR op_eq (pe_callB (call_lenK (K := K) rfl) (by rfl) T.n_len (show bootBuiltins (Str.ofString "len") = some (Value.builtin "len") by decide +kernel) (pa_cons (pv 5) pa_nil)) pe_int (nomark _)))))) pa_nil)))))))
      (pss_one (ps_ret pe_bl))
      pss_nil)
    (pss_cons (ps_for PassesOwn.never rfl (pi_tup (pv 0)) (pg_tup (by rfl) (pgs_cons (pg_name (i := 1) scis_book.nd rfl (Or.inl rfl)) (pgs_cons (pg_name (i := 2) scis_book.nd rfl (Or.inl rfl)) (pgs_cons (pg_name (i := 3) scis_book.nd rfl (Or.inl rfl)) pgs_nil))))
      (pss_one (ps_if (PW.pt (pw_or (pt_not (pt_val (pe_call Gis_int (hr.mono (by omega)) (by rfl) dis_int.g dis_int.F.kp dis_int.b .nil pass0 (pa_cons (pv 1) (pa_cons pe_int pa_nil))))) (pw_or (pt_cmpR op_gt (pv 1) pe_int (nomark _)) (pw_or (pt_not (pt_val (pe_call Gis_sketch (hr.mono (by omega)) (by rfl) dis_sketch.g dis_sketch.F.kp dis_sketch.b .nil pass0 (pa_cons (pv 3) pa_nil)))) (pw_or (pt_not (pt_val (pe_call Gis_int (hr.mono (by omega)) (by rfl) dis_int.g dis_int.F.kp dis_int.b .nil pass0 (pa_cons (pv 2) (pa_cons pe_int pa_nil))))) (pw_or1 (pt_cmpR op_ne (pv 2) (pe_ix ix_tup (pv 3) pe_int (fun _ _ => rfl)) (nomark _))))))))
        (pss_one (ps_ret pe_bl))
        pss_nil)))
    (pss_cons (ps_setLc (i := 4) (own := [("_law_one", 5)]) (g := gName 5) (tt := tYes) rfl scis_book.nd rfl rfl (sw_true rfl rfl rfl (by decide +kernel)) (pi_tup (pv 0)) (blkOk_by (N := Nis_book) (sc := defScope sis_book) (by decide +kernel)) (fun _ _ _ _ _ => pg_name (i := 5) scis_book.nd rfl (Or.inl rfl)) (fun _ _ _ _ _ => pts_nil) (fun _ _ _ _ _ => (pe_ix (r := rIxT K) ix_tup (pv 5) pe_int (fun _ _ => rfl))))
    (pss_one (ps_ret (pe_and (pe_cmpR (op_eqD hr.units) (pv 4) (pe_callB (cr_sortedSet rfl) (by rfl) T.n_sorted (by decide +kernel) (pa_cons (pe_callTy (cr_setOfI rfl) (by rfl) n_set (by decide +kernel) (pa_cons (pv 4) pa_nil)) pa_nil)) (nomark _)) (pe_one (pe_cmpR op_le (pe_callB call_lenSet (by rfl) T.n_len (by decide +kernel) (pa_cons (pe_callTy (cr_setOfI rfl) (by rfl) n_set (by decide +kernel) (pa_cons (pe_lc (own := [("_law_one", 5)]) (g := gName 5) (tt := tYes) rfl scis_book.nd (pi_tup (pv 0)) (blkOk_by (N := Nis_book) (sc := defScope sis_book) (by decide +kernel)) (fun _ _ _ _ _ => pg_name (i := 5) scis_book.nd rfl (Or.inl rfl)) (fun _ _ _ _ _ => pts_nil) (fun _ _ _ _ _ => (pe_ix (r := rIxT K) ix_tup (pe_ix (r := rIxT K) ix_tup (pv 5) pe_int (fun _ _ => rfl)) pe_int (fun _ _ => rfl)))) pa_nil)) pa_nil)) pe_int (nomark _))))))))), ?_⟩
    obtain ⟨t, ty, kI, kB, kS, kT⟩ := hx.ty
    refine ⟨v, rfl, v, _, t, _, isT x, rfl, .ty "tuple", ty, kT, isT x, rfl, ?_⟩
    cases x with
    | tup ds =>
      obtain ⟨a, xs, rfl, h1, h2, h3⟩ := hx.tup
      have hl := Paired.length h3
      have hdl := hlen ds rfl
      have no : ∀ {H'}, Same H H' → ¬ bookB (.tup ds) = true → Q (.bl false) H' := fun {H'} s n => by
        have := q H' s
        rw [show bookB (.tup ds) = false by simpa using n] at this
        exact this
      have bk_all : bookB (.tup ds) = true → ∀ d ∈ ds, trB d = true := fun c => by
        obtain ⟨ds', e, k, _⟩ := bookB_is c
        cases e
        exact k
      refine iteF ⟨.ref a, rfl, a, rfl, ⟨_, h1.seq⟩, fun D nD => ?_⟩
      refine lc_tup (xs := xs) (fun i H3 => Same H H3 ∧ H3 D = some (.lst (((ds.take i).map isT3).map V.bl))) ⟨same_upd nD, upd_same⟩ (fun i H3 _ h3 => (h1.same h3.1).seq) (fun i u H3 hu g3 => ?_) (fun H3 g3 => ?_)
      · obtain ⟨e, he, hat⟩ := paired_at h3 hu
        obtain ⟨s3, hD⟩ := g3
        have hat3 := hat.same s3
        have fin : ∃ acc, H3 D = some (.lst acc) ∧ acc.length < sizeLine ∧ (Same H (upd H3 D (.lst (acc ++ [V.bl (isT3 e)]))) ∧ (upd H3 D (.lst (acc ++ [V.bl (isT3 e)]))) D = some (.lst (((ds.take (i + 1)).map isT3).map V.bl))) := by
          refine ⟨_, hD, ?_, Same.put s3 nD, ?_⟩
          · rw [List.length_map, List.length_map, List.length_take, sizeLine_eq]
            omega
          · rw [upd_same, List.take_add_one, he, List.map_append, List.map_append]
            rfl
        obtain ⟨te, tye, _, _, _, kTe⟩ := hat3.ty
        refine ⟨rfl, u, rfl, u, _, te, _, isT e, rfl, .ty "tuple", tye, kTe, isT e, rfl, ?_⟩
        cases e with
        | tup es =>
          obtain ⟨b, zs, rfl, b1, b2, b3⟩ := hat3.tup
          have bl := Paired.length b3
          refine iteT ⟨.ref b, rfl, b, zs, rfl, .inr b1.seq, rfl, ?_⟩
          by_cases h2 : es.length = 3
          · rw [show decide (V.int ((zs.length : Nat) : Int) = V.int 3) = true from decide_eq_true (by rw [bl, h2]; rfl)]
            obtain ⟨y1, y2, y3, rfl⟩ := three h2
            exact fin
          · rw [show decide (V.int ((zs.length : Nat) : Int) = V.int 3) = false from decide_eq_false (fun z => h2 (by injection z with z; omega))]
            rw [isT3_no h2] at fin
            exact fin
        | _ => exact iteF fin
      obtain ⟨s3, hD⟩ := g3
      rw [hl, List.take_length] at hD
      refine ⟨D, _, rfl, sql hD, _, rfl, ?_⟩
      cases hal : (ds.map isT3).all id with
      | false =>
        refine iteT (no s3 fun c => ?_)
        have : (ds.map isT3).all id = true := by
          rw [List.all_map]
          refine List.all_eq_true.mpr fun d hd => ?_
          obtain ⟨_, _, _, _, _, rfl, _⟩ := trB_is (bk_all c d hd)
          rfl
        rw [this] at hal
        cases hal
      | true =>
        rw [List.all_map] at hal
        have ht3 : ∀ d ∈ ds, isT3 d = true := fun d hd => List.all_eq_true.mp hal d hd
        refine iteF ⟨.ref a, rfl, a, rfl, ⟨_, (h1.same s3).seq⟩, for_tup (xs := xs) (fun i σ H4 => ∃ y1 y2 y3 : Option V, σ = [some (.ref a), y1, y2, y3, none, none] ∧ Same H H4 ∧ ∀ d ∈ ds.take i, trB d = true)
          ⟨none, none, none, rfl, s3, fun _ h => nomatch h⟩ (fun i σ H4 _ ⟨_, _, _, _, b4, _⟩ => (h1.same b4).seq) ?_ ?_⟩
        · rintro i v σ H4 hi ⟨y1, y2, y3, rfl, s4, hall⟩
          obtain ⟨e, he, hat⟩ := paired_at h3 hi
          have hat4 := hat.same s4
          obtain ⟨d1, d2, d3, rfl⟩ := isT3_is (ht3 e (List.mem_of_getElem? he))
          have nob : ∀ {H'}, Same H H' → ¬ trB (.tup [d1, d2, d3]) = true → Q (.bl false) H' := fun {H'} s n => no s fun c => n (bk_all c _ (List.mem_of_getElem? he))
          obtain ⟨b, zs, rfl, b1, b2, b3⟩ := hat4.tup
          obtain ⟨z1, z2, z3, rfl⟩ := three (show zs.length = 3 from Paired.length b3)
          obtain ⟨p1, p2, p3⟩ := paired3 b3
          refine ⟨b, _, rfl, b1.seq, rfl, _, _, rfl, _, _, rfl, _, _, rfl, rfl, ?_⟩
          refine ⟨z1, rfl, z1, d1, 1, rfl, p1, geB 1 (intD d1), rfl, ?_⟩
          have trb : trB (.tup [d1, d2, d3]) = true → ∃ s m, d1 = .int s ∧ d2 = .int m ∧ 1 ≤ s ∧ s ≤ 9 ∧ 0 ≤ m ∧ skD d3 = true ∧ d3.at1 = .int m := fun c => by
            obtain ⟨s, r, m, o, ks, e, k1, k9, _, _, m0, sk⟩ := trB_is c
            cases e
            exact ⟨s, m, rfl, rfl, k1, k9, m0, sk, rfl⟩
          cases g1 : geB 1 (intD d1) with
          | false =>
            refine iteT (iteT (nob s4 fun c => ?_))
            obtain ⟨s, m, rfl, rfl, k1, _⟩ := trb c
            have g1 : decide ((1 : Int) ≤ s) = false := g1
            rw [decide_eq_true k1] at g1
            cases g1
          | true =>
            cases d1 with
            | int s =>
              have k1 : 1 ≤ s := of_decide_eq_true g1
              obtain ⟨rfl, _⟩ := p1.int
              refine iteF ⟨.int s, rfl, _, _, rfl, rfl, decide (s > 9), rfl, ?_⟩
              by_cases k9 : s > 9
              · rw [decide_eq_true k9]
                refine iteT (iteT (nob s4 fun c => ?_))
                obtain ⟨s', m, e, _, _, k9', _⟩ := trb c
                cases e
                omega
              rw [decide_eq_false k9]
              refine iteF ⟨z3, rfl, z3, d3, rfl, p3, fun H5 s5 => ⟨skD d3, rfl, ?_⟩⟩
              have s05 := s4.trans s5
              cases ck : skD d3 with
              | false =>
                refine iteT (iteT (nob s05 fun c => ?_))
                obtain ⟨s', m, _, _, _, _, _, k, _⟩ := trb c
                rw [k] at ck
                cases ck
              | true =>
                refine iteF ⟨z2, rfl, z2, d2, 0, rfl, p2.same s5, geB 0 (intD d2), rfl, ?_⟩
                cases g2 : geB 0 (intD d2) with
                | false =>
                  refine iteT (iteT (nob s05 fun c => ?_))
                  obtain ⟨s', m, _, rfl, _, _, m0, _, _⟩ := trb c
                  have g2 : decide ((0 : Int) ≤ m) = false := g2
                  rw [decide_eq_true m0] at g2
                  cases g2
                | true =>
                  cases d2 with
                  | int n =>
                    obtain ⟨rfl, _⟩ := p2.int
                    obtain ⟨r, m, o, ks, rfl, r1, r64, m0, o0, _⟩ := skD_is ck
                    obtain ⟨k, ws, rfl, w1, w2, w3⟩ := (p3.same s5).tup
                    obtain ⟨u1, u2, u3, u4, rfl⟩ := four (show ws.length = 4 from Paired.length w3)
                    obtain ⟨f1, f2, f3, f4⟩ := paired4 w3
                    obtain ⟨rfl, _⟩ := f2.int
                    refine iteF ⟨.int n, rfl, .ref k, rfl, k, _, _, _, rfl, rfl, w1.seq, atI_nat (j := 1) rfl, rfl, !decide (V.int n = V.int m), rfl, ?_⟩
                    by_cases hnm : n = m
                    · subst hnm
                      rw [show (!decide (V.int n = V.int n)) = false by rw [decide_eq_true rfl]; rfl]
                      refine iteF ⟨_, _, _, rfl, s05, fun d hd => ?_⟩
                      rw [List.take_add_one, he] at hd
                      rcases List.mem_append.mp hd with hd | hd
                      · exact hall d hd
                      · rw [List.mem_singleton.mp hd]
                        show (srcB (some s) && (true && (skD (.tup [.int r, .int n, .int o, .tup ks]) && decide (some n = some n)))) = true
                        rw [ck, decide_eq_true rfl]
                        show ((decide (1 ≤ s) && decide (s ≤ 9)) && (true && (true && true))) = true
                        rw [decide_eq_true k1, decide_eq_true (by omega : s ≤ 9)]
                        rfl
                    · rw [show (!decide (V.int n = V.int m)) = true by rw [decide_eq_false (fun z => hnm (by injection z))]; rfl]
                      refine iteT (nob s05 fun c => ?_)
                      obtain ⟨s', m', _, e2, _, _, _, _, e3⟩ := trb c
                      cases e2
                      cases e3
                      exact hnm rfl
                  | _ => cases g2
            | _ => cases g1
        · rintro σ H4 ⟨y1, y2, y3, rfl, s4, hall⟩
          rw [hl, List.take_length] at hall
          have h14 := h1.same s4
          refine ⟨.ref a, rfl, a, rfl, ⟨_, h14.seq⟩, fun D2 nD2 => ?_⟩
          refine lc_tup (xs := xs) (fun i H5 => Same H4 H5 ∧ H5 D2 = some (.lst (((ds.take i).map srcT).map V.int))) ⟨same_upd nD2, upd_same⟩ (fun i H5 _ h5 => (h14.same h5.1).seq) (fun i u H5 hu g5 => ?_) (fun H5 g5 => ?_)
          · obtain ⟨e, he, hat⟩ := paired_at h3 hu
            obtain ⟨s5, hD2⟩ := g5
            have ct := hall e (List.mem_of_getElem? he)
            obtain ⟨u1, k1, i1, r1, m1, z3, z4, rfl, f1, f2, f0, fn, f3, _⟩ := tr_of (hat.same (s4.trans s5)) ct
            refine ⟨rfl, .ref u1, rfl, u1, _, _, _, rfl, rfl, f1.seq, atI_nat (j := 0) rfl, _, hD2, ?_, Same.put s5 nD2, ?_⟩
            · rw [List.length_map, List.length_map, List.length_take, sizeLine_eq]
              omega
            · rw [upd_same, List.take_add_one, he, List.map_append, List.map_append, f0]
              rfl
          obtain ⟨s5, hD2⟩ := g5
          rw [hl, List.take_length] at hD2
          refine ⟨.ref D2, rfl, .ref D2, rfl, D2, ds.map srcT, rfl, sql hD2, by rw [List.length_map]; omega, fun p n ms np hn mnd mln hms => ?_⟩
          have m9 : n ≤ 9 := by
            rw [← mln]
            refine nd_le9 mnd fun k hk => ?_
            obtain ⟨d, hd, rfl⟩ := List.mem_map.mp ((hms k).mp hk)
            exact srcT_rng (hall d hd)
          refine ⟨p, _, n, rfl, upd_same, by omega, fun ss l so hmem hsl nl => ?_⟩
          have hmem2 : ∀ z, z ∈ ss ↔ z ∈ ds.map srcT := fun z => (hmem z).trans (hasI_all _ z)
          generalize SetO _ p (hasI (ds.map srcT) (ds.map srcT).length) n = so2 at nl ⊢
          have s6 : Same H5 (upd (upd H5 p so2) l (.lst (ss.map V.int))) := Same.new (same_upd np) nl
          have hlst := sql (K := K) (s6 _ _ hD2)
          have hl2 : SqL K (upd (upd H5 p so2) l (.lst (ss.map V.int))) l (ss.map V.int) := sql upd_same
          generalize upd (upd H5 p so2) l (.lst (ss.map V.int)) = H6 at s6 hlst hl2 ⊢
          refine ⟨.list ((ds.map srcT).map PyData.int), .list (ss.map PyData.int), .lst hlst (dp_ints _), .lst hl2 (dp_ints _), ints_shaped _, ints_shaped _, PyData.eqvAll ((ds.map srcT).map PyData.int) (ss.map PyData.int), rfl, ?_⟩
          have s06 := (s4.trans s5).trans s6
          cases hea : PyData.eqvAll ((ds.map srcT).map PyData.int) (ss.map PyData.int) with
          | false =>
            refine iteF (no s06 fun c => ?_)
            obtain ⟨ds', e, _, c2⟩ := bookB_is c
            cases e
            obtain ⟨asc, _⟩ := steps_asc c2
            have := (eqv_ints _ _).mpr ((ints_asc so hmem2).mpr (List.pairwise_map.mpr asc))
            rw [this] at hea
            cases hea
          | true =>
            have asc : AscD ds := List.pairwise_map.mp ((ints_asc so hmem2).mp ((eqv_ints _ _).mp hea))
            have h16 := h14.same (s5.trans s6)
            refine iteT ⟨.ref a, rfl, a, rfl, ⟨_, h16.seq⟩, fun D3 nD3 => ?_⟩
            refine lc_tup (xs := xs) (fun i H7 => Same H6 H7 ∧ H7 D3 = some (.lst (((ds.take i).map roomT).map V.int))) ⟨same_upd nD3, upd_same⟩ (fun i H7 _ h7 => (h16.same h7.1).seq) (fun i u H7 hu g7 => ?_) (fun H7 g7 => ?_)
            · obtain ⟨e, he, hat⟩ := paired_at h3 hu
              obtain ⟨s7, hD3⟩ := g7
              have ct := hall e (List.mem_of_getElem? he)
              obtain ⟨u1, k1, i1, r1, m1, z3, z4, rfl, f1, f2, f0, fn, f3, _⟩ := tr_of (hat.same (s06.trans s7)) ct
              refine ⟨rfl, .ref u1, rfl, u1, _, _, _, rfl, rfl, f1.seq, atI_nat (j := 2) rfl, k1, _, _, _, rfl, rfl, f2.seq, atI_nat (j := 0) rfl, _, hD3, ?_, Same.put s7 nD3, ?_⟩
              · rw [List.length_map, List.length_map, List.length_take, sizeLine_eq]
                omega
              · rw [upd_same, List.take_add_one, he, List.map_append, List.map_append, f3]
                rfl
            obtain ⟨s7, hD3⟩ := g7
            rw [hl, List.take_length] at hD3
            refine ⟨D3, ds.map roomT, rfl, sql hD3, by rw [List.length_map]; omega, fun p2 n2 ms2 np2 hn2 mnd2 mln2 hms2 => ?_⟩
            rw [List.length_map] at hn2
            have s8 := same_upd (o := SetO w p2 (hasI (ds.map roomT) (ds.map roomT).length) n2) np2
            refine ⟨p2, _, n2, rfl, upd_same, by omega, _, _, rfl, rfl, ?_⟩
            have q : ∀ H', Same H H' → Q (.bl (ds.all trB && (stepsB ds).all id)) H' := q
            have e1 : ds.all trB = true := List.all_eq_true.mpr hall
            have e2 : (stepsB ds).all id = decide ((n2 : Int) ≤ 1) := by
              rw [Bool.eq_iff_iff, decide_eq_true_eq, steps_iff]
              have o := one_room mnd2 hms2
              rw [mln2] at o
              constructor
              · rintro ⟨_, h⟩
                have : n2 ≤ 1 := o.mpr fun x hx y hy => by
                  obtain ⟨d, hd, rfl⟩ := List.mem_map.mp hx
                  obtain ⟨e, he, rfl⟩ := List.mem_map.mp hy
                  exact h d hd e he
                omega
              · intro h
                have h := o.mp (by omega)
                exact ⟨asc, fun d hd e he => h _ (List.mem_map.mpr ⟨d, hd, rfl⟩) _ (List.mem_map.mpr ⟨e, he, rfl⟩)⟩
            rw [e1, e2, Bool.true_and] at q
            exact q _ ((s06.trans s7).trans s8)
    | _ => exact iteT (q H (Same.refl H))
end
end Kb

namespace Kb
open PySem PySem.Spec PyProof.Rows L2 SrtZ SrtO RZ SrtR
abbrev sdeep : Stmt := topS 46
abbrev Ndeep : List Str := ["_law_pot_here", "_law_found", "_law_turn"]
theorem scdeep : FnScope ["_law_pot_here", "_law_found", "_law_turn"] ["_law_pot_here"] (defScope sdeep) := ⟨rfl, rfl, rfl, by decide +kernel, rfl, by decide +kernel, by decide +kernel⟩
abbrev Dndeep (K : PySem.W.Frag) (mg : Str → Option Value) := Dn K mg "_law_deep" sdeep ["_law_pot_here"]
abbrev sbent_sketch : Stmt := topS 47
abbrev Nbent_sketch : List Str := ["_law_pot_here", "_law_sketch", "_law_room", "_law_many", "_law_off", "_law_kept", "_law_some"]
theorem scbent_sketch : FnScope ["_law_pot_here", "_law_sketch", "_law_room", "_law_many", "_law_off", "_law_kept", "_law_some"] ["_law_pot_here", "_law_sketch"] (defScope sbent_sketch) := ⟨rfl, rfl, rfl, by decide +kernel, rfl, by decide +kernel, by decide +kernel⟩
abbrev Dnbent_sketch (K : PySem.W.Frag) (mg : Str → Option Value) := Dn K mg "_law_bent_sketch" sbent_sketch ["_law_pot_here", "_law_sketch"]
/-! right data of any kind -/
def OkV (K : PySem.W.Frag) (H : Hp) (v : V) : Prop := ∃ d, DtAt K H v d ∧ ∀ ds, d = .tup ds → ds.length ≤ 1000
inductive AllOk (K : PySem.W.Frag) (H : Hp) : List V → Prop
  | nil : AllOk K H []
  | cons {x : V} {xs : List V} : OkV K H x → AllOk K H xs → AllOk K H (x :: xs)
theorem OkV.keep {K : PySem.W.Frag} {H H' : Hp} {v : V} (h : OkV K H v) (k : KpD H H') : OkV K H' v := let ⟨d, h1, h2⟩ := h; ⟨d, h1.keep k, h2⟩
theorem OkV.same {K : PySem.W.Frag} {H H' : Hp} {v : V} (h : OkV K H v) (s : Same H H') : OkV K H' v := h.keep (kpD_same s)
theorem AllOk.keep {K : PySem.W.Frag} {H H' : Hp} {xs : List V} (h : AllOk K H xs) (k : KpD H H') : AllOk K H' xs := by
  induction h with
  | nil => exact .nil
  | cons a _ ih => exact .cons (a.keep k) ih
theorem AllOk.same {K : PySem.W.Frag} {H H' : Hp} {xs : List V} (h : AllOk K H xs) (s : Same H H') : AllOk K H' xs := h.keep (kpD_same s)
theorem AllOk.app {K : PySem.W.Frag} {H : Hp} {xs ys : List V} (h : AllOk K H xs) (k : AllOk K H ys) : AllOk K H (xs ++ ys) := by
  induction h with
  | nil => exact k
  | cons a _ ih => exact .cons a ih
theorem AllOk.mem {K : PySem.W.Frag} {H : Hp} {xs : List V} (h : AllOk K H xs) {x : V} (hx : x ∈ xs) : OkV K H x := by
  induction h with
  | nil => cases hx
  | cons a _ ih =>
    rcases List.mem_cons.mp hx with rfl | hx
    · exact a
    · exact ih hx
theorem AllOk.of {K : PySem.W.Frag} {H : Hp} : ∀ {xs : List V}, (∀ x ∈ xs, OkV K H x) → AllOk K H xs
  | [], _ => .nil
  | x :: xs, h => .cons (h x List.mem_cons_self) (AllOk.of fun y hy => h y (List.mem_cons_of_mem _ hy))
theorem AllOk.cut {K : PySem.W.Frag} {H : Hp} {xs : List V} {lo hi : Option Int} (h : AllOk K H xs) : AllOk K H (cutV xs lo hi) := .of fun x hx => h.mem (List.mem_of_mem_drop (List.mem_of_mem_take hx))
theorem AllOk.rev {K : PySem.W.Frag} {H : Hp} {xs : List V} (h : AllOk K H xs) : AllOk K H xs.reverse := .of fun x hx => h.mem (List.mem_reverse.mp hx)
theorem cut_le (xs : List V) (lo hi : Option Int) : (cutV xs lo hi).length ≤ xs.length := by
  unfold cutV
  rw [List.length_take, List.length_drop]
  omega
theorem OkV.tup {K : PySem.W.Frag} {H : Hp} {a : Addr} {xs : List V} (h : Ptp H a xs) (hl : xs.length ≤ 1000) (all : AllOk K H xs) : OkV K H (.ref a) := by
  obtain ⟨ds, hp⟩ : ∃ ds, Paired (DtAt K H) xs ds := by
    clear h hl
    induction all with
    | nil => exact ⟨[], .nil⟩
    | cons h _ ih =>
      obtain ⟨d, h1, _⟩ := h
      obtain ⟨ds, h2⟩ := ih
      exact ⟨d :: ds, .cons h1 h2⟩
  have := Paired.length hp
  exact ⟨.tup ds, DtAt.mk h (by omega) hp, fun ds' e => by cases e; omega⟩
theorem OkV.int {K : PySem.W.Frag} {H : Hp} {i : Int} (h : i.natAbs ≤ 2 ^ 90) : OkV K H (.int i) := ⟨.int i, .lf ⟨rfl, h⟩, fun _ e => nomatch e⟩
theorem OkV.non {K : PySem.W.Frag} {H : Hp} : OkV K H .non := ⟨.non, .lf rfl, fun _ e => nomatch e⟩
theorem OkV.bl {K : PySem.W.Frag} {H : Hp} {b : Bool} : OkV K H (.bl b) := ⟨.bl b, .lf rfl, fun _ e => nomatch e⟩
theorem OkV.str {K : PySem.W.Frag} {H : Hp} {z : Str} (h : z.length ≤ 5000) : OkV K H (.str z) := ⟨.str z, .lf ⟨rfl, h⟩, fun _ e => nomatch e⟩
theorem OkV.lst {K : PySem.W.Frag} {H : Hp} {a : Addr} {xs : List V} (h : H a = some (.lst xs)) : OkV K H (.ref a) := ⟨.lst [], .lf ⟨a, xs, rfl, h⟩, fun _ e => nomatch e⟩
theorem OkV.dic {K : PySem.W.Frag} {H : Hp} {a : Addr} {k : List (Key × V)} (h : H a = some (.dK k)) : OkV K H (.ref a) := ⟨.dic [], .lf ⟨a, k, rfl, h⟩, fun _ e => nomatch e⟩
theorem OkV.of {K : PySem.W.Frag} {H : Hp} {v : V} {d : Dat} (h : DtAt K H v d) (hl : ∀ ds, d = .tup ds → ds.length ≤ 1000) : OkV K H v := ⟨d, h, hl⟩
theorem oks_of {K : PySem.W.Frag} {H : Hp} : ∀ {xs : List V} {ds : List Dat}, Paired (DtAt K H) xs ds → (∀ d ∈ ds, ∀ es, d = .tup es → es.length ≤ 1000) → AllOk K H xs
  | _, _, .nil, _ => .nil
  | _, _, .cons h t, k => .cons ⟨_, h, k _ List.mem_cons_self⟩ (oks_of t fun d hd => k d (List.mem_cons_of_mem _ hd))
section
variable {P : Program} {w : World} {K : PySem.W.Frag} {mg : Str → Option Value} {base : Heap}
/-! _law_deep -/
def spDeep (K : PySem.W.Frag) : Sp := fun vs H Q _ => ∃ (a c : Addr), vs = [.ref a] ∧ Wl a c H ∧ ∀ H' v, Exw a H H' → Wl a c H' → OkV K H' v → Q v H'
theorem ok_deep (T : Blt mg) (ddraw : Dndraw K mg) (dany : Dnany K mg) (d : Dndeep K mg) : FnOk P w K mg base CX0 3 d.f d.fd ["_law_pot_here"] (spDeep K) := by
  have Gdraw : FnOk P w K mg base CX0 1 ddraw.f ddraw.fd ["_law_pot_here", "_law_many"] spDraw := ok_draw T ddraw
  have Gany : FnOk P w K mg base CX0 2 dany.f dany.fd ["_law_pot_here", "_law_things"] spAny := ok_any T ddraw dany
  refine d.F.ok scdeep (fun vs H Q E h => ?_) (fun cdv A outer s H vs Q E hr h => ?_)
  · obtain ⟨a, c, rfl, _⟩ := h
    rfl
  · obtain ⟨a, c, rfl, ww, q⟩ := h
    refine ⟨_, (pss_cons (ps_set (i := 1) scdeep.nd rfl (Or.inl rfl) (pe_call Gany (hr.mono (by omega)) (by rfl) dany.g dany.F.kp dany.b .nil pass0 (pa_cons (pv 0) (pa_cons (pe_lst (pa_cons pe_non (pa_cons (pe_tupF pa_nil) (pa_cons pe_int (pa_cons pe_str pa_nil))))) pa_nil))))
    (pss_cons (ps_for PassesOwn.never rfl (pi_range1 (by rfl) T.n_range (pa_cons (pe_op op_add pe_int (pe_call Gdraw (hr.mono (by omega)) (by rfl) ddraw.g ddraw.F.kp ddraw.b .nil pass0 (pa_cons (pv 0) (pa_cons pe_int pa_nil)))) pa_nil)) (pg_name (i := 2) scdeep.nd rfl (Or.inl rfl))
      (pss_one (ps_set (i := 1) scdeep.nd rfl (Or.inl rfl) (pe_call Gany (hr.mono (by omega)) (by rfl) dany.g dany.F.kp dany.b .nil pass0 (pa_cons (pv 0) (pa_cons (pe_lst (pa_cons (pe_lst (pa_cons (pv 1) pa_nil)) (pa_cons (pe_tupF (pa_cons (pv 1) pa_nil)) (pa_cons (pe_disp (pps_cons pe_int (pv 1) pps_nil) rfl rfl (by simp) (by decide)) pa_nil)))) pa_nil))))))
    (pss_one (ps_ret (pv 1))))), ?_⟩
    have xx := Exw.refl a H
    refine ⟨.ref a, rfl, (by show 0 ≤ sizeLine; decide), fun t1 ot1 nt1 ht1 => ?_⟩
    have ss := same_upd (o := .frz ot1 (.tup [])) nt1
    have kt1 : Ptp (upd H t1 (.frz ot1 (.tup []))) t1 [] := ⟨ot1, upd_same, ht1⟩
    generalize upd H t1 (.frz ot1 (.tup [])) = G1 at ss kt1 ⊢
    have xx := xx.same ss
    have ww := ww.same ss
    have t1_ok : OkV K G1 (.ref t1) := OkV.tup kt1 (by show 0 ≤ 1000; decide) .nil
    refine ⟨(by show 4 ≤ sizeLine; decide), fun l1 nl1 => ?_⟩
    have l1w := ww.ne2 nl1
    have ss := same_upd (o := .lst [.non, .ref t1, .int 0, .str (Str.ofString "a")]) nl1
    have hl1 : (upd G1 l1 (.lst [.non, .ref t1, .int 0, .str (Str.ofString "a")])) l1 = some (.lst [.non, .ref t1, .int 0, .str (Str.ofString "a")]) := upd_same
    generalize upd G1 l1 (.lst [.non, .ref t1, .int 0, .str (Str.ofString "a")]) = G2 at ss hl1 ⊢
    have t1_ok := t1_ok.same ss
    have kt1 := kt1.same ss
    have xx := xx.same ss
    have ww := ww.same ss
    have hl1n := l1w.1
    have l1_all : AllOk K G2 [.non, .ref t1, .int 0, .str (Str.ofString "a")] := (AllOk.cons OkV.non (AllOk.cons t1_ok (AllOk.cons (OkV.int (by decide)) (AllOk.cons (OkV.str (by decide +kernel)) AllOk.nil))))
    refine ⟨a, c, l1, _, rfl, ww, hl1n, hl1, (by show 0 < 4; decide), (by show 4 ≤ 100000; decide), fun H1 v x1 w1 hx => ?_⟩
    have ok1 := (l1_all.mem hx).keep (kpD_exw x1 ww w1)
    have xx := xx.trans x1
    refine ⟨.ref a, rfl, a, c, 8, rfl, w1, by decide, by decide, fun H2 k x2 w2 k0 k8 => ⟨_, _, rfl, rfl, _, rfl, (by show -_ ≤ 12 + k; omega), (by show 12 + k < _; omega), ?_⟩⟩
    obtain ⟨kn, rfl⟩ := Int.eq_ofNat_of_zero_le k0
    have ekn : (12 + (kn : Int)).toNat = kn + 12 := by omega
    rw [ekn]
    refine for_range (lo := 0) (n := kn + 12) (fun i σ H3 => ∃ (u : V) (y : Option V), σ = [some (.ref a), some u, y] ∧ Exw a H H3 ∧ Wl a c H3 ∧ OkV K H3 u) ⟨v, none, rfl, xx.trans x2, w2, ok1.keep (kpD_exw x2 w1 w2)⟩ ?_ ?_
    · rintro i σ H3 hi ⟨u, y, rfl, xx, ww, u_ok⟩
      have hpot := ww
      refine ⟨.ref a, rfl, u, rfl, (by show 1 ≤ sizeLine; decide), fun m1 nm1 => ?_⟩
      have m1w := ww.ne2 nm1
      have ss := same_upd (o := .lst [u]) nm1
      have hm1 : (upd H3 m1 (.lst [u])) m1 = some (.lst [u]) := upd_same
      generalize upd H3 m1 (.lst [u]) = G1 at ss hm1 ⊢
      have u_ok := u_ok.same ss
      have xx := xx.same ss
      have ww := ww.same ss
      have hm1n := m1w.1
      have m1_all : AllOk K G1 [u] := (AllOk.cons u_ok AllOk.nil)
      refine ⟨u, rfl, (by show 1 ≤ sizeLine; decide), fun t2 ot2 nt2 ht2 => ?_⟩
      have ss := same_upd (o := .frz ot2 (.tup [u])) nt2
      have kt2 : Ptp (upd G1 t2 (.frz ot2 (.tup [u]))) t2 [u] := ⟨ot2, upd_same, ht2⟩
      generalize upd G1 t2 (.frz ot2 (.tup [u])) = G2 at ss kt2 ⊢
      have u_ok := u_ok.same ss
      have hm1 := ss _ _ hm1
      have m1_all := m1_all.same ss
      have xx := xx.same ss
      have ww := ww.same ss
      have t2_ok : OkV K G2 (.ref t2) := OkV.tup kt2 (by show 1 ≤ 1000; decide) (.cons u_ok .nil)
      have m1_ok : OkV K G2 (.ref m1) := OkV.lst hm1
      intro dd ndd
      refine ⟨u, rfl, upd_same, [(Sum.inl 0, u)], rfl, (by show 1 ≤ 15; decide), ?_⟩
      have ddw := ww.ne2 ndd
      have ss : Same G2 (upd (upd G2 dd (.dK [])) dd (.dK (mergeK [] [(Sum.inl 0, u)]))) := Same.put (same_upd ndd) ndd
      have dd_ok : OkV K (upd (upd G2 dd (.dK [])) dd (.dK (mergeK [] [(Sum.inl 0, u)]))) (.ref dd) := OkV.dic upd_same
      generalize upd (upd G2 dd (.dK [])) dd (.dK (mergeK [] [(Sum.inl 0, u)])) = GD at ss dd_ok ⊢
      have u_ok := u_ok.same ss
      have hm1 := ss _ _ hm1
      have m1_all := m1_all.same ss
      have t2_ok := t2_ok.same ss
      have kt2 := kt2.same ss
      have m1_ok := m1_ok.same ss
      have xx := xx.same ss
      have ww := ww.same ss
      refine ⟨(by show 3 ≤ sizeLine; decide), fun m2 nm2 => ?_⟩
      have m2w := ww.ne2 nm2
      have ss := same_upd (o := .lst [.ref m1, .ref t2, .ref dd]) nm2
      have hm2 : (upd GD m2 (.lst [.ref m1, .ref t2, .ref dd])) m2 = some (.lst [.ref m1, .ref t2, .ref dd]) := upd_same
      generalize upd GD m2 (.lst [.ref m1, .ref t2, .ref dd]) = G11 at ss hm2 ⊢
      have u_ok := u_ok.same ss
      have hm1 := ss _ _ hm1
      have m1_all := m1_all.same ss
      have t2_ok := t2_ok.same ss
      have kt2 := kt2.same ss
      have m1_ok := m1_ok.same ss
      have dd_ok := dd_ok.same ss
      have xx := xx.same ss
      have ww := ww.same ss
      have hm2n := m2w.1
      have m2_all : AllOk K G11 [.ref m1, .ref t2, .ref dd] := (AllOk.cons m1_ok (AllOk.cons t2_ok (AllOk.cons dd_ok AllOk.nil)))
      refine ⟨a, c, m2, _, rfl, ww, hm2n, hm2, (by show 0 < 3; decide), (by show 3 ≤ 100000; decide), fun H4 v x1 w1 hx => ?_⟩
      exact ⟨v, _, rfl, xx.trans x1, w1, (m2_all.mem hx).keep (kpD_exw x1 ww w1)⟩
    · rintro σ H3 ⟨u, y, rfl, xx, ww, ok⟩
      exact ⟨_, rfl, q H3 u xx ww ok⟩
/-! _law_bent_sketch -/
def spBentSk (K : PySem.W.Frag) : Sp := fun vs H Q _ => ∃ (a c s k : Addr) (r m o : Int) (ys : List V), vs = [.ref a, .ref s] ∧ Wl a c H ∧ Ptp H s [.int r, .int m, .int o, .ref k] ∧ Ptp H k ys ∧ AllOk K H ys ∧ ys.length ≤ 64 ∧ 0 ≤ r ∧ r ≤ 64 ∧ 0 ≤ m ∧ m ≤ 1000000 ∧ 0 ≤ o ∧ o ≤ 1000000 ∧
  ∀ H' v, Exw a H H' → Wl a c H' → OkV K H' v → Q v H'
theorem ok_bent_sketch (T : Blt mg) (ddraw : Dndraw K mg) (dany : Dnany K mg) (ddeep : Dndeep K mg) (d : Dnbent_sketch K mg) : FnOk P w K mg base CX0 4 d.f d.fd ["_law_pot_here", "_law_sketch"] (spBentSk K) := by
  have Gany : FnOk P w K mg base CX0 2 dany.f dany.fd ["_law_pot_here", "_law_things"] spAny := ok_any T ddraw dany
  have Gdeep : FnOk P w K mg base CX0 3 ddeep.f ddeep.fd ["_law_pot_here"] (spDeep K) := ok_deep T ddraw dany ddeep
  refine d.F.ok scbent_sketch (fun vs H Q E h => ?_) (fun cdv A outer s H vs Q E hr h => ?_)
  · obtain ⟨a, c, s, k, r, m, o, ys, rfl, _⟩ := h
    rfl
  · obtain ⟨a, c, sk, k, r, m, o, ys, rfl, ww, ks, kk, y_all, hyl, r0, r64, m0, m1, o0, o1, q⟩ := h
    refine ⟨_, (pss_cons (ps_asg (pv 1) (pg_tup (by rfl) (pgs_cons (pg_name (i := 2) scbent_sketch.nd rfl (Or.inl rfl)) (pgs_cons (pg_name (i := 3) scbent_sketch.nd rfl (Or.inl rfl)) (pgs_cons (pg_name (i := 4) scbent_sketch.nd rfl (Or.inl rfl)) (pgs_cons (pg_name (i := 5) scbent_sketch.nd rfl (Or.inl rfl)) pgs_nil))))))
    (pss_cons (ps_set (i := 6) scbent_sketch.nd rfl (Or.inl rfl) (pe_lst (pa_cons (pe_tupF (pa_cons (pe_op op_add (pv 2) pe_int) (pa_cons (pv 3) (pa_cons (pv 4) (pa_cons (pv 5) pa_nil))))) (pa_cons (pe_tupF (pa_cons (pv 2) (pa_cons (pe_op op_add (pv 3) pe_int) (pa_cons (pv 4) (pa_cons (pv 5) pa_nil))))) (pa_cons (pe_tupF (pa_cons (pv 2) (pa_cons (pv 3) (pa_cons (pe_op op_add (pv 4) pe_int) (pa_cons (pv 5) pa_nil))))) (pa_cons (pe_tupF (pa_cons pe_int (pa_cons (pv 3) (pa_cons (pv 4) (pa_cons (pv 5) pa_nil))))) pa_nil))))))
    (pss_cons (ps_set (i := 6) scbent_sketch.nd rfl (Or.inl rfl) (pe_op op_cat (pv 6) (pe_lst (pa_cons (pe_tupF (pa_cons (pv 2) (pa_cons (pv 3) (pa_cons (pv 4) (pa_cons (pe_op op_catP (pv 5) (pe_slice sl_tupP (pv 5) po_none (po_some pe_int))) pa_nil))))) (pa_cons (pe_tupF (pa_cons (pv 2) (pa_cons (pv 3) (pa_cons (pv 4) (pa_cons (pe_revP (pv 5)) pa_nil))))) (pa_cons (pe_tupF (pa_cons (pv 2) (pa_cons (pv 3) (pa_cons (pv 4) (pa_cons (pe_callTy call_list_of (by rfl) T.n_list (by decide +kernel) (pa_cons (pv 5) pa_nil)) pa_nil))))) (pa_cons pe_non pa_nil)))))))
    (pss_cons (ps_set (i := 6) scbent_sketch.nd rfl (Or.inl rfl) (pe_op op_cat (pv 6) (pe_lst (pa_cons (pe_tupF (pa_cons pe_bl (pa_cons (pv 3) (pa_cons (pv 4) (pa_cons (pv 5) pa_nil))))) (pa_cons (pe_tupF (pa_cons pe_int (pa_cons (pv 3) (pa_cons (pv 4) (pa_cons (pv 5) pa_nil))))) (pa_cons (pe_tupF (pa_cons (pv 2) (pa_cons (pv 3) (pa_cons (pv 4) (pa_cons (pe_op op_catP (pv 5) (pe_tupF (pa_cons (pe_tupF (pa_cons pe_str (pa_cons pe_int pa_nil))) pa_nil))) pa_nil))))) (pa_cons (pe_slice sl_tupP (pv 1) po_none (po_some pe_int)) pa_nil)))))))
    (pss_one (ps_ret (pe_call Gany (hr.mono (by omega)) (by rfl) dany.g dany.F.kp dany.b .nil pass0 (pa_cons (pv 0) (pa_cons (pe_op op_cat (pv 6) (pe_lst (pa_cons (pe_tupF (pa_cons (pv 2) (pa_cons (pv 3) (pa_cons (pe_un un_neg pe_int) (pa_cons (pv 5) pa_nil))))) (pa_cons (pe_tupF (pa_cons (pv 2) (pa_cons (pv 3) (pa_cons (pv 4) (pa_cons (pe_slice sl_tupP (pv 5) (po_some pe_int) po_none) pa_nil))))) (pa_cons (pe_callTy call_list_of (by rfl) T.n_list (by decide +kernel) (pa_cons (pv 1) pa_nil)) (pa_cons (pe_call Gdeep (hr.mono (by omega)) (by rfl) ddeep.g ddeep.F.kp ddeep.b .nil pass0 (pa_cons (pv 0) pa_nil)) pa_nil)))))) pa_nil))))))))), ?_⟩
    have xx := Exw.refl a H
    have r_ok : ∀ {H' : Hp}, OkV K H' (.int r) := .int (nat_le r0 (by omega : r ≤ 64) (by omega))
    have m_ok : ∀ {H' : Hp}, OkV K H' (.int m) := .int (nat_le m0 m1 (by omega))
    have o_ok : ∀ {H' : Hp}, OkV K H' (.int o) := .int (nat_le o0 o1 (by omega))
    have r1_ok : ∀ {H' : Hp}, OkV K H' (.int (r + 1)) := .int (nat_le (by omega) (by omega : r + 1 ≤ 65) (by omega))
    have hb : (1000001 : Nat) ≤ 2 ^ 90 := by decide
    have m1_ok : ∀ {H' : Hp}, OkV K H' (.int (m + 1)) := .int (Nat.le_trans (by omega) hb)
    have o1_ok : ∀ {H' : Hp}, OkV K H' (.int (o + 1)) := .int (Nat.le_trans (by omega) hb)
    have k_ok := OkV.tup kk (by omega) y_all
    refine ⟨.ref sk, rfl, sk, _, rfl, ks.seq, rfl, _, _, rfl, _, _, rfl, _, _, rfl, _, _, rfl, rfl, ?_⟩
    refine ⟨.int r, rfl, _, _, rfl, rfl, .int m, rfl, .int o, rfl, .ref k, rfl, (by show 4 ≤ sizeLine; decide), fun t1 ot1 nt1 ht1 => ?_⟩
    have ss := same_upd (o := .frz ot1 (.tup [.int (r + 1), .int m, .int o, .ref k])) nt1
    have kt1 : Ptp (upd H t1 (.frz ot1 (.tup [.int (r + 1), .int m, .int o, .ref k]))) t1 [.int (r + 1), .int m, .int o, .ref k] := ⟨ot1, upd_same, ht1⟩
    generalize upd H t1 (.frz ot1 (.tup [.int (r + 1), .int m, .int o, .ref k])) = G1 at ss kt1 ⊢
    have ks := ks.same ss
    have kk := kk.same ss
    have y_all := y_all.same ss
    have k_ok := k_ok.same ss
    have xx := xx.same ss
    have ww := ww.same ss
    have t1_ok : OkV K G1 (.ref t1) := OkV.tup kt1 (by show 4 ≤ 1000; decide) (.cons r1_ok (.cons m_ok (.cons o_ok (.cons k_ok .nil))))
    refine ⟨.int r, rfl, .int m, rfl, _, _, rfl, rfl, .int o, rfl, .ref k, rfl, (by show 4 ≤ sizeLine; decide), fun t2 ot2 nt2 ht2 => ?_⟩
    have ss := same_upd (o := .frz ot2 (.tup [.int r, .int (m + 1), .int o, .ref k])) nt2
    have kt2 : Ptp (upd G1 t2 (.frz ot2 (.tup [.int r, .int (m + 1), .int o, .ref k]))) t2 [.int r, .int (m + 1), .int o, .ref k] := ⟨ot2, upd_same, ht2⟩
    generalize upd G1 t2 (.frz ot2 (.tup [.int r, .int (m + 1), .int o, .ref k])) = G2 at ss kt2 ⊢
    have ks := ks.same ss
    have kk := kk.same ss
    have y_all := y_all.same ss
    have k_ok := k_ok.same ss
    have t1_ok := t1_ok.same ss
    have kt1 := kt1.same ss
    have xx := xx.same ss
    have ww := ww.same ss
    have t2_ok : OkV K G2 (.ref t2) := OkV.tup kt2 (by show 4 ≤ 1000; decide) (.cons r_ok (.cons m1_ok (.cons o_ok (.cons k_ok .nil))))
    refine ⟨.int r, rfl, .int m, rfl, .int o, rfl, _, _, rfl, rfl, .ref k, rfl, (by show 4 ≤ sizeLine; decide), fun t3 ot3 nt3 ht3 => ?_⟩
    have ss := same_upd (o := .frz ot3 (.tup [.int r, .int m, .int (o + 1), .ref k])) nt3
    have kt3 : Ptp (upd G2 t3 (.frz ot3 (.tup [.int r, .int m, .int (o + 1), .ref k]))) t3 [.int r, .int m, .int (o + 1), .ref k] := ⟨ot3, upd_same, ht3⟩
    generalize upd G2 t3 (.frz ot3 (.tup [.int r, .int m, .int (o + 1), .ref k])) = G3 at ss kt3 ⊢
    have ks := ks.same ss
    have kk := kk.same ss
    have y_all := y_all.same ss
    have k_ok := k_ok.same ss
    have t1_ok := t1_ok.same ss
    have kt1 := kt1.same ss
    have t2_ok := t2_ok.same ss
    have kt2 := kt2.same ss
    have xx := xx.same ss
    have ww := ww.same ss
    have t3_ok : OkV K G3 (.ref t3) := OkV.tup kt3 (by show 4 ≤ 1000; decide) (.cons r_ok (.cons m_ok (.cons o1_ok (.cons k_ok .nil))))
    refine ⟨.int m, rfl, .int o, rfl, .ref k, rfl, (by show 4 ≤ sizeLine; decide), fun t4 ot4 nt4 ht4 => ?_⟩
    have ss := same_upd (o := .frz ot4 (.tup [.int 0, .int m, .int o, .ref k])) nt4
    have kt4 : Ptp (upd G3 t4 (.frz ot4 (.tup [.int 0, .int m, .int o, .ref k]))) t4 [.int 0, .int m, .int o, .ref k] := ⟨ot4, upd_same, ht4⟩
    generalize upd G3 t4 (.frz ot4 (.tup [.int 0, .int m, .int o, .ref k])) = G4 at ss kt4 ⊢
    have ks := ks.same ss
    have kk := kk.same ss
    have y_all := y_all.same ss
    have k_ok := k_ok.same ss
    have t1_ok := t1_ok.same ss
    have kt1 := kt1.same ss
    have t2_ok := t2_ok.same ss
    have kt2 := kt2.same ss
    have t3_ok := t3_ok.same ss
    have kt3 := kt3.same ss
    have xx := xx.same ss
    have ww := ww.same ss
    have t4_ok : OkV K G4 (.ref t4) := OkV.tup kt4 (by show 4 ≤ 1000; decide) (.cons (OkV.int (by decide)) (.cons m_ok (.cons o_ok (.cons k_ok .nil))))
    refine ⟨(by show 4 ≤ sizeLine; decide), fun l1 nl1 => ?_⟩
    have l1w := ww.ne2 nl1
    have ss := same_upd (o := .lst [.ref t1, .ref t2, .ref t3, .ref t4]) nl1
    have hl1 : (upd G4 l1 (.lst [.ref t1, .ref t2, .ref t3, .ref t4])) l1 = some (.lst [.ref t1, .ref t2, .ref t3, .ref t4]) := upd_same
    generalize upd G4 l1 (.lst [.ref t1, .ref t2, .ref t3, .ref t4]) = G5 at ss hl1 ⊢
    have ks := ks.same ss
    have kk := kk.same ss
    have y_all := y_all.same ss
    have k_ok := k_ok.same ss
    have t1_ok := t1_ok.same ss
    have kt1 := kt1.same ss
    have t2_ok := t2_ok.same ss
    have kt2 := kt2.same ss
    have t3_ok := t3_ok.same ss
    have kt3 := kt3.same ss
    have t4_ok := t4_ok.same ss
    have kt4 := kt4.same ss
    have xx := xx.same ss
    have ww := ww.same ss
    have hl1n := l1w.1
    have l1_all : AllOk K G5 [.ref t1, .ref t2, .ref t3, .ref t4] := (AllOk.cons t1_ok (AllOk.cons t2_ok (AllOk.cons t3_ok (AllOk.cons t4_ok AllOk.nil))))
    refine ⟨.ref l1, rfl, .int r, rfl, .int m, rfl, .int o, rfl, .ref k, rfl, .ref k, rfl, 1, rfl, k, _, rfl, kk, fun p1 p1H sp1 kp1 => ?_⟩
    have ks := ks.same sp1
    have kk := kk.same sp1
    have y_all := y_all.same sp1
    have k_ok := k_ok.same sp1
    have t1_ok := t1_ok.same sp1
    have kt1 := kt1.same sp1
    have t2_ok := t2_ok.same sp1
    have kt2 := kt2.same sp1
    have t3_ok := t3_ok.same sp1
    have kt3 := kt3.same sp1
    have t4_ok := t4_ok.same sp1
    have kt4 := kt4.same sp1
    have hl1 := sp1 _ _ hl1
    have l1_all := l1_all.same sp1
    have xx := xx.same sp1
    have ww := ww.same sp1
    have p1_all := AllOk.cut (lo := none) (hi := some 1) y_all
    refine ⟨k, p1, _, _, rfl, rfl, kk, kp1, (by have := cut_le ys none (some 1); rw [sizeLine_eq]; omega), fun p2 p2H sp2 kp2 => ?_⟩
    have ks := ks.same sp2
    have kk := kk.same sp2
    have y_all := y_all.same sp2
    have k_ok := k_ok.same sp2
    have t1_ok := t1_ok.same sp2
    have kt1 := kt1.same sp2
    have t2_ok := t2_ok.same sp2
    have kt2 := kt2.same sp2
    have t3_ok := t3_ok.same sp2
    have kt3 := kt3.same sp2
    have t4_ok := t4_ok.same sp2
    have kt4 := kt4.same sp2
    have hl1 := sp2 _ _ hl1
    have l1_all := l1_all.same sp2
    have kp1 := kp1.same sp2
    have p1_all := p1_all.same sp2
    have xx := xx.same sp2
    have ww := ww.same sp2
    have p2_all := AllOk.app y_all p1_all
    have p2_ok := OkV.tup kp2 (by have := cut_le ys none (some 1); rw [List.length_append]; omega) p2_all
    refine ⟨(by show 4 ≤ sizeLine; decide), fun t5 ot5 nt5 ht5 => ?_⟩
    have ss := same_upd (o := .frz ot5 (.tup [.int r, .int m, .int o, .ref p2])) nt5
    have kt5 : Ptp (upd p2H t5 (.frz ot5 (.tup [.int r, .int m, .int o, .ref p2]))) t5 [.int r, .int m, .int o, .ref p2] := ⟨ot5, upd_same, ht5⟩
    generalize upd p2H t5 (.frz ot5 (.tup [.int r, .int m, .int o, .ref p2])) = G6 at ss kt5 ⊢
    have ks := ks.same ss
    have kk := kk.same ss
    have y_all := y_all.same ss
    have k_ok := k_ok.same ss
    have t1_ok := t1_ok.same ss
    have kt1 := kt1.same ss
    have t2_ok := t2_ok.same ss
    have kt2 := kt2.same ss
    have t3_ok := t3_ok.same ss
    have kt3 := kt3.same ss
    have t4_ok := t4_ok.same ss
    have kt4 := kt4.same ss
    have hl1 := ss _ _ hl1
    have l1_all := l1_all.same ss
    have kp1 := kp1.same ss
    have p1_all := p1_all.same ss
    have kp2 := kp2.same ss
    have p2_all := p2_all.same ss
    have p2_ok := p2_ok.same ss
    have xx := xx.same ss
    have ww := ww.same ss
    have t5_ok : OkV K G6 (.ref t5) := OkV.tup kt5 (by show 4 ≤ 1000; decide) (.cons r_ok (.cons m_ok (.cons o_ok (.cons p2_ok .nil))))
    refine ⟨.int r, rfl, .int m, rfl, .int o, rfl, .ref k, rfl, k, _, rfl, kk.seq, fun p3 p3H sp3 kp3 => ?_⟩
    have ks := ks.same sp3
    have kk := kk.same sp3
    have y_all := y_all.same sp3
    have k_ok := k_ok.same sp3
    have t1_ok := t1_ok.same sp3
    have kt1 := kt1.same sp3
    have t2_ok := t2_ok.same sp3
    have kt2 := kt2.same sp3
    have t3_ok := t3_ok.same sp3
    have kt3 := kt3.same sp3
    have t4_ok := t4_ok.same sp3
    have kt4 := kt4.same sp3
    have hl1 := sp3 _ _ hl1
    have l1_all := l1_all.same sp3
    have kp1 := kp1.same sp3
    have p1_all := p1_all.same sp3
    have kp2 := kp2.same sp3
    have p2_all := p2_all.same sp3
    have p2_ok := p2_ok.same sp3
    have t5_ok := t5_ok.same sp3
    have kt5 := kt5.same sp3
    have xx := xx.same sp3
    have ww := ww.same sp3
    have p3_ok := OkV.tup kp3 (by rw [List.length_reverse]; omega) y_all.rev
    refine ⟨(by show 4 ≤ sizeLine; decide), fun t6 ot6 nt6 ht6 => ?_⟩
    have ss := same_upd (o := .frz ot6 (.tup [.int r, .int m, .int o, .ref p3])) nt6
    have kt6 : Ptp (upd p3H t6 (.frz ot6 (.tup [.int r, .int m, .int o, .ref p3]))) t6 [.int r, .int m, .int o, .ref p3] := ⟨ot6, upd_same, ht6⟩
    generalize upd p3H t6 (.frz ot6 (.tup [.int r, .int m, .int o, .ref p3])) = G7 at ss kt6 ⊢
    have ks := ks.same ss
    have kk := kk.same ss
    have y_all := y_all.same ss
    have k_ok := k_ok.same ss
    have t1_ok := t1_ok.same ss
    have kt1 := kt1.same ss
    have t2_ok := t2_ok.same ss
    have kt2 := kt2.same ss
    have t3_ok := t3_ok.same ss
    have kt3 := kt3.same ss
    have t4_ok := t4_ok.same ss
    have kt4 := kt4.same ss
    have hl1 := ss _ _ hl1
    have l1_all := l1_all.same ss
    have kp1 := kp1.same ss
    have p1_all := p1_all.same ss
    have kp2 := kp2.same ss
    have p2_all := p2_all.same ss
    have p2_ok := p2_ok.same ss
    have t5_ok := t5_ok.same ss
    have kt5 := kt5.same ss
    have p3_ok := p3_ok.same ss
    have xx := xx.same ss
    have ww := ww.same ss
    have t6_ok : OkV K G7 (.ref t6) := OkV.tup kt6 (by show 4 ≤ 1000; decide) (.cons r_ok (.cons m_ok (.cons o_ok (.cons p3_ok .nil))))
    refine ⟨.int r, rfl, .int m, rfl, .int o, rfl, .ref k, rfl, k, ys, rfl, .inr kk.seq, fun b1 nb1 => ?_⟩
    have ss := same_upd (o := .lst ys) nb1
    have b1_ok : OkV K (upd G7 b1 (.lst ys)) (.ref b1) := OkV.lst upd_same
    generalize upd G7 b1 (.lst ys) = G8 at ss b1_ok ⊢
    have ks := ks.same ss
    have kk := kk.same ss
    have y_all := y_all.same ss
    have k_ok := k_ok.same ss
    have t1_ok := t1_ok.same ss
    have kt1 := kt1.same ss
    have t2_ok := t2_ok.same ss
    have kt2 := kt2.same ss
    have t3_ok := t3_ok.same ss
    have kt3 := kt3.same ss
    have t4_ok := t4_ok.same ss
    have kt4 := kt4.same ss
    have hl1 := ss _ _ hl1
    have l1_all := l1_all.same ss
    have kp1 := kp1.same ss
    have p1_all := p1_all.same ss
    have kp2 := kp2.same ss
    have p2_all := p2_all.same ss
    have p2_ok := p2_ok.same ss
    have t5_ok := t5_ok.same ss
    have kt5 := kt5.same ss
    have p3_ok := p3_ok.same ss
    have t6_ok := t6_ok.same ss
    have kt6 := kt6.same ss
    have xx := xx.same ss
    have ww := ww.same ss
    refine ⟨(by show 4 ≤ sizeLine; decide), fun t7 ot7 nt7 ht7 => ?_⟩
    have ss := same_upd (o := .frz ot7 (.tup [.int r, .int m, .int o, .ref b1])) nt7
    have kt7 : Ptp (upd G8 t7 (.frz ot7 (.tup [.int r, .int m, .int o, .ref b1]))) t7 [.int r, .int m, .int o, .ref b1] := ⟨ot7, upd_same, ht7⟩
    generalize upd G8 t7 (.frz ot7 (.tup [.int r, .int m, .int o, .ref b1])) = G9 at ss kt7 ⊢
    have ks := ks.same ss
    have kk := kk.same ss
    have y_all := y_all.same ss
    have k_ok := k_ok.same ss
    have t1_ok := t1_ok.same ss
    have kt1 := kt1.same ss
    have t2_ok := t2_ok.same ss
    have kt2 := kt2.same ss
    have t3_ok := t3_ok.same ss
    have kt3 := kt3.same ss
    have t4_ok := t4_ok.same ss
    have kt4 := kt4.same ss
    have hl1 := ss _ _ hl1
    have l1_all := l1_all.same ss
    have kp1 := kp1.same ss
    have p1_all := p1_all.same ss
    have kp2 := kp2.same ss
    have p2_all := p2_all.same ss
    have p2_ok := p2_ok.same ss
    have t5_ok := t5_ok.same ss
    have kt5 := kt5.same ss
    have p3_ok := p3_ok.same ss
    have t6_ok := t6_ok.same ss
    have kt6 := kt6.same ss
    have b1_ok := b1_ok.same ss
    have xx := xx.same ss
    have ww := ww.same ss
    have t7_ok : OkV K G9 (.ref t7) := OkV.tup kt7 (by show 4 ≤ 1000; decide) (.cons r_ok (.cons m_ok (.cons o_ok (.cons b1_ok .nil))))
    refine ⟨(by show 4 ≤ sizeLine; decide), fun l2 nl2 => ?_⟩
    have l2w := ww.ne2 nl2
    have ss := same_upd (o := .lst [.ref t5, .ref t6, .ref t7, .non]) nl2
    have hl2 : (upd G9 l2 (.lst [.ref t5, .ref t6, .ref t7, .non])) l2 = some (.lst [.ref t5, .ref t6, .ref t7, .non]) := upd_same
    generalize upd G9 l2 (.lst [.ref t5, .ref t6, .ref t7, .non]) = G10 at ss hl2 ⊢
    have ks := ks.same ss
    have kk := kk.same ss
    have y_all := y_all.same ss
    have k_ok := k_ok.same ss
    have t1_ok := t1_ok.same ss
    have kt1 := kt1.same ss
    have t2_ok := t2_ok.same ss
    have kt2 := kt2.same ss
    have t3_ok := t3_ok.same ss
    have kt3 := kt3.same ss
    have t4_ok := t4_ok.same ss
    have kt4 := kt4.same ss
    have hl1 := ss _ _ hl1
    have l1_all := l1_all.same ss
    have kp1 := kp1.same ss
    have p1_all := p1_all.same ss
    have kp2 := kp2.same ss
    have p2_all := p2_all.same ss
    have p2_ok := p2_ok.same ss
    have t5_ok := t5_ok.same ss
    have kt5 := kt5.same ss
    have p3_ok := p3_ok.same ss
    have t6_ok := t6_ok.same ss
    have kt6 := kt6.same ss
    have b1_ok := b1_ok.same ss
    have t7_ok := t7_ok.same ss
    have kt7 := kt7.same ss
    have xx := xx.same ss
    have ww := ww.same ss
    have hl2n := l2w.1
    have l2_all : AllOk K G10 [.ref t5, .ref t6, .ref t7, .non] := (AllOk.cons t5_ok (AllOk.cons t6_ok (AllOk.cons t7_ok (AllOk.cons OkV.non AllOk.nil))))
    refine ⟨l1, l2, _, _, rfl, rfl, hl1, hl2, (by show 4 + 4 ≤ sizeLine; decide), fun l3 nl3 => ?_⟩
    have l3w := ww.ne2 nl3
    have ss := same_upd (o := .lst ([.ref t1, .ref t2, .ref t3, .ref t4] ++ [.ref t5, .ref t6, .ref t7, .non])) nl3
    have hl3 : (upd G10 l3 (.lst ([.ref t1, .ref t2, .ref t3, .ref t4] ++ [.ref t5, .ref t6, .ref t7, .non]))) l3 = some (.lst ([.ref t1, .ref t2, .ref t3, .ref t4] ++ [.ref t5, .ref t6, .ref t7, .non])) := upd_same
    generalize upd G10 l3 (.lst ([.ref t1, .ref t2, .ref t3, .ref t4] ++ [.ref t5, .ref t6, .ref t7, .non])) = G11 at ss hl3 ⊢
    have ks := ks.same ss
    have kk := kk.same ss
    have y_all := y_all.same ss
    have k_ok := k_ok.same ss
    have t1_ok := t1_ok.same ss
    have kt1 := kt1.same ss
    have t2_ok := t2_ok.same ss
    have kt2 := kt2.same ss
    have t3_ok := t3_ok.same ss
    have kt3 := kt3.same ss
    have t4_ok := t4_ok.same ss
    have kt4 := kt4.same ss
    have hl1 := ss _ _ hl1
    have l1_all := l1_all.same ss
    have kp1 := kp1.same ss
    have p1_all := p1_all.same ss
    have kp2 := kp2.same ss
    have p2_all := p2_all.same ss
    have p2_ok := p2_ok.same ss
    have t5_ok := t5_ok.same ss
    have kt5 := kt5.same ss
    have p3_ok := p3_ok.same ss
    have t6_ok := t6_ok.same ss
    have kt6 := kt6.same ss
    have b1_ok := b1_ok.same ss
    have t7_ok := t7_ok.same ss
    have kt7 := kt7.same ss
    have hl2 := ss _ _ hl2
    have l2_all := l2_all.same ss
    have xx := xx.same ss
    have ww := ww.same ss
    have hl3n := l3w.1
    have l3_all := AllOk.app l1_all l2_all
    refine ⟨.ref l3, rfl, .int m, rfl, .int o, rfl, .ref k, rfl, (by show 4 ≤ sizeLine; decide), fun t8 ot8 nt8 ht8 => ?_⟩
    have ss := same_upd (o := .frz ot8 (.tup [.bl true, .int m, .int o, .ref k])) nt8
    have kt8 : Ptp (upd G11 t8 (.frz ot8 (.tup [.bl true, .int m, .int o, .ref k]))) t8 [.bl true, .int m, .int o, .ref k] := ⟨ot8, upd_same, ht8⟩
    generalize upd G11 t8 (.frz ot8 (.tup [.bl true, .int m, .int o, .ref k])) = G12 at ss kt8 ⊢
    have ks := ks.same ss
    have kk := kk.same ss
    have y_all := y_all.same ss
    have k_ok := k_ok.same ss
    have t1_ok := t1_ok.same ss
    have kt1 := kt1.same ss
    have t2_ok := t2_ok.same ss
    have kt2 := kt2.same ss
    have t3_ok := t3_ok.same ss
    have kt3 := kt3.same ss
    have t4_ok := t4_ok.same ss
    have kt4 := kt4.same ss
    have hl1 := ss _ _ hl1
    have l1_all := l1_all.same ss
    have kp1 := kp1.same ss
    have p1_all := p1_all.same ss
    have kp2 := kp2.same ss
    have p2_all := p2_all.same ss
    have p2_ok := p2_ok.same ss
    have t5_ok := t5_ok.same ss
    have kt5 := kt5.same ss
    have p3_ok := p3_ok.same ss
    have t6_ok := t6_ok.same ss
    have kt6 := kt6.same ss
    have b1_ok := b1_ok.same ss
    have t7_ok := t7_ok.same ss
    have kt7 := kt7.same ss
    have hl2 := ss _ _ hl2
    have l2_all := l2_all.same ss
    have hl3 := ss _ _ hl3
    have l3_all := l3_all.same ss
    have xx := xx.same ss
    have ww := ww.same ss
    have t8_ok : OkV K G12 (.ref t8) := OkV.tup kt8 (by show 4 ≤ 1000; decide) (.cons OkV.bl (.cons m_ok (.cons o_ok (.cons k_ok .nil))))
    refine ⟨.int m, rfl, .int o, rfl, .ref k, rfl, (by show 4 ≤ sizeLine; decide), fun t9 ot9 nt9 ht9 => ?_⟩
    have ss := same_upd (o := .frz ot9 (.tup [.int 65, .int m, .int o, .ref k])) nt9
    have kt9 : Ptp (upd G12 t9 (.frz ot9 (.tup [.int 65, .int m, .int o, .ref k]))) t9 [.int 65, .int m, .int o, .ref k] := ⟨ot9, upd_same, ht9⟩
    generalize upd G12 t9 (.frz ot9 (.tup [.int 65, .int m, .int o, .ref k])) = G13 at ss kt9 ⊢
    have ks := ks.same ss
    have kk := kk.same ss
    have y_all := y_all.same ss
    have k_ok := k_ok.same ss
    have t1_ok := t1_ok.same ss
    have kt1 := kt1.same ss
    have t2_ok := t2_ok.same ss
    have kt2 := kt2.same ss
    have t3_ok := t3_ok.same ss
    have kt3 := kt3.same ss
    have t4_ok := t4_ok.same ss
    have kt4 := kt4.same ss
    have hl1 := ss _ _ hl1
    have l1_all := l1_all.same ss
    have kp1 := kp1.same ss
    have p1_all := p1_all.same ss
    have kp2 := kp2.same ss
    have p2_all := p2_all.same ss
    have p2_ok := p2_ok.same ss
    have t5_ok := t5_ok.same ss
    have kt5 := kt5.same ss
    have p3_ok := p3_ok.same ss
    have t6_ok := t6_ok.same ss
    have kt6 := kt6.same ss
    have b1_ok := b1_ok.same ss
    have t7_ok := t7_ok.same ss
    have kt7 := kt7.same ss
    have hl2 := ss _ _ hl2
    have l2_all := l2_all.same ss
    have hl3 := ss _ _ hl3
    have l3_all := l3_all.same ss
    have t8_ok := t8_ok.same ss
    have kt8 := kt8.same ss
    have xx := xx.same ss
    have ww := ww.same ss
    have t9_ok : OkV K G13 (.ref t9) := OkV.tup kt9 (by show 4 ≤ 1000; decide) (.cons (OkV.int (by decide)) (.cons m_ok (.cons o_ok (.cons k_ok .nil))))
    refine ⟨.int r, rfl, .int m, rfl, .int o, rfl, .ref k, rfl, (by show 2 ≤ sizeLine; decide), fun u1 ou1 nu1 hu1 => ?_⟩
    have ss := same_upd (o := .frz ou1 (.tup [.str (Str.ofString "A"), .int 1])) nu1
    have ku1 : Ptp (upd G13 u1 (.frz ou1 (.tup [.str (Str.ofString "A"), .int 1]))) u1 [.str (Str.ofString "A"), .int 1] := ⟨ou1, upd_same, hu1⟩
    generalize upd G13 u1 (.frz ou1 (.tup [.str (Str.ofString "A"), .int 1])) = G14 at ss ku1 ⊢
    have ks := ks.same ss
    have kk := kk.same ss
    have y_all := y_all.same ss
    have k_ok := k_ok.same ss
    have t1_ok := t1_ok.same ss
    have kt1 := kt1.same ss
    have t2_ok := t2_ok.same ss
    have kt2 := kt2.same ss
    have t3_ok := t3_ok.same ss
    have kt3 := kt3.same ss
    have t4_ok := t4_ok.same ss
    have kt4 := kt4.same ss
    have hl1 := ss _ _ hl1
    have l1_all := l1_all.same ss
    have kp1 := kp1.same ss
    have p1_all := p1_all.same ss
    have kp2 := kp2.same ss
    have p2_all := p2_all.same ss
    have p2_ok := p2_ok.same ss
    have t5_ok := t5_ok.same ss
    have kt5 := kt5.same ss
    have p3_ok := p3_ok.same ss
    have t6_ok := t6_ok.same ss
    have kt6 := kt6.same ss
    have b1_ok := b1_ok.same ss
    have t7_ok := t7_ok.same ss
    have kt7 := kt7.same ss
    have hl2 := ss _ _ hl2
    have l2_all := l2_all.same ss
    have hl3 := ss _ _ hl3
    have l3_all := l3_all.same ss
    have t8_ok := t8_ok.same ss
    have kt8 := kt8.same ss
    have t9_ok := t9_ok.same ss
    have kt9 := kt9.same ss
    have xx := xx.same ss
    have ww := ww.same ss
    have u1_ok : OkV K G14 (.ref u1) := OkV.tup ku1 (by show 2 ≤ 1000; decide) (.cons (OkV.str (by decide +kernel)) (.cons (OkV.int (by decide)) .nil))
    refine ⟨(by show 1 ≤ sizeLine; decide), fun u2 ou2 nu2 hu2 => ?_⟩
    have ss := same_upd (o := .frz ou2 (.tup [.ref u1])) nu2
    have ku2 : Ptp (upd G14 u2 (.frz ou2 (.tup [.ref u1]))) u2 [.ref u1] := ⟨ou2, upd_same, hu2⟩
    generalize upd G14 u2 (.frz ou2 (.tup [.ref u1])) = G15 at ss ku2 ⊢
    have ks := ks.same ss
    have kk := kk.same ss
    have y_all := y_all.same ss
    have k_ok := k_ok.same ss
    have t1_ok := t1_ok.same ss
    have kt1 := kt1.same ss
    have t2_ok := t2_ok.same ss
    have kt2 := kt2.same ss
    have t3_ok := t3_ok.same ss
    have kt3 := kt3.same ss
    have t4_ok := t4_ok.same ss
    have kt4 := kt4.same ss
    have hl1 := ss _ _ hl1
    have l1_all := l1_all.same ss
    have kp1 := kp1.same ss
    have p1_all := p1_all.same ss
    have kp2 := kp2.same ss
    have p2_all := p2_all.same ss
    have p2_ok := p2_ok.same ss
    have t5_ok := t5_ok.same ss
    have kt5 := kt5.same ss
    have p3_ok := p3_ok.same ss
    have t6_ok := t6_ok.same ss
    have kt6 := kt6.same ss
    have b1_ok := b1_ok.same ss
    have t7_ok := t7_ok.same ss
    have kt7 := kt7.same ss
    have hl2 := ss _ _ hl2
    have l2_all := l2_all.same ss
    have hl3 := ss _ _ hl3
    have l3_all := l3_all.same ss
    have t8_ok := t8_ok.same ss
    have kt8 := kt8.same ss
    have t9_ok := t9_ok.same ss
    have kt9 := kt9.same ss
    have u1_ok := u1_ok.same ss
    have ku1 := ku1.same ss
    have xx := xx.same ss
    have ww := ww.same ss
    have u2_ok : OkV K G15 (.ref u2) := OkV.tup ku2 (by show 1 ≤ 1000; decide) (.cons u1_ok .nil)
    refine ⟨k, u2, _, _, rfl, rfl, kk, ku2, (by rw [sizeLine_eq]; show _ + 1 ≤ _; omega), fun p4 p4H sp4 kp4 => ?_⟩
    have ks := ks.same sp4
    have kk := kk.same sp4
    have y_all := y_all.same sp4
    have k_ok := k_ok.same sp4
    have t1_ok := t1_ok.same sp4
    have kt1 := kt1.same sp4
    have t2_ok := t2_ok.same sp4
    have kt2 := kt2.same sp4
    have t3_ok := t3_ok.same sp4
    have kt3 := kt3.same sp4
    have t4_ok := t4_ok.same sp4
    have kt4 := kt4.same sp4
    have hl1 := sp4 _ _ hl1
    have l1_all := l1_all.same sp4
    have kp1 := kp1.same sp4
    have p1_all := p1_all.same sp4
    have kp2 := kp2.same sp4
    have p2_all := p2_all.same sp4
    have p2_ok := p2_ok.same sp4
    have t5_ok := t5_ok.same sp4
    have kt5 := kt5.same sp4
    have p3_ok := p3_ok.same sp4
    have t6_ok := t6_ok.same sp4
    have kt6 := kt6.same sp4
    have b1_ok := b1_ok.same sp4
    have t7_ok := t7_ok.same sp4
    have kt7 := kt7.same sp4
    have hl2 := sp4 _ _ hl2
    have l2_all := l2_all.same sp4
    have hl3 := sp4 _ _ hl3
    have l3_all := l3_all.same sp4
    have t8_ok := t8_ok.same sp4
    have kt8 := kt8.same sp4
    have t9_ok := t9_ok.same sp4
    have kt9 := kt9.same sp4
    have u1_ok := u1_ok.same sp4
    have ku1 := ku1.same sp4
    have u2_ok := u2_ok.same sp4
    have ku2 := ku2.same sp4
    have xx := xx.same sp4
    have ww := ww.same sp4
    have p4_all := AllOk.app y_all (AllOk.cons u1_ok .nil)
    have p4_ok := OkV.tup kp4 (by rw [List.length_append]; show _ + 1 ≤ _; omega) p4_all
    refine ⟨(by show 4 ≤ sizeLine; decide), fun v1 ov1 nv1 hv1 => ?_⟩
    have ss := same_upd (o := .frz ov1 (.tup [.int r, .int m, .int o, .ref p4])) nv1
    have kv1 : Ptp (upd p4H v1 (.frz ov1 (.tup [.int r, .int m, .int o, .ref p4]))) v1 [.int r, .int m, .int o, .ref p4] := ⟨ov1, upd_same, hv1⟩
    generalize upd p4H v1 (.frz ov1 (.tup [.int r, .int m, .int o, .ref p4])) = G16 at ss kv1 ⊢
    have ks := ks.same ss
    have kk := kk.same ss
    have y_all := y_all.same ss
    have k_ok := k_ok.same ss
    have t1_ok := t1_ok.same ss
    have kt1 := kt1.same ss
    have t2_ok := t2_ok.same ss
    have kt2 := kt2.same ss
    have t3_ok := t3_ok.same ss
    have kt3 := kt3.same ss
    have t4_ok := t4_ok.same ss
    have kt4 := kt4.same ss
    have hl1 := ss _ _ hl1
    have l1_all := l1_all.same ss
    have kp1 := kp1.same ss
    have p1_all := p1_all.same ss
    have kp2 := kp2.same ss
    have p2_all := p2_all.same ss
    have p2_ok := p2_ok.same ss
    have t5_ok := t5_ok.same ss
    have kt5 := kt5.same ss
    have p3_ok := p3_ok.same ss
    have t6_ok := t6_ok.same ss
    have kt6 := kt6.same ss
    have b1_ok := b1_ok.same ss
    have t7_ok := t7_ok.same ss
    have kt7 := kt7.same ss
    have hl2 := ss _ _ hl2
    have l2_all := l2_all.same ss
    have hl3 := ss _ _ hl3
    have l3_all := l3_all.same ss
    have t8_ok := t8_ok.same ss
    have kt8 := kt8.same ss
    have t9_ok := t9_ok.same ss
    have kt9 := kt9.same ss
    have u1_ok := u1_ok.same ss
    have ku1 := ku1.same ss
    have u2_ok := u2_ok.same ss
    have ku2 := ku2.same ss
    have kp4 := kp4.same ss
    have p4_all := p4_all.same ss
    have p4_ok := p4_ok.same ss
    have xx := xx.same ss
    have ww := ww.same ss
    have v1_ok : OkV K G16 (.ref v1) := OkV.tup kv1 (by show 4 ≤ 1000; decide) (.cons r_ok (.cons m_ok (.cons o_ok (.cons p4_ok .nil))))
    refine ⟨.ref sk, rfl, 3, rfl, sk, _, rfl, ks, fun p5 p5H sp5 kp5 => ?_⟩
    have ks := ks.same sp5
    have kk := kk.same sp5
    have y_all := y_all.same sp5
    have k_ok := k_ok.same sp5
    have t1_ok := t1_ok.same sp5
    have kt1 := kt1.same sp5
    have t2_ok := t2_ok.same sp5
    have kt2 := kt2.same sp5
    have t3_ok := t3_ok.same sp5
    have kt3 := kt3.same sp5
    have t4_ok := t4_ok.same sp5
    have kt4 := kt4.same sp5
    have hl1 := sp5 _ _ hl1
    have l1_all := l1_all.same sp5
    have kp1 := kp1.same sp5
    have p1_all := p1_all.same sp5
    have kp2 := kp2.same sp5
    have p2_all := p2_all.same sp5
    have p2_ok := p2_ok.same sp5
    have t5_ok := t5_ok.same sp5
    have kt5 := kt5.same sp5
    have p3_ok := p3_ok.same sp5
    have t6_ok := t6_ok.same sp5
    have kt6 := kt6.same sp5
    have b1_ok := b1_ok.same sp5
    have t7_ok := t7_ok.same sp5
    have kt7 := kt7.same sp5
    have hl2 := sp5 _ _ hl2
    have l2_all := l2_all.same sp5
    have hl3 := sp5 _ _ hl3
    have l3_all := l3_all.same sp5
    have t8_ok := t8_ok.same sp5
    have kt8 := kt8.same sp5
    have t9_ok := t9_ok.same sp5
    have kt9 := kt9.same sp5
    have u1_ok := u1_ok.same sp5
    have ku1 := ku1.same sp5
    have u2_ok := u2_ok.same sp5
    have ku2 := ku2.same sp5
    have kp4 := kp4.same sp5
    have p4_all := p4_all.same sp5
    have p4_ok := p4_ok.same sp5
    have v1_ok := v1_ok.same sp5
    have kv1 := kv1.same sp5
    have xx := xx.same sp5
    have ww := ww.same sp5
    have p5_all := AllOk.cut (lo := none) (hi := some 3) (AllOk.cons r_ok (AllOk.cons m_ok (AllOk.cons o_ok (AllOk.cons k_ok AllOk.nil))))
    have p5_ok := OkV.tup kp5 (by have := cut_le [V.int r, .int m, .int o, .ref k] none (some 3); have : [V.int r, .int m, .int o, .ref k].length = 4 := rfl; omega) p5_all
    refine ⟨(by show 4 ≤ sizeLine; decide), fun l4 nl4 => ?_⟩
    have l4w := ww.ne2 nl4
    have ss := same_upd (o := .lst [.ref t8, .ref t9, .ref v1, .ref p5]) nl4
    have hl4 : (upd p5H l4 (.lst [.ref t8, .ref t9, .ref v1, .ref p5])) l4 = some (.lst [.ref t8, .ref t9, .ref v1, .ref p5]) := upd_same
    generalize upd p5H l4 (.lst [.ref t8, .ref t9, .ref v1, .ref p5]) = G17 at ss hl4 ⊢
    have ks := ks.same ss
    have kk := kk.same ss
    have y_all := y_all.same ss
    have k_ok := k_ok.same ss
    have t1_ok := t1_ok.same ss
    have kt1 := kt1.same ss
    have t2_ok := t2_ok.same ss
    have kt2 := kt2.same ss
    have t3_ok := t3_ok.same ss
    have kt3 := kt3.same ss
    have t4_ok := t4_ok.same ss
    have kt4 := kt4.same ss
    have hl1 := ss _ _ hl1
    have l1_all := l1_all.same ss
    have kp1 := kp1.same ss
    have p1_all := p1_all.same ss
    have kp2 := kp2.same ss
    have p2_all := p2_all.same ss
    have p2_ok := p2_ok.same ss
    have t5_ok := t5_ok.same ss
    have kt5 := kt5.same ss
    have p3_ok := p3_ok.same ss
    have t6_ok := t6_ok.same ss
    have kt6 := kt6.same ss
    have b1_ok := b1_ok.same ss
    have t7_ok := t7_ok.same ss
    have kt7 := kt7.same ss
    have hl2 := ss _ _ hl2
    have l2_all := l2_all.same ss
    have hl3 := ss _ _ hl3
    have l3_all := l3_all.same ss
    have t8_ok := t8_ok.same ss
    have kt8 := kt8.same ss
    have t9_ok := t9_ok.same ss
    have kt9 := kt9.same ss
    have u1_ok := u1_ok.same ss
    have ku1 := ku1.same ss
    have u2_ok := u2_ok.same ss
    have ku2 := ku2.same ss
    have kp4 := kp4.same ss
    have p4_all := p4_all.same ss
    have p4_ok := p4_ok.same ss
    have v1_ok := v1_ok.same ss
    have kv1 := kv1.same ss
    have kp5 := kp5.same ss
    have p5_all := p5_all.same ss
    have p5_ok := p5_ok.same ss
    have xx := xx.same ss
    have ww := ww.same ss
    have hl4n := l4w.1
    have l4_all : AllOk K G17 [.ref t8, .ref t9, .ref v1, .ref p5] := (AllOk.cons t8_ok (AllOk.cons t9_ok (AllOk.cons v1_ok (AllOk.cons p5_ok AllOk.nil))))
    refine ⟨l3, l4, _, _, rfl, rfl, hl3, hl4, (by show 8 + 4 ≤ sizeLine; decide), fun l5 nl5 => ?_⟩
    have l5w := ww.ne2 nl5
    have ss := same_upd (o := .lst (([.ref t1, .ref t2, .ref t3, .ref t4] ++ [.ref t5, .ref t6, .ref t7, .non]) ++ [.ref t8, .ref t9, .ref v1, .ref p5])) nl5
    have hl5 : (upd G17 l5 (.lst (([.ref t1, .ref t2, .ref t3, .ref t4] ++ [.ref t5, .ref t6, .ref t7, .non]) ++ [.ref t8, .ref t9, .ref v1, .ref p5]))) l5 = some (.lst (([.ref t1, .ref t2, .ref t3, .ref t4] ++ [.ref t5, .ref t6, .ref t7, .non]) ++ [.ref t8, .ref t9, .ref v1, .ref p5])) := upd_same
    generalize upd G17 l5 (.lst (([.ref t1, .ref t2, .ref t3, .ref t4] ++ [.ref t5, .ref t6, .ref t7, .non]) ++ [.ref t8, .ref t9, .ref v1, .ref p5])) = G18 at ss hl5 ⊢
    have ks := ks.same ss
    have kk := kk.same ss
    have y_all := y_all.same ss
    have k_ok := k_ok.same ss
    have t1_ok := t1_ok.same ss
    have kt1 := kt1.same ss
    have t2_ok := t2_ok.same ss
    have kt2 := kt2.same ss
    have t3_ok := t3_ok.same ss
    have kt3 := kt3.same ss
    have t4_ok := t4_ok.same ss
    have kt4 := kt4.same ss
    have hl1 := ss _ _ hl1
    have l1_all := l1_all.same ss
    have kp1 := kp1.same ss
    have p1_all := p1_all.same ss
    have kp2 := kp2.same ss
    have p2_all := p2_all.same ss
    have p2_ok := p2_ok.same ss
    have t5_ok := t5_ok.same ss
    have kt5 := kt5.same ss
    have p3_ok := p3_ok.same ss
    have t6_ok := t6_ok.same ss
    have kt6 := kt6.same ss
    have b1_ok := b1_ok.same ss
    have t7_ok := t7_ok.same ss
    have kt7 := kt7.same ss
    have hl2 := ss _ _ hl2
    have l2_all := l2_all.same ss
    have hl3 := ss _ _ hl3
    have l3_all := l3_all.same ss
    have t8_ok := t8_ok.same ss
    have kt8 := kt8.same ss
    have t9_ok := t9_ok.same ss
    have kt9 := kt9.same ss
    have u1_ok := u1_ok.same ss
    have ku1 := ku1.same ss
    have u2_ok := u2_ok.same ss
    have ku2 := ku2.same ss
    have kp4 := kp4.same ss
    have p4_all := p4_all.same ss
    have p4_ok := p4_ok.same ss
    have v1_ok := v1_ok.same ss
    have kv1 := kv1.same ss
    have kp5 := kp5.same ss
    have p5_all := p5_all.same ss
    have p5_ok := p5_ok.same ss
    have hl4 := ss _ _ hl4
    have l4_all := l4_all.same ss
    have xx := xx.same ss
    have ww := ww.same ss
    have hl5n := l5w.1
    have l5_all := AllOk.app l3_all l4_all
    refine ⟨.ref a, rfl, .ref l5, rfl, .int r, rfl, .int m, rfl, 1, rfl, .ref k, rfl, (by show 4 ≤ sizeLine; decide), fun v2 ov2 nv2 hv2 => ?_⟩
    have ss := same_upd (o := .frz ov2 (.tup [.int r, .int m, .int (-1), .ref k])) nv2
    have kv2 : Ptp (upd G18 v2 (.frz ov2 (.tup [.int r, .int m, .int (-1), .ref k]))) v2 [.int r, .int m, .int (-1), .ref k] := ⟨ov2, upd_same, hv2⟩
    generalize upd G18 v2 (.frz ov2 (.tup [.int r, .int m, .int (-1), .ref k])) = G19 at ss kv2 ⊢
    have ks := ks.same ss
    have kk := kk.same ss
    have y_all := y_all.same ss
    have k_ok := k_ok.same ss
    have t1_ok := t1_ok.same ss
    have kt1 := kt1.same ss
    have t2_ok := t2_ok.same ss
    have kt2 := kt2.same ss
    have t3_ok := t3_ok.same ss
    have kt3 := kt3.same ss
    have t4_ok := t4_ok.same ss
    have kt4 := kt4.same ss
    have hl1 := ss _ _ hl1
    have l1_all := l1_all.same ss
    have kp1 := kp1.same ss
    have p1_all := p1_all.same ss
    have kp2 := kp2.same ss
    have p2_all := p2_all.same ss
    have p2_ok := p2_ok.same ss
    have t5_ok := t5_ok.same ss
    have kt5 := kt5.same ss
    have p3_ok := p3_ok.same ss
    have t6_ok := t6_ok.same ss
    have kt6 := kt6.same ss
    have b1_ok := b1_ok.same ss
    have t7_ok := t7_ok.same ss
    have kt7 := kt7.same ss
    have hl2 := ss _ _ hl2
    have l2_all := l2_all.same ss
    have hl3 := ss _ _ hl3
    have l3_all := l3_all.same ss
    have t8_ok := t8_ok.same ss
    have kt8 := kt8.same ss
    have t9_ok := t9_ok.same ss
    have kt9 := kt9.same ss
    have u1_ok := u1_ok.same ss
    have ku1 := ku1.same ss
    have u2_ok := u2_ok.same ss
    have ku2 := ku2.same ss
    have kp4 := kp4.same ss
    have p4_all := p4_all.same ss
    have p4_ok := p4_ok.same ss
    have v1_ok := v1_ok.same ss
    have kv1 := kv1.same ss
    have kp5 := kp5.same ss
    have p5_all := p5_all.same ss
    have p5_ok := p5_ok.same ss
    have hl4 := ss _ _ hl4
    have l4_all := l4_all.same ss
    have hl5 := ss _ _ hl5
    have l5_all := l5_all.same ss
    have xx := xx.same ss
    have ww := ww.same ss
    have v2_ok : OkV K G19 (.ref v2) := OkV.tup kv2 (by show 4 ≤ 1000; decide) (.cons r_ok (.cons m_ok (.cons (OkV.int (by decide)) (.cons k_ok .nil))))
    refine ⟨.int r, rfl, .int m, rfl, .int o, rfl, .ref k, rfl, 1, rfl, k, _, rfl, kk, fun p6 p6H sp6 kp6 => ?_⟩
    have ks := ks.same sp6
    have kk := kk.same sp6
    have y_all := y_all.same sp6
    have k_ok := k_ok.same sp6
    have t1_ok := t1_ok.same sp6
    have kt1 := kt1.same sp6
    have t2_ok := t2_ok.same sp6
    have kt2 := kt2.same sp6
    have t3_ok := t3_ok.same sp6
    have kt3 := kt3.same sp6
    have t4_ok := t4_ok.same sp6
    have kt4 := kt4.same sp6
    have hl1 := sp6 _ _ hl1
    have l1_all := l1_all.same sp6
    have kp1 := kp1.same sp6
    have p1_all := p1_all.same sp6
    have kp2 := kp2.same sp6
    have p2_all := p2_all.same sp6
    have p2_ok := p2_ok.same sp6
    have t5_ok := t5_ok.same sp6
    have kt5 := kt5.same sp6
    have p3_ok := p3_ok.same sp6
    have t6_ok := t6_ok.same sp6
    have kt6 := kt6.same sp6
    have b1_ok := b1_ok.same sp6
    have t7_ok := t7_ok.same sp6
    have kt7 := kt7.same sp6
    have hl2 := sp6 _ _ hl2
    have l2_all := l2_all.same sp6
    have hl3 := sp6 _ _ hl3
    have l3_all := l3_all.same sp6
    have t8_ok := t8_ok.same sp6
    have kt8 := kt8.same sp6
    have t9_ok := t9_ok.same sp6
    have kt9 := kt9.same sp6
    have u1_ok := u1_ok.same sp6
    have ku1 := ku1.same sp6
    have u2_ok := u2_ok.same sp6
    have ku2 := ku2.same sp6
    have kp4 := kp4.same sp6
    have p4_all := p4_all.same sp6
    have p4_ok := p4_ok.same sp6
    have v1_ok := v1_ok.same sp6
    have kv1 := kv1.same sp6
    have kp5 := kp5.same sp6
    have p5_all := p5_all.same sp6
    have p5_ok := p5_ok.same sp6
    have hl4 := sp6 _ _ hl4
    have l4_all := l4_all.same sp6
    have hl5 := sp6 _ _ hl5
    have l5_all := l5_all.same sp6
    have v2_ok := v2_ok.same sp6
    have kv2 := kv2.same sp6
    have xx := xx.same sp6
    have ww := ww.same sp6
    have p6_all := AllOk.cut (lo := some 1) (hi := none) y_all
    have p6_ok := OkV.tup kp6 (by have := cut_le ys (some 1) none; omega) p6_all
    refine ⟨(by show 4 ≤ sizeLine; decide), fun v3 ov3 nv3 hv3 => ?_⟩
    have ss := same_upd (o := .frz ov3 (.tup [.int r, .int m, .int o, .ref p6])) nv3
    have kv3 : Ptp (upd p6H v3 (.frz ov3 (.tup [.int r, .int m, .int o, .ref p6]))) v3 [.int r, .int m, .int o, .ref p6] := ⟨ov3, upd_same, hv3⟩
    generalize upd p6H v3 (.frz ov3 (.tup [.int r, .int m, .int o, .ref p6])) = G20 at ss kv3 ⊢
    have ks := ks.same ss
    have kk := kk.same ss
    have y_all := y_all.same ss
    have k_ok := k_ok.same ss
    have t1_ok := t1_ok.same ss
    have kt1 := kt1.same ss
    have t2_ok := t2_ok.same ss
    have kt2 := kt2.same ss
    have t3_ok := t3_ok.same ss
    have kt3 := kt3.same ss
    have t4_ok := t4_ok.same ss
    have kt4 := kt4.same ss
    have hl1 := ss _ _ hl1
    have l1_all := l1_all.same ss
    have kp1 := kp1.same ss
    have p1_all := p1_all.same ss
    have kp2 := kp2.same ss
    have p2_all := p2_all.same ss
    have p2_ok := p2_ok.same ss
    have t5_ok := t5_ok.same ss
    have kt5 := kt5.same ss
    have p3_ok := p3_ok.same ss
    have t6_ok := t6_ok.same ss
    have kt6 := kt6.same ss
    have b1_ok := b1_ok.same ss
    have t7_ok := t7_ok.same ss
    have kt7 := kt7.same ss
    have hl2 := ss _ _ hl2
    have l2_all := l2_all.same ss
    have hl3 := ss _ _ hl3
    have l3_all := l3_all.same ss
    have t8_ok := t8_ok.same ss
    have kt8 := kt8.same ss
    have t9_ok := t9_ok.same ss
    have kt9 := kt9.same ss
    have u1_ok := u1_ok.same ss
    have ku1 := ku1.same ss
    have u2_ok := u2_ok.same ss
    have ku2 := ku2.same ss
    have kp4 := kp4.same ss
    have p4_all := p4_all.same ss
    have p4_ok := p4_ok.same ss
    have v1_ok := v1_ok.same ss
    have kv1 := kv1.same ss
    have kp5 := kp5.same ss
    have p5_all := p5_all.same ss
    have p5_ok := p5_ok.same ss
    have hl4 := ss _ _ hl4
    have l4_all := l4_all.same ss
    have hl5 := ss _ _ hl5
    have l5_all := l5_all.same ss
    have v2_ok := v2_ok.same ss
    have kv2 := kv2.same ss
    have kp6 := kp6.same ss
    have p6_all := p6_all.same ss
    have p6_ok := p6_ok.same ss
    have xx := xx.same ss
    have ww := ww.same ss
    have v3_ok : OkV K G20 (.ref v3) := OkV.tup kv3 (by show 4 ≤ 1000; decide) (.cons r_ok (.cons m_ok (.cons o_ok (.cons p6_ok .nil))))
    refine ⟨.ref sk, rfl, sk, _, rfl, .inr ks.seq, fun b2 nb2 => ?_⟩
    have ss := same_upd (o := .lst [.int r, .int m, .int o, .ref k]) nb2
    have b2_ok : OkV K (upd G20 b2 (.lst [.int r, .int m, .int o, .ref k])) (.ref b2) := OkV.lst upd_same
    generalize upd G20 b2 (.lst [.int r, .int m, .int o, .ref k]) = G21 at ss b2_ok ⊢
    have ks := ks.same ss
    have kk := kk.same ss
    have y_all := y_all.same ss
    have k_ok := k_ok.same ss
    have t1_ok := t1_ok.same ss
    have kt1 := kt1.same ss
    have t2_ok := t2_ok.same ss
    have kt2 := kt2.same ss
    have t3_ok := t3_ok.same ss
    have kt3 := kt3.same ss
    have t4_ok := t4_ok.same ss
    have kt4 := kt4.same ss
    have hl1 := ss _ _ hl1
    have l1_all := l1_all.same ss
    have kp1 := kp1.same ss
    have p1_all := p1_all.same ss
    have kp2 := kp2.same ss
    have p2_all := p2_all.same ss
    have p2_ok := p2_ok.same ss
    have t5_ok := t5_ok.same ss
    have kt5 := kt5.same ss
    have p3_ok := p3_ok.same ss
    have t6_ok := t6_ok.same ss
    have kt6 := kt6.same ss
    have b1_ok := b1_ok.same ss
    have t7_ok := t7_ok.same ss
    have kt7 := kt7.same ss
    have hl2 := ss _ _ hl2
    have l2_all := l2_all.same ss
    have hl3 := ss _ _ hl3
    have l3_all := l3_all.same ss
    have t8_ok := t8_ok.same ss
    have kt8 := kt8.same ss
    have t9_ok := t9_ok.same ss
    have kt9 := kt9.same ss
    have u1_ok := u1_ok.same ss
    have ku1 := ku1.same ss
    have u2_ok := u2_ok.same ss
    have ku2 := ku2.same ss
    have kp4 := kp4.same ss
    have p4_all := p4_all.same ss
    have p4_ok := p4_ok.same ss
    have v1_ok := v1_ok.same ss
    have kv1 := kv1.same ss
    have kp5 := kp5.same ss
    have p5_all := p5_all.same ss
    have p5_ok := p5_ok.same ss
    have hl4 := ss _ _ hl4
    have l4_all := l4_all.same ss
    have hl5 := ss _ _ hl5
    have l5_all := l5_all.same ss
    have v2_ok := v2_ok.same ss
    have kv2 := kv2.same ss
    have kp6 := kp6.same ss
    have p6_all := p6_all.same ss
    have p6_ok := p6_ok.same ss
    have v3_ok := v3_ok.same ss
    have kv3 := kv3.same ss
    have xx := xx.same ss
    have ww := ww.same ss
    refine ⟨.ref a, rfl, a, c, rfl, ww, fun Hd dp xd wd dp_ok => ?_⟩
    have kp := kpD_exw xd ww wd
    have ks := kp.t _ _ ks
    have kk := kp.t _ _ kk
    have y_all := y_all.keep kp
    have k_ok := k_ok.keep kp
    have t1_ok := t1_ok.keep kp
    have kt1 := kp.t _ _ kt1
    have t2_ok := t2_ok.keep kp
    have kt2 := kp.t _ _ kt2
    have t3_ok := t3_ok.keep kp
    have kt3 := kp.t _ _ kt3
    have t4_ok := t4_ok.keep kp
    have kt4 := kp.t _ _ kt4
    have hl1 := xd _ _ hl1n hl1
    have l1_all := l1_all.keep kp
    have kp1 := kp.t _ _ kp1
    have p1_all := p1_all.keep kp
    have kp2 := kp.t _ _ kp2
    have p2_all := p2_all.keep kp
    have p2_ok := p2_ok.keep kp
    have t5_ok := t5_ok.keep kp
    have kt5 := kp.t _ _ kt5
    have p3_ok := p3_ok.keep kp
    have t6_ok := t6_ok.keep kp
    have kt6 := kp.t _ _ kt6
    have b1_ok := b1_ok.keep kp
    have t7_ok := t7_ok.keep kp
    have kt7 := kp.t _ _ kt7
    have hl2 := xd _ _ hl2n hl2
    have l2_all := l2_all.keep kp
    have hl3 := xd _ _ hl3n hl3
    have l3_all := l3_all.keep kp
    have t8_ok := t8_ok.keep kp
    have kt8 := kp.t _ _ kt8
    have t9_ok := t9_ok.keep kp
    have kt9 := kp.t _ _ kt9
    have u1_ok := u1_ok.keep kp
    have ku1 := kp.t _ _ ku1
    have u2_ok := u2_ok.keep kp
    have ku2 := kp.t _ _ ku2
    have kp4 := kp.t _ _ kp4
    have p4_all := p4_all.keep kp
    have p4_ok := p4_ok.keep kp
    have v1_ok := v1_ok.keep kp
    have kv1 := kp.t _ _ kv1
    have kp5 := kp.t _ _ kp5
    have p5_all := p5_all.keep kp
    have p5_ok := p5_ok.keep kp
    have hl4 := xd _ _ hl4n hl4
    have l4_all := l4_all.keep kp
    have hl5 := xd _ _ hl5n hl5
    have l5_all := l5_all.keep kp
    have v2_ok := v2_ok.keep kp
    have kv2 := kp.t _ _ kv2
    have kp6 := kp.t _ _ kp6
    have p6_all := p6_all.keep kp
    have p6_ok := p6_ok.keep kp
    have v3_ok := v3_ok.keep kp
    have kv3 := kp.t _ _ kv3
    have b2_ok := b2_ok.keep kp
    have xx := xx.trans xd
    have ww := wd
    refine ⟨(by show 4 ≤ sizeLine; decide), fun l6 nl6 => ?_⟩
    have l6w := ww.ne2 nl6
    have ss := same_upd (o := .lst [.ref v2, .ref v3, .ref b2, dp]) nl6
    have hl6 : (upd Hd l6 (.lst [.ref v2, .ref v3, .ref b2, dp])) l6 = some (.lst [.ref v2, .ref v3, .ref b2, dp]) := upd_same
    generalize upd Hd l6 (.lst [.ref v2, .ref v3, .ref b2, dp]) = G22 at ss hl6 ⊢
    have ks := ks.same ss
    have kk := kk.same ss
    have y_all := y_all.same ss
    have k_ok := k_ok.same ss
    have t1_ok := t1_ok.same ss
    have kt1 := kt1.same ss
    have t2_ok := t2_ok.same ss
    have kt2 := kt2.same ss
    have t3_ok := t3_ok.same ss
    have kt3 := kt3.same ss
    have t4_ok := t4_ok.same ss
    have kt4 := kt4.same ss
    have hl1 := ss _ _ hl1
    have l1_all := l1_all.same ss
    have kp1 := kp1.same ss
    have p1_all := p1_all.same ss
    have kp2 := kp2.same ss
    have p2_all := p2_all.same ss
    have p2_ok := p2_ok.same ss
    have t5_ok := t5_ok.same ss
    have kt5 := kt5.same ss
    have p3_ok := p3_ok.same ss
    have t6_ok := t6_ok.same ss
    have kt6 := kt6.same ss
    have b1_ok := b1_ok.same ss
    have t7_ok := t7_ok.same ss
    have kt7 := kt7.same ss
    have hl2 := ss _ _ hl2
    have l2_all := l2_all.same ss
    have hl3 := ss _ _ hl3
    have l3_all := l3_all.same ss
    have t8_ok := t8_ok.same ss
    have kt8 := kt8.same ss
    have t9_ok := t9_ok.same ss
    have kt9 := kt9.same ss
    have u1_ok := u1_ok.same ss
    have ku1 := ku1.same ss
    have u2_ok := u2_ok.same ss
    have ku2 := ku2.same ss
    have kp4 := kp4.same ss
    have p4_all := p4_all.same ss
    have p4_ok := p4_ok.same ss
    have v1_ok := v1_ok.same ss
    have kv1 := kv1.same ss
    have kp5 := kp5.same ss
    have p5_all := p5_all.same ss
    have p5_ok := p5_ok.same ss
    have hl4 := ss _ _ hl4
    have l4_all := l4_all.same ss
    have hl5 := ss _ _ hl5
    have l5_all := l5_all.same ss
    have v2_ok := v2_ok.same ss
    have kv2 := kv2.same ss
    have kp6 := kp6.same ss
    have p6_all := p6_all.same ss
    have p6_ok := p6_ok.same ss
    have v3_ok := v3_ok.same ss
    have kv3 := kv3.same ss
    have b2_ok := b2_ok.same ss
    have dp_ok := dp_ok.same ss
    have xx := xx.same ss
    have ww := ww.same ss
    have hl6n := l6w.1
    have l6_all : AllOk K G22 [.ref v2, .ref v3, .ref b2, dp] := (AllOk.cons v2_ok (AllOk.cons v3_ok (AllOk.cons b2_ok (AllOk.cons dp_ok AllOk.nil))))
    refine ⟨l5, l6, _, _, rfl, rfl, hl5, hl6, (by show 12 + 4 ≤ sizeLine; decide), fun l7 nl7 => ?_⟩
    have l7w := ww.ne2 nl7
    have ss := same_upd (o := .lst ((([.ref t1, .ref t2, .ref t3, .ref t4] ++ [.ref t5, .ref t6, .ref t7, .non]) ++ [.ref t8, .ref t9, .ref v1, .ref p5]) ++ [.ref v2, .ref v3, .ref b2, dp])) nl7
    have hl7 : (upd G22 l7 (.lst ((([.ref t1, .ref t2, .ref t3, .ref t4] ++ [.ref t5, .ref t6, .ref t7, .non]) ++ [.ref t8, .ref t9, .ref v1, .ref p5]) ++ [.ref v2, .ref v3, .ref b2, dp]))) l7 = some (.lst ((([.ref t1, .ref t2, .ref t3, .ref t4] ++ [.ref t5, .ref t6, .ref t7, .non]) ++ [.ref t8, .ref t9, .ref v1, .ref p5]) ++ [.ref v2, .ref v3, .ref b2, dp])) := upd_same
    generalize upd G22 l7 (.lst ((([.ref t1, .ref t2, .ref t3, .ref t4] ++ [.ref t5, .ref t6, .ref t7, .non]) ++ [.ref t8, .ref t9, .ref v1, .ref p5]) ++ [.ref v2, .ref v3, .ref b2, dp])) = G23 at ss hl7 ⊢
    have ks := ks.same ss
    have kk := kk.same ss
    have y_all := y_all.same ss
    have k_ok := k_ok.same ss
    have t1_ok := t1_ok.same ss
    have kt1 := kt1.same ss
    have t2_ok := t2_ok.same ss
    have kt2 := kt2.same ss
    have t3_ok := t3_ok.same ss
    have kt3 := kt3.same ss
    have t4_ok := t4_ok.same ss
    have kt4 := kt4.same ss
    have hl1 := ss _ _ hl1
    have l1_all := l1_all.same ss
    have kp1 := kp1.same ss
    have p1_all := p1_all.same ss
    have kp2 := kp2.same ss
    have p2_all := p2_all.same ss
    have p2_ok := p2_ok.same ss
    have t5_ok := t5_ok.same ss
    have kt5 := kt5.same ss
    have p3_ok := p3_ok.same ss
    have t6_ok := t6_ok.same ss
    have kt6 := kt6.same ss
    have b1_ok := b1_ok.same ss
    have t7_ok := t7_ok.same ss
    have kt7 := kt7.same ss
    have hl2 := ss _ _ hl2
    have l2_all := l2_all.same ss
    have hl3 := ss _ _ hl3
    have l3_all := l3_all.same ss
    have t8_ok := t8_ok.same ss
    have kt8 := kt8.same ss
    have t9_ok := t9_ok.same ss
    have kt9 := kt9.same ss
    have u1_ok := u1_ok.same ss
    have ku1 := ku1.same ss
    have u2_ok := u2_ok.same ss
    have ku2 := ku2.same ss
    have kp4 := kp4.same ss
    have p4_all := p4_all.same ss
    have p4_ok := p4_ok.same ss
    have v1_ok := v1_ok.same ss
    have kv1 := kv1.same ss
    have kp5 := kp5.same ss
    have p5_all := p5_all.same ss
    have p5_ok := p5_ok.same ss
    have hl4 := ss _ _ hl4
    have l4_all := l4_all.same ss
    have hl5 := ss _ _ hl5
    have l5_all := l5_all.same ss
    have v2_ok := v2_ok.same ss
    have kv2 := kv2.same ss
    have kp6 := kp6.same ss
    have p6_all := p6_all.same ss
    have p6_ok := p6_ok.same ss
    have v3_ok := v3_ok.same ss
    have kv3 := kv3.same ss
    have b2_ok := b2_ok.same ss
    have dp_ok := dp_ok.same ss
    have hl6 := ss _ _ hl6
    have l6_all := l6_all.same ss
    have xx := xx.same ss
    have ww := ww.same ss
    have hl7n := l7w.1
    have l7_all := AllOk.app l5_all l6_all
    refine ⟨a, c, l7, _, rfl, ww, hl7n, hl7, (by show 0 < 16; decide), (by show 16 ≤ 100000; decide), fun Hz v xz wz hx => ?_⟩
    exact q Hz v (xx.trans xz) wz ((l7_all.mem hx).keep (kpD_exw xz ww wz))
end
end Kb

namespace L2
open PySem PySem.Spec PyProof.Rows
/-- a tuple == () -/
theorem op_eqT0 {X : Cx} {K : PySem.W.Frag} (hK : X.K = K) (hu : X.A.units + 64 < cLine) : OpR X (compareOp .Eq) (fun x y H Q => ∃ (a b : Addr) (xs : List V), x = .ref a ∧ y = .ref b ∧ SqT K H a xs ∧ SqT K H b [] ∧ Q (.bl (decide (xs = []))) H) := by
  subst hK
  intro pins s σ H x y v u Q I rx ry h
  obtain ⟨a, b, xs, rfl, rfl, ha, hb, q⟩ := h
  cases (show v = Value.ref a from rx)
  cases (show u = Value.ref b from ry)
  obtain ⟨its, r, p, _⟩ := I.tuple ha
  obtain ⟨its2, r2, p2, _⟩ := I.tuple hb
  obtain rfl := vals_nil r2
  have := SeqAt.RcAt.tuples (A := X.A) (e := fun _ => false) p p2 (by omega) (fun j j1 j2 => absurd j2 (by simp))
  have e : ((List.range (min its.toArray.size ([] : List Value).toArray.size)).all (fun _ => false) && its.toArray.size == ([] : List Value).toArray.size) = decide (xs = []) := by
    have hl := r.length
    cases xs with
    | nil =>
      cases its with
      | nil => simp
      | cons _ _ => simp at hl
    | cons _ _ =>
      cases its with
      | nil => simp at hl
      | cons _ _ => simp
  rw [e] at this
  exact this _ _ _ _ ⟨.bl _, H, I, rfl, q⟩
end L2

namespace Kb
open PySem PySem.Spec PyProof.Rows L2 SrtZ SrtO RZ SrtR
abbrev sbent : Stmt := topS 48
abbrev Nbent : List Str := ["_law_pot_here", "_law_book_here", "_law_odd", "_law_at", "_law_s", "_law_number", "_law_sketch", "_law_bent_here", "_law_some", "_law_one"]
theorem scbent : FnScope ["_law_pot_here", "_law_book_here", "_law_odd", "_law_at", "_law_s", "_law_number", "_law_sketch", "_law_bent_here", "_law_some", "_law_one"] ["_law_pot_here", "_law_book_here"] (defScope sbent) := ⟨rfl, rfl, rfl, by decide +kernel, rfl, by decide +kernel, by decide +kernel⟩
abbrev Dnbent (K : PySem.W.Frag) (mg : Str → Option Value) := Dn K mg "_law_bent" sbent ["_law_pot_here", "_law_book_here"]
theorem AllOk.rep {K : PySem.W.Frag} {H : Hp} {xs : List V} (h : AllOk K H xs) (n : Nat) : AllOk K H (List.replicate n xs).flatten := .of fun x hx => by
  obtain ⟨l, hl, hxl⟩ := List.mem_flatten.mp hx
  rw [List.eq_of_mem_replicate hl] at hxl
  exact h.mem hxl
theorem str9 {s : Int} (h1 : 1 ≤ s) (h9 : s ≤ 9) : (Str.ofString (toString s)).length ≤ 5000 := by
  have : s = 1 ∨ s = 2 ∨ s = 3 ∨ s = 4 ∨ s = 5 ∨ s = 6 ∨ s = 7 ∨ s = 8 ∨ s = 9 := by omega
  rcases this with rfl | rfl | rfl | rfl | rfl | rfl | rfl | rfl | rfl <;> decide +kernel
theorem lg9 {s : Int} (h1 : 1 ≤ s) (h9 : s ≤ 9) : s.natAbs.log2 < 1920 := by
  have : s = 1 ∨ s = 2 ∨ s = 3 ∨ s = 4 ∨ s = 5 ∨ s = 6 ∨ s = 7 ∨ s = 8 ∨ s = 9 := by omega
  rcases this with rfl | rfl | rfl | rfl | rfl | rfl | rfl | rfl | rfl <;> decide
/-- a right triple, with its sketch's parts -/
theorem tr_full {K : PySem.W.Frag} {H : Hp} {v : V} {d : Dat} (h : DtAt K H v d) (c : trB d = true) : ∃ (t s k : Addr) (i r m o : Int) (ys : List V), v = .ref t ∧ Ptp H t [.int i, .int m, .ref s] ∧ Ptp H s [.int r, .int m, .int o, .ref k] ∧ Ptp H k ys ∧ AllOk K H ys ∧ ys.length ≤ 64 ∧ 1 ≤ i ∧ i ≤ 9 ∧ 1 ≤ r ∧ r ≤ 64 ∧ 0 ≤ m ∧ m = numT d ∧ 0 ≤ o ∧ o ≤ m := by
  obtain ⟨i, r, m, o, ks, rfl, i1, i9, r1, r64, m0, sk⟩ := trB_is c
  have so := skO_of sk
  obtain ⟨ol, _⟩ := off_le so
  have o0 := so.bd.off
  obtain ⟨_, _, _, ks', e, _, _, _, _, cts, kl⟩ := skD_is sk
  cases e
  obtain ⟨t, xs, rfl, h1, h2, h3⟩ := h.tup
  obtain ⟨x1, x2, x3, rfl⟩ := three (show xs.length = 3 from Paired.length h3)
  obtain ⟨e1, e2, e3⟩ := paired3 h3
  obtain ⟨rfl, _⟩ := e1.int
  obtain ⟨rfl, _⟩ := e2.int
  obtain ⟨s, ys, rfl, g1, g2, g3⟩ := e3.tup
  obtain ⟨y1, y2, y3, y4, rfl⟩ := four (show ys.length = 4 from Paired.length g3)
  obtain ⟨f1, f2, f3, f4⟩ := paired4 g3
  obtain ⟨rfl, _⟩ := f1.int
  obtain ⟨rfl, _⟩ := f2.int
  obtain ⟨rfl, _⟩ := f3.int
  obtain ⟨k, zs, rfl, k1, k2, k3⟩ := f4.tup
  have kl2 := Paired.length k3
  obtain ⟨_, _, al⟩ := ctsB_cts cts
  refine ⟨t, s, k, i, r, m, o, zs, rfl, h1, g1, k1, oks_of k3 fun d hd es e => ?_, by omega, i1, i9, r1, r64, m0, rfl, o0, ol⟩
  obtain ⟨z, n, e2, _⟩ := cntB_is (al d hd)
  rw [e2] at e
  cases e
  show 2 ≤ 1000
  decide
section
variable {P : Program} {w : World} {K : PySem.W.Frag} {mg : Str → Option Value} {base : Heap}
/-! _law_bent -/
def spBent (K : PySem.W.Frag) : Sp := fun vs H Q _ => ∃ (a c b : Addr) (ds : List Dat), vs = [.ref a, .ref b] ∧ Wl a c H ∧ DtAt K H (.ref b) (.tup ds) ∧ (∀ d ∈ ds, trB d = true ∧ numT d ≤ 1000) ∧ ds.length ≤ 9 ∧
  ∀ H' v, Exw a H H' → Wl a c H' → OkV K H' v → Q v H'
theorem ok_bent (T : Blt mg) (ddraw : Dndraw K mg) (dany : Dnany K mg) (ddeep : Dndeep K mg) (dbent_sketch : Dnbent_sketch K mg) (d : Dnbent K mg) : FnOk P w K mg base CX0 5 d.f d.fd ["_law_pot_here", "_law_book_here"] (spBent K) := by
  have Gdraw : FnOk P w K mg base CX0 1 ddraw.f ddraw.fd ["_law_pot_here", "_law_many"] spDraw := ok_draw T ddraw
  have Gany : FnOk P w K mg base CX0 2 dany.f dany.fd ["_law_pot_here", "_law_things"] spAny := ok_any T ddraw dany
  have Gdeep : FnOk P w K mg base CX0 3 ddeep.f ddeep.fd ["_law_pot_here"] (spDeep K) := ok_deep T ddraw dany ddeep
  have Gbent_sketch : FnOk P w K mg base CX0 4 dbent_sketch.f dbent_sketch.fd ["_law_pot_here", "_law_sketch"] (spBentSk K) := ok_bent_sketch T ddraw dany ddeep dbent_sketch
  refine d.F.ok scbent (fun vs H Q E h => ?_) (fun cdv A outer s H vs Q E hr h => ?_)
  · obtain ⟨a, c, b, ds, rfl, _⟩ := h
    rfl
  · obtain ⟨a, c, b, ds, rfl, ww, hd, tr, hdl, q⟩ := h
    refine ⟨_, (pss_cons (ps_set (i := 2) scbent.nd rfl (Or.inl rfl) (pe_lst (pa_cons pe_non (pa_cons (pe_callTy call_list_of (by rfl) T.n_list (by decide +kernel) (pa_cons (pv 1) pa_nil)) (pa_cons pe_dnewK (pa_cons pe_int (pa_cons pe_str (pa_cons (pe_op op_catP (pv 1) (pv 1)) (pa_cons (pe_revP (pv 1)) (pa_cons (pe_call Gdeep (hr.mono (by omega)) (by rfl) ddeep.g ddeep.F.kp ddeep.b .nil pass0 (pa_cons (pv 0) pa_nil)) (pa_cons (pe_tupF (pa_cons (pe_call Gdeep (hr.mono (by omega)) (by rfl) ddeep.g ddeep.F.kp ddeep.b .nil pass0 (pa_cons (pv 0) pa_nil)) pa_nil)) (pa_cons (pe_tupF (pa_cons (pe_tupF (pa_cons pe_int (pa_cons pe_int pa_nil))) pa_nil)) pa_nil))))))))))))
    (pss_cons (ps_if (pt_cmpR (op_eqT0 (K := K) rfl hr.units) (pv 1) (pe_tupF pa_nil) (nomark _))
      (pss_one (ps_ret (pe_call Gany (hr.mono (by omega)) (by rfl) dany.g dany.F.kp dany.b .nil pass0 (pa_cons (pv 0) (pa_cons (pv 2) pa_nil)))))
      pss_nil)
    (pss_cons (ps_set (i := 3) scbent.nd rfl (Or.inl rfl) (pe_call Gdraw (hr.mono (by omega)) (by rfl) ddraw.g ddraw.F.kp ddraw.b .nil pass0 (pa_cons (pv 0) (pa_cons (pe_callB call_len_seq (by rfl) T.n_len (by decide +kernel) (pa_cons (pv 1) pa_nil)) pa_nil))))
    (pss_cons (ps_asg (pe_ix ix_tup (pv 1) (pv 3) (fun _ _ => rfl)) (pg_tup (by rfl) (pgs_cons (pg_name (i := 4) scbent.nd rfl (Or.inl rfl)) (pgs_cons (pg_name (i := 5) scbent.nd rfl (Or.inl rfl)) (pgs_cons (pg_name (i := 6) scbent.nd rfl (Or.inl rfl)) pgs_nil)))))
    (pss_cons (ps_set (i := 7) scbent.nd rfl (Or.inl rfl) (pe_call Gbent_sketch (hr.mono (by omega)) (by rfl) dbent_sketch.g dbent_sketch.F.kp dbent_sketch.b .nil pass0 (pa_cons (pv 0) (pa_cons (pv 6) pa_nil))))
    (pss_cons (ps_set (i := 8) scbent.nd rfl (Or.inl rfl) (pe_lst (pa_cons (pe_tupF (pa_cons (pv 4) (pa_cons (pe_op op_add (pv 5) pe_int) (pa_cons (pv 6) pa_nil)))) (pa_cons (pe_tupF (pa_cons pe_int (pa_cons (pv 5) (pa_cons (pv 6) pa_nil)))) (pa_cons (pe_tupF (pa_cons pe_int (pa_cons (pv 5) (pa_cons (pv 6) pa_nil)))) (pa_cons (pe_tupF (pa_cons pe_bl (pa_cons (pv 5) (pa_cons (pv 6) pa_nil)))) (pa_cons (pe_tupF (pa_cons (pv 4) (pa_cons pe_bl (pa_cons (pv 6) pa_nil)))) pa_nil)))))))
    (pss_cons (ps_set (i := 8) scbent.nd rfl (Or.inl rfl) (pe_op op_cat (pv 8) (pe_lst (pa_cons (pe_tupF (pa_cons (pv 4) (pa_cons (pv 5) (pa_cons (pv 7) pa_nil)))) (pa_cons (pe_tupF (pa_cons (pv 4) (pa_cons (pv 5) (pa_cons (pv 7) pa_nil)))) (pa_cons (pe_tupF (pa_cons (pv 4) (pa_cons (pv 5) (pa_cons (pv 7) pa_nil)))) (pa_cons (pe_lst (pa_cons (pv 4) (pa_cons (pv 5) (pa_cons (pv 6) pa_nil)))) (pa_cons (pe_tupF (pa_cons (pv 4) (pa_cons (pv 5) pa_nil))) (pa_cons (pe_tupF (pa_cons (pe_callTy call_str_int (by rfl) T.n_str (by decide +kernel) (pa_cons (pv 4) pa_nil)) (pa_cons pe_int (pa_cons (pv 6) pa_nil)))) pa_nil)))))))))
    (pss_cons (ps_set (i := 9) scbent.nd rfl (Or.inl rfl) (pe_call Gany (hr.mono (by omega)) (by rfl) dany.g dany.F.kp dany.b .nil pass0 (pa_cons (pv 0) (pa_cons (pv 8) pa_nil))))
    (pss_one (ps_ret (pe_call Gany (hr.mono (by omega)) (by rfl) dany.g dany.F.kp dany.b .nil pass0 (pa_cons (pv 0) (pa_cons (pe_op op_cat (pe_op op_cat (pe_op op_rep (pe_lst (pa_cons (pe_op op_catP (pe_op op_catP (pe_slice sl_tupP (pv 1) po_none (po_some (pv 3))) (pe_tupF (pa_cons (pv 9) pa_nil))) (pe_slice sl_tupP (pv 1) (po_some (pe_op op_add (pv 3) pe_int)) po_none)) pa_nil)) pe_int) (pe_op op_rep (pe_lst (pa_cons (pe_op op_catP (pe_op op_catP (pe_slice sl_tupP (pv 1) po_none (po_some (pv 3))) (pe_tupF (pa_cons (pv 9) pa_nil))) (pe_slice sl_tupP (pv 1) (po_some (pv 3)) po_none)) pa_nil)) pe_int)) (pv 2)) pa_nil))))))))))))), ?_⟩
    have xx := Exw.refl a H
    obtain ⟨_, xs, e, kb, hxl, hp⟩ := hd.tup
    cases e
    have hxd := Paired.length hp
    have b_all : AllOk K H xs := oks_of hp fun d hd es e => by
      obtain ⟨_, _, _, _, _, e2, _⟩ := trB_is (tr d hd).1
      rw [e2] at e
      cases e
      show 3 ≤ 1000
      decide
    refine ⟨.ref b, rfl, b, xs, rfl, .inr kb.seq, fun b1 nb1 => ?_⟩
    have ss := same_upd (o := .lst xs) nb1
    have b1_ok : OkV K (upd H b1 (.lst xs)) (.ref b1) := OkV.lst upd_same
    generalize upd H b1 (.lst xs) = G1 at ss b1_ok ⊢
    have hp := paired_imp (fun _ _ h => h.same ss) hp
    have kb := kb.same ss
    have b_all := b_all.same ss
    have xx := xx.same ss
    have ww := ww.same ss
    intro b2 nb2
    have ss := same_upd (o := .dK []) nb2
    have b2_ok : OkV K (upd G1 b2 (.dK [])) (.ref b2) := OkV.dic upd_same
    generalize upd G1 b2 (.dK []) = G2 at ss b2_ok ⊢
    have hp := paired_imp (fun _ _ h => h.same ss) hp
    have kb := kb.same ss
    have b_all := b_all.same ss
    have b1_ok := b1_ok.same ss
    have xx := xx.same ss
    have ww := ww.same ss
    refine ⟨.ref b, rfl, .ref b, rfl, b, b, _, _, rfl, rfl, kb, kb, (by rw [sizeLine_eq]; omega), fun p1 p1H sp1 kp1 => ?_⟩
    have hp := paired_imp (fun _ _ h => h.same sp1) hp
    have kb := kb.same sp1
    have b_all := b_all.same sp1
    have b1_ok := b1_ok.same sp1
    have b2_ok := b2_ok.same sp1
    have xx := xx.same sp1
    have ww := ww.same sp1
    have p1_all := AllOk.app b_all b_all
    have p1_ok := OkV.tup kp1 (by rw [List.length_append]; omega) p1_all
    refine ⟨.ref b, rfl, b, _, rfl, kb.seq, fun p2 p2H sp2 kp2 => ?_⟩
    have hp := paired_imp (fun _ _ h => h.same sp2) hp
    have kb := kb.same sp2
    have b_all := b_all.same sp2
    have b1_ok := b1_ok.same sp2
    have b2_ok := b2_ok.same sp2
    have kp1 := kp1.same sp2
    have p1_all := p1_all.same sp2
    have p1_ok := p1_ok.same sp2
    have xx := xx.same sp2
    have ww := ww.same sp2
    have p2_ok := OkV.tup kp2 (by rw [List.length_reverse]; omega) b_all.rev
    refine ⟨.ref a, rfl, a, c, rfl, ww, fun Hd1 dp1 xd wd dp1_ok => ?_⟩
    have kp := kpD_exw xd ww wd
    have hp := paired_imp (fun _ _ h => h.keep kp) hp
    have kb := kp.t _ _ kb
    have b_all := b_all.keep kp
    have b1_ok := b1_ok.keep kp
    have b2_ok := b2_ok.keep kp
    have kp1 := kp.t _ _ kp1
    have p1_all := p1_all.keep kp
    have p1_ok := p1_ok.keep kp
    have p2_ok := p2_ok.keep kp
    have xx := xx.trans xd
    have ww := wd
    refine ⟨.ref a, rfl, a, c, rfl, ww, fun Hd2 dp2 xd wd dp2_ok => ?_⟩
    have kp := kpD_exw xd ww wd
    have hp := paired_imp (fun _ _ h => h.keep kp) hp
    have kb := kp.t _ _ kb
    have b_all := b_all.keep kp
    have b1_ok := b1_ok.keep kp
    have b2_ok := b2_ok.keep kp
    have kp1 := kp.t _ _ kp1
    have p1_all := p1_all.keep kp
    have p1_ok := p1_ok.keep kp
    have p2_ok := p2_ok.keep kp
    have dp1_ok := dp1_ok.keep kp
    have xx := xx.trans xd
    have ww := wd
    refine ⟨(by show 1 ≤ sizeLine; decide), fun t1 ot1 nt1 ht1 => ?_⟩
    have ss := same_upd (o := .frz ot1 (.tup [dp2])) nt1
    have kt1 : Ptp (upd Hd2 t1 (.frz ot1 (.tup [dp2]))) t1 [dp2] := ⟨ot1, upd_same, ht1⟩
    generalize upd Hd2 t1 (.frz ot1 (.tup [dp2])) = G3 at ss kt1 ⊢
    have hp := paired_imp (fun _ _ h => h.same ss) hp
    have kb := kb.same ss
    have b_all := b_all.same ss
    have b1_ok := b1_ok.same ss
    have b2_ok := b2_ok.same ss
    have kp1 := kp1.same ss
    have p1_all := p1_all.same ss
    have p1_ok := p1_ok.same ss
    have p2_ok := p2_ok.same ss
    have dp1_ok := dp1_ok.same ss
    have dp2_ok := dp2_ok.same ss
    have xx := xx.same ss
    have ww := ww.same ss
    have t1_ok : OkV K G3 (.ref t1) := OkV.tup kt1 (by show 1 ≤ 1000; decide) (.cons dp2_ok .nil)
    refine ⟨(by show 2 ≤ sizeLine; decide), fun t2 ot2 nt2 ht2 => ?_⟩
    have ss := same_upd (o := .frz ot2 (.tup [.int 1, .int 0])) nt2
    have kt2 : Ptp (upd G3 t2 (.frz ot2 (.tup [.int 1, .int 0]))) t2 [.int 1, .int 0] := ⟨ot2, upd_same, ht2⟩
    generalize upd G3 t2 (.frz ot2 (.tup [.int 1, .int 0])) = G4 at ss kt2 ⊢
    have hp := paired_imp (fun _ _ h => h.same ss) hp
    have kb := kb.same ss
    have b_all := b_all.same ss
    have b1_ok := b1_ok.same ss
    have b2_ok := b2_ok.same ss
    have kp1 := kp1.same ss
    have p1_all := p1_all.same ss
    have p1_ok := p1_ok.same ss
    have p2_ok := p2_ok.same ss
    have dp1_ok := dp1_ok.same ss
    have dp2_ok := dp2_ok.same ss
    have t1_ok := t1_ok.same ss
    have kt1 := kt1.same ss
    have xx := xx.same ss
    have ww := ww.same ss
    have t2_ok : OkV K G4 (.ref t2) := OkV.tup kt2 (by show 2 ≤ 1000; decide) (.cons (OkV.int (by decide)) (.cons (OkV.int (by decide)) .nil))
    refine ⟨(by show 1 ≤ sizeLine; decide), fun t3 ot3 nt3 ht3 => ?_⟩
    have ss := same_upd (o := .frz ot3 (.tup [.ref t2])) nt3
    have kt3 : Ptp (upd G4 t3 (.frz ot3 (.tup [.ref t2]))) t3 [.ref t2] := ⟨ot3, upd_same, ht3⟩
    generalize upd G4 t3 (.frz ot3 (.tup [.ref t2])) = G5 at ss kt3 ⊢
    have hp := paired_imp (fun _ _ h => h.same ss) hp
    have kb := kb.same ss
    have b_all := b_all.same ss
    have b1_ok := b1_ok.same ss
    have b2_ok := b2_ok.same ss
    have kp1 := kp1.same ss
    have p1_all := p1_all.same ss
    have p1_ok := p1_ok.same ss
    have p2_ok := p2_ok.same ss
    have dp1_ok := dp1_ok.same ss
    have dp2_ok := dp2_ok.same ss
    have t1_ok := t1_ok.same ss
    have kt1 := kt1.same ss
    have t2_ok := t2_ok.same ss
    have kt2 := kt2.same ss
    have xx := xx.same ss
    have ww := ww.same ss
    have t3_ok : OkV K G5 (.ref t3) := OkV.tup kt3 (by show 1 ≤ 1000; decide) (.cons t2_ok .nil)
    refine ⟨(by show 10 ≤ sizeLine; decide), fun odd nodd => ?_⟩
    have oddw := ww.ne2 nodd
    have ss := same_upd (o := .lst [.non, .ref b1, .ref b2, .int 0, .str (Str.ofString "book"), .ref p1, .ref p2, dp1, .ref t1, .ref t3]) nodd
    have hodd : (upd G5 odd (.lst [.non, .ref b1, .ref b2, .int 0, .str (Str.ofString "book"), .ref p1, .ref p2, dp1, .ref t1, .ref t3])) odd = some (.lst [.non, .ref b1, .ref b2, .int 0, .str (Str.ofString "book"), .ref p1, .ref p2, dp1, .ref t1, .ref t3]) := upd_same
    generalize upd G5 odd (.lst [.non, .ref b1, .ref b2, .int 0, .str (Str.ofString "book"), .ref p1, .ref p2, dp1, .ref t1, .ref t3]) = G6 at ss hodd ⊢
    have hp := paired_imp (fun _ _ h => h.same ss) hp
    have kb := kb.same ss
    have b_all := b_all.same ss
    have b1_ok := b1_ok.same ss
    have b2_ok := b2_ok.same ss
    have kp1 := kp1.same ss
    have p1_all := p1_all.same ss
    have p1_ok := p1_ok.same ss
    have p2_ok := p2_ok.same ss
    have dp1_ok := dp1_ok.same ss
    have dp2_ok := dp2_ok.same ss
    have t1_ok := t1_ok.same ss
    have kt1 := kt1.same ss
    have t2_ok := t2_ok.same ss
    have kt2 := kt2.same ss
    have t3_ok := t3_ok.same ss
    have kt3 := kt3.same ss
    have xx := xx.same ss
    have ww := ww.same ss
    have hoddn := oddw.1
    have odd_all : AllOk K G6 [.non, .ref b1, .ref b2, .int 0, .str (Str.ofString "book"), .ref p1, .ref p2, dp1, .ref t1, .ref t3] := (AllOk.cons OkV.non (AllOk.cons b1_ok (AllOk.cons b2_ok (AllOk.cons (OkV.int (by decide)) (AllOk.cons (OkV.str (by decide +kernel)) (AllOk.cons p1_ok (AllOk.cons p2_ok (AllOk.cons dp1_ok (AllOk.cons t1_ok (AllOk.cons t3_ok AllOk.nil))))))))))
    refine ⟨.ref b, rfl, (by show 0 ≤ sizeLine; decide), fun t4 ot4 nt4 ht4 => ?_⟩
    have ss := same_upd (o := .frz ot4 (.tup [])) nt4
    have kt4 : Ptp (upd G6 t4 (.frz ot4 (.tup []))) t4 [] := ⟨ot4, upd_same, ht4⟩
    generalize upd G6 t4 (.frz ot4 (.tup [])) = G7 at ss kt4 ⊢
    have hp := paired_imp (fun _ _ h => h.same ss) hp
    have kb := kb.same ss
    have b_all := b_all.same ss
    have b1_ok := b1_ok.same ss
    have b2_ok := b2_ok.same ss
    have kp1 := kp1.same ss
    have p1_all := p1_all.same ss
    have p1_ok := p1_ok.same ss
    have p2_ok := p2_ok.same ss
    have dp1_ok := dp1_ok.same ss
    have dp2_ok := dp2_ok.same ss
    have t1_ok := t1_ok.same ss
    have kt1 := kt1.same ss
    have t2_ok := t2_ok.same ss
    have kt2 := kt2.same ss
    have t3_ok := t3_ok.same ss
    have kt3 := kt3.same ss
    have hodd := ss _ _ hodd
    have odd_all := odd_all.same ss
    have xx := xx.same ss
    have ww := ww.same ss
    have t4_ok : OkV K G7 (.ref t4) := OkV.tup kt4 (by show 0 ≤ 1000; decide) .nil
    refine ⟨b, t4, xs, rfl, rfl, kb.seq, kt4.seq, _, rfl, ?_⟩
    by_cases h0 : xs = []
    · rw [decide_eq_true h0]
      refine iteT ⟨.ref a, rfl, .ref odd, rfl, a, c, odd, _, rfl, ww, hoddn, hodd, (by show 0 < 10; decide), (by show 10 ≤ 100000; decide), fun Hz v xz wz hx => ?_⟩
      exact q Hz v (xx.trans xz) wz ((odd_all.mem hx).keep (kpD_exw xz ww wz))
    rw [decide_eq_false h0]
    have hx0 : 0 < xs.length := by
      cases xs with
      | nil => exact absurd rfl h0
      | cons _ _ => exact Nat.succ_pos _
    refine iteF ?_
    refine ⟨.ref a, rfl, .ref b, rfl, b, _, rfl, .inr kb.seq, a, c, (xs.length : Int), rfl, ww, by omega, by omega, fun Hr at0 xd wd at1 at2 => ?_⟩
    have kp := kpD_exw xd ww wd
    have hp := paired_imp (fun _ _ h => h.keep kp) hp
    have kb := kp.t _ _ kb
    have b_all := b_all.keep kp
    have b1_ok := b1_ok.keep kp
    have b2_ok := b2_ok.keep kp
    have kp1 := kp.t _ _ kp1
    have p1_all := p1_all.keep kp
    have p1_ok := p1_ok.keep kp
    have p2_ok := p2_ok.keep kp
    have dp1_ok := dp1_ok.keep kp
    have dp2_ok := dp2_ok.keep kp
    have t1_ok := t1_ok.keep kp
    have kt1 := kp.t _ _ kt1
    have t2_ok := t2_ok.keep kp
    have kt2 := kp.t _ _ kt2
    have t3_ok := t3_ok.keep kp
    have kt3 := kp.t _ _ kt3
    have hodd := xd _ _ hoddn hodd
    have odd_all := odd_all.keep kp
    have t4_ok := t4_ok.keep kp
    have kt4 := kp.t _ _ kt4
    have xx := xx.trans xd
    have ww := wd
    obtain ⟨j, rfl⟩ := Int.eq_ofNat_of_zero_le at1
    have hj : j < xs.length := by omega
    obtain ⟨dj, hdj, _⟩ := paired_at hp (List.getElem?_eq_getElem hj)
    obtain ⟨ctj, nmj⟩ := tr dj (List.mem_of_getElem? hdj)
    obtain ⟨tj, sj, kj, i, r, m, o, ys, etj, ktj, ksj, kkj, ya, hyl, i1, i9, r1, r64, m0, em, o0, om⟩ := tr_full (paired_getl hp (List.getElem?_eq_getElem hj) hdj) ctj
    have i_ok : ∀ {H' : Hp}, OkV K H' (.int i) := .int (nat_le (by omega) i9 (by omega))
    have hb : (1000001 : Nat) ≤ 2 ^ 90 := by decide
    have m_ok : ∀ {H' : Hp}, OkV K H' (.int m) := .int (Nat.le_trans (by omega) hb)
    have m1_ok : ∀ {H' : Hp}, OkV K H' (.int (m + 1)) := .int (Nat.le_trans (by omega) hb)
    have r_ok : ∀ {H' : Hp}, OkV K H' (.int r) := .int (Nat.le_trans (by omega) hb)
    have o_ok : ∀ {H' : Hp}, OkV K H' (.int o) := .int (Nat.le_trans (by omega) hb)
    have s_ok := OkV.tup ksj (by show 4 ≤ 1000; decide) (.cons r_ok (.cons m_ok (.cons o_ok (.cons (OkV.tup kkj (by omega) ya) .nil))))
    refine ⟨.ref b, rfl, .int (j : Int), rfl, b, _, _, _, rfl, rfl, kb.seq, atI_nat (List.getElem?_eq_getElem hj), tj, _, etj, ktj.seq, rfl, _, _, rfl, _, _, rfl, _, _, rfl, rfl, ?_⟩
    refine ⟨.ref a, rfl, .ref sj, rfl, a, c, sj, kj, r, m, o, ys, rfl, ww, ksj, kkj, ya, hyl, by omega, r64, m0, by omega, o0, by omega, fun Hb bh xd wd bh_ok => ?_⟩
    have kp := kpD_exw xd ww wd
    have hp := paired_imp (fun _ _ h => h.keep kp) hp
    have kb := kp.t _ _ kb
    have b_all := b_all.keep kp
    have b1_ok := b1_ok.keep kp
    have b2_ok := b2_ok.keep kp
    have kp1 := kp.t _ _ kp1
    have p1_all := p1_all.keep kp
    have p1_ok := p1_ok.keep kp
    have p2_ok := p2_ok.keep kp
    have dp1_ok := dp1_ok.keep kp
    have dp2_ok := dp2_ok.keep kp
    have t1_ok := t1_ok.keep kp
    have kt1 := kp.t _ _ kt1
    have t2_ok := t2_ok.keep kp
    have kt2 := kp.t _ _ kt2
    have t3_ok := t3_ok.keep kp
    have kt3 := kp.t _ _ kt3
    have hodd := xd _ _ hoddn hodd
    have odd_all := odd_all.keep kp
    have t4_ok := t4_ok.keep kp
    have kt4 := kp.t _ _ kt4
    have ktj := kp.t _ _ ktj
    have ksj := kp.t _ _ ksj
    have kkj := kp.t _ _ kkj
    have ya := ya.keep kp
    have s_ok := s_ok.keep kp
    have xx := xx.trans xd
    have ww := wd
    refine ⟨.int i, rfl, .int m, rfl, _, _, rfl, rfl, .ref sj, rfl, (by show 3 ≤ sizeLine; decide), fun u1 ou1 nu1 hu1 => ?_⟩
    have ss := same_upd (o := .frz ou1 (.tup [.int i, .int (m + 1), .ref sj])) nu1
    have ku1 : Ptp (upd Hb u1 (.frz ou1 (.tup [.int i, .int (m + 1), .ref sj]))) u1 [.int i, .int (m + 1), .ref sj] := ⟨ou1, upd_same, hu1⟩
    generalize upd Hb u1 (.frz ou1 (.tup [.int i, .int (m + 1), .ref sj])) = G8 at ss ku1 ⊢
    have hp := paired_imp (fun _ _ h => h.same ss) hp
    have kb := kb.same ss
    have b_all := b_all.same ss
    have b1_ok := b1_ok.same ss
    have b2_ok := b2_ok.same ss
    have kp1 := kp1.same ss
    have p1_all := p1_all.same ss
    have p1_ok := p1_ok.same ss
    have p2_ok := p2_ok.same ss
    have dp1_ok := dp1_ok.same ss
    have dp2_ok := dp2_ok.same ss
    have t1_ok := t1_ok.same ss
    have kt1 := kt1.same ss
    have t2_ok := t2_ok.same ss
    have kt2 := kt2.same ss
    have t3_ok := t3_ok.same ss
    have kt3 := kt3.same ss
    have hodd := ss _ _ hodd
    have odd_all := odd_all.same ss
    have t4_ok := t4_ok.same ss
    have kt4 := kt4.same ss
    have ktj := ktj.same ss
    have ksj := ksj.same ss
    have kkj := kkj.same ss
    have ya := ya.same ss
    have s_ok := s_ok.same ss
    have bh_ok := bh_ok.same ss
    have xx := xx.same ss
    have ww := ww.same ss
    have u1_ok : OkV K G8 (.ref u1) := OkV.tup ku1 (by show 3 ≤ 1000; decide) (.cons i_ok (.cons m1_ok (.cons s_ok .nil)))
    refine ⟨.int m, rfl, .ref sj, rfl, (by show 3 ≤ sizeLine; decide), fun u2 ou2 nu2 hu2 => ?_⟩
    have ss := same_upd (o := .frz ou2 (.tup [.int 0, .int m, .ref sj])) nu2
    have ku2 : Ptp (upd G8 u2 (.frz ou2 (.tup [.int 0, .int m, .ref sj]))) u2 [.int 0, .int m, .ref sj] := ⟨ou2, upd_same, hu2⟩
    generalize upd G8 u2 (.frz ou2 (.tup [.int 0, .int m, .ref sj])) = G9 at ss ku2 ⊢
    have hp := paired_imp (fun _ _ h => h.same ss) hp
    have kb := kb.same ss
    have b_all := b_all.same ss
    have b1_ok := b1_ok.same ss
    have b2_ok := b2_ok.same ss
    have kp1 := kp1.same ss
    have p1_all := p1_all.same ss
    have p1_ok := p1_ok.same ss
    have p2_ok := p2_ok.same ss
    have dp1_ok := dp1_ok.same ss
    have dp2_ok := dp2_ok.same ss
    have t1_ok := t1_ok.same ss
    have kt1 := kt1.same ss
    have t2_ok := t2_ok.same ss
    have kt2 := kt2.same ss
    have t3_ok := t3_ok.same ss
    have kt3 := kt3.same ss
    have hodd := ss _ _ hodd
    have odd_all := odd_all.same ss
    have t4_ok := t4_ok.same ss
    have kt4 := kt4.same ss
    have ktj := ktj.same ss
    have ksj := ksj.same ss
    have kkj := kkj.same ss
    have ya := ya.same ss
    have s_ok := s_ok.same ss
    have bh_ok := bh_ok.same ss
    have u1_ok := u1_ok.same ss
    have ku1 := ku1.same ss
    have xx := xx.same ss
    have ww := ww.same ss
    have u2_ok : OkV K G9 (.ref u2) := OkV.tup ku2 (by show 3 ≤ 1000; decide) (.cons (OkV.int (by decide)) (.cons m_ok (.cons s_ok .nil)))
    refine ⟨.int m, rfl, .ref sj, rfl, (by show 3 ≤ sizeLine; decide), fun u3 ou3 nu3 hu3 => ?_⟩
    have ss := same_upd (o := .frz ou3 (.tup [.int 10, .int m, .ref sj])) nu3
    have ku3 : Ptp (upd G9 u3 (.frz ou3 (.tup [.int 10, .int m, .ref sj]))) u3 [.int 10, .int m, .ref sj] := ⟨ou3, upd_same, hu3⟩
    generalize upd G9 u3 (.frz ou3 (.tup [.int 10, .int m, .ref sj])) = G10 at ss ku3 ⊢
    have hp := paired_imp (fun _ _ h => h.same ss) hp
    have kb := kb.same ss
    have b_all := b_all.same ss
    have b1_ok := b1_ok.same ss
    have b2_ok := b2_ok.same ss
    have kp1 := kp1.same ss
    have p1_all := p1_all.same ss
    have p1_ok := p1_ok.same ss
    have p2_ok := p2_ok.same ss
    have dp1_ok := dp1_ok.same ss
    have dp2_ok := dp2_ok.same ss
    have t1_ok := t1_ok.same ss
    have kt1 := kt1.same ss
    have t2_ok := t2_ok.same ss
    have kt2 := kt2.same ss
    have t3_ok := t3_ok.same ss
    have kt3 := kt3.same ss
    have hodd := ss _ _ hodd
    have odd_all := odd_all.same ss
    have t4_ok := t4_ok.same ss
    have kt4 := kt4.same ss
    have ktj := ktj.same ss
    have ksj := ksj.same ss
    have kkj := kkj.same ss
    have ya := ya.same ss
    have s_ok := s_ok.same ss
    have bh_ok := bh_ok.same ss
    have u1_ok := u1_ok.same ss
    have ku1 := ku1.same ss
    have u2_ok := u2_ok.same ss
    have ku2 := ku2.same ss
    have xx := xx.same ss
    have ww := ww.same ss
    have u3_ok : OkV K G10 (.ref u3) := OkV.tup ku3 (by show 3 ≤ 1000; decide) (.cons (OkV.int (by decide)) (.cons m_ok (.cons s_ok .nil)))
    refine ⟨.int m, rfl, .ref sj, rfl, (by show 3 ≤ sizeLine; decide), fun u4 ou4 nu4 hu4 => ?_⟩
    have ss := same_upd (o := .frz ou4 (.tup [.bl true, .int m, .ref sj])) nu4
    have ku4 : Ptp (upd G10 u4 (.frz ou4 (.tup [.bl true, .int m, .ref sj]))) u4 [.bl true, .int m, .ref sj] := ⟨ou4, upd_same, hu4⟩
    generalize upd G10 u4 (.frz ou4 (.tup [.bl true, .int m, .ref sj])) = G11 at ss ku4 ⊢
    have hp := paired_imp (fun _ _ h => h.same ss) hp
    have kb := kb.same ss
    have b_all := b_all.same ss
    have b1_ok := b1_ok.same ss
    have b2_ok := b2_ok.same ss
    have kp1 := kp1.same ss
    have p1_all := p1_all.same ss
    have p1_ok := p1_ok.same ss
    have p2_ok := p2_ok.same ss
    have dp1_ok := dp1_ok.same ss
    have dp2_ok := dp2_ok.same ss
    have t1_ok := t1_ok.same ss
    have kt1 := kt1.same ss
    have t2_ok := t2_ok.same ss
    have kt2 := kt2.same ss
    have t3_ok := t3_ok.same ss
    have kt3 := kt3.same ss
    have hodd := ss _ _ hodd
    have odd_all := odd_all.same ss
    have t4_ok := t4_ok.same ss
    have kt4 := kt4.same ss
    have ktj := ktj.same ss
    have ksj := ksj.same ss
    have kkj := kkj.same ss
    have ya := ya.same ss
    have s_ok := s_ok.same ss
    have bh_ok := bh_ok.same ss
    have u1_ok := u1_ok.same ss
    have ku1 := ku1.same ss
    have u2_ok := u2_ok.same ss
    have ku2 := ku2.same ss
    have u3_ok := u3_ok.same ss
    have ku3 := ku3.same ss
    have xx := xx.same ss
    have ww := ww.same ss
    have u4_ok : OkV K G11 (.ref u4) := OkV.tup ku4 (by show 3 ≤ 1000; decide) (.cons OkV.bl (.cons m_ok (.cons s_ok .nil)))
    refine ⟨.int i, rfl, .ref sj, rfl, (by show 3 ≤ sizeLine; decide), fun u5 ou5 nu5 hu5 => ?_⟩
    have ss := same_upd (o := .frz ou5 (.tup [.int i, .bl true, .ref sj])) nu5
    have ku5 : Ptp (upd G11 u5 (.frz ou5 (.tup [.int i, .bl true, .ref sj]))) u5 [.int i, .bl true, .ref sj] := ⟨ou5, upd_same, hu5⟩
    generalize upd G11 u5 (.frz ou5 (.tup [.int i, .bl true, .ref sj])) = G12 at ss ku5 ⊢
    have hp := paired_imp (fun _ _ h => h.same ss) hp
    have kb := kb.same ss
    have b_all := b_all.same ss
    have b1_ok := b1_ok.same ss
    have b2_ok := b2_ok.same ss
    have kp1 := kp1.same ss
    have p1_all := p1_all.same ss
    have p1_ok := p1_ok.same ss
    have p2_ok := p2_ok.same ss
    have dp1_ok := dp1_ok.same ss
    have dp2_ok := dp2_ok.same ss
    have t1_ok := t1_ok.same ss
    have kt1 := kt1.same ss
    have t2_ok := t2_ok.same ss
    have kt2 := kt2.same ss
    have t3_ok := t3_ok.same ss
    have kt3 := kt3.same ss
    have hodd := ss _ _ hodd
    have odd_all := odd_all.same ss
    have t4_ok := t4_ok.same ss
    have kt4 := kt4.same ss
    have ktj := ktj.same ss
    have ksj := ksj.same ss
    have kkj := kkj.same ss
    have ya := ya.same ss
    have s_ok := s_ok.same ss
    have bh_ok := bh_ok.same ss
    have u1_ok := u1_ok.same ss
    have ku1 := ku1.same ss
    have u2_ok := u2_ok.same ss
    have ku2 := ku2.same ss
    have u3_ok := u3_ok.same ss
    have ku3 := ku3.same ss
    have u4_ok := u4_ok.same ss
    have ku4 := ku4.same ss
    have xx := xx.same ss
    have ww := ww.same ss
    have u5_ok : OkV K G12 (.ref u5) := OkV.tup ku5 (by show 3 ≤ 1000; decide) (.cons i_ok (.cons OkV.bl (.cons s_ok .nil)))
    refine ⟨(by show 5 ≤ sizeLine; decide), fun l1 nl1 => ?_⟩
    have l1w := ww.ne2 nl1
    have ss := same_upd (o := .lst [.ref u1, .ref u2, .ref u3, .ref u4, .ref u5]) nl1
    have hl1 : (upd G12 l1 (.lst [.ref u1, .ref u2, .ref u3, .ref u4, .ref u5])) l1 = some (.lst [.ref u1, .ref u2, .ref u3, .ref u4, .ref u5]) := upd_same
    generalize upd G12 l1 (.lst [.ref u1, .ref u2, .ref u3, .ref u4, .ref u5]) = G13 at ss hl1 ⊢
    have hp := paired_imp (fun _ _ h => h.same ss) hp
    have kb := kb.same ss
    have b_all := b_all.same ss
    have b1_ok := b1_ok.same ss
    have b2_ok := b2_ok.same ss
    have kp1 := kp1.same ss
    have p1_all := p1_all.same ss
    have p1_ok := p1_ok.same ss
    have p2_ok := p2_ok.same ss
    have dp1_ok := dp1_ok.same ss
    have dp2_ok := dp2_ok.same ss
    have t1_ok := t1_ok.same ss
    have kt1 := kt1.same ss
    have t2_ok := t2_ok.same ss
    have kt2 := kt2.same ss
    have t3_ok := t3_ok.same ss
    have kt3 := kt3.same ss
    have hodd := ss _ _ hodd
    have odd_all := odd_all.same ss
    have t4_ok := t4_ok.same ss
    have kt4 := kt4.same ss
    have ktj := ktj.same ss
    have ksj := ksj.same ss
    have kkj := kkj.same ss
    have ya := ya.same ss
    have s_ok := s_ok.same ss
    have bh_ok := bh_ok.same ss
    have u1_ok := u1_ok.same ss
    have ku1 := ku1.same ss
    have u2_ok := u2_ok.same ss
    have ku2 := ku2.same ss
    have u3_ok := u3_ok.same ss
    have ku3 := ku3.same ss
    have u4_ok := u4_ok.same ss
    have ku4 := ku4.same ss
    have u5_ok := u5_ok.same ss
    have ku5 := ku5.same ss
    have xx := xx.same ss
    have ww := ww.same ss
    have hl1n := l1w.1
    have l1_all : AllOk K G13 [.ref u1, .ref u2, .ref u3, .ref u4, .ref u5] := (AllOk.cons u1_ok (AllOk.cons u2_ok (AllOk.cons u3_ok (AllOk.cons u4_ok (AllOk.cons u5_ok AllOk.nil)))))
    refine ⟨.ref l1, rfl, .int i, rfl, .int m, rfl, bh, rfl, (by show 3 ≤ sizeLine; decide), fun v1 ov1 nv1 hv1 => ?_⟩
    have ss := same_upd (o := .frz ov1 (.tup [.int i, .int m, bh])) nv1
    have kv1 : Ptp (upd G13 v1 (.frz ov1 (.tup [.int i, .int m, bh]))) v1 [.int i, .int m, bh] := ⟨ov1, upd_same, hv1⟩
    generalize upd G13 v1 (.frz ov1 (.tup [.int i, .int m, bh])) = G14 at ss kv1 ⊢
    have hp := paired_imp (fun _ _ h => h.same ss) hp
    have kb := kb.same ss
    have b_all := b_all.same ss
    have b1_ok := b1_ok.same ss
    have b2_ok := b2_ok.same ss
    have kp1 := kp1.same ss
    have p1_all := p1_all.same ss
    have p1_ok := p1_ok.same ss
    have p2_ok := p2_ok.same ss
    have dp1_ok := dp1_ok.same ss
    have dp2_ok := dp2_ok.same ss
    have t1_ok := t1_ok.same ss
    have kt1 := kt1.same ss
    have t2_ok := t2_ok.same ss
    have kt2 := kt2.same ss
    have t3_ok := t3_ok.same ss
    have kt3 := kt3.same ss
    have hodd := ss _ _ hodd
    have odd_all := odd_all.same ss
    have t4_ok := t4_ok.same ss
    have kt4 := kt4.same ss
    have ktj := ktj.same ss
    have ksj := ksj.same ss
    have kkj := kkj.same ss
    have ya := ya.same ss
    have s_ok := s_ok.same ss
    have bh_ok := bh_ok.same ss
    have u1_ok := u1_ok.same ss
    have ku1 := ku1.same ss
    have u2_ok := u2_ok.same ss
    have ku2 := ku2.same ss
    have u3_ok := u3_ok.same ss
    have ku3 := ku3.same ss
    have u4_ok := u4_ok.same ss
    have ku4 := ku4.same ss
    have u5_ok := u5_ok.same ss
    have ku5 := ku5.same ss
    have hl1 := ss _ _ hl1
    have l1_all := l1_all.same ss
    have xx := xx.same ss
    have ww := ww.same ss
    have v1_ok : OkV K G14 (.ref v1) := OkV.tup kv1 (by show 3 ≤ 1000; decide) (.cons i_ok (.cons m_ok (.cons bh_ok .nil)))
    refine ⟨.int i, rfl, .int m, rfl, bh, rfl, (by show 3 ≤ sizeLine; decide), fun v2 ov2 nv2 hv2 => ?_⟩
    have ss := same_upd (o := .frz ov2 (.tup [.int i, .int m, bh])) nv2
    have kv2 : Ptp (upd G14 v2 (.frz ov2 (.tup [.int i, .int m, bh]))) v2 [.int i, .int m, bh] := ⟨ov2, upd_same, hv2⟩
    generalize upd G14 v2 (.frz ov2 (.tup [.int i, .int m, bh])) = G15 at ss kv2 ⊢
    have hp := paired_imp (fun _ _ h => h.same ss) hp
    have kb := kb.same ss
    have b_all := b_all.same ss
    have b1_ok := b1_ok.same ss
    have b2_ok := b2_ok.same ss
    have kp1 := kp1.same ss
    have p1_all := p1_all.same ss
    have p1_ok := p1_ok.same ss
    have p2_ok := p2_ok.same ss
    have dp1_ok := dp1_ok.same ss
    have dp2_ok := dp2_ok.same ss
    have t1_ok := t1_ok.same ss
    have kt1 := kt1.same ss
    have t2_ok := t2_ok.same ss
    have kt2 := kt2.same ss
    have t3_ok := t3_ok.same ss
    have kt3 := kt3.same ss
    have hodd := ss _ _ hodd
    have odd_all := odd_all.same ss
    have t4_ok := t4_ok.same ss
    have kt4 := kt4.same ss
    have ktj := ktj.same ss
    have ksj := ksj.same ss
    have kkj := kkj.same ss
    have ya := ya.same ss
    have s_ok := s_ok.same ss
    have bh_ok := bh_ok.same ss
    have u1_ok := u1_ok.same ss
    have ku1 := ku1.same ss
    have u2_ok := u2_ok.same ss
    have ku2 := ku2.same ss
    have u3_ok := u3_ok.same ss
    have ku3 := ku3.same ss
    have u4_ok := u4_ok.same ss
    have ku4 := ku4.same ss
    have u5_ok := u5_ok.same ss
    have ku5 := ku5.same ss
    have hl1 := ss _ _ hl1
    have l1_all := l1_all.same ss
    have v1_ok := v1_ok.same ss
    have kv1 := kv1.same ss
    have xx := xx.same ss
    have ww := ww.same ss
    have v2_ok : OkV K G15 (.ref v2) := OkV.tup kv2 (by show 3 ≤ 1000; decide) (.cons i_ok (.cons m_ok (.cons bh_ok .nil)))
    refine ⟨.int i, rfl, .int m, rfl, bh, rfl, (by show 3 ≤ sizeLine; decide), fun v3 ov3 nv3 hv3 => ?_⟩
    have ss := same_upd (o := .frz ov3 (.tup [.int i, .int m, bh])) nv3
    have kv3 : Ptp (upd G15 v3 (.frz ov3 (.tup [.int i, .int m, bh]))) v3 [.int i, .int m, bh] := ⟨ov3, upd_same, hv3⟩
    generalize upd G15 v3 (.frz ov3 (.tup [.int i, .int m, bh])) = G16 at ss kv3 ⊢
    have hp := paired_imp (fun _ _ h => h.same ss) hp
    have kb := kb.same ss
    have b_all := b_all.same ss
    have b1_ok := b1_ok.same ss
    have b2_ok := b2_ok.same ss
    have kp1 := kp1.same ss
    have p1_all := p1_all.same ss
    have p1_ok := p1_ok.same ss
    have p2_ok := p2_ok.same ss
    have dp1_ok := dp1_ok.same ss
    have dp2_ok := dp2_ok.same ss
    have t1_ok := t1_ok.same ss
    have kt1 := kt1.same ss
    have t2_ok := t2_ok.same ss
    have kt2 := kt2.same ss
    have t3_ok := t3_ok.same ss
    have kt3 := kt3.same ss
    have hodd := ss _ _ hodd
    have odd_all := odd_all.same ss
    have t4_ok := t4_ok.same ss
    have kt4 := kt4.same ss
    have ktj := ktj.same ss
    have ksj := ksj.same ss
    have kkj := kkj.same ss
    have ya := ya.same ss
    have s_ok := s_ok.same ss
    have bh_ok := bh_ok.same ss
    have u1_ok := u1_ok.same ss
    have ku1 := ku1.same ss
    have u2_ok := u2_ok.same ss
    have ku2 := ku2.same ss
    have u3_ok := u3_ok.same ss
    have ku3 := ku3.same ss
    have u4_ok := u4_ok.same ss
    have ku4 := ku4.same ss
    have u5_ok := u5_ok.same ss
    have ku5 := ku5.same ss
    have hl1 := ss _ _ hl1
    have l1_all := l1_all.same ss
    have v1_ok := v1_ok.same ss
    have kv1 := kv1.same ss
    have v2_ok := v2_ok.same ss
    have kv2 := kv2.same ss
    have xx := xx.same ss
    have ww := ww.same ss
    have v3_ok : OkV K G16 (.ref v3) := OkV.tup kv3 (by show 3 ≤ 1000; decide) (.cons i_ok (.cons m_ok (.cons bh_ok .nil)))
    refine ⟨.int i, rfl, .int m, rfl, .ref sj, rfl, (by show 3 ≤ sizeLine; decide), fun v4 nv4 => ?_⟩
    have v4w := ww.ne2 nv4
    have ss := same_upd (o := .lst [.int i, .int m, .ref sj]) nv4
    have hv4 : (upd G16 v4 (.lst [.int i, .int m, .ref sj])) v4 = some (.lst [.int i, .int m, .ref sj]) := upd_same
    generalize upd G16 v4 (.lst [.int i, .int m, .ref sj]) = G17 at ss hv4 ⊢
    have hp := paired_imp (fun _ _ h => h.same ss) hp
    have kb := kb.same ss
    have b_all := b_all.same ss
    have b1_ok := b1_ok.same ss
    have b2_ok := b2_ok.same ss
    have kp1 := kp1.same ss
    have p1_all := p1_all.same ss
    have p1_ok := p1_ok.same ss
    have p2_ok := p2_ok.same ss
    have dp1_ok := dp1_ok.same ss
    have dp2_ok := dp2_ok.same ss
    have t1_ok := t1_ok.same ss
    have kt1 := kt1.same ss
    have t2_ok := t2_ok.same ss
    have kt2 := kt2.same ss
    have t3_ok := t3_ok.same ss
    have kt3 := kt3.same ss
    have hodd := ss _ _ hodd
    have odd_all := odd_all.same ss
    have t4_ok := t4_ok.same ss
    have kt4 := kt4.same ss
    have ktj := ktj.same ss
    have ksj := ksj.same ss
    have kkj := kkj.same ss
    have ya := ya.same ss
    have s_ok := s_ok.same ss
    have bh_ok := bh_ok.same ss
    have u1_ok := u1_ok.same ss
    have ku1 := ku1.same ss
    have u2_ok := u2_ok.same ss
    have ku2 := ku2.same ss
    have u3_ok := u3_ok.same ss
    have ku3 := ku3.same ss
    have u4_ok := u4_ok.same ss
    have ku4 := ku4.same ss
    have u5_ok := u5_ok.same ss
    have ku5 := ku5.same ss
    have hl1 := ss _ _ hl1
    have l1_all := l1_all.same ss
    have v1_ok := v1_ok.same ss
    have kv1 := kv1.same ss
    have v2_ok := v2_ok.same ss
    have kv2 := kv2.same ss
    have v3_ok := v3_ok.same ss
    have kv3 := kv3.same ss
    have xx := xx.same ss
    have ww := ww.same ss
    have hv4n := v4w.1
    have v4_all : AllOk K G17 [.int i, .int m, .ref sj] := (AllOk.cons i_ok (AllOk.cons m_ok (AllOk.cons s_ok AllOk.nil)))
    have v4_ok : OkV K G17 (.ref v4) := OkV.lst hv4
    refine ⟨.int i, rfl, .int m, rfl, (by show 2 ≤ sizeLine; decide), fun v5 ov5 nv5 hv5 => ?_⟩
    have ss := same_upd (o := .frz ov5 (.tup [.int i, .int m])) nv5
    have kv5 : Ptp (upd G17 v5 (.frz ov5 (.tup [.int i, .int m]))) v5 [.int i, .int m] := ⟨ov5, upd_same, hv5⟩
    generalize upd G17 v5 (.frz ov5 (.tup [.int i, .int m])) = G18 at ss kv5 ⊢
    have hp := paired_imp (fun _ _ h => h.same ss) hp
    have kb := kb.same ss
    have b_all := b_all.same ss
    have b1_ok := b1_ok.same ss
    have b2_ok := b2_ok.same ss
    have kp1 := kp1.same ss
    have p1_all := p1_all.same ss
    have p1_ok := p1_ok.same ss
    have p2_ok := p2_ok.same ss
    have dp1_ok := dp1_ok.same ss
    have dp2_ok := dp2_ok.same ss
    have t1_ok := t1_ok.same ss
    have kt1 := kt1.same ss
    have t2_ok := t2_ok.same ss
    have kt2 := kt2.same ss
    have t3_ok := t3_ok.same ss
    have kt3 := kt3.same ss
    have hodd := ss _ _ hodd
    have odd_all := odd_all.same ss
    have t4_ok := t4_ok.same ss
    have kt4 := kt4.same ss
    have ktj := ktj.same ss
    have ksj := ksj.same ss
    have kkj := kkj.same ss
    have ya := ya.same ss
    have s_ok := s_ok.same ss
    have bh_ok := bh_ok.same ss
    have u1_ok := u1_ok.same ss
    have ku1 := ku1.same ss
    have u2_ok := u2_ok.same ss
    have ku2 := ku2.same ss
    have u3_ok := u3_ok.same ss
    have ku3 := ku3.same ss
    have u4_ok := u4_ok.same ss
    have ku4 := ku4.same ss
    have u5_ok := u5_ok.same ss
    have ku5 := ku5.same ss
    have hl1 := ss _ _ hl1
    have l1_all := l1_all.same ss
    have v1_ok := v1_ok.same ss
    have kv1 := kv1.same ss
    have v2_ok := v2_ok.same ss
    have kv2 := kv2.same ss
    have v3_ok := v3_ok.same ss
    have kv3 := kv3.same ss
    have hv4 := ss _ _ hv4
    have v4_all := v4_all.same ss
    have v4_ok := v4_ok.same ss
    have xx := xx.same ss
    have ww := ww.same ss
    have v5_ok : OkV K G18 (.ref v5) := OkV.tup kv5 (by show 2 ≤ 1000; decide) (.cons i_ok (.cons m_ok .nil))
    refine ⟨.int i, rfl, i, rfl, lg9 i1 i9, .ref sj, rfl, (by show 3 ≤ sizeLine; decide), fun v6 ov6 nv6 hv6 => ?_⟩
    have ss := same_upd (o := .frz ov6 (.tup [.str (Str.ofString (toString i)), .int 0, .ref sj])) nv6
    have kv6 : Ptp (upd G18 v6 (.frz ov6 (.tup [.str (Str.ofString (toString i)), .int 0, .ref sj]))) v6 [.str (Str.ofString (toString i)), .int 0, .ref sj] := ⟨ov6, upd_same, hv6⟩
    generalize upd G18 v6 (.frz ov6 (.tup [.str (Str.ofString (toString i)), .int 0, .ref sj])) = G19 at ss kv6 ⊢
    have hp := paired_imp (fun _ _ h => h.same ss) hp
    have kb := kb.same ss
    have b_all := b_all.same ss
    have b1_ok := b1_ok.same ss
    have b2_ok := b2_ok.same ss
    have kp1 := kp1.same ss
    have p1_all := p1_all.same ss
    have p1_ok := p1_ok.same ss
    have p2_ok := p2_ok.same ss
    have dp1_ok := dp1_ok.same ss
    have dp2_ok := dp2_ok.same ss
    have t1_ok := t1_ok.same ss
    have kt1 := kt1.same ss
    have t2_ok := t2_ok.same ss
    have kt2 := kt2.same ss
    have t3_ok := t3_ok.same ss
    have kt3 := kt3.same ss
    have hodd := ss _ _ hodd
    have odd_all := odd_all.same ss
    have t4_ok := t4_ok.same ss
    have kt4 := kt4.same ss
    have ktj := ktj.same ss
    have ksj := ksj.same ss
    have kkj := kkj.same ss
    have ya := ya.same ss
    have s_ok := s_ok.same ss
    have bh_ok := bh_ok.same ss
    have u1_ok := u1_ok.same ss
    have ku1 := ku1.same ss
    have u2_ok := u2_ok.same ss
    have ku2 := ku2.same ss
    have u3_ok := u3_ok.same ss
    have ku3 := ku3.same ss
    have u4_ok := u4_ok.same ss
    have ku4 := ku4.same ss
    have u5_ok := u5_ok.same ss
    have ku5 := ku5.same ss
    have hl1 := ss _ _ hl1
    have l1_all := l1_all.same ss
    have v1_ok := v1_ok.same ss
    have kv1 := kv1.same ss
    have v2_ok := v2_ok.same ss
    have kv2 := kv2.same ss
    have v3_ok := v3_ok.same ss
    have kv3 := kv3.same ss
    have hv4 := ss _ _ hv4
    have v4_all := v4_all.same ss
    have v4_ok := v4_ok.same ss
    have v5_ok := v5_ok.same ss
    have kv5 := kv5.same ss
    have xx := xx.same ss
    have ww := ww.same ss
    have v6_ok : OkV K G19 (.ref v6) := OkV.tup kv6 (by show 3 ≤ 1000; decide) (.cons (OkV.str (str9 i1 i9)) (.cons (OkV.int (by decide)) (.cons s_ok .nil)))
    refine ⟨(by show 6 ≤ sizeLine; decide), fun l2 nl2 => ?_⟩
    have l2w := ww.ne2 nl2
    have ss := same_upd (o := .lst [.ref v1, .ref v2, .ref v3, .ref v4, .ref v5, .ref v6]) nl2
    have hl2 : (upd G19 l2 (.lst [.ref v1, .ref v2, .ref v3, .ref v4, .ref v5, .ref v6])) l2 = some (.lst [.ref v1, .ref v2, .ref v3, .ref v4, .ref v5, .ref v6]) := upd_same
    generalize upd G19 l2 (.lst [.ref v1, .ref v2, .ref v3, .ref v4, .ref v5, .ref v6]) = G20 at ss hl2 ⊢
    have hp := paired_imp (fun _ _ h => h.same ss) hp
    have kb := kb.same ss
    have b_all := b_all.same ss
    have b1_ok := b1_ok.same ss
    have b2_ok := b2_ok.same ss
    have kp1 := kp1.same ss
    have p1_all := p1_all.same ss
    have p1_ok := p1_ok.same ss
    have p2_ok := p2_ok.same ss
    have dp1_ok := dp1_ok.same ss
    have dp2_ok := dp2_ok.same ss
    have t1_ok := t1_ok.same ss
    have kt1 := kt1.same ss
    have t2_ok := t2_ok.same ss
    have kt2 := kt2.same ss
    have t3_ok := t3_ok.same ss
    have kt3 := kt3.same ss
    have hodd := ss _ _ hodd
    have odd_all := odd_all.same ss
    have t4_ok := t4_ok.same ss
    have kt4 := kt4.same ss
    have ktj := ktj.same ss
    have ksj := ksj.same ss
    have kkj := kkj.same ss
    have ya := ya.same ss
    have s_ok := s_ok.same ss
    have bh_ok := bh_ok.same ss
    have u1_ok := u1_ok.same ss
    have ku1 := ku1.same ss
    have u2_ok := u2_ok.same ss
    have ku2 := ku2.same ss
    have u3_ok := u3_ok.same ss
    have ku3 := ku3.same ss
    have u4_ok := u4_ok.same ss
    have ku4 := ku4.same ss
    have u5_ok := u5_ok.same ss
    have ku5 := ku5.same ss
    have hl1 := ss _ _ hl1
    have l1_all := l1_all.same ss
    have v1_ok := v1_ok.same ss
    have kv1 := kv1.same ss
    have v2_ok := v2_ok.same ss
    have kv2 := kv2.same ss
    have v3_ok := v3_ok.same ss
    have kv3 := kv3.same ss
    have hv4 := ss _ _ hv4
    have v4_all := v4_all.same ss
    have v4_ok := v4_ok.same ss
    have v5_ok := v5_ok.same ss
    have kv5 := kv5.same ss
    have v6_ok := v6_ok.same ss
    have kv6 := kv6.same ss
    have xx := xx.same ss
    have ww := ww.same ss
    have hl2n := l2w.1
    have l2_all : AllOk K G20 [.ref v1, .ref v2, .ref v3, .ref v4, .ref v5, .ref v6] := (AllOk.cons v1_ok (AllOk.cons v2_ok (AllOk.cons v3_ok (AllOk.cons v4_ok (AllOk.cons v5_ok (AllOk.cons v6_ok AllOk.nil))))))
    refine ⟨l1, l2, _, _, rfl, rfl, hl1, hl2, (by show 5 + 6 ≤ sizeLine; decide), fun l3 nl3 => ?_⟩
    have l3w := ww.ne2 nl3
    have ss := same_upd (o := .lst ([.ref u1, .ref u2, .ref u3, .ref u4, .ref u5] ++ [.ref v1, .ref v2, .ref v3, .ref v4, .ref v5, .ref v6])) nl3
    have hl3 : (upd G20 l3 (.lst ([.ref u1, .ref u2, .ref u3, .ref u4, .ref u5] ++ [.ref v1, .ref v2, .ref v3, .ref v4, .ref v5, .ref v6]))) l3 = some (.lst ([.ref u1, .ref u2, .ref u3, .ref u4, .ref u5] ++ [.ref v1, .ref v2, .ref v3, .ref v4, .ref v5, .ref v6])) := upd_same
    generalize upd G20 l3 (.lst ([.ref u1, .ref u2, .ref u3, .ref u4, .ref u5] ++ [.ref v1, .ref v2, .ref v3, .ref v4, .ref v5, .ref v6])) = G21 at ss hl3 ⊢
    have hp := paired_imp (fun _ _ h => h.same ss) hp
    have kb := kb.same ss
    have b_all := b_all.same ss
    have b1_ok := b1_ok.same ss
    have b2_ok := b2_ok.same ss
    have kp1 := kp1.same ss
    have p1_all := p1_all.same ss
    have p1_ok := p1_ok.same ss
    have p2_ok := p2_ok.same ss
    have dp1_ok := dp1_ok.same ss
    have dp2_ok := dp2_ok.same ss
    have t1_ok := t1_ok.same ss
    have kt1 := kt1.same ss
    have t2_ok := t2_ok.same ss
    have kt2 := kt2.same ss
    have t3_ok := t3_ok.same ss
    have kt3 := kt3.same ss
    have hodd := ss _ _ hodd
    have odd_all := odd_all.same ss
    have t4_ok := t4_ok.same ss
    have kt4 := kt4.same ss
    have ktj := ktj.same ss
    have ksj := ksj.same ss
    have kkj := kkj.same ss
    have ya := ya.same ss
    have s_ok := s_ok.same ss
    have bh_ok := bh_ok.same ss
    have u1_ok := u1_ok.same ss
    have ku1 := ku1.same ss
    have u2_ok := u2_ok.same ss
    have ku2 := ku2.same ss
    have u3_ok := u3_ok.same ss
    have ku3 := ku3.same ss
    have u4_ok := u4_ok.same ss
    have ku4 := ku4.same ss
    have u5_ok := u5_ok.same ss
    have ku5 := ku5.same ss
    have hl1 := ss _ _ hl1
    have l1_all := l1_all.same ss
    have v1_ok := v1_ok.same ss
    have kv1 := kv1.same ss
    have v2_ok := v2_ok.same ss
    have kv2 := kv2.same ss
    have v3_ok := v3_ok.same ss
    have kv3 := kv3.same ss
    have hv4 := ss _ _ hv4
    have v4_all := v4_all.same ss
    have v4_ok := v4_ok.same ss
    have v5_ok := v5_ok.same ss
    have kv5 := kv5.same ss
    have v6_ok := v6_ok.same ss
    have kv6 := kv6.same ss
    have hl2 := ss _ _ hl2
    have l2_all := l2_all.same ss
    have xx := xx.same ss
    have ww := ww.same ss
    have hl3n := l3w.1
    have l3_all := AllOk.app l1_all l2_all
    refine ⟨.ref a, rfl, .ref l3, rfl, a, c, l3, _, rfl, ww, hl3n, hl3, (by show 0 < 11; decide), (by show 11 ≤ 100000; decide), fun Hc one xd wd ho => ?_⟩
    have one_ok := l3_all.mem ho
    have kp := kpD_exw xd ww wd
    have hp := paired_imp (fun _ _ h => h.keep kp) hp
    have kb := kp.t _ _ kb
    have b_all := b_all.keep kp
    have b1_ok := b1_ok.keep kp
    have b2_ok := b2_ok.keep kp
    have kp1 := kp.t _ _ kp1
    have p1_all := p1_all.keep kp
    have p1_ok := p1_ok.keep kp
    have p2_ok := p2_ok.keep kp
    have dp1_ok := dp1_ok.keep kp
    have dp2_ok := dp2_ok.keep kp
    have t1_ok := t1_ok.keep kp
    have kt1 := kp.t _ _ kt1
    have t2_ok := t2_ok.keep kp
    have kt2 := kp.t _ _ kt2
    have t3_ok := t3_ok.keep kp
    have kt3 := kp.t _ _ kt3
    have hodd := xd _ _ hoddn hodd
    have odd_all := odd_all.keep kp
    have t4_ok := t4_ok.keep kp
    have kt4 := kp.t _ _ kt4
    have ktj := kp.t _ _ ktj
    have ksj := kp.t _ _ ksj
    have kkj := kp.t _ _ kkj
    have ya := ya.keep kp
    have s_ok := s_ok.keep kp
    have bh_ok := bh_ok.keep kp
    have u1_ok := u1_ok.keep kp
    have ku1 := kp.t _ _ ku1
    have u2_ok := u2_ok.keep kp
    have ku2 := kp.t _ _ ku2
    have u3_ok := u3_ok.keep kp
    have ku3 := kp.t _ _ ku3
    have u4_ok := u4_ok.keep kp
    have ku4 := kp.t _ _ ku4
    have u5_ok := u5_ok.keep kp
    have ku5 := kp.t _ _ ku5
    have hl1 := xd _ _ hl1n hl1
    have l1_all := l1_all.keep kp
    have v1_ok := v1_ok.keep kp
    have kv1 := kp.t _ _ kv1
    have v2_ok := v2_ok.keep kp
    have kv2 := kp.t _ _ kv2
    have v3_ok := v3_ok.keep kp
    have kv3 := kp.t _ _ kv3
    have hv4 := xd _ _ hv4n hv4
    have v4_all := v4_all.keep kp
    have v4_ok := v4_ok.keep kp
    have v5_ok := v5_ok.keep kp
    have kv5 := kp.t _ _ kv5
    have v6_ok := v6_ok.keep kp
    have kv6 := kp.t _ _ kv6
    have hl2 := xd _ _ hl2n hl2
    have l2_all := l2_all.keep kp
    have hl3 := xd _ _ hl3n hl3
    have l3_all := l3_all.keep kp
    have one_ok := one_ok.keep kp
    have xx := xx.trans xd
    have ww := wd
    refine ⟨.ref a, rfl, .ref b, rfl, .int (j : Int), rfl, (j : Int), rfl, b, _, rfl, kb, fun q1 q1H sq1 kq1 => ?_⟩
    have hp := paired_imp (fun _ _ h => h.same sq1) hp
    have kb := kb.same sq1
    have b_all := b_all.same sq1
    have b1_ok := b1_ok.same sq1
    have b2_ok := b2_ok.same sq1
    have kp1 := kp1.same sq1
    have p1_all := p1_all.same sq1
    have p1_ok := p1_ok.same sq1
    have p2_ok := p2_ok.same sq1
    have dp1_ok := dp1_ok.same sq1
    have dp2_ok := dp2_ok.same sq1
    have t1_ok := t1_ok.same sq1
    have kt1 := kt1.same sq1
    have t2_ok := t2_ok.same sq1
    have kt2 := kt2.same sq1
    have t3_ok := t3_ok.same sq1
    have kt3 := kt3.same sq1
    have hodd := sq1 _ _ hodd
    have odd_all := odd_all.same sq1
    have t4_ok := t4_ok.same sq1
    have kt4 := kt4.same sq1
    have ktj := ktj.same sq1
    have ksj := ksj.same sq1
    have kkj := kkj.same sq1
    have ya := ya.same sq1
    have s_ok := s_ok.same sq1
    have bh_ok := bh_ok.same sq1
    have u1_ok := u1_ok.same sq1
    have ku1 := ku1.same sq1
    have u2_ok := u2_ok.same sq1
    have ku2 := ku2.same sq1
    have u3_ok := u3_ok.same sq1
    have ku3 := ku3.same sq1
    have u4_ok := u4_ok.same sq1
    have ku4 := ku4.same sq1
    have u5_ok := u5_ok.same sq1
    have ku5 := ku5.same sq1
    have hl1 := sq1 _ _ hl1
    have l1_all := l1_all.same sq1
    have v1_ok := v1_ok.same sq1
    have kv1 := kv1.same sq1
    have v2_ok := v2_ok.same sq1
    have kv2 := kv2.same sq1
    have v3_ok := v3_ok.same sq1
    have kv3 := kv3.same sq1
    have hv4 := sq1 _ _ hv4
    have v4_all := v4_all.same sq1
    have v4_ok := v4_ok.same sq1
    have v5_ok := v5_ok.same sq1
    have kv5 := kv5.same sq1
    have v6_ok := v6_ok.same sq1
    have kv6 := kv6.same sq1
    have hl2 := sq1 _ _ hl2
    have l2_all := l2_all.same sq1
    have hl3 := sq1 _ _ hl3
    have l3_all := l3_all.same sq1
    have one_ok := one_ok.same sq1
    have xx := xx.same sq1
    have ww := ww.same sq1
    have q1_all := AllOk.cut (lo := none) (hi := some (j : Int)) b_all
    refine ⟨one, rfl, (by show 1 ≤ sizeLine; decide), fun q2 oq2 nq2 hq2 => ?_⟩
    have ss := same_upd (o := .frz oq2 (.tup [one])) nq2
    have kq2 : Ptp (upd q1H q2 (.frz oq2 (.tup [one]))) q2 [one] := ⟨oq2, upd_same, hq2⟩
    generalize upd q1H q2 (.frz oq2 (.tup [one])) = G22 at ss kq2 ⊢
    have hp := paired_imp (fun _ _ h => h.same ss) hp
    have kb := kb.same ss
    have b_all := b_all.same ss
    have b1_ok := b1_ok.same ss
    have b2_ok := b2_ok.same ss
    have kp1 := kp1.same ss
    have p1_all := p1_all.same ss
    have p1_ok := p1_ok.same ss
    have p2_ok := p2_ok.same ss
    have dp1_ok := dp1_ok.same ss
    have dp2_ok := dp2_ok.same ss
    have t1_ok := t1_ok.same ss
    have kt1 := kt1.same ss
    have t2_ok := t2_ok.same ss
    have kt2 := kt2.same ss
    have t3_ok := t3_ok.same ss
    have kt3 := kt3.same ss
    have hodd := ss _ _ hodd
    have odd_all := odd_all.same ss
    have t4_ok := t4_ok.same ss
    have kt4 := kt4.same ss
    have ktj := ktj.same ss
    have ksj := ksj.same ss
    have kkj := kkj.same ss
    have ya := ya.same ss
    have s_ok := s_ok.same ss
    have bh_ok := bh_ok.same ss
    have u1_ok := u1_ok.same ss
    have ku1 := ku1.same ss
    have u2_ok := u2_ok.same ss
    have ku2 := ku2.same ss
    have u3_ok := u3_ok.same ss
    have ku3 := ku3.same ss
    have u4_ok := u4_ok.same ss
    have ku4 := ku4.same ss
    have u5_ok := u5_ok.same ss
    have ku5 := ku5.same ss
    have hl1 := ss _ _ hl1
    have l1_all := l1_all.same ss
    have v1_ok := v1_ok.same ss
    have kv1 := kv1.same ss
    have v2_ok := v2_ok.same ss
    have kv2 := kv2.same ss
    have v3_ok := v3_ok.same ss
    have kv3 := kv3.same ss
    have hv4 := ss _ _ hv4
    have v4_all := v4_all.same ss
    have v4_ok := v4_ok.same ss
    have v5_ok := v5_ok.same ss
    have kv5 := kv5.same ss
    have v6_ok := v6_ok.same ss
    have kv6 := kv6.same ss
    have hl2 := ss _ _ hl2
    have l2_all := l2_all.same ss
    have hl3 := ss _ _ hl3
    have l3_all := l3_all.same ss
    have one_ok := one_ok.same ss
    have kq1 := kq1.same ss
    have q1_all := q1_all.same ss
    have xx := xx.same ss
    have ww := ww.same ss
    have q2_ok : OkV K G22 (.ref q2) := OkV.tup kq2 (by show 1 ≤ 1000; decide) (.cons one_ok .nil)
    refine ⟨q1, q2, _, _, rfl, rfl, kq1, kq2, (by have := cut_le xs none (some (j : Int)); rw [sizeLine_eq]; show _ + 1 ≤ _; omega), fun q3 q3H sq3 kq3 => ?_⟩
    have hp := paired_imp (fun _ _ h => h.same sq3) hp
    have kb := kb.same sq3
    have b_all := b_all.same sq3
    have b1_ok := b1_ok.same sq3
    have b2_ok := b2_ok.same sq3
    have kp1 := kp1.same sq3
    have p1_all := p1_all.same sq3
    have p1_ok := p1_ok.same sq3
    have p2_ok := p2_ok.same sq3
    have dp1_ok := dp1_ok.same sq3
    have dp2_ok := dp2_ok.same sq3
    have t1_ok := t1_ok.same sq3
    have kt1 := kt1.same sq3
    have t2_ok := t2_ok.same sq3
    have kt2 := kt2.same sq3
    have t3_ok := t3_ok.same sq3
    have kt3 := kt3.same sq3
    have hodd := sq3 _ _ hodd
    have odd_all := odd_all.same sq3
    have t4_ok := t4_ok.same sq3
    have kt4 := kt4.same sq3
    have ktj := ktj.same sq3
    have ksj := ksj.same sq3
    have kkj := kkj.same sq3
    have ya := ya.same sq3
    have s_ok := s_ok.same sq3
    have bh_ok := bh_ok.same sq3
    have u1_ok := u1_ok.same sq3
    have ku1 := ku1.same sq3
    have u2_ok := u2_ok.same sq3
    have ku2 := ku2.same sq3
    have u3_ok := u3_ok.same sq3
    have ku3 := ku3.same sq3
    have u4_ok := u4_ok.same sq3
    have ku4 := ku4.same sq3
    have u5_ok := u5_ok.same sq3
    have ku5 := ku5.same sq3
    have hl1 := sq3 _ _ hl1
    have l1_all := l1_all.same sq3
    have v1_ok := v1_ok.same sq3
    have kv1 := kv1.same sq3
    have v2_ok := v2_ok.same sq3
    have kv2 := kv2.same sq3
    have v3_ok := v3_ok.same sq3
    have kv3 := kv3.same sq3
    have hv4 := sq3 _ _ hv4
    have v4_all := v4_all.same sq3
    have v4_ok := v4_ok.same sq3
    have v5_ok := v5_ok.same sq3
    have kv5 := kv5.same sq3
    have v6_ok := v6_ok.same sq3
    have kv6 := kv6.same sq3
    have hl2 := sq3 _ _ hl2
    have l2_all := l2_all.same sq3
    have hl3 := sq3 _ _ hl3
    have l3_all := l3_all.same sq3
    have one_ok := one_ok.same sq3
    have kq1 := kq1.same sq3
    have q1_all := q1_all.same sq3
    have q2_ok := q2_ok.same sq3
    have kq2 := kq2.same sq3
    have xx := xx.same sq3
    have ww := ww.same sq3
    have q3_all := AllOk.app q1_all (AllOk.cons one_ok .nil)
    refine ⟨.ref b, rfl, .int (j : Int), rfl, _, _, rfl, rfl, (j : Int) + 1, rfl, b, _, rfl, kb, fun q4 q4H sq4 kq4 => ?_⟩
    have hp := paired_imp (fun _ _ h => h.same sq4) hp
    have kb := kb.same sq4
    have b_all := b_all.same sq4
    have b1_ok := b1_ok.same sq4
    have b2_ok := b2_ok.same sq4
    have kp1 := kp1.same sq4
    have p1_all := p1_all.same sq4
    have p1_ok := p1_ok.same sq4
    have p2_ok := p2_ok.same sq4
    have dp1_ok := dp1_ok.same sq4
    have dp2_ok := dp2_ok.same sq4
    have t1_ok := t1_ok.same sq4
    have kt1 := kt1.same sq4
    have t2_ok := t2_ok.same sq4
    have kt2 := kt2.same sq4
    have t3_ok := t3_ok.same sq4
    have kt3 := kt3.same sq4
    have hodd := sq4 _ _ hodd
    have odd_all := odd_all.same sq4
    have t4_ok := t4_ok.same sq4
    have kt4 := kt4.same sq4
    have ktj := ktj.same sq4
    have ksj := ksj.same sq4
    have kkj := kkj.same sq4
    have ya := ya.same sq4
    have s_ok := s_ok.same sq4
    have bh_ok := bh_ok.same sq4
    have u1_ok := u1_ok.same sq4
    have ku1 := ku1.same sq4
    have u2_ok := u2_ok.same sq4
    have ku2 := ku2.same sq4
    have u3_ok := u3_ok.same sq4
    have ku3 := ku3.same sq4
    have u4_ok := u4_ok.same sq4
    have ku4 := ku4.same sq4
    have u5_ok := u5_ok.same sq4
    have ku5 := ku5.same sq4
    have hl1 := sq4 _ _ hl1
    have l1_all := l1_all.same sq4
    have v1_ok := v1_ok.same sq4
    have kv1 := kv1.same sq4
    have v2_ok := v2_ok.same sq4
    have kv2 := kv2.same sq4
    have v3_ok := v3_ok.same sq4
    have kv3 := kv3.same sq4
    have hv4 := sq4 _ _ hv4
    have v4_all := v4_all.same sq4
    have v4_ok := v4_ok.same sq4
    have v5_ok := v5_ok.same sq4
    have kv5 := kv5.same sq4
    have v6_ok := v6_ok.same sq4
    have kv6 := kv6.same sq4
    have hl2 := sq4 _ _ hl2
    have l2_all := l2_all.same sq4
    have hl3 := sq4 _ _ hl3
    have l3_all := l3_all.same sq4
    have one_ok := one_ok.same sq4
    have kq1 := kq1.same sq4
    have q1_all := q1_all.same sq4
    have q2_ok := q2_ok.same sq4
    have kq2 := kq2.same sq4
    have kq3 := kq3.same sq4
    have q3_all := q3_all.same sq4
    have xx := xx.same sq4
    have ww := ww.same sq4
    have q4_all := AllOk.cut (lo := some ((j : Int) + 1)) (hi := none) b_all
    refine ⟨q3, q4, _, _, rfl, rfl, kq3, kq4, (by have := cut_le xs none (some (j : Int)); have := cut_le xs (some ((j : Int) + 1)) none; rw [List.length_append, sizeLine_eq]; show _ + 1 + _ ≤ _; omega), fun q5 q5H sq5 kq5 => ?_⟩
    have hp := paired_imp (fun _ _ h => h.same sq5) hp
    have kb := kb.same sq5
    have b_all := b_all.same sq5
    have b1_ok := b1_ok.same sq5
    have b2_ok := b2_ok.same sq5
    have kp1 := kp1.same sq5
    have p1_all := p1_all.same sq5
    have p1_ok := p1_ok.same sq5
    have p2_ok := p2_ok.same sq5
    have dp1_ok := dp1_ok.same sq5
    have dp2_ok := dp2_ok.same sq5
    have t1_ok := t1_ok.same sq5
    have kt1 := kt1.same sq5
    have t2_ok := t2_ok.same sq5
    have kt2 := kt2.same sq5
    have t3_ok := t3_ok.same sq5
    have kt3 := kt3.same sq5
    have hodd := sq5 _ _ hodd
    have odd_all := odd_all.same sq5
    have t4_ok := t4_ok.same sq5
    have kt4 := kt4.same sq5
    have ktj := ktj.same sq5
    have ksj := ksj.same sq5
    have kkj := kkj.same sq5
    have ya := ya.same sq5
    have s_ok := s_ok.same sq5
    have bh_ok := bh_ok.same sq5
    have u1_ok := u1_ok.same sq5
    have ku1 := ku1.same sq5
    have u2_ok := u2_ok.same sq5
    have ku2 := ku2.same sq5
    have u3_ok := u3_ok.same sq5
    have ku3 := ku3.same sq5
    have u4_ok := u4_ok.same sq5
    have ku4 := ku4.same sq5
    have u5_ok := u5_ok.same sq5
    have ku5 := ku5.same sq5
    have hl1 := sq5 _ _ hl1
    have l1_all := l1_all.same sq5
    have v1_ok := v1_ok.same sq5
    have kv1 := kv1.same sq5
    have v2_ok := v2_ok.same sq5
    have kv2 := kv2.same sq5
    have v3_ok := v3_ok.same sq5
    have kv3 := kv3.same sq5
    have hv4 := sq5 _ _ hv4
    have v4_all := v4_all.same sq5
    have v4_ok := v4_ok.same sq5
    have v5_ok := v5_ok.same sq5
    have kv5 := kv5.same sq5
    have v6_ok := v6_ok.same sq5
    have kv6 := kv6.same sq5
    have hl2 := sq5 _ _ hl2
    have l2_all := l2_all.same sq5
    have hl3 := sq5 _ _ hl3
    have l3_all := l3_all.same sq5
    have one_ok := one_ok.same sq5
    have kq1 := kq1.same sq5
    have q1_all := q1_all.same sq5
    have q2_ok := q2_ok.same sq5
    have kq2 := kq2.same sq5
    have kq3 := kq3.same sq5
    have q3_all := q3_all.same sq5
    have kq4 := kq4.same sq5
    have q4_all := q4_all.same sq5
    have xx := xx.same sq5
    have ww := ww.same sq5
    have q5_all := AllOk.app q3_all q4_all
    have q5_ok := OkV.tup kq5 (by have := cut_le xs none (some (j : Int)); have := cut_le xs (some ((j : Int) + 1)) none; rw [List.length_append, List.length_append]; show _ + 1 + _ ≤ _; omega) q5_all
    refine ⟨(by show 1 ≤ sizeLine; decide), fun m1 nm1 => ?_⟩
    have m1w := ww.ne2 nm1
    have ss := same_upd (o := .lst [.ref q5]) nm1
    have hm1 : (upd q5H m1 (.lst [.ref q5])) m1 = some (.lst [.ref q5]) := upd_same
    generalize upd q5H m1 (.lst [.ref q5]) = G23 at ss hm1 ⊢
    have hp := paired_imp (fun _ _ h => h.same ss) hp
    have kb := kb.same ss
    have b_all := b_all.same ss
    have b1_ok := b1_ok.same ss
    have b2_ok := b2_ok.same ss
    have kp1 := kp1.same ss
    have p1_all := p1_all.same ss
    have p1_ok := p1_ok.same ss
    have p2_ok := p2_ok.same ss
    have dp1_ok := dp1_ok.same ss
    have dp2_ok := dp2_ok.same ss
    have t1_ok := t1_ok.same ss
    have kt1 := kt1.same ss
    have t2_ok := t2_ok.same ss
    have kt2 := kt2.same ss
    have t3_ok := t3_ok.same ss
    have kt3 := kt3.same ss
    have hodd := ss _ _ hodd
    have odd_all := odd_all.same ss
    have t4_ok := t4_ok.same ss
    have kt4 := kt4.same ss
    have ktj := ktj.same ss
    have ksj := ksj.same ss
    have kkj := kkj.same ss
    have ya := ya.same ss
    have s_ok := s_ok.same ss
    have bh_ok := bh_ok.same ss
    have u1_ok := u1_ok.same ss
    have ku1 := ku1.same ss
    have u2_ok := u2_ok.same ss
    have ku2 := ku2.same ss
    have u3_ok := u3_ok.same ss
    have ku3 := ku3.same ss
    have u4_ok := u4_ok.same ss
    have ku4 := ku4.same ss
    have u5_ok := u5_ok.same ss
    have ku5 := ku5.same ss
    have hl1 := ss _ _ hl1
    have l1_all := l1_all.same ss
    have v1_ok := v1_ok.same ss
    have kv1 := kv1.same ss
    have v2_ok := v2_ok.same ss
    have kv2 := kv2.same ss
    have v3_ok := v3_ok.same ss
    have kv3 := kv3.same ss
    have hv4 := ss _ _ hv4
    have v4_all := v4_all.same ss
    have v4_ok := v4_ok.same ss
    have v5_ok := v5_ok.same ss
    have kv5 := kv5.same ss
    have v6_ok := v6_ok.same ss
    have kv6 := kv6.same ss
    have hl2 := ss _ _ hl2
    have l2_all := l2_all.same ss
    have hl3 := ss _ _ hl3
    have l3_all := l3_all.same ss
    have one_ok := one_ok.same ss
    have kq1 := kq1.same ss
    have q1_all := q1_all.same ss
    have q2_ok := q2_ok.same ss
    have kq2 := kq2.same ss
    have kq3 := kq3.same ss
    have q3_all := q3_all.same ss
    have kq4 := kq4.same ss
    have q4_all := q4_all.same ss
    have kq5 := kq5.same ss
    have q5_all := q5_all.same ss
    have q5_ok := q5_ok.same ss
    have xx := xx.same ss
    have ww := ww.same ss
    have hm1n := m1w.1
    have m1_all : AllOk K G23 [.ref q5] := (AllOk.cons q5_ok AllOk.nil)
    refine ⟨m1, 12, _, rfl, rfl, hm1, by decide, by decide, (by show 1 * 12 ≤ sizeLine; decide), fun m2 nm2 => ?_⟩
    have m2w := ww.ne2 nm2
    have ss := same_upd (o := .lst (List.replicate (12 : Int).toNat [V.ref q5]).flatten) nm2
    have hm2 : (upd G23 m2 (.lst (List.replicate (12 : Int).toNat [V.ref q5]).flatten)) m2 = some (.lst (List.replicate 12 [V.ref q5]).flatten) := upd_same
    generalize upd G23 m2 (.lst (List.replicate (12 : Int).toNat [V.ref q5]).flatten) = G24 at ss hm2 ⊢
    have hp := paired_imp (fun _ _ h => h.same ss) hp
    have kb := kb.same ss
    have b_all := b_all.same ss
    have b1_ok := b1_ok.same ss
    have b2_ok := b2_ok.same ss
    have kp1 := kp1.same ss
    have p1_all := p1_all.same ss
    have p1_ok := p1_ok.same ss
    have p2_ok := p2_ok.same ss
    have dp1_ok := dp1_ok.same ss
    have dp2_ok := dp2_ok.same ss
    have t1_ok := t1_ok.same ss
    have kt1 := kt1.same ss
    have t2_ok := t2_ok.same ss
    have kt2 := kt2.same ss
    have t3_ok := t3_ok.same ss
    have kt3 := kt3.same ss
    have hodd := ss _ _ hodd
    have odd_all := odd_all.same ss
    have t4_ok := t4_ok.same ss
    have kt4 := kt4.same ss
    have ktj := ktj.same ss
    have ksj := ksj.same ss
    have kkj := kkj.same ss
    have ya := ya.same ss
    have s_ok := s_ok.same ss
    have bh_ok := bh_ok.same ss
    have u1_ok := u1_ok.same ss
    have ku1 := ku1.same ss
    have u2_ok := u2_ok.same ss
    have ku2 := ku2.same ss
    have u3_ok := u3_ok.same ss
    have ku3 := ku3.same ss
    have u4_ok := u4_ok.same ss
    have ku4 := ku4.same ss
    have u5_ok := u5_ok.same ss
    have ku5 := ku5.same ss
    have hl1 := ss _ _ hl1
    have l1_all := l1_all.same ss
    have v1_ok := v1_ok.same ss
    have kv1 := kv1.same ss
    have v2_ok := v2_ok.same ss
    have kv2 := kv2.same ss
    have v3_ok := v3_ok.same ss
    have kv3 := kv3.same ss
    have hv4 := ss _ _ hv4
    have v4_all := v4_all.same ss
    have v4_ok := v4_ok.same ss
    have v5_ok := v5_ok.same ss
    have kv5 := kv5.same ss
    have v6_ok := v6_ok.same ss
    have kv6 := kv6.same ss
    have hl2 := ss _ _ hl2
    have l2_all := l2_all.same ss
    have hl3 := ss _ _ hl3
    have l3_all := l3_all.same ss
    have one_ok := one_ok.same ss
    have kq1 := kq1.same ss
    have q1_all := q1_all.same ss
    have q2_ok := q2_ok.same ss
    have kq2 := kq2.same ss
    have kq3 := kq3.same ss
    have q3_all := q3_all.same ss
    have kq4 := kq4.same ss
    have q4_all := q4_all.same ss
    have kq5 := kq5.same ss
    have q5_all := q5_all.same ss
    have q5_ok := q5_ok.same ss
    have hm1 := ss _ _ hm1
    have m1_all := m1_all.same ss
    have xx := xx.same ss
    have ww := ww.same ss
    have hm2n := m2w.1
    have m2_all := m1_all.rep 12
    refine ⟨.ref b, rfl, .int (j : Int), rfl, (j : Int), rfl, b, _, rfl, kb, fun r1_ r1_H sr1_ kr1_ => ?_⟩
    have hp := paired_imp (fun _ _ h => h.same sr1_) hp
    have kb := kb.same sr1_
    have b_all := b_all.same sr1_
    have b1_ok := b1_ok.same sr1_
    have b2_ok := b2_ok.same sr1_
    have kp1 := kp1.same sr1_
    have p1_all := p1_all.same sr1_
    have p1_ok := p1_ok.same sr1_
    have p2_ok := p2_ok.same sr1_
    have dp1_ok := dp1_ok.same sr1_
    have dp2_ok := dp2_ok.same sr1_
    have t1_ok := t1_ok.same sr1_
    have kt1 := kt1.same sr1_
    have t2_ok := t2_ok.same sr1_
    have kt2 := kt2.same sr1_
    have t3_ok := t3_ok.same sr1_
    have kt3 := kt3.same sr1_
    have hodd := sr1_ _ _ hodd
    have odd_all := odd_all.same sr1_
    have t4_ok := t4_ok.same sr1_
    have kt4 := kt4.same sr1_
    have ktj := ktj.same sr1_
    have ksj := ksj.same sr1_
    have kkj := kkj.same sr1_
    have ya := ya.same sr1_
    have s_ok := s_ok.same sr1_
    have bh_ok := bh_ok.same sr1_
    have u1_ok := u1_ok.same sr1_
    have ku1 := ku1.same sr1_
    have u2_ok := u2_ok.same sr1_
    have ku2 := ku2.same sr1_
    have u3_ok := u3_ok.same sr1_
    have ku3 := ku3.same sr1_
    have u4_ok := u4_ok.same sr1_
    have ku4 := ku4.same sr1_
    have u5_ok := u5_ok.same sr1_
    have ku5 := ku5.same sr1_
    have hl1 := sr1_ _ _ hl1
    have l1_all := l1_all.same sr1_
    have v1_ok := v1_ok.same sr1_
    have kv1 := kv1.same sr1_
    have v2_ok := v2_ok.same sr1_
    have kv2 := kv2.same sr1_
    have v3_ok := v3_ok.same sr1_
    have kv3 := kv3.same sr1_
    have hv4 := sr1_ _ _ hv4
    have v4_all := v4_all.same sr1_
    have v4_ok := v4_ok.same sr1_
    have v5_ok := v5_ok.same sr1_
    have kv5 := kv5.same sr1_
    have v6_ok := v6_ok.same sr1_
    have kv6 := kv6.same sr1_
    have hl2 := sr1_ _ _ hl2
    have l2_all := l2_all.same sr1_
    have hl3 := sr1_ _ _ hl3
    have l3_all := l3_all.same sr1_
    have one_ok := one_ok.same sr1_
    have kq1 := kq1.same sr1_
    have q1_all := q1_all.same sr1_
    have q2_ok := q2_ok.same sr1_
    have kq2 := kq2.same sr1_
    have kq3 := kq3.same sr1_
    have q3_all := q3_all.same sr1_
    have kq4 := kq4.same sr1_
    have q4_all := q4_all.same sr1_
    have kq5 := kq5.same sr1_
    have q5_all := q5_all.same sr1_
    have q5_ok := q5_ok.same sr1_
    have hm1 := sr1_ _ _ hm1
    have m1_all := m1_all.same sr1_
    have hm2 := sr1_ _ _ hm2
    have m2_all := m2_all.same sr1_
    have xx := xx.same sr1_
    have ww := ww.same sr1_
    have r1__all := AllOk.cut (lo := none) (hi := some (j : Int)) b_all
    refine ⟨one, rfl, (by show 1 ≤ sizeLine; decide), fun r2_ or2_ nr2_ hr2_ => ?_⟩
    have ss := same_upd (o := .frz or2_ (.tup [one])) nr2_
    have kr2_ : Ptp (upd r1_H r2_ (.frz or2_ (.tup [one]))) r2_ [one] := ⟨or2_, upd_same, hr2_⟩
    generalize upd r1_H r2_ (.frz or2_ (.tup [one])) = G25 at ss kr2_ ⊢
    have hp := paired_imp (fun _ _ h => h.same ss) hp
    have kb := kb.same ss
    have b_all := b_all.same ss
    have b1_ok := b1_ok.same ss
    have b2_ok := b2_ok.same ss
    have kp1 := kp1.same ss
    have p1_all := p1_all.same ss
    have p1_ok := p1_ok.same ss
    have p2_ok := p2_ok.same ss
    have dp1_ok := dp1_ok.same ss
    have dp2_ok := dp2_ok.same ss
    have t1_ok := t1_ok.same ss
    have kt1 := kt1.same ss
    have t2_ok := t2_ok.same ss
    have kt2 := kt2.same ss
    have t3_ok := t3_ok.same ss
    have kt3 := kt3.same ss
    have hodd := ss _ _ hodd
    have odd_all := odd_all.same ss
    have t4_ok := t4_ok.same ss
    have kt4 := kt4.same ss
    have ktj := ktj.same ss
    have ksj := ksj.same ss
    have kkj := kkj.same ss
    have ya := ya.same ss
    have s_ok := s_ok.same ss
    have bh_ok := bh_ok.same ss
    have u1_ok := u1_ok.same ss
    have ku1 := ku1.same ss
    have u2_ok := u2_ok.same ss
    have ku2 := ku2.same ss
    have u3_ok := u3_ok.same ss
    have ku3 := ku3.same ss
    have u4_ok := u4_ok.same ss
    have ku4 := ku4.same ss
    have u5_ok := u5_ok.same ss
    have ku5 := ku5.same ss
    have hl1 := ss _ _ hl1
    have l1_all := l1_all.same ss
    have v1_ok := v1_ok.same ss
    have kv1 := kv1.same ss
    have v2_ok := v2_ok.same ss
    have kv2 := kv2.same ss
    have v3_ok := v3_ok.same ss
    have kv3 := kv3.same ss
    have hv4 := ss _ _ hv4
    have v4_all := v4_all.same ss
    have v4_ok := v4_ok.same ss
    have v5_ok := v5_ok.same ss
    have kv5 := kv5.same ss
    have v6_ok := v6_ok.same ss
    have kv6 := kv6.same ss
    have hl2 := ss _ _ hl2
    have l2_all := l2_all.same ss
    have hl3 := ss _ _ hl3
    have l3_all := l3_all.same ss
    have one_ok := one_ok.same ss
    have kq1 := kq1.same ss
    have q1_all := q1_all.same ss
    have q2_ok := q2_ok.same ss
    have kq2 := kq2.same ss
    have kq3 := kq3.same ss
    have q3_all := q3_all.same ss
    have kq4 := kq4.same ss
    have q4_all := q4_all.same ss
    have kq5 := kq5.same ss
    have q5_all := q5_all.same ss
    have q5_ok := q5_ok.same ss
    have hm1 := ss _ _ hm1
    have m1_all := m1_all.same ss
    have hm2 := ss _ _ hm2
    have m2_all := m2_all.same ss
    have kr1_ := kr1_.same ss
    have r1__all := r1__all.same ss
    have xx := xx.same ss
    have ww := ww.same ss
    have r2__ok : OkV K G25 (.ref r2_) := OkV.tup kr2_ (by show 1 ≤ 1000; decide) (.cons one_ok .nil)
    refine ⟨r1_, r2_, _, _, rfl, rfl, kr1_, kr2_, (by have := cut_le xs none (some (j : Int)); rw [sizeLine_eq]; show _ + 1 ≤ _; omega), fun r3_ r3_H sr3_ kr3_ => ?_⟩
    have hp := paired_imp (fun _ _ h => h.same sr3_) hp
    have kb := kb.same sr3_
    have b_all := b_all.same sr3_
    have b1_ok := b1_ok.same sr3_
    have b2_ok := b2_ok.same sr3_
    have kp1 := kp1.same sr3_
    have p1_all := p1_all.same sr3_
    have p1_ok := p1_ok.same sr3_
    have p2_ok := p2_ok.same sr3_
    have dp1_ok := dp1_ok.same sr3_
    have dp2_ok := dp2_ok.same sr3_
    have t1_ok := t1_ok.same sr3_
    have kt1 := kt1.same sr3_
    have t2_ok := t2_ok.same sr3_
    have kt2 := kt2.same sr3_
    have t3_ok := t3_ok.same sr3_
    have kt3 := kt3.same sr3_
    have hodd := sr3_ _ _ hodd
    have odd_all := odd_all.same sr3_
    have t4_ok := t4_ok.same sr3_
    have kt4 := kt4.same sr3_
    have ktj := ktj.same sr3_
    have ksj := ksj.same sr3_
    have kkj := kkj.same sr3_
    have ya := ya.same sr3_
    have s_ok := s_ok.same sr3_
    have bh_ok := bh_ok.same sr3_
    have u1_ok := u1_ok.same sr3_
    have ku1 := ku1.same sr3_
    have u2_ok := u2_ok.same sr3_
    have ku2 := ku2.same sr3_
    have u3_ok := u3_ok.same sr3_
    have ku3 := ku3.same sr3_
    have u4_ok := u4_ok.same sr3_
    have ku4 := ku4.same sr3_
    have u5_ok := u5_ok.same sr3_
    have ku5 := ku5.same sr3_
    have hl1 := sr3_ _ _ hl1
    have l1_all := l1_all.same sr3_
    have v1_ok := v1_ok.same sr3_
    have kv1 := kv1.same sr3_
    have v2_ok := v2_ok.same sr3_
    have kv2 := kv2.same sr3_
    have v3_ok := v3_ok.same sr3_
    have kv3 := kv3.same sr3_
    have hv4 := sr3_ _ _ hv4
    have v4_all := v4_all.same sr3_
    have v4_ok := v4_ok.same sr3_
    have v5_ok := v5_ok.same sr3_
    have kv5 := kv5.same sr3_
    have v6_ok := v6_ok.same sr3_
    have kv6 := kv6.same sr3_
    have hl2 := sr3_ _ _ hl2
    have l2_all := l2_all.same sr3_
    have hl3 := sr3_ _ _ hl3
    have l3_all := l3_all.same sr3_
    have one_ok := one_ok.same sr3_
    have kq1 := kq1.same sr3_
    have q1_all := q1_all.same sr3_
    have q2_ok := q2_ok.same sr3_
    have kq2 := kq2.same sr3_
    have kq3 := kq3.same sr3_
    have q3_all := q3_all.same sr3_
    have kq4 := kq4.same sr3_
    have q4_all := q4_all.same sr3_
    have kq5 := kq5.same sr3_
    have q5_all := q5_all.same sr3_
    have q5_ok := q5_ok.same sr3_
    have hm1 := sr3_ _ _ hm1
    have m1_all := m1_all.same sr3_
    have hm2 := sr3_ _ _ hm2
    have m2_all := m2_all.same sr3_
    have kr1_ := kr1_.same sr3_
    have r1__all := r1__all.same sr3_
    have r2__ok := r2__ok.same sr3_
    have kr2_ := kr2_.same sr3_
    have xx := xx.same sr3_
    have ww := ww.same sr3_
    have r3__all := AllOk.app r1__all (AllOk.cons one_ok .nil)
    refine ⟨.ref b, rfl, .int (j : Int), rfl, (j : Int), rfl, b, _, rfl, kb, fun r4_ r4_H sr4_ kr4_ => ?_⟩
    have hp := paired_imp (fun _ _ h => h.same sr4_) hp
    have kb := kb.same sr4_
    have b_all := b_all.same sr4_
    have b1_ok := b1_ok.same sr4_
    have b2_ok := b2_ok.same sr4_
    have kp1 := kp1.same sr4_
    have p1_all := p1_all.same sr4_
    have p1_ok := p1_ok.same sr4_
    have p2_ok := p2_ok.same sr4_
    have dp1_ok := dp1_ok.same sr4_
    have dp2_ok := dp2_ok.same sr4_
    have t1_ok := t1_ok.same sr4_
    have kt1 := kt1.same sr4_
    have t2_ok := t2_ok.same sr4_
    have kt2 := kt2.same sr4_
    have t3_ok := t3_ok.same sr4_
    have kt3 := kt3.same sr4_
    have hodd := sr4_ _ _ hodd
    have odd_all := odd_all.same sr4_
    have t4_ok := t4_ok.same sr4_
    have kt4 := kt4.same sr4_
    have ktj := ktj.same sr4_
    have ksj := ksj.same sr4_
    have kkj := kkj.same sr4_
    have ya := ya.same sr4_
    have s_ok := s_ok.same sr4_
    have bh_ok := bh_ok.same sr4_
    have u1_ok := u1_ok.same sr4_
    have ku1 := ku1.same sr4_
    have u2_ok := u2_ok.same sr4_
    have ku2 := ku2.same sr4_
    have u3_ok := u3_ok.same sr4_
    have ku3 := ku3.same sr4_
    have u4_ok := u4_ok.same sr4_
    have ku4 := ku4.same sr4_
    have u5_ok := u5_ok.same sr4_
    have ku5 := ku5.same sr4_
    have hl1 := sr4_ _ _ hl1
    have l1_all := l1_all.same sr4_
    have v1_ok := v1_ok.same sr4_
    have kv1 := kv1.same sr4_
    have v2_ok := v2_ok.same sr4_
    have kv2 := kv2.same sr4_
    have v3_ok := v3_ok.same sr4_
    have kv3 := kv3.same sr4_
    have hv4 := sr4_ _ _ hv4
    have v4_all := v4_all.same sr4_
    have v4_ok := v4_ok.same sr4_
    have v5_ok := v5_ok.same sr4_
    have kv5 := kv5.same sr4_
    have v6_ok := v6_ok.same sr4_
    have kv6 := kv6.same sr4_
    have hl2 := sr4_ _ _ hl2
    have l2_all := l2_all.same sr4_
    have hl3 := sr4_ _ _ hl3
    have l3_all := l3_all.same sr4_
    have one_ok := one_ok.same sr4_
    have kq1 := kq1.same sr4_
    have q1_all := q1_all.same sr4_
    have q2_ok := q2_ok.same sr4_
    have kq2 := kq2.same sr4_
    have kq3 := kq3.same sr4_
    have q3_all := q3_all.same sr4_
    have kq4 := kq4.same sr4_
    have q4_all := q4_all.same sr4_
    have kq5 := kq5.same sr4_
    have q5_all := q5_all.same sr4_
    have q5_ok := q5_ok.same sr4_
    have hm1 := sr4_ _ _ hm1
    have m1_all := m1_all.same sr4_
    have hm2 := sr4_ _ _ hm2
    have m2_all := m2_all.same sr4_
    have kr1_ := kr1_.same sr4_
    have r1__all := r1__all.same sr4_
    have r2__ok := r2__ok.same sr4_
    have kr2_ := kr2_.same sr4_
    have kr3_ := kr3_.same sr4_
    have r3__all := r3__all.same sr4_
    have xx := xx.same sr4_
    have ww := ww.same sr4_
    have r4__all := AllOk.cut (lo := some (j : Int)) (hi := none) b_all
    refine ⟨r3_, r4_, _, _, rfl, rfl, kr3_, kr4_, (by have := cut_le xs none (some (j : Int)); have := cut_le xs (some (j : Int)) none; rw [List.length_append, sizeLine_eq]; show _ + 1 + _ ≤ _; omega), fun r5_ r5_H sr5_ kr5_ => ?_⟩
    have hp := paired_imp (fun _ _ h => h.same sr5_) hp
    have kb := kb.same sr5_
    have b_all := b_all.same sr5_
    have b1_ok := b1_ok.same sr5_
    have b2_ok := b2_ok.same sr5_
    have kp1 := kp1.same sr5_
    have p1_all := p1_all.same sr5_
    have p1_ok := p1_ok.same sr5_
    have p2_ok := p2_ok.same sr5_
    have dp1_ok := dp1_ok.same sr5_
    have dp2_ok := dp2_ok.same sr5_
    have t1_ok := t1_ok.same sr5_
    have kt1 := kt1.same sr5_
    have t2_ok := t2_ok.same sr5_
    have kt2 := kt2.same sr5_
    have t3_ok := t3_ok.same sr5_
    have kt3 := kt3.same sr5_
    have hodd := sr5_ _ _ hodd
    have odd_all := odd_all.same sr5_
    have t4_ok := t4_ok.same sr5_
    have kt4 := kt4.same sr5_
    have ktj := ktj.same sr5_
    have ksj := ksj.same sr5_
    have kkj := kkj.same sr5_
    have ya := ya.same sr5_
    have s_ok := s_ok.same sr5_
    have bh_ok := bh_ok.same sr5_
    have u1_ok := u1_ok.same sr5_
    have ku1 := ku1.same sr5_
    have u2_ok := u2_ok.same sr5_
    have ku2 := ku2.same sr5_
    have u3_ok := u3_ok.same sr5_
    have ku3 := ku3.same sr5_
    have u4_ok := u4_ok.same sr5_
    have ku4 := ku4.same sr5_
    have u5_ok := u5_ok.same sr5_
    have ku5 := ku5.same sr5_
    have hl1 := sr5_ _ _ hl1
    have l1_all := l1_all.same sr5_
    have v1_ok := v1_ok.same sr5_
    have kv1 := kv1.same sr5_
    have v2_ok := v2_ok.same sr5_
    have kv2 := kv2.same sr5_
    have v3_ok := v3_ok.same sr5_
    have kv3 := kv3.same sr5_
    have hv4 := sr5_ _ _ hv4
    have v4_all := v4_all.same sr5_
    have v4_ok := v4_ok.same sr5_
    have v5_ok := v5_ok.same sr5_
    have kv5 := kv5.same sr5_
    have v6_ok := v6_ok.same sr5_
    have kv6 := kv6.same sr5_
    have hl2 := sr5_ _ _ hl2
    have l2_all := l2_all.same sr5_
    have hl3 := sr5_ _ _ hl3
    have l3_all := l3_all.same sr5_
    have one_ok := one_ok.same sr5_
    have kq1 := kq1.same sr5_
    have q1_all := q1_all.same sr5_
    have q2_ok := q2_ok.same sr5_
    have kq2 := kq2.same sr5_
    have kq3 := kq3.same sr5_
    have q3_all := q3_all.same sr5_
    have kq4 := kq4.same sr5_
    have q4_all := q4_all.same sr5_
    have kq5 := kq5.same sr5_
    have q5_all := q5_all.same sr5_
    have q5_ok := q5_ok.same sr5_
    have hm1 := sr5_ _ _ hm1
    have m1_all := m1_all.same sr5_
    have hm2 := sr5_ _ _ hm2
    have m2_all := m2_all.same sr5_
    have kr1_ := kr1_.same sr5_
    have r1__all := r1__all.same sr5_
    have r2__ok := r2__ok.same sr5_
    have kr2_ := kr2_.same sr5_
    have kr3_ := kr3_.same sr5_
    have r3__all := r3__all.same sr5_
    have kr4_ := kr4_.same sr5_
    have r4__all := r4__all.same sr5_
    have xx := xx.same sr5_
    have ww := ww.same sr5_
    have r5__all := AllOk.app r3__all r4__all
    have r5_ok := OkV.tup kr5_ (by have := cut_le xs none (some (j : Int)); have := cut_le xs (some (j : Int)) none; rw [List.length_append, List.length_append]; show _ + 1 + _ ≤ _; omega) r5__all
    refine ⟨(by show 1 ≤ sizeLine; decide), fun m3 nm3 => ?_⟩
    have m3w := ww.ne2 nm3
    have ss := same_upd (o := .lst [.ref r5_]) nm3
    have hm3 : (upd r5_H m3 (.lst [.ref r5_])) m3 = some (.lst [.ref r5_]) := upd_same
    generalize upd r5_H m3 (.lst [.ref r5_]) = G26 at ss hm3 ⊢
    have hp := paired_imp (fun _ _ h => h.same ss) hp
    have kb := kb.same ss
    have b_all := b_all.same ss
    have b1_ok := b1_ok.same ss
    have b2_ok := b2_ok.same ss
    have kp1 := kp1.same ss
    have p1_all := p1_all.same ss
    have p1_ok := p1_ok.same ss
    have p2_ok := p2_ok.same ss
    have dp1_ok := dp1_ok.same ss
    have dp2_ok := dp2_ok.same ss
    have t1_ok := t1_ok.same ss
    have kt1 := kt1.same ss
    have t2_ok := t2_ok.same ss
    have kt2 := kt2.same ss
    have t3_ok := t3_ok.same ss
    have kt3 := kt3.same ss
    have hodd := ss _ _ hodd
    have odd_all := odd_all.same ss
    have t4_ok := t4_ok.same ss
    have kt4 := kt4.same ss
    have ktj := ktj.same ss
    have ksj := ksj.same ss
    have kkj := kkj.same ss
    have ya := ya.same ss
    have s_ok := s_ok.same ss
    have bh_ok := bh_ok.same ss
    have u1_ok := u1_ok.same ss
    have ku1 := ku1.same ss
    have u2_ok := u2_ok.same ss
    have ku2 := ku2.same ss
    have u3_ok := u3_ok.same ss
    have ku3 := ku3.same ss
    have u4_ok := u4_ok.same ss
    have ku4 := ku4.same ss
    have u5_ok := u5_ok.same ss
    have ku5 := ku5.same ss
    have hl1 := ss _ _ hl1
    have l1_all := l1_all.same ss
    have v1_ok := v1_ok.same ss
    have kv1 := kv1.same ss
    have v2_ok := v2_ok.same ss
    have kv2 := kv2.same ss
    have v3_ok := v3_ok.same ss
    have kv3 := kv3.same ss
    have hv4 := ss _ _ hv4
    have v4_all := v4_all.same ss
    have v4_ok := v4_ok.same ss
    have v5_ok := v5_ok.same ss
    have kv5 := kv5.same ss
    have v6_ok := v6_ok.same ss
    have kv6 := kv6.same ss
    have hl2 := ss _ _ hl2
    have l2_all := l2_all.same ss
    have hl3 := ss _ _ hl3
    have l3_all := l3_all.same ss
    have one_ok := one_ok.same ss
    have kq1 := kq1.same ss
    have q1_all := q1_all.same ss
    have q2_ok := q2_ok.same ss
    have kq2 := kq2.same ss
    have kq3 := kq3.same ss
    have q3_all := q3_all.same ss
    have kq4 := kq4.same ss
    have q4_all := q4_all.same ss
    have kq5 := kq5.same ss
    have q5_all := q5_all.same ss
    have q5_ok := q5_ok.same ss
    have hm1 := ss _ _ hm1
    have m1_all := m1_all.same ss
    have hm2 := ss _ _ hm2
    have m2_all := m2_all.same ss
    have kr1_ := kr1_.same ss
    have r1__all := r1__all.same ss
    have r2__ok := r2__ok.same ss
    have kr2_ := kr2_.same ss
    have kr3_ := kr3_.same ss
    have r3__all := r3__all.same ss
    have kr4_ := kr4_.same ss
    have r4__all := r4__all.same ss
    have kr5_ := kr5_.same ss
    have r5__all := r5__all.same ss
    have r5_ok := r5_ok.same ss
    have xx := xx.same ss
    have ww := ww.same ss
    have hm3n := m3w.1
    have m3_all : AllOk K G26 [.ref r5_] := (AllOk.cons r5_ok AllOk.nil)
    refine ⟨m3, 3, _, rfl, rfl, hm3, by decide, by decide, (by show 1 * 3 ≤ sizeLine; decide), fun m4 nm4 => ?_⟩
    have m4w := ww.ne2 nm4
    have ss := same_upd (o := .lst (List.replicate (3 : Int).toNat [V.ref r5_]).flatten) nm4
    have hm4 : (upd G26 m4 (.lst (List.replicate (3 : Int).toNat [V.ref r5_]).flatten)) m4 = some (.lst (List.replicate 3 [V.ref r5_]).flatten) := upd_same
    generalize upd G26 m4 (.lst (List.replicate (3 : Int).toNat [V.ref r5_]).flatten) = G27 at ss hm4 ⊢
    have hp := paired_imp (fun _ _ h => h.same ss) hp
    have kb := kb.same ss
    have b_all := b_all.same ss
    have b1_ok := b1_ok.same ss
    have b2_ok := b2_ok.same ss
    have kp1 := kp1.same ss
    have p1_all := p1_all.same ss
    have p1_ok := p1_ok.same ss
    have p2_ok := p2_ok.same ss
    have dp1_ok := dp1_ok.same ss
    have dp2_ok := dp2_ok.same ss
    have t1_ok := t1_ok.same ss
    have kt1 := kt1.same ss
    have t2_ok := t2_ok.same ss
    have kt2 := kt2.same ss
    have t3_ok := t3_ok.same ss
    have kt3 := kt3.same ss
    have hodd := ss _ _ hodd
    have odd_all := odd_all.same ss
    have t4_ok := t4_ok.same ss
    have kt4 := kt4.same ss
    have ktj := ktj.same ss
    have ksj := ksj.same ss
    have kkj := kkj.same ss
    have ya := ya.same ss
    have s_ok := s_ok.same ss
    have bh_ok := bh_ok.same ss
    have u1_ok := u1_ok.same ss
    have ku1 := ku1.same ss
    have u2_ok := u2_ok.same ss
    have ku2 := ku2.same ss
    have u3_ok := u3_ok.same ss
    have ku3 := ku3.same ss
    have u4_ok := u4_ok.same ss
    have ku4 := ku4.same ss
    have u5_ok := u5_ok.same ss
    have ku5 := ku5.same ss
    have hl1 := ss _ _ hl1
    have l1_all := l1_all.same ss
    have v1_ok := v1_ok.same ss
    have kv1 := kv1.same ss
    have v2_ok := v2_ok.same ss
    have kv2 := kv2.same ss
    have v3_ok := v3_ok.same ss
    have kv3 := kv3.same ss
    have hv4 := ss _ _ hv4
    have v4_all := v4_all.same ss
    have v4_ok := v4_ok.same ss
    have v5_ok := v5_ok.same ss
    have kv5 := kv5.same ss
    have v6_ok := v6_ok.same ss
    have kv6 := kv6.same ss
    have hl2 := ss _ _ hl2
    have l2_all := l2_all.same ss
    have hl3 := ss _ _ hl3
    have l3_all := l3_all.same ss
    have one_ok := one_ok.same ss
    have kq1 := kq1.same ss
    have q1_all := q1_all.same ss
    have q2_ok := q2_ok.same ss
    have kq2 := kq2.same ss
    have kq3 := kq3.same ss
    have q3_all := q3_all.same ss
    have kq4 := kq4.same ss
    have q4_all := q4_all.same ss
    have kq5 := kq5.same ss
    have q5_all := q5_all.same ss
    have q5_ok := q5_ok.same ss
    have hm1 := ss _ _ hm1
    have m1_all := m1_all.same ss
    have hm2 := ss _ _ hm2
    have m2_all := m2_all.same ss
    have kr1_ := kr1_.same ss
    have r1__all := r1__all.same ss
    have r2__ok := r2__ok.same ss
    have kr2_ := kr2_.same ss
    have kr3_ := kr3_.same ss
    have r3__all := r3__all.same ss
    have kr4_ := kr4_.same ss
    have r4__all := r4__all.same ss
    have kr5_ := kr5_.same ss
    have r5__all := r5__all.same ss
    have r5_ok := r5_ok.same ss
    have hm3 := ss _ _ hm3
    have m3_all := m3_all.same ss
    have xx := xx.same ss
    have ww := ww.same ss
    have hm4n := m4w.1
    have m4_all := m3_all.rep 3
    refine ⟨m2, m4, _, _, rfl, rfl, hm2, hm4, (by show 12 + 3 ≤ sizeLine; decide), fun m5 nm5 => ?_⟩
    have m5w := ww.ne2 nm5
    have ss := same_upd (o := .lst ((List.replicate 12 [V.ref q5]).flatten ++ (List.replicate 3 [V.ref r5_]).flatten)) nm5
    have hm5 : (upd G27 m5 (.lst ((List.replicate 12 [V.ref q5]).flatten ++ (List.replicate 3 [V.ref r5_]).flatten))) m5 = some (.lst ((List.replicate 12 [V.ref q5]).flatten ++ (List.replicate 3 [V.ref r5_]).flatten)) := upd_same
    generalize upd G27 m5 (.lst ((List.replicate 12 [V.ref q5]).flatten ++ (List.replicate 3 [V.ref r5_]).flatten)) = G28 at ss hm5 ⊢
    have hp := paired_imp (fun _ _ h => h.same ss) hp
    have kb := kb.same ss
    have b_all := b_all.same ss
    have b1_ok := b1_ok.same ss
    have b2_ok := b2_ok.same ss
    have kp1 := kp1.same ss
    have p1_all := p1_all.same ss
    have p1_ok := p1_ok.same ss
    have p2_ok := p2_ok.same ss
    have dp1_ok := dp1_ok.same ss
    have dp2_ok := dp2_ok.same ss
    have t1_ok := t1_ok.same ss
    have kt1 := kt1.same ss
    have t2_ok := t2_ok.same ss
    have kt2 := kt2.same ss
    have t3_ok := t3_ok.same ss
    have kt3 := kt3.same ss
    have hodd := ss _ _ hodd
    have odd_all := odd_all.same ss
    have t4_ok := t4_ok.same ss
    have kt4 := kt4.same ss
    have ktj := ktj.same ss
    have ksj := ksj.same ss
    have kkj := kkj.same ss
    have ya := ya.same ss
    have s_ok := s_ok.same ss
    have bh_ok := bh_ok.same ss
    have u1_ok := u1_ok.same ss
    have ku1 := ku1.same ss
    have u2_ok := u2_ok.same ss
    have ku2 := ku2.same ss
    have u3_ok := u3_ok.same ss
    have ku3 := ku3.same ss
    have u4_ok := u4_ok.same ss
    have ku4 := ku4.same ss
    have u5_ok := u5_ok.same ss
    have ku5 := ku5.same ss
    have hl1 := ss _ _ hl1
    have l1_all := l1_all.same ss
    have v1_ok := v1_ok.same ss
    have kv1 := kv1.same ss
    have v2_ok := v2_ok.same ss
    have kv2 := kv2.same ss
    have v3_ok := v3_ok.same ss
    have kv3 := kv3.same ss
    have hv4 := ss _ _ hv4
    have v4_all := v4_all.same ss
    have v4_ok := v4_ok.same ss
    have v5_ok := v5_ok.same ss
    have kv5 := kv5.same ss
    have v6_ok := v6_ok.same ss
    have kv6 := kv6.same ss
    have hl2 := ss _ _ hl2
    have l2_all := l2_all.same ss
    have hl3 := ss _ _ hl3
    have l3_all := l3_all.same ss
    have one_ok := one_ok.same ss
    have kq1 := kq1.same ss
    have q1_all := q1_all.same ss
    have q2_ok := q2_ok.same ss
    have kq2 := kq2.same ss
    have kq3 := kq3.same ss
    have q3_all := q3_all.same ss
    have kq4 := kq4.same ss
    have q4_all := q4_all.same ss
    have kq5 := kq5.same ss
    have q5_all := q5_all.same ss
    have q5_ok := q5_ok.same ss
    have hm1 := ss _ _ hm1
    have m1_all := m1_all.same ss
    have hm2 := ss _ _ hm2
    have m2_all := m2_all.same ss
    have kr1_ := kr1_.same ss
    have r1__all := r1__all.same ss
    have r2__ok := r2__ok.same ss
    have kr2_ := kr2_.same ss
    have kr3_ := kr3_.same ss
    have r3__all := r3__all.same ss
    have kr4_ := kr4_.same ss
    have r4__all := r4__all.same ss
    have kr5_ := kr5_.same ss
    have r5__all := r5__all.same ss
    have r5_ok := r5_ok.same ss
    have hm3 := ss _ _ hm3
    have m3_all := m3_all.same ss
    have hm4 := ss _ _ hm4
    have m4_all := m4_all.same ss
    have xx := xx.same ss
    have ww := ww.same ss
    have hm5n := m5w.1
    have m5_all := AllOk.app m2_all m4_all
    have odd_all := odd_all
    refine ⟨.ref odd, rfl, m5, odd, _, _, rfl, rfl, hm5, hodd, (by show 15 + 10 ≤ sizeLine; decide), fun m6 nm6 => ?_⟩
    have m6w := ww.ne2 nm6
    have fin_all := AllOk.app m5_all odd_all
    have ss := same_upd (o := .lst ((List.replicate 12 [V.ref q5]).flatten ++ (List.replicate 3 [V.ref r5_]).flatten ++ [.non, .ref b1, .ref b2, .int 0, .str (Str.ofString "book"), .ref p1, .ref p2, dp1, .ref t1, .ref t3])) nm6
    have fin_all := fin_all.same ss
    refine ⟨a, c, m6, _, rfl, ww.same ss, m6w.1, upd_same, (by show 0 < 25; decide), (by show 25 ≤ 100000; decide), fun Hz v xz wz hx => ?_⟩
    exact q Hz v ((xx.same ss).trans xz) wz ((fin_all.mem hx).keep (kpD_exw xz (ww.same ss) wz))
end
end Kb

namespace L2
open PySem PySem.Spec PyProof.Rows Builtin
section
variable {X : Cx}
theorem takes_len {W : WX} (t : Takes X W) : Takes X (fun c d σ H => σ.length = X.N.length → W c d σ H) := fun u s' ⟨a, B, sI, pins, σ, H, cls, d, e, I, nb, up, sky, na, os, ag, w⟩ => t u s' ⟨a, B, sI, pins, σ, H, cls, d, e, I, nb, up, sky, na, os, ag, w I.len⟩
def rCntB (K : PySem.W.Frag) : V → List V → Hp → VK → Prop := fun x xs H Q => ∃ (p : Addr) (ns : List Bool) (k : Bool), x = .ref p ∧ xs = [.bl k] ∧ SqL K H p (ns.map V.bl) ∧ Q (.int ((ns.countP fun b => b == k : Nat) : Int)) H
def eqb (k : Bool) : Value → Bool
  | .bool b => b == k
  | _ => false
theorem bools_of : ∀ {ns : List Bool} {its : List Value}, Vals (ns.map V.bl) its → its = ns.map Value.bool
  | [], _, .nil => rfl
  | b :: ns, _, .cons h t => by
    have e := bools_of (ns := ns) t
    cases (show _ = Value.bool b from h)
    rw [e]
    rfl
/-- xs.count(b), a list of bools -/
theorem mt_countB : MtR X "list.count" (rCntB X.K) := by
  intro pins s σ H x xs v us Q I rx rxs h
  obtain ⟨p, ns, k, rfl, rfl, hs, q⟩ := h
  cases rx
  obtain ⟨u, rfl, ru⟩ := rxs.one
  cases (show u = Value.bool k from ru)
  obtain ⟨its, rv, ⟨⟨cls, dd, data, sl⟩, n, ho, hc, hdn, hd⟩, hlen⟩ := I.list hs
  simp only at hc hd
  subst hc hd
  have hi := bools_of rv
  refine call_meets PySem.F.slot_list_count ⟨_, ho, rfl⟩ PySem.F.entry_list_count (PySem.F.args_list_count_2 _ _)
    (SeqAt.list_countAt p its.toArray n dd sl (.bool k) (eqb k)) ⟨ho, fun y hy => ?_, ?_⟩
  · have hy2 : y ∈ its := by simpa using hy
    rw [hi] at hy2
    obtain ⟨b, _, rfl⟩ := List.mem_map.mp hy2
    exact SeqAt.EqAt.bool_bool b k
  · have ec : its.toArray.toList.countP (eqb k) = ns.countP fun b => b == k := by
      rw [hi]
      show (ns.map Value.bool).countP (eqb k) = _
      rw [List.countP_map]
      rfl
    refine ⟨.int ((ns.countP fun b => b == k : Nat) : Int), H, I.tok _, ⟨s.toks, ?_⟩, q⟩
    show Value.int ((its.toArray.toList.countP (eqb k) : Nat) : Int) s.toks = _
    rw [ec]
end
end L2
namespace Kb
open PySem PySem.Spec PyProof.Rows L2 SrtZ SrtO LamX RZ SrtR
section
variable {P : Program} {w : World} {K : PySem.W.Frag} {mg : Str → Option Value} {base : Heap}
theorem okC {x qual : Str} {st : Stmt} {f : Addr} {fd : FuncData} {N ps : List Str} {k : Nat} {sp : Sp} (F : Fun K x qual st f fd) (S : FnScope N ps (defScope st)) (len : ∀ vs H Q E, sp vs H Q E → vs.length = ps.length)
    (hbody : ∀ (cdv : Value) (A : Around) (outer : List Env) (s : Shared) (H : Hp) (vs : List V) (Q : VK) (E : XK), cdv = fd.code → Room k (A.deeper (envOfC qual (defScope st) s.heap.objs.size f cdv)) → sp vs H Q E →
      ∃ t, PSs (cxOf CX0 P w K mg base N qual (defScope st) f cdv A outer s H E).nox (defBody st) t ∧ t { nx := fun _ H' => Q .non H', rt := Q } (L2.start N vs) H) : FnOk P w K mg base CX0 (k + 1) f fd ps sp := by
  obtain ⟨oc, od, kV, doc, pm, an, cdv, ct, osl, rfl, lk, hcd⟩ := F.ex
  refine fn_of lk hcd S len fun A outer s H vs Q E hr hsp => ?_
  obtain ⟨t, h, q⟩ := hbody cdv A outer s H vs Q E rfl hr hsp
  exact ⟨t, h.nox, q⟩

end
abbrev sword : Stmt := topS 49
abbrev Nword : List Str := ["_law_call", "_law_word_here", "e", "_law_flags"]
theorem scword : FnScope ["_law_call", "_law_word_here", "e", "_law_flags"] ["_law_call"] (defScope sword) := ⟨rfl, rfl, rfl, by decide +kernel, rfl, by decide +kernel, by decide +kernel⟩
abbrev Dnword (K : PySem.W.Frag) (mg : Str → Option Value) := Dn K mg "_law_word" sword ["_law_call"]
/-- the three classes, as _law_word asks of them -/
structure TxK (K : PySem.W.Frag) (mg : Str → Option Value) where
  B : TxE K mg "NoBook"
  R : TxE K mg "NoRoom"
  O : TxE K mg "OtherRoom"
  KE : Addr
  gKE : mg "KnownError" = some (.ref KE)
  n_VE : mg "ValueError" = none
  xB : PySem.W.exmOne K (.ref B.C) (.ref KE) = some true
  xR : PySem.W.exmOne K (.ref R.C) (.ref KE) = some true
  xO : PySem.W.exmOne K (.ref O.C) (.ref KE) = some true
  kBB : PySem.W.kitOne K (.ref B.C) (.ref B.C) = some true
  kBR : PySem.W.kitOne K (.ref B.C) (.ref R.C) = some false
  kBO : PySem.W.kitOne K (.ref B.C) (.ref O.C) = some false
  kRB : PySem.W.kitOne K (.ref R.C) (.ref B.C) = some false
  kRR : PySem.W.kitOne K (.ref R.C) (.ref R.C) = some true
  kRO : PySem.W.kitOne K (.ref R.C) (.ref O.C) = some false
  kOB : PySem.W.kitOne K (.ref O.C) (.ref B.C) = some false
  kOR : PySem.W.kitOne K (.ref O.C) (.ref R.C) = some false
  kOO : PySem.W.kitOne K (.ref O.C) (.ref O.C) = some true
  kBV : PySem.W.kitOne K (.ref B.C) (.type "ValueError") = some true
  kRV : PySem.W.kitOne K (.ref R.C) (.type "ValueError") = some true
  kOV : PySem.W.kitOne K (.ref O.C) (.type "ValueError") = some true
/-- isinstance(e, c) of an error that is one of three -/
def rIs3 (K : PySem.W.Frag) (a C1 C2 C3 : Addr) (cls : Value) (d : Option Addr) : List V → Hp → VK → Prop := fun xs H Q => d = none ∧ ((cls = .ref C1 ∧ rIsE K C1 a xs H Q) ∨ (cls = .ref C2 ∧ rIsE K C2 a xs H Q) ∨ (cls = .ref C3 ∧ rIsE K C3 a xs H Q))
theorem call_is3 {X : Cx} {a C1 C2 C3 : Addr} {oe : Obj} {cls : Value} {d : Option Addr} {pn : List (Addr × Obj)} (i1 : ExcC X.K C1) (i2 : ExcC X.K C2) (i3 : ExcC X.K C3) (hz : Zc cls d oe) (hf : ∃ vs, oe.data = .fields vs) :
    CallR (X.suite a ((a, oe) :: pn)) (.builtin "isinstance") (rIs3 X.K a C1 C2 C3 cls d) := by
  intro pins s σ H xs us Q I r h
  obtain ⟨ed, ⟨ec, h⟩ | ⟨ec, h⟩ | ⟨ec, h⟩⟩ := h
  · subst ec ed
    exact call_isE i1 hz hf pins s σ H xs us Q I r h
  · subst ec ed
    exact call_isE i2 hz hf pins s σ H xs us Q I r h
  · subst ec ed
    exact call_isE i3 hz hf pins s σ H xs us Q I r h
/-- what an error comes to -/
def EchW (K : PySem.W.Frag) (mg : Str → Option Value) (S : TxK K mg) (Q : VK) : XK := fun cls d H' => d = none ∧ ((cls = .ref S.B.C ∧ ∀ H'', Same H' H'' → Q (.str (Str.ofString "book")) H'') ∨ (cls = .ref S.R.C ∧ ∀ H'', Same H' H'' → Q (.str (Str.ofString "room")) H'') ∨ (cls = .ref S.O.C ∧ ∀ H'', Same H' H'' → Q (.str (Str.ofString "other room")) H''))
def TTword (K : PySem.W.Frag) (mg : Str → Option Value) (S : TxK K mg) : (XK → Hp → VK → Prop) → Hp → VK → Prop := fun tl H Q => ∀ Q' : VK, (∀ v H', Q (.str (Str.ofString "let")) H' → Q' v H') → tl (EchW K mg S Q) H Q'
theorem word_gives {X : Cx} (T : Blt X.mg) (S : TxK X.K X.mg) {q : Str} {g : Addr} {cdg : Value} : GivesTo X Nword "_law_word" (defScope sword) g cdg (defBody sword) "_law_call" q (TTword X.K X.mg S) := by
  intro f c' s H Q tl act hc h
  refine ⟨_, pss_cons (ps_set (i := 1) scword.nd rfl (Or.inl rfl) pe_str)
    (pss_cons (ps_try_first (X := (cxOf C8.CX0 X.prog X.w X.K X.mg X.base Nword "_law_word" (defScope sword) g cdg X.A X.stack s H C8.E0).nox) (i := 2) (c := .ref S.KE)
      (tb := fun W D σ H => ∃ Ech : XK, (∀ cls d σ' H', Ech cls d H' → σ'.length = 4 → W cls d σ' H') ∧ σ[0]? = some (some (.ref f)) ∧ H c' = some (CodeO c' q) ∧ tl Ech H (fun _ H' => D.nx σ H'))
      (ts := fun a cls d => tSeq (tAsg (tLst (tCons (tCB (rIs3 X.K a S.B.C S.R.C S.O.C cls d) (tCons (tVar 2) (tCons (tC (.ref S.B.C)) tNil))) (tCons (tCB (rIs3 X.K a S.B.C S.R.C S.O.C cls d) (tCons (tVar 2) (tCons (tC (.ref S.R.C)) tNil))) (tCons (tCB (rIs3 X.K a S.B.C S.R.C S.O.C cls d) (tCons (tVar 2) (tCons (tC (.ref S.O.C)) tNil))) tNil)))) (gName 3))
        (tSeq (tAsg (tC (.str (Str.ofString "other"))) (gName 1))
        (tIfS (tAnd (tTest (tOp rEq (tBM X.K "list" (rCntB X.K) (tVar 3) (tCons (tC (.bl true)) tNil)) (tC (.int 1)))) (tB (tCB (rIs3 X.K a S.B.C S.R.C S.O.C cls d) (tCons (tVar 2) (tCons (tC (.ty "ValueError")) tNil)))))
          (tAsg (tOp (rIxL X.K) (tLst (tCons (tC (.str (Str.ofString "book"))) (tCons (tC (.str (Str.ofString "room"))) (tCons (tC (.str (Str.ofString "other room"))) tNil)))) (tBM X.K "list" (rIndex X.K) (tVar 3) (tCons (tC (.bl true)) tNil))) (gName 1)) tNext)))
      rfl rfl scword.nd rfl rfl ⟨rfl, by decide, Or.inl S.gKE⟩ (fun W pn way tk _ => ?_) (fun a oe cls d pn hz hf => ?_))
    (pss_one (ps_ret (pv 1)))), ?_⟩
  · refine ⟨fun pins s' σ H' D I h' => ?_⟩
    obtain ⟨Ech, hW, h1, h2, h3⟩ := h'
    have hp := act (fun c d σ H => σ.length = 4 → W c d σ H) pn way Ech ⟨243, 8, 243, 17⟩ ⟨243, 8, 243, 19⟩ (takes_len tk) hW
    have hq := pss_one (ps_expr (pos := ⟨243, 8, 243, 19⟩) hp)
    exact hq.run pins s' σ H' D I ⟨h1, h2, h3⟩
  · exact pss_cons (ps_set (i := 3) scword.nd rfl (Or.inl rfl) (by exact (pe_lst (pa_cons (pe_callB (call_is3 S.B.isC S.R.isC S.O.isC hz hf) (by rfl) T.n_isinstance (by decide +kernel) (pa_cons (pv 2) (pa_cons (pe_glob rfl S.B.gC rfl) pa_nil))) (pa_cons (pe_callB (call_is3 S.B.isC S.R.isC S.O.isC hz hf) (by rfl) T.n_isinstance (by decide +kernel) (pa_cons (pv 2) (pa_cons (pe_glob rfl S.R.gC rfl) pa_nil))) (pa_cons (pe_callB (call_is3 S.B.isC S.R.isC S.O.isC hz hf) (by rfl) T.n_isinstance (by decide +kernel) (pa_cons (pv 2) (pa_cons (pe_glob rfl S.O.gC rfl) pa_nil))) pa_nil))))))
      (pss_cons (ps_set (i := 1) scword.nd rfl (Or.inl rfl) (by exact pe_str))
      (pss_one (ps_if (by exact (PW.pt (pw_and (pt_cmpR op_eq (pe_bm PySem.F.plainAttrs_list PySem.F.slot_list_count PySem.F.type_list_count mt_countB (pv 3) (pa_cons pe_bl pa_nil)) pe_int (nomark _)) (pw_and1 (pt_val (pe_callB (call_is3 S.B.isC S.R.isC S.O.isC hz hf) (by rfl) T.n_isinstance (by decide +kernel) (pa_cons (pv 2) (pa_cons (pe_bltn (v := .ty "ValueError") (by rfl) S.n_VE (by decide +kernel) rfl) pa_nil))))))))
        (pss_one (ps_set (i := 1) scword.nd rfl (Or.inl rfl) (by exact (pe_ix ix_list (pe_lst (pa_cons pe_str (pa_cons pe_str (pa_cons pe_str pa_nil)))) (pe_bm PySem.F.plainAttrs_list PySem.F.slot_list_index PySem.F.type_list_index mt_index (pv 3) (pa_cons pe_bl pa_nil)) (fun _ _ => rfl)))))
        pss_nil)))
  · refine ⟨EchW X.K X.mg S Q, fun cls d σ' H' he hl => ?_, rfl, hc, h _ fun v H' hq => ⟨_, rfl, hq⟩⟩
    obtain ⟨x0, x1, x2, x3, rfl⟩ : ∃ x0 x1 x2 x3, σ' = [x0, x1, x2, x3] := match σ', hl with | [x0, x1, x2, x3], _ => ⟨x0, x1, x2, x3, rfl⟩
    obtain ⟨rfl, ⟨rfl, he⟩ | ⟨rfl, he⟩ | ⟨rfl, he⟩⟩ := he
    · refine ⟨S.xB, fun a0 na0 => ?_⟩
      refine ⟨.ref a0, rfl, rfl, .inl ⟨rfl, .ref S.B.C, .ref S.B.C, true, rfl, (fun u hu => hu), S.kBB, .ref a0, rfl, rfl, .inl ⟨rfl, .ref S.R.C, .ref S.R.C, false, rfl, (fun u hu => hu), S.kBR, .ref a0, rfl, rfl, .inl ⟨rfl, .ref S.O.C, .ref S.O.C, false, rfl, (fun u hu => hu), S.kBO, (by show 3 ≤ sizeLine; decide), fun l nl => ?_⟩⟩⟩⟩
      have s1 := same_upd (o := .lst [.bl true, .bl false, .bl false]) nl
      have hl1 : (upd H' l (.lst [.bl true, .bl false, .bl false])) l = some (.lst ([true, false, false].map V.bl)) := upd_same
      generalize upd H' l (.lst [.bl true, .bl false, .bl false]) = H1 at s1 hl1 ⊢
      refine ⟨.ref l, rfl, .inl ⟨rfl, _, sql hl1⟩, l, [true, false, false], true, rfl, rfl, sql hl1, rfl, true, congrArg V.bl (by decide), iteT ?_⟩
      refine ⟨.ref a0, rfl, rfl, .inl ⟨rfl, .ty "ValueError", .type "ValueError", true, rfl, (fun u hu => hu), S.kBV, true, rfl, iteT ?_⟩⟩
      refine ⟨(by show 3 ≤ sizeLine; decide), fun l2 nl2 => ?_⟩
      have s2 := same_upd (o := .lst [.str (Str.ofString "book"), .str (Str.ofString "room"), .str (Str.ofString "other room")]) nl2
      refine ⟨.ref l, rfl, .inl ⟨rfl, _, sql (s2 _ _ hl1)⟩, l, _, .bl true, 0, .bl true, rfl, rfl, sql (s2 _ _ hl1), rfl, rfl, rfl, rfl, ?_, l2, _, _, _, rfl, rfl, sql upd_same, atI_nat (j := 0) rfl, _, rfl, ?_⟩
      · intro m z' hm hz
        have : m = 0 ∨ m = 1 ∨ m = 2 := by omega
        rcases this with rfl | rfl | rfl
        all_goals first | (cases hz; rfl) | omega
      · exact he _ (Same.trans s1 s2)
    · refine ⟨S.xR, fun a0 na0 => ?_⟩
      refine ⟨.ref a0, rfl, rfl, .inr (.inl ⟨rfl, .ref S.B.C, .ref S.B.C, false, rfl, (fun u hu => hu), S.kRB, .ref a0, rfl, rfl, .inr (.inl ⟨rfl, .ref S.R.C, .ref S.R.C, true, rfl, (fun u hu => hu), S.kRR, .ref a0, rfl, rfl, .inr (.inl ⟨rfl, .ref S.O.C, .ref S.O.C, false, rfl, (fun u hu => hu), S.kRO, (by show 3 ≤ sizeLine; decide), fun l nl => ?_⟩)⟩)⟩)⟩
      have s1 := same_upd (o := .lst [.bl false, .bl true, .bl false]) nl
      have hl1 : (upd H' l (.lst [.bl false, .bl true, .bl false])) l = some (.lst ([false, true, false].map V.bl)) := upd_same
      generalize upd H' l (.lst [.bl false, .bl true, .bl false]) = H1 at s1 hl1 ⊢
      refine ⟨.ref l, rfl, .inl ⟨rfl, _, sql hl1⟩, l, [false, true, false], true, rfl, rfl, sql hl1, rfl, true, congrArg V.bl (by decide), iteT ?_⟩
      refine ⟨.ref a0, rfl, rfl, .inr (.inl ⟨rfl, .ty "ValueError", .type "ValueError", true, rfl, (fun u hu => hu), S.kRV, true, rfl, iteT ?_⟩)⟩
      refine ⟨(by show 3 ≤ sizeLine; decide), fun l2 nl2 => ?_⟩
      have s2 := same_upd (o := .lst [.str (Str.ofString "book"), .str (Str.ofString "room"), .str (Str.ofString "other room")]) nl2
      refine ⟨.ref l, rfl, .inl ⟨rfl, _, sql (s2 _ _ hl1)⟩, l, _, .bl true, 1, .bl true, rfl, rfl, sql (s2 _ _ hl1), rfl, rfl, rfl, rfl, ?_, l2, _, _, _, rfl, rfl, sql upd_same, atI_nat (j := 1) rfl, _, rfl, ?_⟩
      · intro m z' hm hz
        have : m = 0 ∨ m = 1 ∨ m = 2 := by omega
        rcases this with rfl | rfl | rfl
        all_goals first | (cases hz; rfl) | omega
      · exact he _ (Same.trans s1 s2)
    · refine ⟨S.xO, fun a0 na0 => ?_⟩
      refine ⟨.ref a0, rfl, rfl, .inr (.inr ⟨rfl, .ref S.B.C, .ref S.B.C, false, rfl, (fun u hu => hu), S.kOB, .ref a0, rfl, rfl, .inr (.inr ⟨rfl, .ref S.R.C, .ref S.R.C, false, rfl, (fun u hu => hu), S.kOR, .ref a0, rfl, rfl, .inr (.inr ⟨rfl, .ref S.O.C, .ref S.O.C, true, rfl, (fun u hu => hu), S.kOO, (by show 3 ≤ sizeLine; decide), fun l nl => ?_⟩)⟩)⟩)⟩
      have s1 := same_upd (o := .lst [.bl false, .bl false, .bl true]) nl
      have hl1 : (upd H' l (.lst [.bl false, .bl false, .bl true])) l = some (.lst ([false, false, true].map V.bl)) := upd_same
      generalize upd H' l (.lst [.bl false, .bl false, .bl true]) = H1 at s1 hl1 ⊢
      refine ⟨.ref l, rfl, .inl ⟨rfl, _, sql hl1⟩, l, [false, false, true], true, rfl, rfl, sql hl1, rfl, true, congrArg V.bl (by decide), iteT ?_⟩
      refine ⟨.ref a0, rfl, rfl, .inr (.inr ⟨rfl, .ty "ValueError", .type "ValueError", true, rfl, (fun u hu => hu), S.kOV, true, rfl, iteT ?_⟩)⟩
      refine ⟨(by show 3 ≤ sizeLine; decide), fun l2 nl2 => ?_⟩
      have s2 := same_upd (o := .lst [.str (Str.ofString "book"), .str (Str.ofString "room"), .str (Str.ofString "other room")]) nl2
      refine ⟨.ref l, rfl, .inl ⟨rfl, _, sql (s2 _ _ hl1)⟩, l, _, .bl true, 2, .bl true, rfl, rfl, sql (s2 _ _ hl1), rfl, rfl, rfl, rfl, ?_, l2, _, _, _, rfl, rfl, sql upd_same, atI_nat (j := 2) rfl, _, rfl, ?_⟩
      · intro m z' hm hz
        have : m = 0 ∨ m = 1 ∨ m = 2 := by omega
        rcases this with rfl | rfl | rfl
        all_goals first | (cases hz; rfl) | omega
      · exact he _ (Same.trans s1 s2)
end Kb

namespace Kb
open PySem PySem.Spec PyProof.Rows L2 SrtZ SrtO LamX RZ SrtR
abbrev srefused_right : Stmt := topS 51
abbrev Nrefused_right : List Str := ["_law_pot_here", "_law_room", "_law_book_here", "_law_other", "_law_right", "_law_one_room", "_law_due", "_law_is_room", "_law_odd", "_law_thing", "_law_one"]
theorem screfused_right : FnScope ["_law_pot_here", "_law_room", "_law_book_here", "_law_other", "_law_right", "_law_one_room", "_law_due", "_law_is_room", "_law_odd", "_law_thing", "_law_one"] ["_law_pot_here", "_law_room", "_law_book_here", "_law_other"] (defScope srefused_right) := ⟨rfl, rfl, rfl, by decide +kernel, rfl, by decide +kernel, by decide +kernel⟩
abbrev Dnrefused_right (K : PySem.W.Frag) (mg : Str → Option Value) := Dn K mg "_law_refused_right" srefused_right ["_law_pot_here", "_law_room", "_law_book_here", "_law_other"]
abbrev qRef : Str := (("_law_refused_right" : Str) ++ ".<locals>.") ++ "<lambda>"
/-- the def with its lambdas, its code object's table -/
structure Ref (K : PySem.W.Frag) (mg : Str → Option Value) (base : Heap) where
  d : Dnrefused_right K mg
  c : Addr
  P : Addr
  code : d.fd.code = .ref c
  tb : TabB base mg c P
/-! what stays -/
def ExM (a : Addr) (H H' : Hp) : Prop := ∀ b o, b ≠ a → H b = some o → (∀ ps, o ≠ .tbl ps) → H' b = some o
theorem Exw.m {a : Addr} {H H' : Hp} (x : Exw a H H') : ExM a H H' := fun b o n h _ => x b o n h
theorem ExtN.m {a : Addr} {H H' : Hp} (x : ExtN H H') : ExM a H H' := fun b o _ h k => x b o h k
theorem ExM.trans {a : Addr} {H H1 H2 : Hp} (x : ExM a H H1) (y : ExM a H1 H2) : ExM a H H2 := fun b o n h k => y b o n (x b o n h k) k
theorem kpD_exm {a c : Addr} {H H' : Hp} (x : ExM a H H') (w : Wl a c H) (w' : Wl a c H') : KpD H H' := by
  have hw := w
  obtain ⟨_, ns, i, u, s, t, e1, _⟩ := hw
  refine ⟨fun b xs ⟨o, e, d⟩ => ⟨o, x b _ (ne_of e e1 (by intro z; cases z)) e (by intro _ z; cases z), d⟩, fun b xs e => ?_, fun b k e => ⟨_, x b _ (ne_of e e1 (by intro z; cases z)) e (by intro _ z; cases z)⟩⟩
  by_cases h : b = a
  · subst h
    obtain ⟨_, ns, i, u, s, t, e1, _⟩ := w'
    exact ⟨_, e1⟩
  · exact ⟨_, x b _ h e (by intro _ z; cases z)⟩
theorem kpD_extN {H H' : Hp} (x : ExtN H H') : KpD H H' :=
  ⟨fun b xs ⟨o, e, d⟩ => ⟨o, x b _ e (by intro _ z; cases z), d⟩, fun b xs e => ⟨_, x b _ e (by intro _ z; cases z)⟩, fun b k e => ⟨_, x b _ e (by intro _ z; cases z)⟩⟩
theorem Wl.extN {a c : Addr} {H H' : Hp} (w : Wl a c H) (x : ExtN H H') : Wl a c H' := by
  obtain ⟨n1, ns, i, u, s, t, e1, e2, r⟩ := w
  exact ⟨n1, ns, i, u, s, t, x _ _ e1 (by intro _ z; cases z), x _ _ e2 (by intro _ z; cases z), r⟩
theorem LsAt.exm {K : PySem.W.Frag} {a c : Addr} {H H' : Hp} {l : Addr} {r : Int} {zs : List Str} (h : LsAt K a H l r zs) (x : ExM a H H') (w : Wl a c H) (w' : Wl a c H') : LsAt K a H' l r zs := by
  obtain ⟨ne, xs, h1, h2, h3, h4⟩ := h
  exact ⟨ne, xs, x _ _ ne h1 (by intro _ z; cases z), h2, h3, fun y hy => let ⟨d, k1, k2⟩ := h4 y hy; ⟨d, k1.keep (kpD_exm x w w'), k2⟩⟩
theorem StAt.exm {K : PySem.W.Frag} {a c : Addr} {H H' : Hp} {p : Addr} {r : Int} {N : Nms} {n : Nat} (h : StAt K a H p r N n) (x : ExM a H H') (w : Wl a c H) (w' : Wl a c H') : StAt K a H' p r N n := by
  obtain ⟨nm, kvs, h1, h2, h3⟩ := h
  have hw := w
  obtain ⟨_, ns, i, u, s, t, e1, _⟩ := hw
  exact ⟨nm, kvs, x _ _ (ne_of h1 e1 (by intro z; cases z)) h1 (by intro _ z; cases z), h2, fun s k1 k2 => let ⟨l, e1, e2⟩ := h3 s k1 k2; ⟨l, e1, e2.exm x w w'⟩⟩
theorem tabs_exw {Ts : List (Addr × Str)} {a c : Addr} {H H' : Hp} (T : Tabs Ts H) (x : Exw a H H') (w : Wl a c H) : Tabs Ts H' := fun p hp => by
  obtain ⟨ps, h1, h2, h3⟩ := T p hp
  refine ⟨ps, x.at w h1 (by intro _ z; cases z), h2, fun pos cv hc => ?_⟩
  obtain ⟨c, e1, e2⟩ := h3 pos cv hc
  exact ⟨c, e1, x.at w e2 (by intro _ z; cases z)⟩
/-! the words -/
def wJoin (d e : Dat) : Str := if (bookB d && bookB e) = true then (if clashB d e = true then Str.ofString "other room" else Str.ofString "let") else Str.ofString "book"
def wWhole (dr d : Dat) : Str := if isRB (intD dr) = true then (if bookB d = true then (if offB dr d = true then Str.ofString "other room" else Str.ofString "let") else Str.ofString "book") else Str.ofString "room"
section
variable {P : Program} {w : World} {K : PySem.W.Frag} {mg : Str → Option Value} {base : Heap} {S : TxK K mg} {Ts : List (Addr × Str)} {σ : L2.St} {H : Hp} {Q : VK} {v u : V} {d e : Dat}
theorem ext_same {H H1 H2 : Hp} (x : ExtN H H1) (s : Same H1 H2) : ExtN H H2 := x.trans (.of s)
/-- lambda: joined_books(..) -/
theorem rd_join {i j : Nat} (h1 : σ[i]? = some (some v)) (h2 : σ[j]? = some (some u)) (hd : DtAt K H v d) (he : DtAt K H u e) (hT : Tabs Ts H) (cont : ∀ H', ExtN H H' → Tabs Ts H' → Q (.str (wJoin d e)) H') :
    tLam Ts (TTword K mg S) (fun E => tCall (spJoinedX K S.B.C S.O.C) [] E (tCons (tVar i) (tCons (tVar j) tNil))) σ H Q := by
  refine ⟨hT, fun H1 x1 T1 Q' hQ => ⟨v, h1, u, h2, v, u, d, e, rfl, hd.keep (kpD_extN x1), he.keep (kpD_extN x1), fun k H2 s2 => ⟨rfl, .inl ⟨rfl, fun H3 s3 => ?_⟩⟩, fun k1 k2 H2 s2 => ⟨rfl, .inr (.inr ⟨rfl, fun H3 s3 => ?_⟩)⟩, fun ds es ed ee k1 k2 H2 p s2 hp => hQ _ _ ?_⟩⟩
  · have := cont H3 (ext_same x1 (s2.trans s3)) (T1.ext (s2.trans s3))
    rw [wJoin, k] at this
    exact this
  · have := cont H3 (ext_same x1 (s2.trans s3)) (T1.ext (s2.trans s3))
    rw [wJoin, k1, k2] at this
    exact this
  · have := cont H2 (ext_same x1 s2) (T1.ext s2)
    rw [wJoin, k1, k2] at this
    exact this
/-- lambda: whole(..) -/
theorem rd_whole {i j : Nat} (h1 : σ[i]? = some (some v)) (h2 : σ[j]? = some (some u)) (hd : DtAt K H v d) (he : DtAt K H u e) (hT : Tabs Ts H) (cont : ∀ H', ExtN H H' → Tabs Ts H' → Q (.str (wWhole d e)) H') :
    tLam Ts (TTword K mg S) (fun E => tCall (spWholeX K S.R.C S.B.C S.O.C) [] E (tCons (tVar i) (tCons (tVar j) tNil))) σ H Q := by
  refine ⟨hT, fun H1 x1 T1 Q' hQ => ⟨v, h1, u, h2, v, u, d, e, rfl, hd.keep (kpD_extN x1), he.keep (kpD_extN x1), fun k => ⟨rfl, .inr (.inl ⟨rfl, fun H3 s3 => ?_⟩)⟩, fun k1 k2 H2 s2 => ⟨rfl, .inl ⟨rfl, fun H3 s3 => ?_⟩⟩, fun k1 k2 k3 H2 s2 => ⟨rfl, .inr (.inr ⟨rfl, fun H3 s3 => ?_⟩)⟩, fun r ds er ed r1 r64 k1 k2 H2 p s2 hp => hQ _ _ ?_⟩⟩
  · have := cont H3 (ext_same x1 s3) (T1.ext s3)
    rw [wWhole, k] at this
    exact this
  · have := cont H3 (ext_same x1 (s2.trans s3)) (T1.ext (s2.trans s3))
    rw [wWhole, k1, k2] at this
    exact this
  · have := cont H3 (ext_same x1 (s2.trans s3)) (T1.ext (s2.trans s3))
    rw [wWhole, k1, k2, k3] at this
    exact this
  · have := cont H2 (ext_same x1 s2) (T1.ext s2)
    have k0 : isRB (intD d) = true := by
      rw [er]
      show (decide (1 ≤ r) && decide (r ≤ 64)) = true
      rw [decide_eq_true r1, decide_eq_true r64]
      rfl
    rw [wWhole, k0, k1, k2] at this
    exact this
end
/-- the thing if it is right, () else -/
theorem rd_thing {K : PySem.W.Frag} {σ : L2.St} {H : Hp} {Q : VK} {b4 : Bool} {vT : V} {d : Dat} (h4 : σ[4]? = some (some (.bl b4))) (h9 : σ[9]? = some (some vT)) (hT : DtAt K H vT d) (bk : b4 = true → ∃ ds, d = .tup ds)
    (q : ∀ t H5 xs ds, Same H H5 → Ptp H5 t xs → Paired (DtAt K H5) xs ds → ((b4 = true → d = .tup ds) ∧ (b4 = false → ds = [])) → Q (.ref t) H5) : tIf (tB (tVar 4)) (tVar 9) (tTupF tNil) σ H Q := by
  refine ⟨.bl b4, h4, b4, rfl, ?_⟩
  cases b4 with
  | true =>
    obtain ⟨ds, rfl⟩ := bk rfl
    obtain ⟨t, xs, rfl, h1, h2, h3⟩ := hT.tup
    exact iteT ⟨_, h9, q t H xs ds (Same.refl H) h1 h3 ⟨fun _ => rfl, fun z => nomatch z⟩⟩
  | false =>
    refine iteF ⟨(by show 0 ≤ sizeLine; decide), fun t ot nt ht => ?_⟩
    exact q t _ [] [] (same_upd nt) ⟨ot, upd_same, ht⟩ .nil ⟨fun z => (nomatch z), fun _ => rfl⟩
/-- two books have one room just if their first ones have -/
theorem clash_iff {ds es : List Dat} (h1 : (stepsB ds).all id = true) (h2 : (stepsB es).all id = true) : clashB (.tup ds) (.tup es) = false ↔ ∀ x ∈ ds ++ es, ∀ y ∈ ds ++ es, roomT x = roomT y := by
  obtain ⟨_, q1⟩ := steps_asc h1
  obtain ⟨_, q2⟩ := steps_asc h2
  cases ds with
  | nil => exact ⟨fun _ => q2, fun _ => rfl⟩
  | cons d l =>
    cases es with
    | nil =>
      rw [List.append_nil]
      exact ⟨fun _ => q1, fun _ => rfl⟩
    | cons e m =>
      have e0 : clashB (.tup (d :: l)) (.tup (e :: m)) = !decide (roomT d = roomT e) := rfl
      rw [e0]
      constructor
      · intro h
        have h : roomT d = roomT e := by simpa using h
        have a1 : ∀ x ∈ (d :: l) ++ (e :: m), roomT x = roomT d := fun x hx => by
          rcases List.mem_append.mp hx with hx | hx
          · exact q1 x hx d List.mem_cons_self
          · exact (q2 x hx e List.mem_cons_self).trans h.symm
        exact fun x hx y hy => (a1 x hx).trans (a1 y hy).symm
      · intro h
        have := h d (List.mem_append_left _ List.mem_cons_self) e (List.mem_append_right _ List.mem_cons_self)
        rw [decide_eq_true this]
        rfl
section
variable {P : Program} {w : World} {K : PySem.W.Frag} {mg : Str → Option Value} {base : Heap}
def spRefused (K : PySem.W.Frag) (Pt : Addr) : Sp := fun vs H Q _ => ∃ (a c b o : Addr) (r : Int) (ds es : List Dat), vs = [.ref a, .int r, .ref b, .ref o] ∧ Wl a c H ∧ 1 ≤ r ∧ r ≤ 64 ∧ DtAt K H (.ref b) (.tup ds) ∧ DtAt K H (.ref o) (.tup es) ∧ bookB (.tup ds) = true ∧ bookB (.tup es) = true ∧ (∀ d ∈ ds, numT d ≤ 1000) ∧ ds.length ≤ 9 ∧ es.length ≤ 9 ∧ TabS H Pt qRef ∧
  ∀ H', ExM a H H' → Wl a c H' → TabS H' Pt qRef → Q (.bl true) H'
theorem ok_refused (T : Blt mg) (S : TxK K mg) (F : Ref K mg base) (n_zip : mg "zip" = none) (n_set : mg "set" = none) (cM : Cst mg "MOST_ROOM" (.int 64)) (cL : Cst mg "LONGEST_NAME" (.int 8)) (cMM : Cst mg "MOST_MACHINES" (.int 9)) (dP_is_int : DnIsInt K mg) (dP_is_number : DnIsNumber K mg) (dP_is_room : DnIsRoom K mg) (dP_is_name : DnIsName K mg) (dP_is_counted : DnIsCounted K mg) (dP_are_counts : DnAreCounts K mg)
    (dP_lost_of : DnLostOf K mg) (dP_is_sketch : DnIsSketch K mg) (dP_bare : DnBare K mg) (L : Tal K mg) (dP_is_triple : DnIsTriple K mg) (dP_is_book : DnIsBook K mg) (dP_joined_books : DnJoinedBooks K mg) (dP_whole : DnWhole K mg)
    (ddraw : Dndraw K mg) (dany : Dnany K mg) (dis_int : Dnis_int K mg) (dis_name : Dnis_name K mg) (dis_sketch : Dnis_sketch K mg) (dis_book : Dnis_book K mg) (ddeep : Dndeep K mg) (dbent_sketch : Dnbent_sketch K mg) (dbent : Dnbent K mg) (dword : Dnword K mg) (dflag : Dnflag K mg) : FnOk P w K mg base CX0 14 F.d.f F.d.fd ["_law_pot_here", "_law_room", "_law_book_here", "_law_other"] (spRefused K F.P) := by
  have GP_is_book : FnOk P w K mg base CX0 6 dP_is_book.f dP_is_book.fd ["thing"] (spIsBookD K) := ok_is_bookD T n_zip cM cL cMM dP_is_int dP_is_number dP_is_room dP_is_name dP_is_counted dP_are_counts dP_lost_of dP_is_sketch dP_is_triple dP_is_book
  have GP_joined_books : FnOk P w K mg base (L2.CX P w) 7 dP_joined_books.f dP_joined_books.fd ["one", "other"] (spJoinedX K S.B.C S.O.C) := ok_joinedX T S.B S.O n_zip cM cL cMM dP_is_int dP_is_number dP_is_room dP_is_name dP_is_counted dP_are_counts dP_lost_of dP_is_sketch dP_is_triple dP_is_book dP_joined_books
  have GP_whole : FnOk P w K mg base (L2.CX P w) 7 dP_whole.f dP_whole.fd ["room", "book"] (spWholeX K S.R.C S.B.C S.O.C) := ok_wholeX T S.R S.B S.O n_zip cM cL cMM dP_is_int dP_is_number dP_is_room dP_is_name dP_is_counted dP_are_counts dP_lost_of dP_is_sketch dP_bare L dP_is_triple dP_is_book dP_whole
  have Gdraw : FnOk P w K mg base CX0 1 ddraw.f ddraw.fd ["_law_pot_here", "_law_many"] spDraw := ok_draw T ddraw
  have Gany : FnOk P w K mg base CX0 2 dany.f dany.fd ["_law_pot_here", "_law_things"] spAny := ok_any T ddraw dany
  have Gis_int : FnOk P w K mg base CX0 1 dis_int.f dis_int.fd ["_law_thing", "_law_least"] (spIsIntL K) := ok_is_intL T dis_int
  have Gis_book : FnOk P w K mg base CX0 3 dis_book.f dis_book.fd ["_law_thing"] (spIsBookL K) := ok_is_bookL T n_set dis_int dis_name dis_sketch dis_book
  have Gbent : FnOk P w K mg base CX0 5 dbent.f dbent.fd ["_law_pot_here", "_law_book_here"] (spBent K) := ok_bent T ddraw dany ddeep dbent_sketch dbent
  have Gflag : FnOk P w K mg base CX0 1 dflag.f dflag.fd ["_law_told", "_law_due"] (spFlag K) := ok_flag T dflag
  obtain ⟨fW, fdW, FW, gW, bW⟩ := dword
  obtain ⟨oc, od, kV, doc, pm, an, cdW, ct, osl, rfl, lkW, codeW⟩ := FW.ex
  have huT : ∀ p ∈ [(F.P, qRef)], p.1 = F.P → p.2 = qRef := fun p hp _ => by rw [List.mem_singleton.mp hp]
  refine okC F.d.F screfused_right (fun vs H Q E h => ?_) (fun cdv A outer s H vs Q E hcdv hr h => ?_)
  · obtain ⟨a, c, b, o, r, ds, es, rfl, _⟩ := h
    rfl
  · obtain ⟨a, c, b, o, r, ds, es, rfl, w0, r1, r64, hb, ho, bkd, bke, num, dl, el, T0, q⟩ := h
    have wg : GivesTo (cxOf CX0 P w K mg base Nrefused_right "_law_refused_right" (defScope srefused_right) F.d.f cdv A outer s H E).nox Nword "_law_word" (defScope sword) fW cdW (defBody sword) "_law_call" qRef (TTword K mg S) := word_gives (X := (cxOf CX0 P w K mg base Nrefused_right "_law_refused_right" (defScope srefused_right) F.d.f cdv A outer s H E).nox) T S
    refine ⟨_, (pss_cons (ps_asg (pe_call Gany (hr.mono (by omega)) (by rfl) dany.g dany.F.kp dany.b .nil pass0 (pa_cons (pv 0) (pa_cons (pe_lst (pa_cons (pv 1) (pa_cons (pv 1) (pa_cons (pe_op op_add (pv 1) pe_int) (pa_cons pe_int (pa_cons pe_int (pa_cons pe_bl (pa_cons pe_non (pa_cons pe_str pa_nil))))))))) pa_nil))) (pg_name (i := 8) screfused_right.nd rfl (Or.inr rfl)))
    (C8.pss_cut (ps_asg (pe_ifExp (pt_cmpR op_eq (pe_call Gdraw (hr.mono (by omega)) (by rfl) ddraw.g ddraw.F.kp ddraw.b .nil pass0 (pa_cons (pv 0) (pa_cons pe_int pa_nil))) pe_int (nomark _)) (pv 2) (pe_call Gbent (hr.mono (by omega)) (by rfl) dbent.g dbent.F.kp dbent.b .nil pass0 (pa_cons (pv 0) (pa_cons (pv 2) pa_nil)))) (pg_name (i := 9) screfused_right.nd rfl (Or.inr rfl)))
    (pss_cons (ps_set (i := 4) screfused_right.nd rfl (Or.inl rfl) (pe_call Gis_book (hr.mono (by omega)) (by rfl) dis_book.g dis_book.F.kp dis_book.b .nil pass0 (pa_cons (pv 9) pa_nil)))
    (pss_cons (ps_if (pt_not (pt_val (pe_call Gflag (hr.mono (by omega)) (by rfl) dflag.g dflag.F.kp dflag.b .nil pass0 (pa_cons (pe_call GP_is_book (hr.mono (by omega)) (by rfl) dP_is_book.g dP_is_book.F.kp dP_is_book.b .nil pass0 (pa_cons (pv 9) pa_nil)) (pa_cons (pv 4) pa_nil)))))
      (pss_one (ps_ret pe_bl))
      pss_nil)
    (C8.pss_cut (ps_set (i := 5) screfused_right.nd rfl (Or.inl rfl) (pe_cmpR op_lt (pe_callB call_lenSet (by rfl) T.n_len (by decide +kernel) (pa_cons (pe_callTy (cr_setOfI rfl) (by rfl) n_set (by decide +kernel) (pa_cons (pe_lc (own := [("_law_one", 10)]) (g := gName 10) (tt := tYes) rfl screfused_right.nd (pi_tup (pe_op op_catP (pe_ifExp (pt_val (pv 4)) (pv 9) (pe_tupF pa_nil)) (pv 3))) (blkOk_by (N := Nrefused_right) (sc := defScope srefused_right) (by decide +kernel)) (fun _ _ _ _ _ => pg_name (i := 10) screfused_right.nd rfl (Or.inl rfl)) (fun _ _ _ _ _ => pts_nil) (fun _ _ _ _ _ => (pe_ix (r := rIxT K) ix_tup (pe_ix (r := rIxT K) ix_tup (pv 10) pe_int (fun _ _ => rfl)) pe_int (fun _ _ => rfl)))) pa_nil)) pa_nil)) pe_int (nomark _)))
    (C8.pss_cut (ps_set (i := 6) screfused_right.nd rfl (Or.inl rfl) (pe_ifExp (pt_not (pt_val (pv 4))) pe_str (pe_ifExp (pt_val (pv 5)) pe_str pe_str)))
    (pss_cons (ps_if (pt_cmpR op_ne (pe_lamcall (k := 10) (T := [(F.P, qRef)]) (TT := TTword K mg S) (t := fun E => tCall (spJoinedX K S.B.C S.O.C) [] E (tCons (tVar 9) (tCons (tVar 3) tNil))) (by rfl) gW FW.kp lkW codeW bW scword rfl (Or.inl rfl) wg F.tb (hcdv.trans F.code) (List.mem_singleton.mpr rfl) huT (hr.mono (by omega)) (lamS_by (sc := defScope srefused_right) (by decide +kernel)) rfl (fun _ _ _ _ _ => rfl) (fun A2 outer2 s2 H2 E2 f2 c2 hr2 => by exact (pe_call GP_joined_books (hr2.mono (by omega)) (by rfl) dP_joined_books.g dP_joined_books.F.kp dP_joined_books.b .nil (passes_call (takes_of rfl rfl rfl rfl) (fun _ _ _ _ h => h)) (by exact (pa_cons (pv 9) (pa_cons (pv 3) pa_nil)))))) (pv 6) (nomark _))
      (pss_one (ps_ret pe_bl))
      pss_nil)
    (pss_cons (ps_if (pt_cmpR op_ne (pe_lamcall (k := 10) (T := [(F.P, qRef)]) (TT := TTword K mg S) (t := fun E => tCall (spJoinedX K S.B.C S.O.C) [] E (tCons (tVar 3) (tCons (tVar 9) tNil))) (by rfl) gW FW.kp lkW codeW bW scword rfl (Or.inl rfl) wg F.tb (hcdv.trans F.code) (List.mem_singleton.mpr rfl) huT (hr.mono (by omega)) (lamS_by (sc := defScope srefused_right) (by decide +kernel)) rfl (fun _ _ _ _ _ => rfl) (fun A2 outer2 s2 H2 E2 f2 c2 hr2 => by exact (pe_call GP_joined_books (hr2.mono (by omega)) (by rfl) dP_joined_books.g dP_joined_books.F.kp dP_joined_books.b .nil (passes_call (takes_of rfl rfl rfl rfl) (fun _ _ _ _ h => h)) (by exact (pa_cons (pv 3) (pa_cons (pv 9) pa_nil)))))) (pv 6) (nomark _))
      (pss_one (ps_ret pe_bl))
      pss_nil)
    (C8.pss_cut (ps_set (i := 7) screfused_right.nd rfl (Or.inl rfl) (pe_and (pe_call Gis_int (hr.mono (by omega)) (by rfl) dis_int.g dis_int.F.kp dis_int.b .nil pass0 (pa_cons (pv 8) (pa_cons pe_int pa_nil))) (pe_one (pe_cmpR op_le (pv 8) pe_int (nomark _)))))
    (C8.pss_cut (ps_set (i := 6) screfused_right.nd rfl (Or.inl rfl) (pe_ifExp (pt_not (pt_val (pv 7))) pe_str (pe_ifExp (pt_not (pt_val (pv 4))) pe_str pe_str)))
    (C8.pss_cut (ps_if (PW.pt (pw_and (pt_cmpR op_eq (pv 6) pe_str (nomark _)) (pw_and (pt_cmpR (op_neT0 (K := K) rfl hr.units) (pv 9) (pe_tupF pa_nil) (nomark _)) (pw_and1 (pt_cmpR op_ne (pe_ix ix_tup (pe_ix ix_tup (pe_ix ix_tup (pv 9) pe_int (fun _ _ => rfl)) pe_int (fun _ _ => rfl)) pe_int (fun _ _ => rfl)) (pv 8) (nomark _))))))
      (pss_one (ps_set (i := 6) screfused_right.nd rfl (Or.inl rfl) pe_str))
      pss_nil)
    (pss_one (ps_ret (pe_cmpR op_eq (pe_lamcall (k := 10) (T := [(F.P, qRef)]) (TT := TTword K mg S) (t := fun E => tCall (spWholeX K S.R.C S.B.C S.O.C) [] E (tCons (tVar 8) (tCons (tVar 9) tNil))) (by rfl) gW FW.kp lkW codeW bW scword rfl (Or.inl rfl) wg F.tb (hcdv.trans F.code) (List.mem_singleton.mpr rfl) huT (hr.mono (by omega)) (lamS_by (sc := defScope srefused_right) (by decide +kernel)) rfl (fun _ _ _ _ _ => rfl) (fun A2 outer2 s2 H2 E2 f2 c2 hr2 => by exact (pe_call GP_whole (hr2.mono (by omega)) (by rfl) dP_whole.g dP_whole.F.kp dP_whole.b .nil (passes_call (takes_of rfl rfl rfl rfl) (fun _ _ _ _ h => h)) (by exact (pa_cons (pv 8) (pa_cons (pv 9) pa_nil)))))) (pv 6) (nomark _))))))))))))))), ?_⟩
    have Ts0 : Tabs [(F.P, qRef)] H := fun p hp => by rw [List.mem_singleton.mp hp]; exact T0
    -- a room or what is none
    refine ⟨.ref a, rfl, .int r, rfl, .int r, rfl, .int r, rfl, _, _, rfl, rfl, (by show 8 ≤ sizeLine; decide), fun l1 nl1 => ?_⟩
    have l1w := w0.ne2 nl1
    have s1 := same_upd (o := .lst [.int r, .int r, .int (r + 1), .int 0, .int 65, .bl true, .non, .str (Str.ofString "1")]) nl1
    refine ⟨a, c, l1, _, rfl, w0.same s1, l1w.1, upd_same, (by show 0 < 8; decide), (by show 8 ≤ 100000; decide), fun H1 vO x1 w1 hvO => ?_⟩
    have x01 : Exw a H H1 := (Same.exw s1).trans x1
    have Ts1 := tabs_exw (Ts0.ext s1) x1 (w0.same s1)
    obtain ⟨dO, hO⟩ : ∃ dO, DtAt K H1 vO dO := by
      simp only [List.mem_cons, List.not_mem_nil, or_false] at hvO
      rcases hvO with rfl | rfl | rfl | rfl | rfl | rfl | rfl | rfl
      · exact ⟨.int r, .lf ⟨rfl, nat_le (by omega) r64 (by omega)⟩⟩
      · exact ⟨.int r, .lf ⟨rfl, nat_le (by omega) r64 (by omega)⟩⟩
      · exact ⟨.int (r + 1), .lf ⟨rfl, nat_le (by omega) (by omega : r + 1 ≤ 65) (by omega)⟩⟩
      · exact ⟨.int 0, .lf ⟨rfl, by decide⟩⟩
      · exact ⟨.int 65, .lf ⟨rfl, by decide⟩⟩
      · exact ⟨.bl true, .lf rfl⟩
      · exact ⟨.non, .lf rfl⟩
      · exact ⟨.str _, .lf ⟨rfl, by decide +kernel⟩⟩
    clear hvO s1
    have hb1 := hb.keep (kpD_exw x01 w0 w1)
    have ho1 := ho.keep (kpD_exw x01 w0 w1)
    have trs : ∀ d ∈ ds, trB d = true ∧ numT d ≤ 1000 := fun d hd => by
      obtain ⟨ds', e, k, _⟩ := bookB_is bkd
      cases e
      exact ⟨k d hd, num d hd⟩
    -- the thing
    refine ⟨fun σ H2 => ∃ vT dT, σ = [some (.ref a), some (.int r), some (.ref b), some (.ref o), none, none, none, none, some vO, some vT, none] ∧ Exw a H1 H2 ∧ Wl a c H2 ∧ DtAt K H2 vT dT ∧ (∀ ds, dT = .tup ds → ds.length ≤ 1000), ?_, ?_⟩
    · refine ⟨.ref a, rfl, a, c, 3, rfl, w1, by decide, by decide, fun H2 k x2 w2 k0 k3 => ⟨rfl, _, rfl, ite2 (fun _ => ?_) fun _ => ?_⟩⟩
      · exact ⟨.ref b, rfl, _, _, rfl, x2, w2, hb1.keep (kpD_exw x2 w1 w2), fun ds' e => by cases e; omega⟩
      · refine ⟨.ref a, rfl, .ref b, rfl, a, c, b, ds, rfl, w2, hb1.keep (kpD_exw x2 w1 w2), trs, dl, fun H3 v x3 w3 ok => ?_⟩
        obtain ⟨d, hd, hl⟩ := ok
        exact ⟨v, d, rfl, x2.trans x3, w3, hd, hl⟩
    rintro σ H2 ⟨vT, dT, rfl, x2, w2, hT, hTl⟩
    have Ts2 := tabs_exw Ts1 x2 w1
    have hO2 := hO.keep (kpD_exw x2 w1 w2)
    have ho2 := ho1.keep (kpD_exw x2 w1 w2)
    have x02 := x01.trans x2
    -- right
    refine ⟨vT, rfl, vT, dT, rfl, hT, hTl, fun H3 s3 => ?_⟩
    refine ⟨vT, rfl, vT, dT, rfl, hT.same s3, fun H4 s34 => ⟨.bl (bookB dT), rfl, bookB dT, bookB dT, rfl, _, rfl, ?_⟩⟩
    rw [show (bookB dT == bookB dT) = true from beq_self_eq_true _]
    refine iteF ?_
    have s4 := s3.trans s34
    have hT4 := hT.same s4
    have ho4 := ho2.same s4
    have hO4 := hO2.same s4
    have Ts4 := Ts2.ext s4
    have w4 := w2.same s4
    have x04 : Exw a H H4 := x02.same s4
    obtain ⟨es', ee, te, se⟩ := bookB_is bke
    cases ee
    -- one room
    refine ⟨fun σ H5 => ∃ b5 : Bool, σ = [some (.ref a), some (.int r), some (.ref b), some (.ref o), some (.bl (bookB dT)), some (.bl b5), none, none, some vO, some vT, none] ∧ Same H4 H5 ∧ (bookB dT = true → b5 = !clashB dT (.tup es)), ?_, ?_⟩
    · refine rd_thing (K := K) (b4 := bookB dT) (d := dT) rfl rfl hT4 (fun h => let ⟨ds, e, _, _⟩ := bookB_is h; ⟨ds, e⟩) fun tA H5 xsA dsA s5 hA hpA hdA => ?_
      obtain ⟨_, ys, e, g1, g2, g3⟩ := (ho4.same s5).tup
      cases e
      have hAl := Paired.length hpA
      have hEl := Paired.length g3
      have hdAl : dsA.length ≤ 1000 := by
        cases hbT : bookB dT with
        | true => exact hTl dsA (hdA.1 hbT)
        | false =>
          rw [hdA.2 hbT]
          exact Nat.zero_le _
      have trA : ∀ d ∈ dsA, trB d = true := fun d hd => by
        cases hbT : bookB dT with
        | true =>
          obtain ⟨ds', e, k, _⟩ := bookB_is hbT
          rw [hdA.1 hbT] at e
          cases e
          exact k d hd
        | false =>
          rw [hdA.2 hbT] at hd
          cases hd
      refine ⟨.ref o, rfl, tA, o, xsA, ys, rfl, rfl, hA, g1, (by rw [sizeLine_eq]; omega), fun p H6 s6 hp6 => ?_⟩
      have hp3 : Paired (DtAt K H6) (xsA ++ ys) (dsA ++ es) := paired_app (paired_imp (fun _ _ h => h.same s6) hpA) (paired_imp (fun _ _ h => h.same s6) g3)
      have trAll : ∀ d ∈ dsA ++ es, trB d = true := fun d hd => (List.mem_append.mp hd).elim (trA d) (te d)
      have hln : (dsA ++ es).length = dsA.length + es.length := List.length_append ..
      have hxy : (xsA ++ ys).length = (dsA ++ es).length := Paired.length hp3
      generalize xsA ++ ys = zs at hp6 hp3 hxy
      have hor : (bookB dT = true → ∀ b : Bool, (b = true ↔ ∀ x ∈ dsA ++ es, ∀ y ∈ dsA ++ es, roomT x = roomT y) → b = !clashB dT (.tup es)) := fun hbT b hb => by
        obtain ⟨ds', e, _, sA⟩ := bookB_is hbT
        have eA := hdA.1 hbT
        rw [eA] at e
        cases e
        rw [eA]
        have ci := clash_iff sA se
        cases hc : clashB (.tup dsA) (.tup es) with
        | true =>
          cases hbb : b with
          | true => exact absurd (ci.mpr (hb.mp hbb)) (by rw [hc]; exact Bool.noConfusion)
          | false => rfl
        | false => exact hb.mpr (ci.mp hc)
      generalize dsA ++ es = all at hp3 hxy trAll hor hln
      refine ⟨p, rfl, ⟨_, hp6.seq⟩, fun D nD => ?_⟩
      refine lc_tup (xs := zs) (fun i H7 => Same H6 H7 ∧ H7 D = some (.lst (((all.take i).map roomT).map V.int))) ⟨same_upd nD, upd_same⟩ (fun i H7 _ h7 => (hp6.same h7.1).seq) (fun i u H7 hu g7 => ?_) (fun H7 g7 => ?_)
      · obtain ⟨e, he, hat⟩ := paired_at hp3 hu
        obtain ⟨s7, hD⟩ := g7
        have ct := trAll e (List.mem_of_getElem? he)
        obtain ⟨u1, k1, i1, r1, m1, z3, z4, rfl, f1, f2, f0, fn, f3, _⟩ := tr_of (hat.same s7) ct
        refine ⟨rfl, .ref u1, rfl, u1, _, _, _, rfl, rfl, f1.seq, atI_nat (j := 2) rfl, k1, _, _, _, rfl, rfl, f2.seq, atI_nat (j := 0) rfl, _, hD, ?_, Same.put s7 nD, ?_⟩
        · rw [List.length_map, List.length_map, List.length_take, sizeLine_eq]
          omega
        · rw [upd_same, List.take_add_one, he, List.map_append, List.map_append, f3]
          rfl
      obtain ⟨s7, hD⟩ := g7
      rw [hxy, List.take_length] at hD
      refine ⟨D, all.map roomT, rfl, sql hD, by rw [List.length_map]; omega, fun p2 n2 ms2 np2 hn2 mnd2 mln2 hms2 => ?_⟩
      rw [List.length_map] at hn2
      have s8 := same_upd (o := SetO w p2 (hasI (all.map roomT) (all.map roomT).length) n2) np2
      refine ⟨p2, _, n2, rfl, upd_same, by omega, _, _, rfl, rfl, decide ((n2 : Int) < 2), rfl, ((s5.trans s6).trans s7).trans s8, fun hbT => hor hbT _ ?_⟩
      rw [decide_eq_true_eq]
      have o := one_room mnd2 hms2
      rw [mln2] at o
      constructor
      · intro h x hx y hy
        exact o.mp (by omega) _ (List.mem_map.mpr ⟨x, hx, rfl⟩) _ (List.mem_map.mpr ⟨y, hy, rfl⟩)
      · intro h
        have : n2 ≤ 1 := o.mpr fun x hx y hy => by
          obtain ⟨d, hd, rfl⟩ := List.mem_map.mp hx
          obtain ⟨e, he, rfl⟩ := List.mem_map.mp hy
          exact h d hd e he
        omega
    rintro σ H5 ⟨b5, rfl, s45, hb5⟩
    -- due
    refine ⟨fun σ H6 => H6 = H5 ∧ σ = [some (.ref a), some (.int r), some (.ref b), some (.ref o), some (.bl (bookB dT)), some (.bl b5), some (.str (wJoin dT (.tup es))), none, some vO, some vT, none], ?_, ?_⟩
    · refine ⟨.bl (bookB dT), rfl, bookB dT, rfl, ?_⟩
      have ej : wJoin dT (.tup es) = if bookB dT = true then (if b5 = true then Str.ofString "let" else Str.ofString "other room") else Str.ofString "book" := by
        unfold wJoin
        rw [bke, Bool.and_true]
        cases hbT : bookB dT with
        | false => rfl
        | true =>
          rw [hb5 hbT]
          cases clashB dT (.tup es) <;> rfl
      rw [ej]
      cases hbT : bookB dT with
      | false => exact iteT ⟨rfl, rfl⟩
      | true =>
        refine iteF ⟨.bl b5, rfl, b5, rfl, ?_⟩
        cases b5 with
        | true => exact iteT ⟨rfl, rfl⟩
        | false => exact iteF ⟨rfl, rfl⟩
    rintro σ H6 ⟨rfl, rfl⟩
    have w5 := w4.same s45
    have hT5 := hT4.same s45
    have ho5 := ho4.same s45
    have hO5 := hO4.same s45
    have Ts5 := Ts4.ext s45
    have x05 := (x04.same s45).m
    have wjc : wJoin (.tup es) dT = wJoin dT (.tup es) := by
      unfold wJoin
      rw [Bool.and_comm]
      cases hbT : bookB dT with
      | false => rw [Bool.false_and]; rfl
      | true =>
        obtain ⟨ds', e, _, sT⟩ := bookB_is hbT
        rw [e, bke]
        have c1 := clash_iff sT se
        have c2 := clash_iff se sT
        have ec : clashB (.tup ds') (.tup es) = clashB (.tup es) (.tup ds') := by
          cases h1 : clashB (.tup ds') (.tup es) with
          | false =>
            refine (c2.mpr fun x hx y hy => c1.mp h1 x (List.mem_append.mpr (List.mem_append.mp hx).symm) y (List.mem_append.mpr (List.mem_append.mp hy).symm)).symm
          | true =>
            cases h2 : clashB (.tup es) (.tup ds') with
            | true => rfl
            | false =>
              have := c1.mpr fun x hx y hy => c2.mp h2 x (List.mem_append.mpr (List.mem_append.mp hx).symm) y (List.mem_append.mpr (List.mem_append.mp hy).symm)
              rw [h1] at this
              cases this
        rw [ec]
    -- the calls
    refine rd_join (v := vT) (u := .ref o) (d := dT) (e := .tup es) rfl rfl hT5 ho5 Ts5 fun H7 x7 Ts7 => ⟨.str (wJoin dT (.tup es)), rfl, rfl, !decide (V.str (wJoin dT (.tup es)) = V.str (wJoin dT (.tup es))), rfl, ?_⟩
    rw [show (!decide (V.str (wJoin dT (.tup es)) = V.str (wJoin dT (.tup es)))) = false by rw [decide_eq_true rfl]; rfl]
    refine iteF ?_
    have k7 := kpD_extN x7
    refine rd_join (v := .ref o) (u := vT) (d := .tup es) (e := dT) rfl rfl (ho5.keep k7) (hT5.keep k7) Ts7 fun H8 x8 Ts8 => ⟨.str (wJoin dT (.tup es)), rfl, rfl, !decide (V.str (wJoin (.tup es) dT) = V.str (wJoin dT (.tup es))), rfl, ?_⟩
    rw [show (!decide (V.str (wJoin (.tup es) dT) = V.str (wJoin dT (.tup es)))) = false by rw [wjc, decide_eq_true rfl]; rfl]
    refine iteF ?_
    have k8 := k7.trans (kpD_extN x8)
    have x08 := (x05.trans (ExtN.m x7)).trans (ExtN.m x8)
    have w8 := Wl.extN (Wl.extN w5 x7) x8
    have hT8 := hT5.keep k8
    have hO8 := hO5.keep k8
    -- is_room
    refine ⟨fun σ H9 => H8 = H9 ∧ σ = [some (.ref a), some (.int r), some (.ref b), some (.ref o), some (.bl (bookB dT)), some (.bl b5), some (.str (wJoin dT (.tup es))), some (.bl (isRB (intD dO))), some vO, some vT, none], ?_, ?_⟩
    · refine ⟨vO, rfl, vO, dO, 1, rfl, hO8, geB 1 (intD dO), rfl, ?_⟩
      cases dO with
      | int i =>
        obtain ⟨rfl, _⟩ := hO8.int
        have e1 : geB 1 (intD (.int i)) = decide (1 ≤ i) := rfl
        have e2 : isRB (intD (.int i)) = (decide (1 ≤ i) && decide (i ≤ 64)) := rfl
        rw [e1, e2]
        by_cases h1 : 1 ≤ i
        · rw [decide_eq_true h1, Bool.true_and]
          exact iteT ⟨.int i, rfl, _, _, rfl, rfl, rfl, rfl⟩
        · rw [decide_eq_false h1, Bool.false_and]
          exact iteF ⟨rfl, rfl⟩
      | _ => exact iteF ⟨rfl, rfl⟩
    rintro σ H9 ⟨rfl, rfl⟩
    -- due
    refine ⟨fun σ H9 => H8 = H9 ∧ σ = [some (.ref a), some (.int r), some (.ref b), some (.ref o), some (.bl (bookB dT)), some (.bl b5), some (.str (if isRB (intD dO) = true then (if bookB dT = true then Str.ofString "let" else Str.ofString "book") else Str.ofString "room")), some (.bl (isRB (intD dO))), some vO, some vT, none], ?_, ?_⟩
    · refine ⟨.bl (isRB (intD dO)), rfl, isRB (intD dO), rfl, ?_⟩
      cases isRB (intD dO) with
      | false => exact iteT ⟨rfl, rfl⟩
      | true =>
        refine iteF ⟨.bl (bookB dT), rfl, bookB dT, rfl, ?_⟩
        cases bookB dT with
        | false => exact iteT ⟨rfl, rfl⟩
        | true => exact iteF ⟨rfl, rfl⟩
    rintro σ H9 ⟨rfl, rfl⟩
    refine ⟨fun σ H9 => Same H8 H9 ∧ σ = [some (.ref a), some (.int r), some (.ref b), some (.ref o), some (.bl (bookB dT)), some (.bl b5), some (.str (wWhole dO dT)), some (.bl (isRB (intD dO))), some vO, some vT, none], ?_, ?_⟩
    · cases hr : isRB (intD dO) with
      | false =>
        refine ⟨_, rfl, rfl, false, congrArg V.bl (show decide (V.str (Str.ofString "room") = V.str (Str.ofString "let")) = false by decide +kernel), iteF ⟨Same.refl _, ?_⟩⟩
        rw [wWhole, hr]
        rfl
      | true =>
        cases hbT : bookB dT with
        | false =>
          refine ⟨_, rfl, rfl, false, congrArg V.bl (show decide (V.str (Str.ofString "book") = V.str (Str.ofString "let")) = false by decide +kernel), iteF ⟨Same.refl _, ?_⟩⟩
          rw [wWhole, hr, hbT]
          rfl
        | true =>
          refine ⟨_, rfl, rfl, true, congrArg V.bl (show decide (V.str (Str.ofString "let") = V.str (Str.ofString "let")) = true by decide +kernel), iteT ?_⟩
          obtain ⟨ds', rfl, tT, sT⟩ := bookB_is hbT
          obtain ⟨tt, zs, rfl, h1, h2, h3⟩ := hT8.tup
          refine ⟨.ref tt, rfl, (by show 0 ≤ sizeLine; decide), fun t ot nt ht => ?_⟩
          have st := same_upd (o := .frz ot (.tup [])) nt
          have hpt : Ptp (upd H8 t (.frz ot (.tup []))) t [] := ⟨ot, upd_same, ht⟩
          have h1t := h1.same st
          have hO9 := hO8.same st
          have h3t : Paired (DtAt K (upd H8 t (.frz ot (.tup [])))) zs ds' := paired_imp (fun _ _ h => h.same st) h3
          generalize upd H8 t (.frz ot (.tup [])) = H9 at st hpt h1t hO9 h3t ⊢
          refine ⟨tt, t, zs, rfl, rfl, h1t.seq, hpt.seq, _, rfl, ?_⟩
          cases h3t with
          | nil =>
            refine iteF ⟨st, ?_⟩
            rw [wWhole, hr, hbT]
            rfl
          | @cons z1 d1 zs' ds'' e1 t1 =>
            obtain ⟨u1, k1, i1, r2, m1, y3, y4, rfl, f1, f2, _, _, f3, _⟩ := tr_of e1 (tT _ List.mem_cons_self)
            obtain ⟨i, rfl, i1', i64⟩ := isRB_is hr
            obtain ⟨rfl, _⟩ := hO9.int
            refine iteT ⟨.ref tt, rfl, tt, _, _, _, rfl, rfl, h1t.seq, atI_nat (j := 0) rfl, u1, _, _, _, rfl, rfl, f1.seq, atI_nat (j := 2) rfl, k1, _, _, _, rfl, rfl, f2.seq, atI_nat (j := 0) rfl, .int i, rfl, rfl, !decide (V.int r2 = V.int i), rfl, ?_⟩
            have ec : offB (.int i) (.tup (d1 :: ds'')) = !decide (V.int r2 = V.int i) := by
              show (!decide (roomT d1 = i)) = _
              rw [← f3, dec_int]
              rfl
            cases cc : (!decide (V.int r2 = V.int i)) with
            | true =>
              refine iteT ⟨st, ?_⟩
              rw [wWhole, hr, hbT, ec, cc]
              rfl
            | false =>
              refine iteF ⟨st, ?_⟩
              rw [wWhole, hr, hbT, ec, cc]
              rfl
    rintro σ H9 ⟨s89, rfl⟩
    refine rd_whole (v := vO) (u := vT) (d := dO) (e := dT) rfl rfl (hO8.same s89) (hT8.same s89) (Ts8.ext s89) fun Hz xz Tsz => ⟨.str (wWhole dO dT), rfl, rfl, ?_⟩
    rw [show decide (V.str (wWhole dO dT) = V.str (wWhole dO dT)) = true from decide_eq_true rfl]
    exact q Hz ((x08.trans (Exw.m (Same.exw s89))).trans (ExtN.m xz)) (Wl.extN (w8.same s89) xz) (Tsz _ (List.mem_singleton.mpr rfl))
end
end Kb

namespace Kb
open PySem PySem.Spec PyProof.Rows L2 SrtZ SrtO LamX RZ SrtR
abbrev slaw : Stmt := topS 52
abbrev Nlaw : List Str := ["_law_script", "_law_pot_here", "_law_room", "_law_streams_here", "_law_turn", "_law_one", "_law_other", "_law_third", "_law_due", "_law_book_here"]
theorem sclaw : FnScope ["_law_script", "_law_pot_here", "_law_room", "_law_streams_here", "_law_turn", "_law_one", "_law_other", "_law_third", "_law_due", "_law_book_here"] ["_law_script"] (defScope slaw) := ⟨rfl, rfl, rfl, by decide +kernel, rfl, by decide +kernel, by decide +kernel⟩
abbrev Dnlaw (K : PySem.W.Frag) (mg : Str → Option Value) := Dn K mg "law" slaw ["_law_script"]
/-! books of streams, as mathematics -/
structure NOk (N : Nms) : Prop where
  nm : ∀ s, (N s).length ≤ 40 ∧ ∀ z ∈ N s, Nm z
theorem wd_sk {r : Int} {N : Nms} (r1 : 1 ≤ r) (r64 : r ≤ 64) (ok : NOk N) {s : Int} {c : Nat} (hc : c ≤ (N s).length) : SkO r (feedsT r ((N s).take c) tl0) ∧ (feedsT r ((N s).take c) tl0).m = (c : Int) := by
  obtain ⟨o, e⟩ := skO_feeds r1 r64 (zs := (N s).take c) fun z hz => (ok.nm s).2 z (List.mem_of_mem_take hz)
  refine ⟨o, ?_⟩
  rw [e, List.length_take, Nat.min_eq_left hc]
theorem wd_tr {r : Int} {N : Nms} (r1 : 1 ≤ r) (r64 : r ≤ 64) (ok : NOk N) {d : Dat} (h : WdD r N d) : trB d = true ∧ roomT d = r ∧ 0 ≤ numT d ∧ numT d ≤ 40 := by
  obtain ⟨s, c, s1, s9, hc, rfl⟩ := h
  obtain ⟨o, e⟩ := wd_sk r1 r64 ok hc
  have sk := skDat_ok o
  have e1 : (skDat r (feedsT r ((N s).take c) tl0)).at1 = .int (c : Int) := by
    show Dat.int (feedsT r ((N s).take c) tl0).m = _
    rw [e]
  have h40 := (ok.nm s).1
  refine ⟨?_, rfl, ?_, ?_⟩
  · show (srcB (some s) && (true && (skD (skDat r (feedsT r ((N s).take c) tl0)) && decide (some (c : Int) = intD (skDat r (feedsT r ((N s).take c) tl0)).at1)))) = true
    rw [sk, e1]
    show ((decide (1 ≤ s) && decide (s ≤ 9)) && (true && (true && decide (some (c : Int) = some (c : Int))))) = true
    rw [decide_eq_true s1, decide_eq_true s9, decide_eq_true rfl]
    rfl
  · show (0 : Int) ≤ (c : Int)
    omega
  · show (c : Int) ≤ 40
    omega
theorem wd_one {r : Int} {N : Nms} {d e : Dat} (hd : WdD r N d) (he : WdD r N e) (h1 : srcT d = srcT e) (h2 : numT d = numT e) : d = e := by
  obtain ⟨s, c, _, _, _, rfl⟩ := hd
  obtain ⟨s', c', _, _, _, rfl⟩ := he
  have h1 : s = s' := h1
  have h2 : (c : Int) = (c' : Int) := h2
  have h2 : c = c' := by omega
  rw [h1, h2]
theorem wd_pl {r : Int} {N : Nms} (r1 : 1 ≤ r) (r64 : r ≤ 64) (ok : NOk N) {d : Dat} (h : WdD r N d) : plB 4 d = true := by
  obtain ⟨s, c, s1, s9, hc, rfl⟩ := h
  obtain ⟨o, e⟩ := wd_sk r1 r64 ok hc
  have hk := skT_ok o.ok
  have hl := o.ok.len
  have hlen : (srtZ (feedsT r ((N s).take c) tl0).c).length ≤ 64 := by
    rw [(srtZ_perm _).length_eq]
    omega
  have hnm : ∀ x ∈ srtZ (feedsT r ((N s).take c) tl0).c, Nm x.1 := hk.nm
  show (decide (3 ≤ 1000) && (true && (true && ((decide (4 ≤ 1000) && (true && (true && (true && ((decide (((srtZ (feedsT r ((N s).take c) tl0).c).map kvDat).length ≤ 1000) && ((srtZ (feedsT r ((N s).take c) tl0).c).map kvDat).all (plB 1)) && true))))) && true)))) = true
  have a1 : ((srtZ (feedsT r ((N s).take c) tl0).c).map kvDat).all (plB 1) = true := by
    rw [List.all_map]
    refine List.all_eq_true.mpr fun x hx => ?_
    show (decide (2 ≤ 1000) && (PyData.strOk x.1 && (true && true))) = true
    rw [strOk_nm (hnm x hx)]
    rfl
  rw [a1, List.length_map, decide_eq_true (by omega : (srtZ (feedsT r ((N s).take c) tl0).c).length ≤ 1000)]
  rfl
/-- what stands at a source -/
structure WF (r : Int) (N : Nms) (F : Fb) : Prop where
  w : ∀ s d, F s = some d → WdD r N d ∧ srcT d = s
theorem WF.ok {r : Int} {N : Nms} {F : Fb} (h : WF r N F) (r1 : 1 ≤ r) (r64 : r ≤ 64) (ok : NOk N) : FOk F := fun s d e => let ⟨k1, k2⟩ := h.w s d e; ⟨(wd_tr r1 r64 ok k1).1, k2⟩
theorem WF.u {r : Int} {N : Nms} {F G : Fb} (h : WF r N F) (k : WF r N G) : WF r N (fun s => upv (F s) (G s)) := ⟨fun s d e => by
  have e : upv (F s) (G s) = some d := e
  cases hG : G s with
  | none =>
    rw [hG] at e
    cases hF : F s with
    | none => rw [hF] at e; cases e
    | some f => rw [hF] at e; cases e; exact h.w s d hF
  | some g =>
    rw [hG] at e
    cases hF : F s with
    | none => rw [hF] at e; cases e; exact k.w s d hG
    | some f =>
      rw [hF] at e
      have e : (if numT f < numT g then some g else some f) = some d := e
      split at e
      · cases e; exact k.w s d hG
      · cases e; exact h.w s d hF⟩
theorem WF.fd {r : Int} {N : Nms} {ds : List Dat} (h : ∀ d ∈ ds, WdD r N d) : WF r N (FdB ds) := ⟨fun s d e => let ⟨k1, k2⟩ := fd_some e; ⟨h d k1, k2⟩⟩
theorem WF.nil {r : Int} {N : Nms} : WF r N (fun _ => none) := ⟨fun s d e => nomatch e⟩
/-- a law's book: what stands at its sources -/
structure BkW (r : Int) (N : Nms) (ds : List Dat) : Prop where
  ex : ∃ F, WF r N F ∧ ds = lsF F
section
variable {r : Int} {N : Nms} (r1 : 1 ≤ r) (r64 : r ≤ 64) (ok : NOk N)
include r1 r64 ok
theorem ls_w {F : Fb} (h : WF r N F) : ∀ d ∈ lsF F, WdD r N d := fun d hd => (h.w _ d ((lsF_mem (h.ok r1 r64 ok)).mp hd)).1
theorem ls_len {F : Fb} (h : WF r N F) : (lsF F).length ≤ 9 := List.length_filterMap_le _ _
theorem ls_bk {F : Fb} (h : WF r N F) : bookB (.tup (lsF F)) = true := by
  have hw := ls_w r1 r64 ok h
  show ((lsF F).all trB && (stepsB (lsF F)).all id) = true
  rw [List.all_eq_true.mpr fun d hd => (wd_tr r1 r64 ok (hw d hd)).1, Bool.true_and]
  exact steps_iff.mpr ⟨lsF_asc (h.ok r1 r64 ok), fun d hd e he => (wd_tr r1 r64 ok (hw d hd)).2.1.trans (wd_tr r1 r64 ok (hw e he)).2.1.symm⟩
theorem ls_pl {F : Fb} (h : WF r N F) : plB 5 (.tup (lsF F)) = true := by
  have hw := ls_w r1 r64 ok h
  show (decide ((lsF F).length ≤ 1000) && (lsF F).all (plB 4)) = true
  rw [decide_eq_true (by have := ls_len r1 r64 ok h; omega), List.all_eq_true.mpr fun d hd => wd_pl r1 r64 ok (hw d hd)]
  rfl
theorem ls_clash {F G : Fb} (h : WF r N F) (k : WF r N G) : clashB (.tup (lsF F)) (.tup (lsF G)) = false := by
  obtain ⟨_, e1, _, s1⟩ := bookB_is (ls_bk r1 r64 ok h)
  obtain ⟨_, e2, _, s2⟩ := bookB_is (ls_bk r1 r64 ok k)
  cases e1
  cases e2
  refine (clash_iff s1 s2).mpr fun x hx y hy => ?_
  have a1 : ∀ x ∈ lsF F ++ lsF G, roomT x = r := fun x hx => by
    rcases List.mem_append.mp hx with hx | hx
    · exact (wd_tr r1 r64 ok (ls_w r1 r64 ok h x hx)).2.1
    · exact (wd_tr r1 r64 ok (ls_w r1 r64 ok k x hx)).2.1
  rw [a1 x hx, a1 y hy]
theorem ls_off {F : Fb} (h : WF r N F) : offB (.int r) (.tup (lsF F)) = false := by
  have hw := ls_w r1 r64 ok h
  cases e : lsF F with
  | nil => rfl
  | cons d l =>
    have := (wd_tr r1 r64 ok (hw d (by rw [e]; exact List.mem_cons_self))).2.1
    show (!decide (roomT d = r)) = false
    rw [decide_eq_true this]
    rfl
theorem jn_ls {F G : Fb} (h : WF r N F) (k : WF r N G) : jnD (lsF F) (lsF G) = lsF (fun s => upv (F s) (G s)) := by
  have o1 := h.ok r1 r64 ok
  have o2 := k.ok r1 r64 ok
  unfold jnD
  rw [jnF_two (lsF_asc o1) (lsF_asc o2), fd_ls o1, fd_ls o2]
theorem upv_comm {F G : Fb} (h : WF r N F) (k : WF r N G) : (fun s => upv (G s) (F s)) = fun s => upv (F s) (G s) := by
  funext s
  cases hF : F s with
  | none => cases hG : G s <;> rfl
  | some f =>
    cases hG : G s with
    | none => rfl
    | some g =>
      obtain ⟨a1, a2⟩ := h.w s f hF
      obtain ⟨b1, b2⟩ := k.w s g hG
      show (if numT g < numT f then some f else some g) = if numT f < numT g then some g else some f
      by_cases c1 : numT g < numT f
      · rw [if_pos c1, if_neg (by omega)]
      · rw [if_neg c1]
        by_cases c2 : numT f < numT g
        · rw [if_pos c2]
        · rw [if_neg c2, wd_one a1 b1 (a2.trans b2.symm) (by omega)]
theorem upv_assoc {F G I : Fb} (h : WF r N F) (k : WF r N G) (i : WF r N I) : (fun s => upv (upv (F s) (G s)) (I s)) = fun s => upv (F s) (upv (G s) (I s)) := by
  funext s
  cases hF : F s with
  | none => cases hG : G s <;> cases hI : I s <;> simp only [upv] <;> split <;> rfl
  | some f =>
    cases hG : G s with
    | none => cases hI : I s <;> rfl
    | some g =>
      cases hI : I s with
      | none =>
        show upv (if numT f < numT g then some g else some f) none = if numT f < numT g then some g else some f
        split <;> rfl
      | some x =>
        show upv (if numT f < numT g then some g else some f) (some x) = upv (some f) (if numT g < numT x then some x else some g)
        by_cases c1 : numT f < numT g
        · rw [if_pos c1]
          by_cases c2 : numT g < numT x
          · rw [if_pos c2]
            show (if numT g < numT x then some x else some g) = if numT f < numT x then some x else some f
            rw [if_pos c2, if_pos (by omega)]
          · rw [if_neg c2]
            show (if numT g < numT x then some x else some g) = if numT f < numT g then some g else some f
            rw [if_neg c2, if_pos c1]
        · rw [if_neg c1]
          by_cases c2 : numT g < numT x
          · rw [if_pos c2]
          · rw [if_neg c2]
            show (if numT f < numT x then some x else some f) = if numT f < numT g then some g else some f
            rw [if_neg (by omega), if_neg c1]
theorem upv_idem {F : Fb} : (fun s => upv (F s) (F s)) = F := by
  funext s
  cases F s with
  | none => rfl
  | some f =>
    show (if numT f < numT f then some f else some f) = some f
    split <;> rfl
theorem upv_none {F : Fb} : (fun s => upv none (F s)) = F := by
  funext s
  cases F s <;> rfl
theorem upv_abs {F G : Fb} (h : WF r N F) (k : WF r N G) : (fun s => upv (upv (F s) (G s)) (F s)) = fun s => upv (F s) (G s) := by
  have e1 := upv_comm r1 r64 ok h k
  have e2 : (fun s => upv (upv (F s) (G s)) (F s)) = fun s => upv (upv (G s) (F s)) (F s) := by
    funext s
    have := congrFun e1 s
    exact congrArg (fun x => upv x (F s)) this.symm
  rw [e2, upv_assoc r1 r64 ok k h h, show (fun s => upv (G s) (upv (F s) (F s))) = fun s => upv (G s) (F s) from funext fun s => congrArg (upv (G s)) (congrFun (upv_idem r1 r64 ok (F := F)) s)]
  exact e1
end
/-- the empty book -/
theorem ls_none : lsF (fun _ => none) = [] := by decide
theorem Eqv.up {K : PySem.W.Frag} {H : Hp} : ∀ {n : Nat} {x y : V}, Eqv K n H x y → Eqv K (n + 1) H x y
  | 0, _, _, h => .inl h
  | n + 1, _, _, h => by
    rcases h with h | ⟨a, b, xs, ys, e1, e2, h1, h2, h3, h4, h5⟩
    · exact .inl h
    · exact .inr ⟨a, b, xs, ys, e1, e2, h1, h2, h3, h4, fun i u v hu hv => Eqv.up (h5 i u v hu hv)⟩
/-- two places of one sketch are alike -/
theorem eqv_sk5 {K : PySem.W.Frag} {H : Hp} {s t : Addr} {r : Int} {x : Tl} (h : SkAt H s r x) (k : SkAt H t r x) (hl : x.c.length ≤ 1000) : Eqv K 5 H (.ref s) (.ref t) := by
  obtain ⟨k1, ts, h1, h2, h3⟩ := h
  obtain ⟨k2, us, g1, g2, g3⟩ := k
  have e1 := Paired.length h3
  have e2 := Paired.length g3
  have e3 : (srtZ x.c).length = x.c.length := (srtZ_perm x.c).length_eq
  have kept : Eqv K 2 H (.ref k1) (.ref k2) := .inr ⟨k1, k2, _, _, rfl, rfl, h2.seq, g2.seq, by rw [List.length_map, List.length_map]; omega, by rw [List.length_map]; omega, fun i u v hu hv => by
    obtain ⟨p, hp, rfl⟩ := map_at hu
    obtain ⟨q, hq, rfl⟩ := map_at hv
    obtain ⟨e, he, a1⟩ := paired_at h3 hp
    have a2 := paired_getl g3 hq he
    exact .inr ⟨p, q, _, _, rfl, rfl, .inl (.inl a1), .inl (.inl a2), rfl, (by show 2 ≤ 1000; decide), fun j x y hx hy => by
      match j with
      | 0 => cases hx; cases hy; exact .inr ⟨_, rfl, rfl⟩
      | 1 => cases hx; cases hy; exact .inl ⟨_, rfl, rfl⟩
      | (n + 2) => cases hx⟩⟩
  refine Eqv.up (Eqv.up (.inr ⟨s, t, _, _, rfl, rfl, .inl (.inl h1), .inl (.inl g1), rfl, (by show 4 ≤ 1000; decide), fun j u v hu hv => ?_⟩))
  match j with
  | 0 => cases hu; cases hv; exact .inl (.inl ⟨_, rfl, rfl⟩)
  | 1 => cases hu; cases hv; exact .inl (.inl ⟨_, rfl, rfl⟩)
  | 2 => cases hu; cases hv; exact .inl (.inl ⟨_, rfl, rfl⟩)
  | 3 => cases hu; cases hv; exact kept
  | (n + 4) => cases hu
/-! the law -/
structure Defs (K : PySem.W.Frag) (mg : Str → Option Value) (base : Heap) where
  T : Blt mg
  n_zip : mg "zip" = none
  n_set : mg "set" = none
  cM : Cst mg "MOST_ROOM" (.int 64)
  cL : Cst mg "LONGEST_NAME" (.int 8)
  cMM : Cst mg "MOST_MACHINES" (.int 9)
  L : Tal K mg
  S : TxK K mg
  Rf : Ref K mg base
  dP_is_int : DnIsInt K mg
  dP_is_number : DnIsNumber K mg
  dP_is_room : DnIsRoom K mg
  dP_is_name : DnIsName K mg
  dP_is_counted : DnIsCounted K mg
  dP_are_counts : DnAreCounts K mg
  dP_lost_of : DnLostOf K mg
  dP_is_sketch : DnIsSketch K mg
  dP_bare : DnBare K mg
  dP_is_triple : DnIsTriple K mg
  dP_is_book : DnIsBook K mg
  dP_joined_books : DnJoinedBooks K mg
  dP_whole : DnWhole K mg
  dpot : Dnpot K mg
  ddraw : Dndraw K mg
  dany : Dnany K mg
  dis : Dnis K mg
  dfed : Dnfed K mg
  dof : Dnof K mg
  dpoured : Dnpoured K mg
  dnames : Dnnames K mg
  dstreams : Dnstreams K mg
  dbook : Dnbook K mg
  djoined : Dnjoined K mg
  dwhole : Dnwhole K mg
  dis_int : Dnis_int K mg
  dis_name : Dnis_name K mg
  dis_sketch : Dnis_sketch K mg
  dis_book : Dnis_book K mg
  ddeep : Dndeep K mg
  dbent_sketch : Dnbent_sketch K mg
  dbent : Dnbent K mg
  dword : Dnword K mg
  dflag : Dnflag K mg
section
variable {P : Program} {w : World} {K : PySem.W.Frag} {mg : Str → Option Value} {base : Heap}
theorem jb_b {r : Int} {N : Nms} (r1 : 1 ≤ r) (r64 : r ≤ 64) (ok : NOk N) {F G : Fb} (h : WF r N F) (k : WF r N G) (z : (bookB (.tup (lsF F)) && bookB (.tup (lsF G))) = false) : False := by
  rw [ls_bk r1 r64 ok h, ls_bk r1 r64 ok k] at z
  cases z
theorem jb_c {r : Int} {N : Nms} (r1 : 1 ≤ r) (r64 : r ≤ 64) (ok : NOk N) {F G : Fb} (h : WF r N F) (k : WF r N G) (z : clashB (.tup (lsF F)) (.tup (lsF G)) = true) : False := by
  rw [ls_clash r1 r64 ok h k] at z
  cases z
theorem ls_num {r : Int} {N : Nms} (r1 : 1 ≤ r) (r64 : r ≤ 64) (ok : NOk N) {F : Fb} (h : WF r N F) : ∀ d ∈ lsF F, numT d ≤ 1000 := fun d hd => by
  have := (wd_tr r1 r64 ok (ls_w r1 r64 ok h d hd)).2.2.2
  omega
def spLaw (K : PySem.W.Frag) (Pr : Addr) : Sp := fun vs H Q _ => ∃ (a : Addr) (ns : List Int), vs = [.ref a] ∧ SqL K H a (ns.map V.int) ∧ ns.length ≤ 63 ∧ TabS H Pr qRef ∧ ∀ H', Q (.bl true) H'
theorem ok_law (D : Defs K mg base) (d : Dnlaw K mg) : FnOk P w K mg base CX0 15 d.f d.fd ["_law_script"] (spLaw K D.Rf.P) := by
  obtain ⟨T, n_zip, n_set, cM, cL, cMM, L, S, Rf, dP_is_int, dP_is_number, dP_is_room, dP_is_name, dP_is_counted, dP_are_counts, dP_lost_of, dP_is_sketch, dP_bare, dP_is_triple, dP_is_book, dP_joined_books, dP_whole, dpot, ddraw, dany, dis, dfed, dof, dpoured, dnames, dstreams, dbook, djoined, dwhole, dis_int, dis_name, dis_sketch, dis_book, ddeep, dbent_sketch, dbent, dword, dflag⟩ := D
  have GP_is_book : FnOk P w K mg base CX0 6 dP_is_book.f dP_is_book.fd ["thing"] (spIsBookD K) := ok_is_bookD T n_zip cM cL cMM dP_is_int dP_is_number dP_is_room dP_is_name dP_is_counted dP_are_counts dP_lost_of dP_is_sketch dP_is_triple dP_is_book
  have GP_joined_books : FnOk P w K mg base (L2.CX P w) 7 dP_joined_books.f dP_joined_books.fd ["one", "other"] (spJoinedX K S.B.C S.O.C) := ok_joinedX T S.B S.O n_zip cM cL cMM dP_is_int dP_is_number dP_is_room dP_is_name dP_is_counted dP_are_counts dP_lost_of dP_is_sketch dP_is_triple dP_is_book dP_joined_books
  have GP_whole : FnOk P w K mg base (L2.CX P w) 7 dP_whole.f dP_whole.fd ["room", "book"] (spWholeX K S.R.C S.B.C S.O.C) := ok_wholeX T S.R S.B S.O n_zip cM cL cMM dP_is_int dP_is_number dP_is_room dP_is_name dP_is_counted dP_are_counts dP_lost_of dP_is_sketch dP_bare L dP_is_triple dP_is_book dP_whole
  have Gpot : FnOk P w K mg base CX0 1 dpot.f dpot.fd ["_law_script"] (spPot K) := ok_pot T dpot
  have Gany : FnOk P w K mg base CX0 2 dany.f dany.fd ["_law_pot_here", "_law_things"] spAny := ok_any T ddraw dany
  have Gstreams : FnOk P w K mg base CX0 4 dstreams.f dstreams.fd ["_law_pot_here", "_law_room"] (spStreams K) := ok_streams T ddraw dany dfed dof dnames dstreams
  have Gbook : FnOk P w K mg base CX0 3 dbook.f dbook.fd ["_law_pot_here", "_law_streams_here"] (spBook K) := ok_book T ddraw dany dbook
  have Gjoined : FnOk P w K mg base CX0 1 djoined.f djoined.fd ["_law_one", "_law_other"] (spJoinedL K) := ok_joinedL T djoined
  have Gwhole : FnOk P w K mg base CX0 2 dwhole.f dwhole.fd ["_law_room", "_law_book_here"] (spWholeL K) := ok_wholeL T dpoured dwhole
  have Gflag : FnOk P w K mg base CX0 1 dflag.f dflag.fd ["_law_told", "_law_due"] (spFlag K) := ok_flag T dflag
  have Gis : FnOk P w K mg base CX0 7 dis.f dis.fd ["_law_told", "_law_due"] (spIs K 5) := ok_is T dis 6
  have Grefused_right : FnOk P w K mg base CX0 14 Rf.d.f Rf.d.fd ["_law_pot_here", "_law_room", "_law_book_here", "_law_other"] (spRefused K Rf.P) := ok_refused T S Rf n_zip n_set cM cL cMM dP_is_int dP_is_number dP_is_room dP_is_name dP_is_counted dP_are_counts dP_lost_of dP_is_sketch dP_bare L dP_is_triple dP_is_book dP_joined_books dP_whole ddraw dany dis_int dis_name dis_sketch dis_book ddeep dbent_sketch dbent dword dflag
  refine d.F.ok sclaw (fun vs H Q E h => ?_) (fun cdv A outer s H vs Q E hr h => ?_)
  · obtain ⟨a, ns, rfl, _⟩ := h
    rfl
  · obtain ⟨sc, ns, rfl, hS, hl, T0, q⟩ := h
    refine ⟨_, (pss_cons (ps_set (i := 1) sclaw.nd rfl (Or.inl rfl) (pe_call Gpot (hr.mono (by omega)) (by rfl) dpot.g dpot.F.kp dpot.b .nil pass0 (pa_cons (pv 0) pa_nil)))
    (pss_cons (ps_set (i := 2) sclaw.nd rfl (Or.inl rfl) (pe_call Gany (hr.mono (by omega)) (by rfl) dany.g dany.F.kp dany.b .nil pass0 (pa_cons (pv 1) (pa_cons (pe_lst (pa_cons pe_int (pa_cons pe_int (pa_cons pe_int (pa_cons pe_int (pa_cons pe_int (pa_cons pe_int (pa_cons pe_int pa_nil)))))))) pa_nil))))
    (pss_cons (ps_set (i := 3) sclaw.nd rfl (Or.inl rfl) (pe_call Gstreams (hr.mono (by omega)) (by rfl) dstreams.g dstreams.F.kp dstreams.b .nil pass0 (pa_cons (pv 1) (pa_cons (pv 2) pa_nil))))
    (pss_cons (ps_for PassesOwn.never rfl (pi_range1 (by rfl) T.n_range (pa_cons pe_int pa_nil)) (pg_name (i := 4) sclaw.nd rfl (Or.inl rfl))
      (pss_cons (ps_par3 (i := 5) (j := 6) (l := 7) (by rfl) sclaw.nd rfl rfl rfl (by decide) (by decide) (by decide) rfl rfl rfl (pa_cons (pe_call Gbook (hr.mono (by omega)) (by rfl) dbook.g dbook.F.kp dbook.b .nil pass0 (pa_cons (pv 1) (pa_cons (pv 3) pa_nil))) (pa_cons (pe_call Gbook (hr.mono (by omega)) (by rfl) dbook.g dbook.F.kp dbook.b .nil pass0 (pa_cons (pv 1) (pa_cons (pv 3) pa_nil))) (pa_cons (pe_call Gbook (hr.mono (by omega)) (by rfl) dbook.g dbook.F.kp dbook.b .nil pass0 (pa_cons (pv 1) (pa_cons (pv 3) pa_nil))) pa_nil))) (by rfl))
      (pss_cons (ps_set (i := 8) sclaw.nd rfl (Or.inl rfl) (pe_call Gjoined (hr.mono (by omega)) (by rfl) djoined.g djoined.F.kp djoined.b .nil pass0 (pa_cons (pv 5) (pa_cons (pv 6) pa_nil))))
      (pss_cons (ps_if (pt_not (pt_val (pe_callB (cr_all rfl) (by rfl) T.n_all (by decide +kernel) (pa_cons (pe_lc (own := [("_law_book_here", 9)]) (g := gName 9) (tt := tYes) rfl sclaw.nd (pi_tup (pe_tup (pa_cons (pv 5) (pa_cons (pv 6) (pa_cons (pv 7) (pa_cons (pv 8) pa_nil)))))) (blkOk_by (N := Nlaw) (sc := defScope slaw) (by decide +kernel)) (fun _ _ _ _ _ => pg_name (i := 9) sclaw.nd rfl (Or.inl rfl)) (fun _ _ _ _ _ => pts_nil) (fun _ _ _ _ _ => (pe_call Gflag (hr.mono (by omega)) (by rfl) dflag.g dflag.F.kp dflag.b .nil pass0 (pa_cons (pe_call GP_is_book (hr.mono (by omega)) (by rfl) dP_is_book.g dP_is_book.F.kp dP_is_book.b .nil pass0 (pa_cons (pv 9) pa_nil)) (pa_cons pe_bl pa_nil))))) pa_nil))))
        (pss_one (ps_ret pe_bl))
        pss_nil)
      (pss_cons (ps_if (PW.pt (pw_or (pt_not (pt_val (pe_call Gis (hr.mono (by omega)) (by rfl) dis.g dis.F.kp dis.b .nil pass0 (pa_cons (pe_callS GP_joined_books (hr.mono (by omega)) rfl dP_joined_books.g dP_joined_books.F.kp dP_joined_books.b (fun σ => passAt L2.takes0 σ) (pa_cons (pv 5) (pa_cons (pv 6) pa_nil))) (pa_cons (pv 8) pa_nil))))) (pw_or1 (pt_not (pt_val (pe_call Gis (hr.mono (by omega)) (by rfl) dis.g dis.F.kp dis.b .nil pass0 (pa_cons (pe_callS GP_joined_books (hr.mono (by omega)) rfl dP_joined_books.g dP_joined_books.F.kp dP_joined_books.b (fun σ => passAt L2.takes0 σ) (pa_cons (pv 6) (pa_cons (pv 5) pa_nil))) (pa_cons (pv 8) pa_nil))))))))
        (pss_one (ps_ret pe_bl))
        pss_nil)
      (pss_cons (ps_if (PW.pt (pw_or (pt_cmpR (op_neD hr.units) (pe_callS GP_joined_books (hr.mono (by omega)) rfl dP_joined_books.g dP_joined_books.F.kp dP_joined_books.b (fun σ => passAt L2.takes0 σ) (pa_cons (pv 8) (pa_cons (pv 7) pa_nil))) (pe_callS GP_joined_books (hr.mono (by omega)) rfl dP_joined_books.g dP_joined_books.F.kp dP_joined_books.b (fun σ => passAt L2.takes0 σ) (pa_cons (pv 5) (pa_cons (pe_callS GP_joined_books (hr.mono (by omega)) rfl dP_joined_books.g dP_joined_books.F.kp dP_joined_books.b (fun σ => passAt L2.takes0 σ) (pa_cons (pv 6) (pa_cons (pv 7) pa_nil))) pa_nil))) (nomark _)) (pw_or1 (pt_cmpR (op_neD hr.units) (pe_callS GP_joined_books (hr.mono (by omega)) rfl dP_joined_books.g dP_joined_books.F.kp dP_joined_books.b (fun σ => passAt L2.takes0 σ) (pa_cons (pv 8) (pa_cons (pv 5) pa_nil))) (pv 8) (nomark _)))))
        (pss_one (ps_ret pe_bl))
        pss_nil)
      (pss_cons (ps_if (PW.pt (pw_or (pt_not (pt_val (pe_call Gis (hr.mono (by omega)) (by rfl) dis.g dis.F.kp dis.b .nil pass0 (pa_cons (pe_callS GP_joined_books (hr.mono (by omega)) rfl dP_joined_books.g dP_joined_books.F.kp dP_joined_books.b (fun σ => passAt L2.takes0 σ) (pa_cons (pv 5) (pa_cons (pv 5) pa_nil))) (pa_cons (pv 5) pa_nil))))) (pw_or1 (pt_not (pt_val (pe_call Gis (hr.mono (by omega)) (by rfl) dis.g dis.F.kp dis.b .nil pass0 (pa_cons (pe_callS GP_joined_books (hr.mono (by omega)) rfl dP_joined_books.g dP_joined_books.F.kp dP_joined_books.b (fun σ => passAt L2.takes0 σ) (pa_cons (pe_tupF pa_nil) (pa_cons (pv 5) pa_nil))) (pa_cons (pv 5) pa_nil))))))))
        (pss_one (ps_ret pe_bl))
        pss_nil)
      (pss_cons (ps_if (PW.pt (pw_or (pt_not (pt_val (pe_call Gis (hr.mono (by omega)) (by rfl) dis.g dis.F.kp dis.b .nil pass0 (pa_cons (pe_callS GP_whole (hr.mono (by omega)) rfl dP_whole.g dP_whole.F.kp dP_whole.b (fun σ => passAt L2.takes0 σ) (pa_cons (pv 2) (pa_cons (pv 8) pa_nil))) (pa_cons (pe_call Gwhole (hr.mono (by omega)) (by rfl) dwhole.g dwhole.F.kp dwhole.b .nil pass0 (pa_cons (pv 2) (pa_cons (pv 8) pa_nil))) pa_nil))))) (pw_or1 (pt_not (pt_val (pe_call Gis (hr.mono (by omega)) (by rfl) dis.g dis.F.kp dis.b .nil pass0 (pa_cons (pe_callS GP_whole (hr.mono (by omega)) rfl dP_whole.g dP_whole.F.kp dP_whole.b (fun σ => passAt L2.takes0 σ) (pa_cons (pv 2) (pa_cons (pe_tupF pa_nil) pa_nil))) (pa_cons (pe_tup (pa_cons (pv 2) (pa_cons pe_int (pa_cons pe_int (pa_cons (pe_tupF pa_nil) pa_nil))))) pa_nil))))))))
        (pss_one (ps_ret pe_bl))
        pss_nil)
      (pss_one (ps_if (pt_not (pt_val (pe_call Grefused_right (hr.mono (by omega)) (by rfl) Rf.d.g Rf.d.F.kp Rf.d.b .nil pass0 (pa_cons (pv 1) (pa_cons (pv 2) (pa_cons (pv 5) (pa_cons (pv 6) pa_nil)))))))
        (pss_one (ps_ret pe_bl))
        pss_nil))))))))))
    (pss_one (ps_ret pe_bl)))))), ?_⟩
    have Ts0 : Tabs [(Rf.P, qRef)] H := fun p hp => by rw [List.mem_singleton.mp hp]; exact T0
    refine ⟨.ref sc, rfl, sc, ns, rfl, hS, hl, fun H1 a c s1 na w1 => ?_⟩
    have Ts1 := Ts0.ext s1
    clear hS hl T0
    refine ⟨.ref a, rfl, (by show 7 ≤ sizeLine; decide), fun l1 nl1 => ?_⟩
    have l1w := w1.ne2 nl1
    have s2 := same_upd (o := .lst [.int 1, .int 2, .int 3, .int 4, .int 5, .int 8, .int 64]) nl1
    refine ⟨a, c, l1, _, rfl, w1.same s2, l1w.1, upd_same, (by show 0 < 7; decide), (by show 7 ≤ 100000; decide), fun H2 vr x2 w2 hvr => ?_⟩
    have Ts2 := tabs_exw (Ts1.ext s2) x2 (w1.same s2)
    obtain ⟨r, rfl, r1, r64⟩ : ∃ r : Int, vr = .int r ∧ 1 ≤ r ∧ r ≤ 64 := by
      simp only [List.mem_cons, List.not_mem_nil, or_false] at hvr
      rcases hvr with rfl | rfl | rfl | rfl | rfl | rfl | rfl <;> exact ⟨_, rfl, by decide, by decide⟩
    clear hvr
    refine ⟨.ref a, rfl, .int r, rfl, a, c, r, rfl, w2, r1, r64, fun H3 p N x3 w3 np pa S3 => ?_⟩
    have Ts3 := tabs_exw Ts2 x3 w2
    have ok : NOk N := ⟨S3.nm⟩
    refine ⟨3, rfl, by decide, by decide, ?_⟩
    refine for_range (lo := 0) (n := 3) (fun i σ H4 => ∃ (y4 y5 y6 y7 y8 : Option V), σ = [some (.ref sc), some (.ref a), some (.int r), some (.ref p), y4, y5, y6, y7, y8, none] ∧ Wl a c H4 ∧ StAt K a H4 p r N 9 ∧ Tabs [(Rf.P, qRef)] H4)
      ⟨none, none, none, none, none, rfl, w3, S3, Ts3⟩ ?_ ?_
    · clear w1 w2 Ts0 Ts1 Ts2 x2 x3 S3 w3 np Ts3 s1 s2 nl1 l1w na
      rintro i σ H4 hi ⟨y4, y5, y6, y7, y8, rfl, w4, S4, Ts4⟩
      -- three books
      refine ⟨.ref a, rfl, .ref p, rfl, a, c, p, r, N, rfl, w4, S4, fun H5 b1 ds1 x5 w5 hb1 as1 wd1 _ => ?_⟩
      have S5 := S4.exw x5 w4 w5
      have Ts5 := tabs_exw Ts4 x5 w4
      refine ⟨.ref a, rfl, .ref p, rfl, a, c, p, r, N, rfl, w5, S5, fun H6 b2 ds2 x6 w6 hb2 as2 wd2 _ => ?_⟩
      have S6 := S5.exw x6 w5 w6
      have Ts6 := tabs_exw Ts5 x6 w5
      have hb1 := hb1.keep (kpD_exw x6 w5 w6)
      refine ⟨.ref a, rfl, .ref p, rfl, a, c, p, r, N, rfl, w6, S6, fun H7 b3 ds3 x7 w7 hb3 as3 wd3 _ => ?_⟩
      have S7 := S6.exw x7 w6 w7
      have Ts7 := tabs_exw Ts6 x7 w6
      have hb1 := hb1.keep (kpD_exw x7 w6 w7)
      have hb2 := hb2.keep (kpD_exw x7 w6 w7)
      clear w4 S4 Ts4 x5 w5 S5 Ts5 x6 w6 S6 Ts6 x7
      obtain ⟨F1, W1, rfl⟩ : ∃ F, WF r N F ∧ ds1 = lsF F := ⟨_, WF.fd wd1, (ls_fd (fun d hd => (wd_tr r1 r64 ok (wd1 d hd)).1) as1).symm⟩
      obtain ⟨F2, W2, rfl⟩ : ∃ F, WF r N F ∧ ds2 = lsF F := ⟨_, WF.fd wd2, (ls_fd (fun d hd => (wd_tr r1 r64 ok (wd2 d hd)).1) as2).symm⟩
      obtain ⟨F3, W3, rfl⟩ : ∃ F, WF r N F ∧ ds3 = lsF F := ⟨_, WF.fd wd3, (ls_fd (fun d hd => (wd_tr r1 r64 ok (wd3 d hd)).1) as3).symm⟩
      refine ⟨.ref b1, .ref b2, .ref b3, rfl, ?_⟩
      -- the law's joined
      have tr12 : ∀ d ∈ lsF F1 ++ lsF F2, trB d = true := fun d hd => (List.mem_append.mp hd).elim (fun h => (wd_tr r1 r64 ok (ls_w r1 r64 ok W1 d h)).1) fun h => (wd_tr r1 r64 ok (ls_w r1 r64 ok W2 d h)).1
      have n1 := ls_len r1 r64 ok W1
      have n2 := ls_len r1 r64 ok W2
      refine ⟨.ref b1, rfl, .ref b2, rfl, b1, b2, _, _, rfl, hb1, hb2, tr12, by rw [List.length_append]; omega, fun H8 bd s8 hd => ?_⟩
      rw [jn_ls r1 r64 ok W1 W2] at hd
      have WD := W1.u W2
      have eD : ∃ FD, FD = (fun s => upv (F1 s) (F2 s)) := ⟨_, rfl⟩
      obtain ⟨FD, eD⟩ := eD
      rw [← eD] at hd WD
      have hb1 := hb1.same s8
      have hb2 := hb2.same s8
      have hb3 := hb3.same s8
      have w8 := w7.same s8
      have S8 := S7.exw (Same.exw s8) w7 w8
      have Ts8 := Ts7.ext s8
      clear S7 Ts7 w7 s8 tr12
      -- all of them are books
      refine ⟨.ref b1, rfl, .ref b2, rfl, .ref b3, rfl, .ref bd, rfl, (by show 4 ≤ sizeLine; decide), fun t nt => ?_⟩
      have s9 := same_upd (o := .tup [.ref b1, .ref b2, .ref b3, .ref bd]) nt
      have ht : (upd H8 t (.tup [.ref b1, .ref b2, .ref b3, .ref bd])) t = some (.tup [.ref b1, .ref b2, .ref b3, .ref bd]) := upd_same
      generalize upd H8 t (.tup [.ref b1, .ref b2, .ref b3, .ref bd]) = H9 at s9 ht ⊢
      refine ⟨t, rfl, ⟨_, .inl (.inl ht)⟩, fun D nD => ?_⟩
      refine lc_tup (xs := [.ref b1, .ref b2, .ref b3, .ref bd]) (fun i H' => Same H9 H' ∧ H' D = some (.lst ((List.replicate i true).map V.bl))) ⟨same_upd nD, upd_same⟩ (fun i H' _ h' => .inl (.inl (h'.1 _ _ ht))) (fun i u H' hu g' => ?_) (fun H' g' => ?_)
      · obtain ⟨s', hD⟩ := g'
        have h0 : ∃ dd, DtAt K H8 u dd ∧ bookB dd = true ∧ i < 4 := by
          match i with
          | 0 => cases hu; exact ⟨_, hb1, ls_bk r1 r64 ok W1, by decide⟩
          | 1 => cases hu; exact ⟨_, hb2, ls_bk r1 r64 ok W2, by decide⟩
          | 2 => cases hu; exact ⟨_, hb3, ls_bk r1 r64 ok W3, by decide⟩
          | 3 => cases hu; exact ⟨_, hd, ls_bk r1 r64 ok WD, by decide⟩
          | (n + 4) => cases hu
        obtain ⟨dd, hdd, hbk, hi4⟩ := h0
        refine ⟨rfl, u, rfl, u, dd, rfl, (hdd.same s9).same s', fun H'' s'' => ⟨bookB dd, true, rfl, ?_⟩⟩
        rw [hbk]
        refine ⟨_, s'' _ _ hD, by rw [List.length_map, List.length_replicate, sizeLine_eq]; omega, Same.put (s'.trans s'') nD, ?_⟩
        rw [upd_same, List.replicate_succ', List.map_append]
        rfl
      obtain ⟨s', hD⟩ := g'
      refine ⟨D, List.replicate 4 true, rfl, sql hD, true, rfl, iteF ?_⟩
      have sA := s9.trans s'
      have hb1 := hb1.same sA
      have hb2 := hb2.same sA
      have hb3 := hb3.same sA
      have hd := hd.same sA
      have wA := w8.same sA
      have SA := S8.exw (Same.exw sA) w8 wA
      have TsA := Ts8.ext sA
      clear S8 Ts8 w8 s9 s' sA ht hD nD nt
      -- joined is what the law says
      refine ⟨.ref b1, rfl, .ref b2, rfl, ?_⟩
      refine ⟨_, _, _, _, rfl, hb1, hb2, fun z => (jb_b r1 r64 ok W1 W2 z).elim, fun _ z => (jb_c r1 r64 ok W1 W2 z).elim, fun _ _ e1 e2 _ _ HB q1 sB hq1 => ?_⟩
      cases e1
      cases e2
      rw [jn_ls r1 r64 ok W1 W2] at hq1
      refine ⟨.ref bd, rfl, .ref q1, .ref bd, rfl, ?_, fun HC sC => ⟨true, rfl, iteF ?_⟩⟩
      · rw [← eD] at hq1
        exact eqv_dat (ls_pl r1 r64 ok WD) hq1 (hd.same sB)
      have sBC := sB.trans sC
      refine ⟨.ref b2, rfl, .ref b1, rfl, ?_⟩
      refine ⟨_, _, _, _, rfl, (hb2.same sBC), (hb1.same sBC), fun z => (jb_b r1 r64 ok W2 W1 z).elim, fun _ z => (jb_c r1 r64 ok W2 W1 z).elim, fun _ _ e1 e2 _ _ HD q2 sD hq2 => ?_⟩
      cases e1
      cases e2
      rw [jn_ls r1 r64 ok W2 W1] at hq2
      refine ⟨.ref bd, rfl, .ref q2, .ref bd, rfl, ?_, fun HE sE => ⟨true, rfl, iteF ?_⟩⟩
      · rw [upv_comm r1 r64 ok W1 W2, ← eD] at hq2
        exact eqv_dat (ls_pl r1 r64 ok WD) hq2 ((hd.same sBC).same sD)
      have sF := (sBC.trans sD).trans sE
      have hb1 := hb1.same sF
      have hb2 := hb2.same sF
      have hb3 := hb3.same sF
      have hd := hd.same sF
      have wF := wA.same sF
      have SF := SA.exw (Same.exw sF) wA wF
      have TsF := TsA.ext sF
      clear SA TsA wA sB sC sBC sD sE sF hq1 hq2
      -- in any order
      refine ⟨.ref bd, rfl, .ref b3, rfl, ?_⟩
      refine ⟨_, _, _, _, rfl, hd, hb3, fun z => (jb_b r1 r64 ok WD W3 z).elim, fun _ z => (jb_c r1 r64 ok WD W3 z).elim, fun _ _ e1 e2 _ _ HG q3 sG hq3 => ?_⟩
      cases e1
      cases e2
      rw [jn_ls r1 r64 ok WD W3] at hq3
      refine ⟨.ref b1, rfl, .ref b2, rfl, .ref b3, rfl, ?_⟩
      refine ⟨_, _, _, _, rfl, (hb2.same sG), (hb3.same sG), fun z => (jb_b r1 r64 ok W2 W3 z).elim, fun _ z => (jb_c r1 r64 ok W2 W3 z).elim, fun _ _ e1 e2 _ _ HH q4 sH hq4 => ?_⟩
      cases e1
      cases e2
      rw [jn_ls r1 r64 ok W2 W3] at hq4
      refine ⟨_, _, _, _, rfl, ((hb1.same sG).same sH), hq4, fun z => (jb_b r1 r64 ok W1 (W2.u W3) z).elim, fun _ z => (jb_c r1 r64 ok W1 (W2.u W3) z).elim, fun _ _ e1 e2 _ _ HI q5 sI hq5 => ?_⟩
      cases e1
      cases e2
      rw [jn_ls r1 r64 ok W1 (W2.u W3)] at hq5
      have e3 : (fun s => upv (FD s) (F3 s)) = fun s => upv (F1 s) (upv (F2 s) (F3 s)) := by
        rw [eD]
        exact upv_assoc r1 r64 ok W1 W2 W3
      rw [e3] at hq3
      refine ⟨_, _, dp_dat (ls_pl r1 r64 ok (W1.u (W2.u W3))) ((hq3.same sH).same sI), dp_dat (ls_pl r1 r64 ok (W1.u (W2.u W3))) hq5, py_shaped (ls_pl r1 r64 ok (W1.u (W2.u W3))) (by decide), py_shaped (ls_pl r1 r64 ok (W1.u (W2.u W3))) (by decide), false, congrArg V.bl (by rw [py_eqv (ls_pl r1 r64 ok (W1.u (W2.u W3)))]; rfl), iteF ?_⟩
      have sJ := (sG.trans sH).trans sI
      have hb1 := hb1.same sJ
      have hb2 := hb2.same sJ
      have hd := hd.same sJ
      have wJ := wF.same sJ
      have SJ := SF.exw (Same.exw sJ) wF wJ
      have TsJ := TsF.ext sJ
      clear SF TsF wF sG sH sI sJ hq3 hq4 hq5 hb3
      refine ⟨.ref bd, rfl, .ref b1, rfl, ?_⟩
      refine ⟨_, _, _, _, rfl, hd, hb1, fun z => (jb_b r1 r64 ok WD W1 z).elim, fun _ z => (jb_c r1 r64 ok WD W1 z).elim, fun _ _ e1 e2 _ _ HK q6 sK hq6 => ?_⟩
      cases e1
      cases e2
      rw [jn_ls r1 r64 ok WD W1] at hq6
      have e4 : (fun s => upv (FD s) (F1 s)) = FD := by
        rw [eD]
        exact upv_abs r1 r64 ok W1 W2
      rw [e4] at hq6
      refine ⟨.ref bd, rfl, ⟨_, _, dp_dat (ls_pl r1 r64 ok WD) hq6, dp_dat (ls_pl r1 r64 ok WD) (hd.same sK), py_shaped (ls_pl r1 r64 ok WD) (by decide), py_shaped (ls_pl r1 r64 ok WD) (by decide), false, congrArg V.bl (by rw [py_eqv (ls_pl r1 r64 ok WD)]; rfl), iteF ?_⟩⟩
      -- with itself, with nothing
      refine ⟨.ref b1, rfl, .ref b1, rfl, ?_⟩
      refine ⟨_, _, _, _, rfl, (hb1.same sK), (hb1.same sK), fun z => (jb_b r1 r64 ok W1 W1 z).elim, fun _ z => (jb_c r1 r64 ok W1 W1 z).elim, fun _ _ e1 e2 _ _ HL q7 sL hq7 => ?_⟩
      cases e1
      cases e2
      rw [jn_ls r1 r64 ok W1 W1] at hq7
      rw [upv_idem r1 r64 ok] at hq7
      have sKL := sK.trans sL
      refine ⟨.ref b1, rfl, .ref q7, .ref b1, rfl, eqv_dat (ls_pl r1 r64 ok W1) hq7 (hb1.same sKL), fun HM sM => ⟨true, rfl, iteF ?_⟩⟩
      have sKM := sKL.trans sM
      refine ⟨(by show 0 ≤ sizeLine; decide), fun t0 o0 n0 ho0 => ⟨.ref b1, rfl, ?_⟩⟩
      have st := same_upd (o := .frz o0 (.tup [])) n0
      have ht0 : Ptp (upd HM t0 (.frz o0 (.tup []))) t0 [] := ⟨o0, upd_same, ho0⟩
      generalize upd HM t0 (.frz o0 (.tup [])) = HN at st ht0 ⊢
      have sKN := sKM.trans st
      have hN0 : DtAt K HN (.ref t0) (.tup (lsF (fun _ => none))) := by
        rw [ls_none]
        exact DtAt.mk ht0 (Nat.zero_le _) .nil
      refine ⟨_, _, _, _, rfl, hN0, (hb1.same sKN), fun z => (jb_b r1 r64 ok WF.nil W1 z).elim, fun _ z => (jb_c r1 r64 ok WF.nil W1 z).elim, fun _ _ e1 e2 _ _ HO q8 sO hq8 => ?_⟩
      cases e1
      cases e2
      rw [jn_ls r1 r64 ok WF.nil W1] at hq8
      rw [upv_none r1 r64 ok] at hq8
      have sKO := sKN.trans sO
      refine ⟨.ref b1, rfl, .ref q8, .ref b1, rfl, eqv_dat (ls_pl r1 r64 ok W1) hq8 (hb1.same sKO), fun HP sP => ⟨true, rfl, iteF ?_⟩⟩
      have sQ := sKO.trans sP
      have hb1 := hb1.same sQ
      have hb2 := hb2.same sQ
      have hd := hd.same sQ
      have wQ := wJ.same sQ
      have SQ := SJ.exw (Same.exw sQ) wJ wQ
      have TsQ := TsJ.ext sQ
      clear SJ TsJ wJ sK sL sM sO sP sQ hq6 hq7 hq8 sKL sKM sKN sKO st ht0 hN0
      -- whole
      have bkD := ls_bk r1 r64 ok WD
      have k0 : isRB (intD (.int r)) = true := by
        show (decide (1 ≤ r) && decide (r ≤ 64)) = true
        rw [decide_eq_true r1, decide_eq_true r64]
        rfl
      have trD : ∀ d ∈ lsF FD, trB d = true ∧ roomT d = r := fun d h => let k := wd_tr r1 r64 ok (ls_w r1 r64 ok WD d h); ⟨k.1, k.2.1⟩
      have hrD : DtAt K HP (.int r) (.int r) := .lf ⟨rfl, nat_le (by omega) r64 (by omega)⟩
      refine ⟨.int r, rfl, .ref bd, rfl, .int r, .ref bd, .int r, _, rfl, hrD, hd, fun z => (by rw [k0] at z; cases z), fun _ z => (by rw [bkD] at z; cases z), fun _ _ z => (by rw [ls_off r1 r64 ok WD] at z; cases z), fun r' ds' e1 e2 _ _ _ _ HR s1 sR hs1 => ?_⟩
      cases e1
      cases e2
      refine ⟨.int r, rfl, .ref bd, rfl, r, bd, _, rfl, hd.same sR, trD, r1, r64, fun HS s2 sS hs2 => ?_⟩
      have okx := whT_ok r1 trD
      refine ⟨.ref s1, .ref s2, rfl, eqv_sk5 (hs1.same sS) hs2 (by have := okx.len; omega), fun HT sT => ⟨true, rfl, iteF ?_⟩⟩
      have sRT := (sR.trans sS).trans sT
      refine ⟨.int r, rfl, (by show 0 ≤ sizeLine; decide), fun t0 o0 n0 ho0 => ?_⟩
      have st := same_upd (o := .frz o0 (.tup [])) n0
      have ht0 : Ptp (upd HT t0 (.frz o0 (.tup []))) t0 [] := ⟨o0, upd_same, ho0⟩
      generalize upd HT t0 (.frz o0 (.tup [])) = HU at st ht0 ⊢
      have sRU := sRT.trans st
      have hN0 : DtAt K HU (.ref t0) (.tup []) := DtAt.mk ht0 (Nat.zero_le _) .nil
      refine ⟨.int r, .ref t0, .int r, _, rfl, hrD.same sRU, hN0, fun z => (by rw [k0] at z; cases z), fun _ z => (by cases z), fun _ _ z => (by cases z), fun r' ds' e1 e2 _ _ _ _ HV s3 sV hs3 => ?_⟩
      cases e1
      cases e2
      refine ⟨.int r, rfl, (by show 0 ≤ sizeLine; decide), fun k ok' nk hok => ⟨(by show 4 ≤ sizeLine; decide), fun t nt => ?_⟩⟩
      have sW := same_upd (o := .frz ok' (.tup [])) nk
      have hk1 : (upd HV k (.frz ok' (.tup []))) k = some (.frz ok' (.tup [])) := upd_same
      generalize upd HV k (.frz ok' (.tup [])) = HW at sW hk1 nt ⊢
      have sX := same_upd (o := .tup [.int r, .int 0, .int 0, .ref k]) nt
      have htX : (upd HW t (.tup [.int r, .int 0, .int 0, .ref k])) t = some (.tup [.int r, .int 0, .int 0, .ref k]) := upd_same
      have hkX := sX _ _ hk1
      generalize upd HW t (.tup [.int r, .int 0, .int 0, .ref k]) = HX at sX htX hkX ⊢
      have hs4 : SkAt HX t r tl0 := ⟨k, [], htX, ⟨ok', hkX, hok⟩, by rw [show srtZ tl0.c = [] from srtZ_self .nil List.nodup_nil]; exact .nil⟩
      have hs3 := (hs3.same sW).same sX
      refine ⟨.ref s3, .ref t, rfl, eqv_sk5 hs3 hs4 (Nat.zero_le _), fun HY sY => ⟨true, rfl, iteF ?_⟩⟩
      have sZ := (((sRU.trans sV).trans sW).trans sX).trans sY
      have hb1 := hb1.same sZ
      have hb2 := hb2.same sZ
      have wZ := wQ.same sZ
      have SZ := SQ.exw (Same.exw sZ) wQ wZ
      have TsZ := TsQ.ext sZ
      clear SQ TsQ wQ sZ sY sX sW sV sRU st sRT sT sS sR hs1 hs2 hs3 hs4
      -- the bent ones are refused
      refine ⟨.ref a, rfl, .int r, rfl, .ref b1, rfl, .ref b2, rfl, a, c, b1, b2, r, _, _, rfl, wZ, r1, r64, hb1, hb2, ls_bk r1 r64 ok W1, ls_bk r1 r64 ok W2, ls_num r1 r64 ok W1, n1, n2, TsZ _ (List.mem_singleton.mpr rfl), fun Hf xf wf Tf => ⟨true, rfl, iteF ?_⟩⟩
      exact ⟨_, _, _, _, _, rfl, wf, SZ.exm xf wZ wf, fun p hp => by rw [List.mem_singleton.mp hp]; exact Tf⟩
    · rintro σ H4 ⟨y4, y5, y6, y7, y8, rfl, w4, _⟩
      exact q H4
end
end Kb

namespace Kb
open PySem PySem.Spec PyProof.Rows L2 LamX
/-- a def as the top has left it -/
def dn_of {K : PySem.W.Frag} {h : Heap} {mg : Str → Option Value} {nm : Str} {st : Stmt} {ps : List Str} {f : Addr} {oc : Value} {od an : Option Addr} {osl : Array (Option Value)} {kV doc pm cdv ct : Value} (X : K.In h) (G : h.Ns mainGlobals mg)
    (fa : PySem.W.nsIn K mainGlobals nm = some (some (.ref f))) (fl : K.lookup f = some ⟨oc, od, .func (PySem.W.fnOf nm nm (defArgs st) (defBody st) (defScope st) .none kV doc pm an cdv ct), osl⟩) (fc : PySem.W.codeIn K cdv nm = true) (fk : PySem.W.keepIn K (.ref f) = true)
    (fb : ∀ (kV doc pm : Value) (an : Option Addr) (cdv ct : Value) (us : List Value), us.length = ps.length → bindArgs (PySem.W.fnOf nm nm (defArgs st) (defBody st) (defScope st) .none kV doc pm an cdv ct) ⟨us, []⟩ = pure (ps.zip us)) : Dn K mg nm st ps :=
  ⟨f, _, fun_mk fl fc fk, PySem.W.mg_of X G fa, (fun_mk fl fc fk).binds fb⟩
def cst_of {K : PySem.W.Frag} {h : Heap} {mg : Str → Option Value} {nm : Str} {i : Int} {t : Tok} (X : K.In h) (G : h.Ns mainGlobals mg) (fa : PySem.W.nsIn K mainGlobals nm = some (some (.int i t))) : Cst mg nm (.int i) := ⟨_, PySem.W.mg_of X G fa, ⟨_, rfl⟩⟩
/-- the class as the top has left it -/
def tal_of {K : PySem.W.Frag} {h : Heap} {mg : Str → Option Value} {C fI fS fF fP fT : Addr} {odI anI odS anS odF anF odP anP odT anT : Option Addr} {slI slS slF slP slT : Array (Option Value)} {ocI kVI dcI pmI cdI ctI ocS kVS dcS pmS cdS ctS ocF kVF dcF pmF cdF ctF ocP kVP dcP pmP cdP ctP ocT kVT dcT pmT cdT ctT : Value} (X : K.In h) (G : h.Ns mainGlobals mg)
    (aCls : PySem.W.nsIn K mainGlobals "Tally" = some (some (.ref C)))
    (aI : PySem.W.findIn K (.ref C) "__init__" = some (some (.ref fI))) (iI : PySem.W.isFn K (.ref fI) = true) (lI : K.lookup fI = some ⟨ocI, odI, .func (PySem.W.fnOf "__init__" "Tally.__init__" (defArgs sTinit) (defBody sTinit) (defScope sTinit) .none kVI dcI pmI anI cdI ctI), slI⟩) (cI : PySem.W.codeIn K cdI "Tally.__init__" = true) (kI : PySem.W.keepIn K (.ref fI) = true)
    (aS : PySem.W.findIn K (.ref C) "sketch" = some (some (.ref fS))) (iS : PySem.W.isFn K (.ref fS) = true) (lS : K.lookup fS = some ⟨ocS, odS, .func (PySem.W.fnOf "sketch" "Tally.sketch" (defArgs sTsketch) (defBody sTsketch) (defScope sTsketch) .none kVS dcS pmS anS cdS ctS), slS⟩) (cS : PySem.W.codeIn K cdS "Tally.sketch" = true) (kS : PySem.W.keepIn K (.ref fS) = true)
    (aF : PySem.W.findIn K (.ref C) "gain" = some (some (.ref fF))) (iF : PySem.W.isFn K (.ref fF) = true) (lF : K.lookup fF = some ⟨ocF, odF, .func (PySem.W.fnOf "gain" "Tally.gain" (defArgs sTfeed) (defBody sTfeed) (defScope sTfeed) .none kVF dcF pmF anF cdF ctF), slF⟩) (cF : PySem.W.codeIn K cdF "Tally.gain" = true) (kF : PySem.W.keepIn K (.ref fF) = true)
    (aP : PySem.W.findIn K (.ref C) "pour" = some (some (.ref fP))) (iP : PySem.W.isFn K (.ref fP) = true) (lP : K.lookup fP = some ⟨ocP, odP, .func (PySem.W.fnOf "pour" "Tally.pour" (defArgs sTpour) (defBody sTpour) (defScope sTpour) .none kVP dcP pmP anP cdP ctP), slP⟩) (cP : PySem.W.codeIn K cdP "Tally.pour" = true) (kP : PySem.W.keepIn K (.ref fP) = true)
    (aT : PySem.W.findIn K (.ref C) "_take" = some (some (.ref fT))) (iT : PySem.W.isFn K (.ref fT) = true) (lT : K.lookup fT = some ⟨ocT, odT, .func (PySem.W.fnOf "_take" "Tally._take" (defArgs sTtake) (defBody sTtake) (defScope sTtake) .none kVT dcT pmT anT cdT ctT), slT⟩) (cT : PySem.W.codeIn K cdT "Tally._take" = true) (kT : PySem.W.keepIn K (.ref fT) = true)
    (pg : PySem.W.plainGet K C Str.empty = true) (hd : PySem.W.hasDictIn K C = true) (po : PySem.W.plainOver K C = true) (sa : PySem.W.findIn K (.ref C) "__setattr__" = some (some (.builtin "object.__setattr__"))) (mk : PySem.W.makesIn K C = true) (kc : PySem.W.keepIn K (.ref C) = true)
    (nR : PySem.W.findIn K (.ref C) "room" = some none) (nM : PySem.W.findIn K (.ref C) "seen" = some none) (nO : PySem.W.findIn K (.ref C) "off" = some none) (nC : PySem.W.findIn K (.ref C) "counts" = some none) : Tal K mg :=
  { C := C, fI := fI, fS := fS, fF := fF, fP := fP, fT := fT, dI := _, dS := _, dF := _, dP := _, dT := _, FI := fun_mk lI cI kI, FS := fun_mk lS cS kS, FF := fun_mk lF cF kF, FP := fun_mk lP cP kP, FT := fun_mk lT cT kT,
    bI := (fun_mk (st := sTinit) lI cI kI).binds fun _ _ _ _ _ _ us hl => match us, hl with | [_, _], _ => rfl, bS := (fun_mk (st := sTsketch) lS cS kS).binds fun _ _ _ _ _ _ us hl => match us, hl with | [_], _ => rfl, bF := (fun_mk (st := sTfeed) lF cF kF).binds fun _ _ _ _ _ _ us hl => match us, hl with | [_, _, _], _ => rfl, bP := (fun_mk (st := sTpour) lP cP kP).binds fun _ _ _ _ _ _ us hl => match us, hl with | [_, _], _ => rfl, bT := (fun_mk (st := sTtake) lT cT kT).binds fun _ _ _ _ _ _ us hl => match us, hl with | [_, _], _ => rfl,
    mI := ⟨mk, aI, iI, kc⟩, mS := ⟨aS, iS, kS⟩, mF := ⟨aF, iF, kF⟩, mP := ⟨aP, iP, kP⟩, mT := ⟨aT, iT, kT⟩, cl := ⟨pg, hd, po, sa⟩, nR := nR, nM := nM, nO := nO, nC := nC, g := PySem.W.mg_of X G aCls }
/-- the three classes as the top has left them -/
def txk_of {K : PySem.W.Frag} {h : Heap} {mg : Str → Option Value} {CB CR CO KE : Addr} (X : K.In h) (G : h.Ns mainGlobals mg)
    (B1 : PySem.W.nsIn K mainGlobals "NoBook" = some (some (.ref CB))) (B2 : PySem.W.excIn K CB [.type "ValueError", .type "Exception", .type "BaseException", .type "object"] "ValueError.__new__" = true) (B3 : PySem.W.keepIn K (.ref CB) = true) (B4 : PySem.W.subIn K (.ref CB) (.type "BaseException") = some true) (B5 : PySem.W.typeIn K (.ref CB) = some (.type "type")) (Bi1 : PySem.W.findIn K (.ref CB) "__getattribute__" = some (some (.builtin "BaseException.__getattribute__"))) (Bi2 : PySem.W.findIn K (.ref CB) "__getattr__" = some none) (Bi3 : PySem.W.hasDictIn K CB = true) (Bi4 : PySem.W.findIn K (.ref CB) "__class__" = some (some (.builtin "object.__class__"))) (Bi5 : PySem.W.specialIn K (.builtin "object.__class__") "__get__" = some (some (.builtin "getset_descriptor.__get__"))) (Bi6 : PySem.W.takesIn K (.builtin "object.__class__") = some true) (Bi7 : PySem.W.mroIn K CB (.type "object") = some true) (R1 : PySem.W.nsIn K mainGlobals "NoRoom" = some (some (.ref CR))) (R2 : PySem.W.excIn K CR [.type "ValueError", .type "Exception", .type "BaseException", .type "object"] "ValueError.__new__" = true) (R3 : PySem.W.keepIn K (.ref CR) = true) (R4 : PySem.W.subIn K (.ref CR) (.type "BaseException") = some true) (R5 : PySem.W.typeIn K (.ref CR) = some (.type "type")) (Ri1 : PySem.W.findIn K (.ref CR) "__getattribute__" = some (some (.builtin "BaseException.__getattribute__"))) (Ri2 : PySem.W.findIn K (.ref CR) "__getattr__" = some none) (Ri3 : PySem.W.hasDictIn K CR = true) (Ri4 : PySem.W.findIn K (.ref CR) "__class__" = some (some (.builtin "object.__class__"))) (Ri5 : PySem.W.specialIn K (.builtin "object.__class__") "__get__" = some (some (.builtin "getset_descriptor.__get__"))) (Ri6 : PySem.W.takesIn K (.builtin "object.__class__") = some true) (Ri7 : PySem.W.mroIn K CR (.type "object") = some true) (O1 : PySem.W.nsIn K mainGlobals "OtherRoom" = some (some (.ref CO))) (O2 : PySem.W.excIn K CO [.type "ValueError", .type "Exception", .type "BaseException", .type "object"] "ValueError.__new__" = true) (O3 : PySem.W.keepIn K (.ref CO) = true) (O4 : PySem.W.subIn K (.ref CO) (.type "BaseException") = some true) (O5 : PySem.W.typeIn K (.ref CO) = some (.type "type")) (Oi1 : PySem.W.findIn K (.ref CO) "__getattribute__" = some (some (.builtin "BaseException.__getattribute__"))) (Oi2 : PySem.W.findIn K (.ref CO) "__getattr__" = some none) (Oi3 : PySem.W.hasDictIn K CO = true) (Oi4 : PySem.W.findIn K (.ref CO) "__class__" = some (some (.builtin "object.__class__"))) (Oi5 : PySem.W.specialIn K (.builtin "object.__class__") "__get__" = some (some (.builtin "getset_descriptor.__get__"))) (Oi6 : PySem.W.takesIn K (.builtin "object.__class__") = some true) (Oi7 : PySem.W.mroIn K CO (.type "object") = some true) (gk : PySem.W.nsIn K mainGlobals "KnownError" = some (some (.ref KE))) (nVE : mg "ValueError" = none) (xB : PySem.W.exmOne K (.ref CB) (.ref KE) = some true) (xR : PySem.W.exmOne K (.ref CR) (.ref KE) = some true) (xO : PySem.W.exmOne K (.ref CO) (.ref KE) = some true) (kBB : PySem.W.kitOne K (.ref CB) (.ref CB) = some true) (kBR : PySem.W.kitOne K (.ref CB) (.ref CR) = some false) (kBO : PySem.W.kitOne K (.ref CB) (.ref CO) = some false) (kRB : PySem.W.kitOne K (.ref CR) (.ref CB) = some false) (kRR : PySem.W.kitOne K (.ref CR) (.ref CR) = some true) (kRO : PySem.W.kitOne K (.ref CR) (.ref CO) = some false) (kOB : PySem.W.kitOne K (.ref CO) (.ref CB) = some false) (kOR : PySem.W.kitOne K (.ref CO) (.ref CR) = some false) (kOO : PySem.W.kitOne K (.ref CO) (.ref CO) = some true) (kBV : PySem.W.kitOne K (.ref CB) (.type "ValueError") = some true) (kRV : PySem.W.kitOne K (.ref CR) (.type "ValueError") = some true) (kOV : PySem.W.kitOne K (.ref CO) (.type "ValueError") = some true) : TxK K mg :=
  ⟨⟨CB, PySem.W.mg_of X G B1, B2, B3, B4, B5, ⟨Bi1, Bi2, B4, Bi3, Bi4, Bi5, Bi6, Bi7⟩⟩, ⟨CR, PySem.W.mg_of X G R1, R2, R3, R4, R5, ⟨Ri1, Ri2, R4, Ri3, Ri4, Ri5, Ri6, Ri7⟩⟩, ⟨CO, PySem.W.mg_of X G O1, O2, O3, O4, O5, ⟨Oi1, Oi2, O4, Oi3, Oi4, Oi5, Oi6, Oi7⟩⟩, KE, PySem.W.mg_of X G gk, nVE, xB, xR, xO, kBB, kBR, kBO, kRB, kRR, kRO, kOB, kOR, kOO, kBV, kRV, kOV⟩
theorem law_end {l : PySem.W.OpenLaw} {w : World} {K : PySem.W.Frag} {h : Heap} {mg : Str → Option Value} {fa f : Addr} (X : K.In h) (G : h.Ns mainGlobals mg) (hfa : mg "law" = some (.ref fa))
    {od an : Option Addr} {osl : Array (Option Value)} {oc kV doc pm cdv ct : Value} {c P fR : Addr} {odR anR : Option Addr} {oslR : Array (Option Value)} {ocR kVR docR pmR ctR : Value}
    (a0 : PySem.W.nsIn K mainGlobals "law" = some (some (.ref f))) (l0 : K.lookup f = some ⟨oc, od, .func (PySem.W.fnOf "law" "law" (defArgs slaw) (defBody slaw) (defScope slaw) .none kV doc pm an cdv ct), osl⟩) (c0 : PySem.W.codeIn K cdv "law" = true) (k0 : PySem.W.keepIn K (.ref f) = true)
    (aR : PySem.W.nsIn K mainGlobals "_law_refused_right" = some (some (.ref fR))) (lR : K.lookup fR = some ⟨ocR, odR, .func (PySem.W.fnOf "_law_refused_right" "_law_refused_right" (defArgs srefused_right) (defBody srefused_right) (defScope srefused_right) .none kVR docR pmR anR (.ref c) ctR), oslR⟩) (cR : PySem.W.codeIn K (.ref c) "_law_refused_right" = true) (kR : PySem.W.keepIn K (.ref fR) = true)
    (hT : h.get? P = some { cls := .none, data := .fields #[] }) (nT : K.lookup P = none) (hC : PySem.W.codeHdIn K c P = true) (S : TxK K mg)
    (T : Blt mg) (n_zip : mg "zip" = none) (n_set : mg "set" = none) (cM : Cst mg "MOST_ROOM" (.int 64)) (cL : Cst mg "LONGEST_NAME" (.int 8)) (cMM : Cst mg "MOST_MACHINES" (.int 9)) (L : Tal K mg) (dP_is_int : DnIsInt K mg) (dP_is_number : DnIsNumber K mg) (dP_is_room : DnIsRoom K mg) (dP_is_name : DnIsName K mg) (dP_is_counted : DnIsCounted K mg) (dP_are_counts : DnAreCounts K mg) (dP_lost_of : DnLostOf K mg) (dP_is_sketch : DnIsSketch K mg) (dP_bare : DnBare K mg) (dP_is_triple : DnIsTriple K mg) (dP_is_book : DnIsBook K mg) (dP_joined_books : DnJoinedBooks K mg) (dP_whole : DnWhole K mg) (dpot : Dnpot K mg) (ddraw : Dndraw K mg) (dany : Dnany K mg) (dis : Dnis K mg) (dfed : Dnfed K mg) (dof : Dnof K mg) (dpoured : Dnpoured K mg) (dnames : Dnnames K mg) (dstreams : Dnstreams K mg) (dbook : Dnbook K mg) (djoined : Dnjoined K mg) (dwhole : Dnwhole K mg) (dis_int : Dnis_int K mg) (dis_name : Dnis_name K mg) (dis_sketch : Dnis_sketch K mg) (dis_book : Dnis_book K mg) (ddeep : Dndeep K mg) (dbent_sketch : Dnbent_sketch K mg) (dbent : Dnbent K mg) (dword : Dnword K mg) (dflag : Dnflag K mg) :
    LamX.LawAtS l w K CX0 15 63 "_law_script" mg fa h := by
  have e := hfa.symm.trans (PySem.W.mg_of X G a0)
  cases e
  refine ⟨PySem.W.fnOf "law" "law" (defArgs slaw) (defBody slaw) (defScope slaw) .none kV doc pm an cdv ct, [(c, P)], spLaw K P, fun p hp => ?_, fun p hp => ?_, fun p hp => ?_, fun s v => .of_eq rfl, fun H a ns hl _ hH hS => ⟨a, ns, rfl, hS, hl, TabS.nil (hH (c, P) List.mem_cons_self), fun _ => rfl⟩, fun base _ _ tb => ?_⟩
  · rw [List.mem_singleton.mp hp]
    exact hT
  · rw [List.mem_singleton.mp hp]
    exact nT
  · rw [List.mem_singleton.mp hp]
    exact PySem.W.codeHd_of_K X hC
  exact ok_law (base := base) { T := T, n_zip := n_zip, n_set := n_set, cM := cM, cL := cL, cMM := cMM, L := L, S := S, Rf := ⟨dn_of X G aR lR cR kR (fun _ _ _ _ _ _ us hl => match us, hl with | [_, _, _, _], _ => rfl), c, P, rfl, tb (c, P) List.mem_cons_self⟩, dP_is_int := dP_is_int, dP_is_number := dP_is_number, dP_is_room := dP_is_room, dP_is_name := dP_is_name, dP_is_counted := dP_is_counted, dP_are_counts := dP_are_counts, dP_lost_of := dP_lost_of, dP_is_sketch := dP_is_sketch, dP_bare := dP_bare, dP_is_triple := dP_is_triple, dP_is_book := dP_is_book, dP_joined_books := dP_joined_books, dP_whole := dP_whole, dpot := dpot, ddraw := ddraw, dany := dany, dis := dis, dfed := dfed, dof := dof, dpoured := dpoured, dnames := dnames, dstreams := dstreams, dbook := dbook, djoined := djoined, dwhole := dwhole, dis_int := dis_int, dis_name := dis_name, dis_sketch := dis_sketch, dis_book := dis_book, ddeep := ddeep, dbent_sketch := dbent_sketch, dbent := dbent, dword := dword, dflag := dflag }
    ⟨_, _, fun_mk l0 c0 k0, PySem.W.mg_of X G a0, (fun_mk l0 c0 k0).binds fun _ _ _ _ _ _ us hl => match us, hl with | [_], _ => rfl⟩
end Kb
open PySem PySem.W PyProof.Rows
theorem PySem.Challenge.cw_knownends_k50_books_joined_and_poured_holds : PySem.Challenge.rw_knownends_k50_books_joined_and_poured.Holds := by
  w_on; o_law; k_head; (case hw => w_witness2)
  k_fill
  refine LamX.walk_ofTs (l := PySem.Challenge.rw_knownends_k50_books_joined_and_poured) (n := 63) (k := 15) (x := "_law_script") (CX := fun _ => L2.CX0) rfl (by decide) rfl ⟨rfl, by decide, by decide⟩ (fun w h Y => PySem.W.km_in_of Y) ?F (fun _ _ _ _ _ h => h)
  case F =>
    intro w mg fa h Y KX G hmg
    have hT8 := PySem.W.km_tabs_of Y
    refine' Kb.law_end (P := 332) KX G hmg ?a0 ?l0 ?c0 ?k0 ?aR ?lR ?cR ?kR (hT8 _ ?hT) ?nT ?hC ?S ?T ?n_zip ?n_set ?cM ?cL ?cMM ?L ?dP_is_int ?dP_is_number ?dP_is_room ?dP_is_name ?dP_is_counted ?dP_are_counts ?dP_lost_of ?dP_is_sketch ?dP_bare ?dP_is_triple ?dP_is_book ?dP_joined_books ?dP_whole ?dpot ?ddraw ?dany ?dis ?dfed ?dof ?dpoured ?dnames ?dstreams ?dbook ?djoined ?dwhole ?dis_int ?dis_name ?dis_sketch ?dis_book ?ddeep ?dbent_sketch ?dbent ?dword ?dflag
    (case a0 => k_is); (case l0 => k_is); (case c0 => k_is); (case k0 => k_is)
    (case aR => k_is); (case lR => k_is); (case cR => k_is); (case kR => k_is); (case hT => simp); (case nT => kernel_rfl); (case hC => kernel_rfl)
    (case S =>
      refine' Kb.txk_of KX G ?B1 ?B2 ?B3 ?B4 ?B5 ?Bi1 ?Bi2 ?Bi3 ?Bi4 ?Bi5 ?Bi6 ?Bi7 ?R1 ?R2 ?R3 ?R4 ?R5 ?Ri1 ?Ri2 ?Ri3 ?Ri4 ?Ri5 ?Ri6 ?Ri7 ?O1 ?O2 ?O3 ?O4 ?O5 ?Oi1 ?Oi2 ?Oi3 ?Oi4 ?Oi5 ?Oi6 ?Oi7 ?gk ?nVE ?xB ?xR ?xO ?kBB ?kBR ?kBO ?kRB ?kRR ?kRO ?kOB ?kOR ?kOO ?kBV ?kRV ?kOV
      (case B1 => k_is); (case B2 => first | k_exc | kernel_rfl); (case B3 => k_is); (case B4 => k_is); (case B5 => k_is); (case Bi1 => k_is); (case Bi2 => k_is); (case Bi3 => k_is); (case Bi4 => k_is); (case Bi5 => k_is); (case Bi6 => k_is); (case Bi7 => k_is); (case R1 => k_is); (case R2 => first | k_exc | kernel_rfl); (case R3 => k_is); (case R4 => k_is); (case R5 => k_is); (case Ri1 => k_is); (case Ri2 => k_is); (case Ri3 => k_is); (case Ri4 => k_is); (case Ri5 => k_is); (case Ri6 => k_is); (case Ri7 => k_is); (case O1 => k_is); (case O2 => first | k_exc | kernel_rfl); (case O3 => k_is); (case O4 => k_is); (case O5 => k_is); (case Oi1 => k_is); (case Oi2 => k_is); (case Oi3 => k_is); (case Oi4 => k_is); (case Oi5 => k_is); (case Oi6 => k_is); (case Oi7 => k_is); (case gk => k_is); (case nVE => exact PySem.W.mg_none_of KX G (by k_is)); (case xB => first | rfl | k_is); (case xR => first | rfl | k_is); (case xO => first | rfl | k_is); (case kBB => first | rfl | k_is); (case kBR => first | rfl | k_is); (case kBO => first | rfl | k_is); (case kRB => first | rfl | k_is); (case kRR => first | rfl | k_is); (case kRO => first | rfl | k_is); (case kOB => first | rfl | k_is); (case kOR => first | rfl | k_is); (case kOO => first | rfl | k_is); (case kBV => first | rfl | k_is); (case kRV => first | rfl | k_is); (case kOV => first | rfl | k_is))
    (case T => exact ⟨PySem.W.mg_none_of KX G (by k_is), PySem.W.mg_none_of KX G (by k_is), PySem.W.mg_none_of KX G (by k_is), PySem.W.mg_none_of KX G (by k_is), PySem.W.mg_none_of KX G (by k_is), PySem.W.mg_none_of KX G (by k_is), PySem.W.mg_none_of KX G (by k_is), PySem.W.mg_none_of KX G (by k_is), PySem.W.mg_none_of KX G (by k_is), PySem.W.mg_none_of KX G (by k_is), PySem.W.mg_none_of KX G (by k_is), PySem.W.mg_none_of KX G (by k_is), PySem.W.mg_none_of KX G (by k_is), PySem.W.mg_none_of KX G (by k_is)⟩)
    (case n_zip => exact PySem.W.mg_none_of KX G (by k_is))
    (case n_set => exact PySem.W.mg_none_of KX G (by k_is))
    (case cM => refine' Kb.cst_of KX G ?a_cM; (case a_cM => k_is))
    (case cL => refine' Kb.cst_of KX G ?a_cL; (case a_cL => k_is))
    (case cMM => refine' Kb.cst_of KX G ?a_cMM; (case a_cMM => k_is))
    (case L =>
      refine' Kb.tal_of KX G ?tL_aCls ?tL_aI ?tL_iI ?tL_lI ?tL_cI ?tL_kI ?tL_aS ?tL_iS ?tL_lS ?tL_cS ?tL_kS ?tL_aF ?tL_iF ?tL_lF ?tL_cF ?tL_kF ?tL_aP ?tL_iP ?tL_lP ?tL_cP ?tL_kP ?tL_aT ?tL_iT ?tL_lT ?tL_cT ?tL_kT ?tL_pg ?tL_hd ?tL_po ?tL_sa ?tL_mk ?tL_kc ?tL_nR ?tL_nM ?tL_nO ?tL_nC
      (case tL_aCls => k_is); (case tL_aI => k_is); (case tL_iI => k_is); (case tL_lI => k_is); (case tL_cI => k_is); (case tL_kI => k_is); (case tL_aS => k_is); (case tL_iS => k_is); (case tL_lS => k_is); (case tL_cS => k_is); (case tL_kS => k_is); (case tL_aF => k_is); (case tL_iF => k_is); (case tL_lF => k_is); (case tL_cF => k_is); (case tL_kF => k_is); (case tL_aP => k_is); (case tL_iP => k_is); (case tL_lP => k_is); (case tL_cP => k_is); (case tL_kP => k_is); (case tL_aT => k_is); (case tL_iT => k_is); (case tL_lT => k_is); (case tL_cT => k_is); (case tL_kT => k_is); (case tL_pg => k_is); (case tL_hd => k_is); (case tL_po => k_is); (case tL_sa => k_is); (case tL_mk => k_is); (case tL_kc => k_is); (case tL_nR => k_is); (case tL_nM => k_is); (case tL_nO => k_is); (case tL_nC => k_is))
    (case dP_is_int => refine' Kb.dn_of KX G ?a_dP_is_int ?l_dP_is_int ?c_dP_is_int ?k_dP_is_int ?b_dP_is_int; (case a_dP_is_int => k_is); (case l_dP_is_int => k_is); (case c_dP_is_int => k_is); (case k_dP_is_int => k_is); (case b_dP_is_int => exact fun _ _ _ _ _ _ us hl => match us, hl with | [_], _ => rfl))
    (case dP_is_number => refine' Kb.dn_of KX G ?a_dP_is_number ?l_dP_is_number ?c_dP_is_number ?k_dP_is_number ?b_dP_is_number; (case a_dP_is_number => k_is); (case l_dP_is_number => k_is); (case c_dP_is_number => k_is); (case k_dP_is_number => k_is); (case b_dP_is_number => exact fun _ _ _ _ _ _ us hl => match us, hl with | [_], _ => rfl))
    (case dP_is_room => refine' Kb.dn_of KX G ?a_dP_is_room ?l_dP_is_room ?c_dP_is_room ?k_dP_is_room ?b_dP_is_room; (case a_dP_is_room => k_is); (case l_dP_is_room => k_is); (case c_dP_is_room => k_is); (case k_dP_is_room => k_is); (case b_dP_is_room => exact fun _ _ _ _ _ _ us hl => match us, hl with | [_], _ => rfl))
    (case dP_is_name => refine' Kb.dn_of KX G ?a_dP_is_name ?l_dP_is_name ?c_dP_is_name ?k_dP_is_name ?b_dP_is_name; (case a_dP_is_name => k_is); (case l_dP_is_name => k_is); (case c_dP_is_name => k_is); (case k_dP_is_name => k_is); (case b_dP_is_name => exact fun _ _ _ _ _ _ us hl => match us, hl with | [_], _ => rfl))
    (case dP_is_counted => refine' Kb.dn_of KX G ?a_dP_is_counted ?l_dP_is_counted ?c_dP_is_counted ?k_dP_is_counted ?b_dP_is_counted; (case a_dP_is_counted => k_is); (case l_dP_is_counted => k_is); (case c_dP_is_counted => k_is); (case k_dP_is_counted => k_is); (case b_dP_is_counted => exact fun _ _ _ _ _ _ us hl => match us, hl with | [_], _ => rfl))
    (case dP_are_counts => refine' Kb.dn_of KX G ?a_dP_are_counts ?l_dP_are_counts ?c_dP_are_counts ?k_dP_are_counts ?b_dP_are_counts; (case a_dP_are_counts => k_is); (case l_dP_are_counts => k_is); (case c_dP_are_counts => k_is); (case k_dP_are_counts => k_is); (case b_dP_are_counts => exact fun _ _ _ _ _ _ us hl => match us, hl with | [_], _ => rfl))
    (case dP_lost_of => refine' Kb.dn_of KX G ?a_dP_lost_of ?l_dP_lost_of ?c_dP_lost_of ?k_dP_lost_of ?b_dP_lost_of; (case a_dP_lost_of => k_is); (case l_dP_lost_of => k_is); (case c_dP_lost_of => k_is); (case k_dP_lost_of => k_is); (case b_dP_lost_of => exact fun _ _ _ _ _ _ us hl => match us, hl with | [_], _ => rfl))
    (case dP_is_sketch => refine' Kb.dn_of KX G ?a_dP_is_sketch ?l_dP_is_sketch ?c_dP_is_sketch ?k_dP_is_sketch ?b_dP_is_sketch; (case a_dP_is_sketch => k_is); (case l_dP_is_sketch => k_is); (case c_dP_is_sketch => k_is); (case k_dP_is_sketch => k_is); (case b_dP_is_sketch => exact fun _ _ _ _ _ _ us hl => match us, hl with | [_], _ => rfl))
    (case dP_bare => refine' Kb.dn_of KX G ?a_dP_bare ?l_dP_bare ?c_dP_bare ?k_dP_bare ?b_dP_bare; (case a_dP_bare => k_is); (case l_dP_bare => k_is); (case c_dP_bare => k_is); (case k_dP_bare => k_is); (case b_dP_bare => exact fun _ _ _ _ _ _ us hl => match us, hl with | [_], _ => rfl))
    (case dP_is_triple => refine' Kb.dn_of KX G ?a_dP_is_triple ?l_dP_is_triple ?c_dP_is_triple ?k_dP_is_triple ?b_dP_is_triple; (case a_dP_is_triple => k_is); (case l_dP_is_triple => k_is); (case c_dP_is_triple => k_is); (case k_dP_is_triple => k_is); (case b_dP_is_triple => exact fun _ _ _ _ _ _ us hl => match us, hl with | [_], _ => rfl))
    (case dP_is_book => refine' Kb.dn_of KX G ?a_dP_is_book ?l_dP_is_book ?c_dP_is_book ?k_dP_is_book ?b_dP_is_book; (case a_dP_is_book => k_is); (case l_dP_is_book => k_is); (case c_dP_is_book => k_is); (case k_dP_is_book => k_is); (case b_dP_is_book => exact fun _ _ _ _ _ _ us hl => match us, hl with | [_], _ => rfl))
    (case dP_joined_books => refine' Kb.dn_of KX G ?a_dP_joined_books ?l_dP_joined_books ?c_dP_joined_books ?k_dP_joined_books ?b_dP_joined_books; (case a_dP_joined_books => k_is); (case l_dP_joined_books => k_is); (case c_dP_joined_books => k_is); (case k_dP_joined_books => k_is); (case b_dP_joined_books => exact fun _ _ _ _ _ _ us hl => match us, hl with | [_, _], _ => rfl))
    (case dP_whole => refine' Kb.dn_of KX G ?a_dP_whole ?l_dP_whole ?c_dP_whole ?k_dP_whole ?b_dP_whole; (case a_dP_whole => k_is); (case l_dP_whole => k_is); (case c_dP_whole => k_is); (case k_dP_whole => k_is); (case b_dP_whole => exact fun _ _ _ _ _ _ us hl => match us, hl with | [_, _], _ => rfl))
    (case dpot => refine' Kb.dn_of KX G ?a_dpot ?l_dpot ?c_dpot ?k_dpot ?b_dpot; (case a_dpot => k_is); (case l_dpot => k_is); (case c_dpot => k_is); (case k_dpot => k_is); (case b_dpot => exact fun _ _ _ _ _ _ us hl => match us, hl with | [_], _ => rfl))
    (case ddraw => refine' Kb.dn_of KX G ?a_ddraw ?l_ddraw ?c_ddraw ?k_ddraw ?b_ddraw; (case a_ddraw => k_is); (case l_ddraw => k_is); (case c_ddraw => k_is); (case k_ddraw => k_is); (case b_ddraw => exact fun _ _ _ _ _ _ us hl => match us, hl with | [_, _], _ => rfl))
    (case dany => refine' Kb.dn_of KX G ?a_dany ?l_dany ?c_dany ?k_dany ?b_dany; (case a_dany => k_is); (case l_dany => k_is); (case c_dany => k_is); (case k_dany => k_is); (case b_dany => exact fun _ _ _ _ _ _ us hl => match us, hl with | [_, _], _ => rfl))
    (case dis => refine' Kb.dn_of KX G ?a_dis ?l_dis ?c_dis ?k_dis ?b_dis; (case a_dis => k_is); (case l_dis => k_is); (case c_dis => k_is); (case k_dis => k_is); (case b_dis => exact fun _ _ _ _ _ _ us hl => match us, hl with | [_, _], _ => rfl))
    (case dfed => refine' Kb.dn_of KX G ?a_dfed ?l_dfed ?c_dfed ?k_dfed ?b_dfed; (case a_dfed => k_is); (case l_dfed => k_is); (case c_dfed => k_is); (case k_dfed => k_is); (case b_dfed => exact fun _ _ _ _ _ _ us hl => match us, hl with | [_, _], _ => rfl))
    (case dof => refine' Kb.dn_of KX G ?a_dof ?l_dof ?c_dof ?k_dof ?b_dof; (case a_dof => k_is); (case l_dof => k_is); (case c_dof => k_is); (case k_dof => k_is); (case b_dof => exact fun _ _ _ _ _ _ us hl => match us, hl with | [_, _], _ => rfl))
    (case dpoured => refine' Kb.dn_of KX G ?a_dpoured ?l_dpoured ?c_dpoured ?k_dpoured ?b_dpoured; (case a_dpoured => k_is); (case l_dpoured => k_is); (case c_dpoured => k_is); (case k_dpoured => k_is); (case b_dpoured => exact fun _ _ _ _ _ _ us hl => match us, hl with | [_, _], _ => rfl))
    (case dnames => refine' Kb.dn_of KX G ?a_dnames ?l_dnames ?c_dnames ?k_dnames ?b_dnames; (case a_dnames => k_is); (case l_dnames => k_is); (case c_dnames => k_is); (case k_dnames => k_is); (case b_dnames => exact fun _ _ _ _ _ _ us hl => match us, hl with | [_], _ => rfl))
    (case dstreams => refine' Kb.dn_of KX G ?a_dstreams ?l_dstreams ?c_dstreams ?k_dstreams ?b_dstreams; (case a_dstreams => k_is); (case l_dstreams => k_is); (case c_dstreams => k_is); (case k_dstreams => k_is); (case b_dstreams => exact fun _ _ _ _ _ _ us hl => match us, hl with | [_, _], _ => rfl))
    (case dbook => refine' Kb.dn_of KX G ?a_dbook ?l_dbook ?c_dbook ?k_dbook ?b_dbook; (case a_dbook => k_is); (case l_dbook => k_is); (case c_dbook => k_is); (case k_dbook => k_is); (case b_dbook => exact fun _ _ _ _ _ _ us hl => match us, hl with | [_, _], _ => rfl))
    (case djoined => refine' Kb.dn_of KX G ?a_djoined ?l_djoined ?c_djoined ?k_djoined ?b_djoined; (case a_djoined => k_is); (case l_djoined => k_is); (case c_djoined => k_is); (case k_djoined => k_is); (case b_djoined => exact fun _ _ _ _ _ _ us hl => match us, hl with | [_, _], _ => rfl))
    (case dwhole => refine' Kb.dn_of KX G ?a_dwhole ?l_dwhole ?c_dwhole ?k_dwhole ?b_dwhole; (case a_dwhole => k_is); (case l_dwhole => k_is); (case c_dwhole => k_is); (case k_dwhole => k_is); (case b_dwhole => exact fun _ _ _ _ _ _ us hl => match us, hl with | [_, _], _ => rfl))
    (case dis_int => refine' Kb.dn_of KX G ?a_dis_int ?l_dis_int ?c_dis_int ?k_dis_int ?b_dis_int; (case a_dis_int => k_is); (case l_dis_int => k_is); (case c_dis_int => k_is); (case k_dis_int => k_is); (case b_dis_int => exact fun _ _ _ _ _ _ us hl => match us, hl with | [_, _], _ => rfl))
    (case dis_name => refine' Kb.dn_of KX G ?a_dis_name ?l_dis_name ?c_dis_name ?k_dis_name ?b_dis_name; (case a_dis_name => k_is); (case l_dis_name => k_is); (case c_dis_name => k_is); (case k_dis_name => k_is); (case b_dis_name => exact fun _ _ _ _ _ _ us hl => match us, hl with | [_], _ => rfl))
    (case dis_sketch => refine' Kb.dn_of KX G ?a_dis_sketch ?l_dis_sketch ?c_dis_sketch ?k_dis_sketch ?b_dis_sketch; (case a_dis_sketch => k_is); (case l_dis_sketch => k_is); (case c_dis_sketch => k_is); (case k_dis_sketch => k_is); (case b_dis_sketch => exact fun _ _ _ _ _ _ us hl => match us, hl with | [_], _ => rfl))
    (case dis_book => refine' Kb.dn_of KX G ?a_dis_book ?l_dis_book ?c_dis_book ?k_dis_book ?b_dis_book; (case a_dis_book => k_is); (case l_dis_book => k_is); (case c_dis_book => k_is); (case k_dis_book => k_is); (case b_dis_book => exact fun _ _ _ _ _ _ us hl => match us, hl with | [_], _ => rfl))
    (case ddeep => refine' Kb.dn_of KX G ?a_ddeep ?l_ddeep ?c_ddeep ?k_ddeep ?b_ddeep; (case a_ddeep => k_is); (case l_ddeep => k_is); (case c_ddeep => k_is); (case k_ddeep => k_is); (case b_ddeep => exact fun _ _ _ _ _ _ us hl => match us, hl with | [_], _ => rfl))
    (case dbent_sketch => refine' Kb.dn_of KX G ?a_dbent_sketch ?l_dbent_sketch ?c_dbent_sketch ?k_dbent_sketch ?b_dbent_sketch; (case a_dbent_sketch => k_is); (case l_dbent_sketch => k_is); (case c_dbent_sketch => k_is); (case k_dbent_sketch => k_is); (case b_dbent_sketch => exact fun _ _ _ _ _ _ us hl => match us, hl with | [_, _], _ => rfl))
    (case dbent => refine' Kb.dn_of KX G ?a_dbent ?l_dbent ?c_dbent ?k_dbent ?b_dbent; (case a_dbent => k_is); (case l_dbent => k_is); (case c_dbent => k_is); (case k_dbent => k_is); (case b_dbent => exact fun _ _ _ _ _ _ us hl => match us, hl with | [_, _], _ => rfl))
    (case dword => refine' Kb.dn_of KX G ?a_dword ?l_dword ?c_dword ?k_dword ?b_dword; (case a_dword => k_is); (case l_dword => k_is); (case c_dword => k_is); (case k_dword => k_is); (case b_dword => exact fun _ _ _ _ _ _ us hl => match us, hl with | [_], _ => rfl))
    (case dflag => refine' Kb.dn_of KX G ?a_dflag ?l_dflag ?c_dflag ?k_dflag ?b_dflag; (case a_dflag => k_is); (case l_dflag => k_is); (case c_dflag => k_is); (case k_dflag => k_is); (case b_dflag => exact fun _ _ _ _ _ _ us hl => match us, hl with | [_, _], _ => rfl))

