import PyProof.Rows.All
import HandS.ForMost
import HandS.ForExc
import HandS.SortKw
import HandS.SortRule
import HandS.DictTup
import HandS.DictComp
import HandS.ListItems
import HandS.Conv
import HandS.IsInst
import HandS.Codes
import HandS.Walk
import HandS.Style
import KE.KDictSum
import KE.KSortTupAny
import KE.KDictPairs
import HandS.ExcValue
import HandS.TupLe
import HandS.TupAny
import HandS.Wide
import HandS.SetFor
import PyProof.Rows.CountFlat
import HandS.List
import PyProof.EqKinds
import PyProof.EqAt
import HandS.ExcField
import HandS.ExcInit
import PyProof.NeData
import PySem.Challenge.RW_knownends_k14_rings_and_sums_refused
import HandS.CallLocal
import HandS.NoneIn
import HandS.ExcIs
import HandS.StrMore
import HandS.TryMany
import HandS.TupMul
import KE.KRevSl
set_option Elab.async false
set_option linter.all false
set_option maxRecDepth 100000
set_option maxHeartbeats 0
/-! own rules: sorted of pairs (text, int), of views -/
namespace SrtZ
open PySem PyProof.Rows Srt SrtO PySem.W
abbrev ltZ (x y : Str) : Bool := decide (x.cps.toList < y.cps.toList)
theorem str_of {x y : Str} (h : x.cps.toList = y.cps.toList) : x = y := by
  cases x; cases y
  simp at h
  rw [h]
theorem ltZ_irr (x : Str) : ltZ x x = false := decide_eq_false (List.lt_irrefl _)
theorem ltZ_asym {x y : Str} (h : ltZ x y = true) : ltZ y x = false := decide_eq_false (List.lt_asymm (of_decide_eq_true h))
theorem ltZ_trans {x y z : Str} (h : ltZ x y = true) (k : ltZ y z = true) : ltZ x z = true := decide_eq_true (List.lt_trans (of_decide_eq_true h) (of_decide_eq_true k))
theorem ltZ_tri {x y : Str} (h : ltZ x y = false) (k : ltZ y x = false) : x = y :=
  str_of (List.le_antisymm (List.not_lt.mp (of_decide_eq_false k)) (List.not_lt.mp (of_decide_eq_false h)))
def lexZ (p q : Str × Int) : Bool := if p.1 = q.1 then decide (p.2 < q.2) else ltZ p.1 q.1
theorem lexZ_eq {p q : Str × Int} (e : p.1 = q.1) : lexZ p q = decide (p.2 < q.2) := if_pos e
theorem lexZ_ne {p q : Str × Int} (e : ¬ p.1 = q.1) : lexZ p q = ltZ p.1 q.1 := if_neg e
theorem swo_Z : Swo lexZ := by
  refine ⟨fun x y h => ?_, fun x y z h1 h2 => ?_⟩
  · by_cases e : x.1 = y.1
    · rw [lexZ_eq e, decide_eq_true_eq] at h
      rw [lexZ_eq e.symm]
      exact decide_eq_false (by omega)
    · rw [lexZ_ne e] at h
      rw [lexZ_ne (fun z => e z.symm)]
      exact ltZ_asym h
  · by_cases e : x.1 = y.1
    · rw [lexZ_eq e.symm, decide_eq_false_iff_not] at h1
      by_cases f : y.1 = z.1
      · rw [lexZ_eq f.symm, decide_eq_false_iff_not] at h2
        rw [lexZ_eq (e.trans f).symm]
        exact decide_eq_false (by omega)
      · rw [lexZ_ne (fun q => f q.symm)] at h2
        rw [lexZ_ne (fun q => f (e.symm.trans q.symm)), e]
        exact h2
    · rw [lexZ_ne (fun q => e q.symm)] at h1
      by_cases f : y.1 = z.1
      · rw [lexZ_ne (fun q => e (q.symm.trans f.symm)), ← f]
        exact h1
      · rw [lexZ_ne (fun q => f q.symm)] at h2
        have g1 : ltZ x.1 y.1 = true := by
          rcases bcase (ltZ x.1 y.1) with q | q
          · exact q
          · exact absurd (ltZ_tri q h1) e
        have g2 : ltZ y.1 z.1 = true := by
          rcases bcase (ltZ y.1 z.1) with q | q
          · exact q
          · exact absurd (ltZ_tri q h2) f
        have g := ltZ_trans g1 g2
        have ne : ¬ z.1 = x.1 := fun q => by
          rw [q, ltZ_irr] at g
          cases g
        rw [lexZ_ne ne]
        exact ltZ_asym g
/-- a tuple (text, int) -/
def IsPZ (h : Heap) (v : Value) (p : Str × Int) : Prop := ∃ a o t u n, v = .ref a ∧ h.get? a = some o ∧ o.cls = .type "tuple" ∧ o.data = .seq #[.str p.1 t, .int p.2 u] n
theorem IsPZ.keeps {h h' : Heap} {v : Value} {p : Str × Int} (x : IsPZ h v p) (k : ∀ b o, h.get? b = some o → o.cls = .type "tuple" → h'.get? b = some o) : IsPZ h' v p := by
  obtain ⟨a, o, t, u, n, e, ho, hc, hd⟩ := x
  exact ⟨a, o, t, u, n, e, k _ _ ho hc, hc, hd⟩
section
variable {prog : Program} {w : World} {A : Around} {E : Value → Shared → Prop} {s : Shared}
theorem firstsZ {h : Heap} : ∀ {vs : List Value}, (∀ v ∈ vs, ∃ p, IsPZ h v p) → ∃ fs : List Value, KatTups h vs fs ∧ fs.length = vs.length ∧ ∀ f ∈ fs, ∃ x t, f = Value.str x t
  | [], _ => ⟨[], KatTups.nil, rfl, fun _ hm => by simp at hm⟩
  | v :: vs, hp => by
    obtain ⟨fs, h1, h2, h3⟩ := firstsZ (vs := vs) fun v' hm => hp v' (List.mem_cons_of_mem _ hm)
    obtain ⟨p, a, o, t, u, n, e, ho, hc, hd⟩ := hp v List.mem_cons_self
    subst e
    refine ⟨.str p.1 t :: fs, KatTups.cons ho hc hd rfl h1, by rw [List.length_cons, List.length_cons, h2], fun f hm => ?_⟩
    rcases List.mem_cons.mp hm with rfl | hm
    · exact ⟨_, t, rfl⟩
    · exact h3 f hm
theorem pairZ_cmp {vs : List Value} {k : Value → Str × Int} (hp : ∀ v ∈ vs, IsPZ s.heap v (k v)) : Cmp prog w A s (tuples' true) (fun p => p.1 ∈ vs) (lt2 fun v u => lexZ (k v) (k u)) := by
  intro p q hm hm'
  have h1 := hp _ hm
  have h2 := hp _ hm'
  show wpAny (model prog w) A (keyLt' (tuples' true) p.1 q.1) (fun r s' => s' = s ∧ r = lexZ (k p.1) (k q.1)) (fun _ _ => False) s
  generalize k p.1 = x at h1 ⊢
  generalize k q.1 = y at h2 ⊢
  obtain ⟨a, o, t, u, n, e, ho, hc, hd⟩ := h1
  obtain ⟨a', o', t', u', n', e', ho', hc', hd'⟩ := h2
  rw [e, e']
  refine kat_lt ho hd ho' hd' ?_
  show KatLex prog w A true (decide (2 < 2)) _ [(.str x.1 t, .str y.1 t'), (.int x.2 u, .int y.2 u')] 0 s
  refine kat_cons (wpAny_eqBool_str ?_)
  refine kat_go (fun e1 => ?_) (fun e1 => ?_)
  · have ex : x.1 = y.1 := of_decide_eq_true e1
    refine kat_yes (kat_cons (wpAny_eqBool_int ?_))
    refine kat_go (fun e2 => ?_) (fun e2 => ?_)
    · have ey : x.2 = y.2 := by simpa using e2
      refine kat_yes (kat_nil ⟨rfl, ?_⟩)
      rw [lexZ_eq ex, ey]
      exact (decide_eq_false (Int.lt_irrefl _)).symm
    · exact kat_no (oneLt_any_int ⟨rfl, (lexZ_eq ex).symm⟩)
  · have ex : ¬ x.1 = y.1 := of_decide_eq_false e1
    exact kat_no (oneLt_any_str ⟨rfl, (lexZ_ne ex).symm⟩)
theorem pairsZ_sortable {a : Addr} {vs : List Value} {k : Value → Str × Int} (h0 : 0 < vs.length) (hp : ∀ v ∈ vs, IsPZ s.heap v (k v)) (ha : ∀ o, s.heap.get? a = some o → o.cls ≠ .type "tuple") : SortableO prog w A s a vs fun v u => lexZ (k v) (k u) := by
  intro h' keep
  have hp' : ∀ v ∈ vs, IsPZ h' v (k v) := fun v hm => (hp v hm).keeps fun b o e c => keep b o (fun z => by subst z; exact ha o e c) e
  obtain ⟨fs, h1, h2, h3⟩ := firstsZ fun v hm => ⟨_, hp' v hm⟩
  refine ⟨tuples' true, fun Q E hq => ?_, pairZ_cmp hp'⟩
  refine kat_kind (T := .type "str") h1 (by omega) (fun f hm => ?_) (by rfl) ?_
  · obtain ⟨x, t, rfl⟩ := h3 f hm
    exact Looks.now
  · have e : (Value.type "str" != Value.type "tuple") = true := by first | decide +kernel | rfl | decide
    rw [e]
    exact hq
theorem plain_rev (a : Addr) : Builtin.«list.sort» ⟨[.ref a], []⟩ = Builtin.«list.sort» ⟨[.ref a], [(Str.ofString "reverse", .bool false)]⟩ := by
  rw [list_sort_rev]
  first | rfl | kernel_rfl
/-- sorted(x, ..) over what is collected of x -/
theorem sorted_col {x : Value} {b : Bool} {kw : List (Str × Value)} {ltv : Heap → Value → Value → Bool} {Q : Value → Shared → Prop} {P : Heap → Nat → List Value → Prop}
    (hk : ∀ a, Builtin.«list.sort» ⟨[.ref a], kw⟩ = Builtin.«list.sort» ⟨[.ref a], [(Str.ofString "reverse", .bool b)]⟩) (ha1 : argsOk "sorted" ⟨[x], kw⟩) (ha2 : ∀ a, argsOk "list.sort" ⟨[a], kw⟩)
    (hcol : ∀ R : List Value → Shared → Prop, (∀ h' tk vs, (∀ b o, s.heap.get? b = some o → h'.get? b = some o) → P h' tk vs → R vs { s with heap := h', toks := tk }) → wpAny (model prog w) A.in1 (collect x) R E s)
    (O : ∀ h' tk vs, P h' tk vs → Swo (ltv h')) (hz : ∀ h' tk vs, P h' tk vs → vs.length ≤ sizeLine)
    (hS : ∀ h' tk vs, P h' tk vs → 2 ≤ vs.length → ∀ (h₁ : Heap) (a : Addr), h₁.get? a = some (seqObj "list" vs.toArray 0) → (∀ b o, h'.get? b = some o → b ≠ a ∧ h₁.get? b = some o) → SortableO prog w A.in1.in1 { s with heap := h₁, toks := tk } a vs (ltv h'))
    (h : ∀ h' tk vs out h2, (∀ b o, s.heap.get? b = some o → h'.get? b = some o) → P h' tk vs → Srtd (ltv h') out → Stb (ltv h') out (if b = true then vs.reverse else vs) → (∀ c o, h'.get? c = some o → h2.get? c = some o) →
      (∃ n, h2.get? h'.objs.size = some (seqObj "list" (if b = true then out.toArray.reverse else out.toArray) n)) → Q (.ref h'.objs.size) { s with heap := h2, toks := tk }) :
    wpAny (model prog w) A (call (.builtin "sorted") [x] kw) Q E s := by
  refine call_function_entry_kw kind_sorted plain_sorted entry_sorted ha1 ?_
  unfold Builtin.«sorted»
  refine wpAny_bind (m := checkCount "sorted" 1 1 _) (wpAny_pure ?_)
  refine wpAny_bind (hcol _ fun h' tk vs hkp hP => ?_)
  refine wpAny_bind (wpAny_newList ?_ (hz _ _ _ hP))
  have hoL : (h'.push (seqObj "list" vs.toArray 0)).get? h'.objs.size = some (seqObj "list" vs.toArray 0) := Heap.get?_push_size _ rfl
  have keep : ∀ b o, h'.get? b = some o → b ≠ h'.objs.size ∧ (h'.push (seqObj "list" vs.toArray 0)).get? b = some o := fun b o q => ⟨Nat.ne_of_lt (Heap.lt_size q), Heap.get?_push_of_some _ q⟩
  show wpAny _ _ _ _ _ { s with heap := h'.push (seqObj "list" vs.toArray 0), toks := tk }
  refine wpAny_bind (wpAny_holding (wpAny_call_entry_kw slot_list_sort ⟨_, hoL, rfl⟩ entry_list_sort ?_ (ha2 _)))
  rw [hk]
  refine SrtR.list_sort_ordR (s := { s with heap := h'.push (seqObj "list" vs.toArray 0), toks := tk }) (O _ _ _ hP) hoL (hz _ _ _ hP) (fun h2 => hS _ _ _ hP h2 _ _ hoL keep) fun out hs hb => ⟨_, rfl, ?_⟩
  refine wpAny_pure ⟨_, rfl, h h' tk vs out _ hkp hP hs hb (fun c o q => ?_) ?_⟩
  · exact (sortedHeap_old (keep c o q).1 (Heap.lt_size (keep c o q).2)).trans (keep c o q).2
  · exact sortedHeap_at hoL
end
end SrtZ

namespace L2
open PySem PySem.Spec PyProof.Rows SrtO SrtZ
/-- counts as a dict's pairs -/
abbrev entZ (e : Str × Int) : Key × V := (Sum.inr e.1, V.int e.2)
section
variable {X : Cx}
/-- d.items() -/
def rItemsK : V → List V → Hp → VK → Prop := fun x xs H Q => ∃ (a : Addr) (kvs : List (Key × V)), x = .ref a ∧ xs = [] ∧ H a = some (.dK kvs) ∧ ∀ p, H p = none → Q (.ref p) (upd H p (DX.itemsO p a))
theorem mt_itemsK : MtR X "dict.items" rItemsK := by
  intro pins s σ H x xs v us Q I rx rxs h
  obtain ⟨a, kvs, rfl, rfl, ha, q⟩ := h
  cases rx
  cases rxs
  obtain ⟨z, hd, vs, kv, o, es, ep, ho, hx, hdat, _⟩ := dk_of I.hok ha
  refine DT.callItems (es := es) (ep := ep) hd ⟨o, ho, hx, hdat⟩ ?_
  have hf : H s.heap.objs.size = none := I.hok.fresh (Nat.le_refl _)
  exact ⟨.ref s.heap.objs.size, upd H s.heap.objs.size (DX.itemsO s.heap.objs.size a), I.laid (t' := s.toks) (fun b u e => Heap.get?_push_of_some _ e) (Nat.le_refl _) (DX.itemsO_ok (Heap.get?_push_size _ rfl)), rfl, q _ hf⟩
/-- d.values() -/
def valuesO (p d : Addr) : HO := .ext fun h => h.IsValuesView p d
theorem valuesO_ok {P : Program} {w : World} {H : Hp} {h : Heap} {p d : Addr} (e : h.get? p = some { cls := .type "dict_values", data := .fields #[.ref d] }) : ObjOk P w H h p (valuesO p d) :=
  ⟨⟨_, e, rfl, rfl⟩, ⟨_, e⟩, fun h1 h2 x k => let ⟨o, ho, r⟩ := x; ⟨o, k o ho, r⟩⟩
def rValuesK : V → List V → Hp → VK → Prop := fun x xs H Q => ∃ (a : Addr) (kvs : List (Key × V)), x = .ref a ∧ xs = [] ∧ H a = some (.dK kvs) ∧ ∀ p, H p = none → Q (.ref p) (upd H p (valuesO p a))
theorem mt_valuesK : MtR X "dict.values" rValuesK := by
  intro pins s σ H x xs v us Q I rx rxs h
  obtain ⟨a, kvs, rfl, rfl, ha, q⟩ := h
  cases rx
  cases rxs
  obtain ⟨z, hd, vs, kv, dd⟩ := dk_of I.hok ha
  have hf : H s.heap.objs.size = none := I.hok.fresh (Nat.le_refl _)
  refine call_meetsIn PySem.F.slot_dict_values dd.typeIs PySem.F.entry_dict_values (PySem.F.args_dict_values_1 _) (meets_dict_values (mixKind X.prog X.w) a hd) ⟨⟨vs, dd⟩, ?_⟩
  exact ⟨.ref s.heap.objs.size, upd H s.heap.objs.size (valuesO s.heap.objs.size a), I.laid (t' := s.toks) (fun b u e => Heap.get?_push_of_some _ e) (Nat.le_refl _) (valuesO_ok (Heap.get?_push_size _ rfl)), rfl, q _ hf⟩
end
end L2

namespace L2
open PySem PySem.Spec PyProof.Rows SrtO SrtZ
theorem ent_paired {xs' : List (Key × Value)} : ∀ {ks : List (Str × Int)}, KV (ks.map entZ) xs' → ∀ {j : Nat} {x : Key × Value}, xs'[j]? = some x → ∃ e t, ks[j]? = some e ∧ x = (Sum.inr e.1, Value.int e.2 t) := fun {ks} h {j x} hx => by
  obtain ⟨y, hy, r1, r2⟩ := DX.pget h hx
  rw [List.getElem?_map] at hy
  cases e : ks[j]? with
  | none => rw [e] at hy; cases hy
  | some p =>
    rw [e] at hy
    have hy' : entZ p = y := Option.some.inj hy
    subst hy'
    obtain ⟨t, et⟩ := (show ∃ t, x.2 = Value.int p.2 t from r2)
    refine ⟨p, t, rfl, ?_⟩
    obtain ⟨x1, x2⟩ := x
    have r1' : Sum.inr p.1 = x1 := r1
    have et' : x2 = Value.int p.2 t := et
    rw [← r1', et']
section
variable {X : Cx}
/-- sorted(d.items()), keys texts, values ints, any number of them -/
def rSortedIZ : List V → Hp → VK → Prop := fun vs H Q => ∃ (p d : Addr) (ks : List (Str × Int)), vs = [V.ref p] ∧ H p = some (DX.itemsO p d) ∧ H d = some (.dK (ks.map entZ)) ∧
  ∀ (H' : Hp) (l : Addr) (ys : List (Str × Int)) (ts : List Addr), Same H H' → H l = none → (∀ t ∈ ts, H t = none) → l ∉ ts → ys.Perm ks → Srtd lexZ ys → H' l = some (.lst (ts.map V.ref)) → Paired (fun (t : Addr) (y : Str × Int) => H' t = some (.tup [.str y.1, .int y.2])) ts ys → Q (.ref l) H'
theorem paired_of {α β : Type} {F : α → β → Prop} {l : List (α × β)} (h : ∀ z ∈ l, F z.1 z.2) : Paired F (l.map (·.1)) (l.map (·.2)) := by
  induction l with
  | nil => exact .nil
  | cons a l ih => exact .cons (h a List.mem_cons_self) (ih fun z hz => h z (List.mem_cons_of_mem _ hz))
/-- a tuple's key, read off the heap -/
def keyZ (h : Heap) : Value → Str × Int
  | .ref a => match h.get? a with
    | some o => match o.data with
      | .seq xs _ => match xs.toList with
        | [.str x _, .int y _] => (x, y)
        | _ => (⟨#[]⟩, 0)
      | _ => (⟨#[]⟩, 0)
    | none => (⟨#[]⟩, 0)
  | _ => (⟨#[]⟩, 0)
theorem keyZ_of {h : Heap} {v : Value} {p : Str × Int} (x : IsPZ h v p) : keyZ h v = p := by
  obtain ⟨a, o, t, u, n, rfl, ho, hc, hd⟩ := x
  simp only [keyZ, ho, hd]
theorem swo_key (h : Heap) : Swo fun v u => lexZ (keyZ h v) (keyZ h u) := ⟨fun x y => swo_Z.asym _ _, fun x y z => swo_Z.tr _ _ _⟩
def adr : Value → Addr
  | .ref a => a
  | _ => 0
theorem adr_refs : ∀ as : List Addr, (as.map Value.ref).map adr = as
  | [] => rfl
  | a :: as => congrArg (List.cons a) (adr_refs as)
theorem refs_adr : ∀ out : List Value, (∀ v ∈ out, ∃ a, v = Value.ref a) → (out.map adr).map Value.ref = out
  | [], _ => rfl
  | v :: out, h => by
    obtain ⟨a, rfl⟩ := h v List.mem_cons_self
    show Value.ref a :: (out.map adr).map Value.ref = Value.ref a :: out
    rw [refs_adr out fun u hu => h u (List.mem_cons_of_mem _ hu)]
/-- pairs that were laid and sorted are tracked: a list of them at l, the tuples at ts -/
theorem sortZ_end {pins : List (Addr × Obj)} {σ : St} {H : Hp} {s : Shared} {h' h2 : Heap} {tk l n : Nat} {as : List Addr} {ks : List (Str × Int)} {out : List Value} {Q : VK} (I : Inv X pins σ H s)
    (hk : ∀ b o, s.heap.get? b = some o → h'.get? b = some o) (hk2 : ∀ b o, h'.get? b = some o → h2.get? b = some o) (hl : s.heap.objs.size ≤ l) (hle : as.length ≤ sizeLine) (hlas : ∀ t ∈ as, t ≠ l) (nd : as.Nodup) (ha : ∀ t ∈ as, s.heap.objs.size ≤ t) (hn : H l = none)
    (hks : as.map (fun t => keyZ h' (.ref t)) = ks) (hp : ∀ t ∈ as, ∃ p, IsPZ h' (.ref t) p) (hat : h2.get? l = some (seqObj "list" out.toArray n)) (h1 : Srtd (fun v u => lexZ (keyZ h' v) (keyZ h' u)) out) (hb : out.Perm (as.map Value.ref))
    (q : ∀ (H' : Hp) (ys : List (Str × Int)) (ts : List Addr), Same H H' → H l = none → (∀ t ∈ ts, H t = none) → l ∉ ts → ys.Perm ks → Srtd lexZ ys → H' l = some (.lst (ts.map V.ref)) → Paired (fun (t : Addr) (y : Str × Int) => H' t = some (.tup [.str y.1, .int y.2])) ts ys → Q (.ref l) H') :
    EP X pins σ Q (.ref l) { s with heap := h2, toks := tk } := by
  have isr : ∀ v ∈ out, ∃ a, v = Value.ref a := fun v hv => by
    obtain ⟨a, _, e⟩ := List.mem_map.mp (hb.mem_iff.mp hv)
    exact ⟨a, e.symm⟩
  have eo := refs_adr out isr
  generalize ets : out.map adr = ts at eo
  have pt : ts.Perm as := by
    have := hb.map adr
    rwa [adr_refs, ets] at this
  have kS : ∀ b o, s.heap.get? b = some o → h2.get? b = some o := fun b o e => hk2 b o (hk b o e)
  have I1 : Inv X pins σ H { s with heap := h2, toks := tk } := I.kept (t' := tk) kS
  have hlen : (ts.map V.ref).length ≤ sizeLine := by rw [List.length_map, pt.length_eq]; exact hle
  have rv : Vals (ts.map V.ref) out := by
    rw [← eo]
    exact LiI.vals_refs ts
  have I2 : Inv X pins σ (upd H l (.lst (ts.map V.ref))) { s with heap := h2, toks := tk } := I1.take (h' := h2) (t' := tk) (fun b ob _ e => e) (I.fpOk hl hn) ⟨hlen, out, n, rv, hat⟩
  obtain ⟨H2, I3, g, qt⟩ := DX.takeT (P := fun b vs => vs = [.str (keyZ h' (.ref b)).1, .int (keyZ h' (.ref b)).2]) I as _ I2 nd fun b hb' => by
    obtain ⟨p, hp'⟩ := hp b hb'
    have ek := keyZ_of hp'
    obtain ⟨a, o, t, u, m, e, ho, hc, hd⟩ := hp'
    cases e
    refine ⟨ha b hb', ?_, [.str (keyZ h' (.ref b)).1, .int (keyZ h' (.ref b)).2], rfl, fun H3 => ⟨(by rw [sizeLine_eq]; show 2 ≤ 16777216; omega), [Value.str p.1 t, Value.int p.2 u], by rw [ek]; exact .cons ⟨_, rfl⟩ (.cons ⟨_, rfl⟩ .nil), ⟨o, hk2 _ _ ho, hc, m, hd⟩⟩⟩
    rw [upd_ne (hlas b hb')]
    exact I.hok.fresh (ha b hb')
  have gr : Same H H2 := fun b o e => g b o (by rw [upd_ne (ne_of_none e hn)]; exact e)
  refine ⟨.ref l, H2, I3, rfl, q H2 (ts.map fun t => keyZ h' (.ref t)) ts gr hn (fun t ht => I.hok.fresh (ha t (pt.mem_iff.mp ht))) (fun z => hlas l (pt.mem_iff.mp z) rfl) ?_ ?_ (g _ _ upd_same) ?_⟩
  · rw [← hks]
    exact pt.map _
  · have e : ts.map (fun t => keyZ h' (.ref t)) = out.map (keyZ h') := by
      rw [← eo, List.map_map]
      rfl
    rw [e]
    exact srtd_map h1
  · have : ∀ L : List Addr, (∀ t ∈ L, t ∈ as) → Paired (fun (t : Addr) (y : Str × Int) => H2 t = some (.tup [.str y.1, .int y.2])) L (L.map fun t => keyZ h' (.ref t)) := by
      intro L
      induction L with
      | nil => exact fun _ => .nil
      | cons t L ih =>
        intro hL
        refine .cons ?_ (ih fun u hu => hL u (List.mem_cons_of_mem _ hu))
        obtain ⟨vs, ev, hv⟩ := qt t (hL t List.mem_cons_self)
        rw [← ev]
        exact hv
    exact this ts fun t ht => pt.mem_iff.mp ht
theorem cr_sortedIZ (hc : X.calm = true) : CallR X (.builtin "sorted") rSortedIZ := by
  intro pins s σ H xs us Q I r h
  obtain ⟨p, a, ks, rfl, hp, ha, q⟩ := h
  obtain rfl := Vals.ref1 r
  have view : s.heap.IsItemsView p a := (show ObjOk X.prog X.w H s.heap p (DX.itemsO p a) from I.hok p _ hp).1
  obtain ⟨z, hd, xs', rel, o, es, ep, ho, hx, hdat, _, hes, _⟩ := dk_of I.hok ha
  have l1 : ks.length = xs'.length := by
    have := Paired.length rel
    rwa [List.length_map] at this
  have l2 : es.size = xs'.length := by rw [← Array.length_toList, hes.length]
  have hh : X.A.handled = none := I.ok.hd hc
  have hz : es.size ≤ sizeLine := by rw [List.length_map] at z; omega
  have ent : ∀ (j : Nat) (en : DictEntry), es[j]? = some en → ∃ e t u, ks[j]? = some e ∧ en.key = Value.str e.1 t ∧ en.val = Value.int e.2 u := by
    intro j en he
    have he' : es.toList[j]? = some en := by rw [Array.getElem?_toList]; exact he
    have pz : ∀ {es : List DictEntry} {kvs : List (Key × Value)}, Pairs (mixKind X.prog X.w) es kvs → ∀ {j : Nat} {en : DictEntry}, es[j]? = some en → ∃ x, kvs[j]? = some x ∧ keyIs x.1 en.key = true ∧ en.val = x.2 := by
      intro es kvs h
      induction h with
      | nil => intro j en h; simp at h
      | cons h1 h2 h3 ih =>
        intro j en h
        cases j with
        | zero => cases (Option.some.inj h); exact ⟨_, rfl, h1, h2⟩
        | succ j => exact ih (by simpa using h)
    obtain ⟨x, ex, k1, k2⟩ := pz hes he'
    obtain ⟨e, t, e1, e2⟩ := ent_paired rel ex
    subst e2
    obtain ⟨u, eu⟩ := relV_key k1
    exact ⟨e, u, t, e1, eu, k2⟩
  refine sorted_col (x := .ref p) (b := false) (kw := []) (ltv := fun h' v u => lexZ (keyZ h' v) (keyZ h' u)) (P := fun h' _ vs => ∃ as, vs = as.map Value.ref ∧ as.length = es.size ∧ DT.Made es s.heap.objs.size h' as ∧ s.heap.objs.size < h'.objs.size)
    plain_rev (args_sorted1 _) (fun _ => args_list_sort _) (fun R hR => ?_) (fun h' _ _ _ => swo_key h') (fun h' _ vs hP => ?_) (fun h' tk vs hP h2 h₁ b hb keep => ?_) (fun h' tk vs out h2 hk hP h1 hb hk2 hat => ?_)
  · exact DT.collectI (A := X.A.in1) hh view ⟨o, ho, hx, hdat⟩ hz fun h' tk as hk hlt hl hM => hR h' tk _ hk ⟨as, rfl, hl, hM, hlt⟩
  · obtain ⟨as, rfl, hl, _⟩ := hP
    rw [List.length_map, hl]
    exact hz
  · obtain ⟨as, rfl, hl, hM, _⟩ := hP
    refine pairsZ_sortable (s := { s with heap := h₁, toks := tk }) (k := keyZ h') (by omega) (fun v hv => ?_) (fun ob e => ?_)
    · obtain ⟨t, ht, rfl⟩ := List.mem_map.mp hv
      obtain ⟨j, hj⟩ := List.mem_iff_getElem?.mp ht
      obtain ⟨en, he, hg⟩ := hM.pairs j t hj
      obtain ⟨e, t1, t2, _, k1, k2⟩ := ent j en he
      have x : IsPZ h' (.ref t) e := ⟨t, _, t1, t2, 0, rfl, hg, rfl, by rw [k1, k2]⟩
      rw [keyZ_of x]
      exact x.keeps fun b o e _ => (keep b o e).2
    · have e' : some ob = some (seqObj "list" (as.map Value.ref).toArray 0) := e.symm.trans hb
      cases e'
      intro c
      exact absurd (Value.type.inj c) (by decide)
  · obtain ⟨as, rfl, hl, hM, hlt⟩ := hP
    obtain ⟨n, hat⟩ := hat
    have pz : ∀ (j : Nat) (t : Addr), as[j]? = some t → ∃ e, ks[j]? = some e ∧ IsPZ h' (.ref t) e := fun j t hj => by
      obtain ⟨en, he, hg⟩ := hM.pairs j t hj
      obtain ⟨e, t1, t2, e1, k1, k2⟩ := ent j en he
      exact ⟨e, e1, t, _, t1, t2, 0, rfl, hg, rfl, by rw [k1, k2]⟩
    refine sortZ_end (as := as) (ks := ks) I hk hk2 (Nat.le_of_lt hlt) (by rw [hl]; exact hz) (fun t ht => Nat.ne_of_lt (hM.there ht)) (List.Pairwise.imp (fun h => Nat.ne_of_lt h) hM.rise) (fun t ht => Nat.le_of_lt (hM.above t ht)) (I.hok.fresh (Nat.le_of_lt hlt)) ?_ (fun t ht => ?_) hat h1 hb.perm fun H' ys ts => q H' _ ys ts
    · refine List.ext_getElem? fun j => ?_
      rw [List.getElem?_map]
      cases hj : as[j]? with
      | none =>
        have : ks[j]? = none := List.getElem?_eq_none (by have := List.getElem?_eq_none_iff.mp hj; omega)
        rw [this]
        rfl
      | some t =>
        obtain ⟨e, e1, x⟩ := pz j t hj
        rw [e1]
        show some (keyZ h' (.ref t)) = some e
        rw [keyZ_of x]
    · obtain ⟨j, hj⟩ := List.mem_iff_getElem?.mp ht
      obtain ⟨e, _, x⟩ := pz j t hj
      exact ⟨e, x⟩
end
end L2

namespace SrtZ
open PySem PyProof.Rows Srt SrtO PySem.W
def ltSv (v u : Value) : Bool := ltZ (strOf v) (strOf u)
theorem swo_str : Swo ltSv := by
  refine ⟨fun x y h => ltZ_asym h, fun x y z h1 h2 => ?_⟩
  rcases bcase (ltZ (strOf z) (strOf x)) with q | q
  · rcases bcase (ltZ (strOf x) (strOf y)) with p | p
    · rcases bcase (ltZ (strOf y) (strOf z)) with r | r
      · have := ltZ_asym (ltZ_trans p r)
        rw [q] at this
        cases this
      · have e := ltZ_tri r h2
        have q' : ltZ (strOf z) (strOf x) = true := q
        rw [← e, ltZ_asym p] at q'
        cases q'
    · have e := ltZ_tri p h1
      have q' : ltZ (strOf z) (strOf x) = true := q
      have h2' : ltZ (strOf z) (strOf y) = false := h2
      rw [e, h2'] at q'
      cases q'
  · exact q
theorem strOf_strs : ∀ {vs : List Value} {ss : List Str}, StrsAre vs ss → vs.map strOf = ss
  | _, _, .nil => rfl
  | _, _, .cons y t h => congrArg (y :: ·) (strOf_strs h)
section
variable {prog : Program} {w : World} {A : Around} {E : Value → Shared → Prop} {s : Shared}
theorem str_cmp {vs : List Value} {ss : List Str} (hI : StrsAre vs ss) : Cmp prog w A s oneType' (fun p => p.1 ∈ vs) (lt2 ltSv) := by
  intro p q hm hm'
  obtain ⟨a, t, e⟩ := StrsAre.all hI _ hm
  obtain ⟨b, u, e'⟩ := StrsAre.all hI _ hm'
  show wpAny (model prog w) A (keyLt' oneType' p.1 q.1) (fun r s' => s' = s ∧ r = ltSv p.1 q.1) (fun _ _ => False) s
  rw [e, e', keyLt'_oneType]
  exact oneLt_any_str ⟨rfl, rfl⟩
theorem strs_sortable {a : Addr} {vs : List Value} {ss : List Str} (hI : StrsAre vs ss) (h2 : 2 ≤ vs.length) : SortableO prog w A s a vs ltSv := by
  intro h' _
  refine ⟨oneType', fun Q E hq => ?_, str_cmp hI⟩
  match vs, hI, h2 with
  | v1 :: v2 :: rest, hI, _ =>
    rw [keyKind_strs hI]
    exact wpAny_pure hq
  | [], _, h => exact absurd h (by decide)
  | [v], _, h => exact absurd h (by simp)
end
end SrtZ
namespace L2
open PySem PySem.Spec PyProof.Rows SrtO SrtZ
section
variable {X : Cx}
/-- sorted(xs), xs a list of tuples (text, int), any number of them -/
def rSortedPZ (K : PySem.W.Frag) : List V → Hp → VK → Prop := fun vs H Q => ∃ (a : Addr) (ts : List Addr) (k : Addr → Str × Int), vs = [V.ref a] ∧ SqL K H a (ts.map V.ref) ∧ (∀ t ∈ ts, H t = some (.tup [.str (k t).1, .int (k t).2])) ∧
  ∀ (us : List Addr) (p : Addr), us.Perm ts → Srtd lexZ (us.map k) → H p = none → Q (.ref p) (upd H p (.lst (us.map V.ref)))
theorem cr_sortedPZ : CallR X (.builtin "sorted") (rSortedPZ X.K) := by
  intro pins s σ H vs us Q I r h
  obtain ⟨a, ts, k, rfl, hs, hx, q⟩ := h
  obtain ⟨its, rv, hl, hz⟩ := I.list hs
  obtain rfl := Vals.ref1 r
  obtain rfl := refs_at rv
  rw [List.length_map] at hz
  have hp : ∀ v ∈ ts.map Value.ref, IsPZ s.heap v (k (adr v)) := fun v hv => by
    obtain ⟨t, ht, rfl⟩ := List.mem_map.mp hv
    obtain ⟨_, its2, r2, o, ho, hc, n, hd⟩ := I.hok _ _ (hx t ht)
    obtain ⟨u1, u2, rfl, ri, rj⟩ := vals2 r2
    obtain ⟨t1, rfl⟩ := ri
    obtain ⟨t2, rfl⟩ := rj
    exact ⟨t, o, t1, t2, n, rfl, ho, hc, hd⟩
  refine SrtO.sorted_ord (ltv := fun v u => lexZ (k (adr v)) (k (adr u))) ⟨fun x y => swo_Z.asym _ _, fun x y z => swo_Z.tr _ _ _⟩ hl.isList (by rw [List.length_map]; exact hz) (fun h2 h₁ b hb kk => ?_) fun out h1 h2 => ?_
  · refine pairsZ_sortable (s := { s with heap := h₁ }) (k := fun v => k (adr v)) (by omega) (fun v hv => (hp v hv).keeps fun b o e _ => (kk b o e).2) fun o e => ?_
    have e' : some o = some (seqObj "list" (ts.map Value.ref).toArray 0) := e.symm.trans hb
    cases e'
    intro c
    exact absurd (Value.type.inj c) (by decide)
  · obtain ⟨ep, he'⟩ := PyProof.Rows.sortedAll_at s.heap (ts.map Value.ref) out.toArray
    have isr : ∀ v ∈ out, ∃ a, v = Value.ref a := fun v hv => by
      obtain ⟨a, _, e⟩ := List.mem_map.mp (h2.perm.mem_iff.mp hv)
      exact ⟨a, e.symm⟩
    have eo := refs_adr out isr
    generalize eus : out.map adr = us at eo
    have pt : us.Perm ts := by
      have := h2.perm.map adr
      rwa [adr_refs, eus] at this
    have hlen : (us.map V.ref).length ≤ sizeLine := by rw [List.length_map, pt.length_eq]; exact hz
    have rv : Vals (us.map V.ref) out := by
      rw [← eo]
      exact LiI.vals_refs us
    refine ⟨.ref _, upd H (s.heap.objs.size + 1) (.lst (us.map V.ref)), I.laid (t' := s.toks) (fun _ _ => PyProof.Rows.sortedAll_old) (Nat.le_succ _) ⟨hlen, out, ep, rv, he'⟩, rfl, q us _ pt ?_ (I.hok.fresh (Nat.le_succ _))⟩
    have e : us.map k = out.map fun v => k (adr v) := by
      rw [← eo, List.map_map]
      rfl
    rw [e]
    exact srtd_map h1
/-- the ints of a dict's values -/
theorem vals_ints' {xs' : List (Key × Value)} : ∀ {ks : List (Str × Int)}, KV (ks.map entZ) xs' → ∀ {vs : List Value}, vs.length = xs'.length → (∀ (j : Nat) (v : Value), vs[j]? = some v → ∃ k, xs'[j]? = some (k, v)) → IntsAre vs (ks.map (·.2)) := fun {ks} rel {vs} hl hv => by
  have e : vs = xs'.map (·.2) := PySem.W.kdl_vals_eq vs hl hv
  subst e
  have : ∀ {ks : List (Str × Int)} {xs : List (Key × Value)}, KV (ks.map entZ) xs → IntsAre (xs.map (·.2)) (ks.map (·.2)) := by
    intro ks
    induction ks with
    | nil =>
      intro xs r
      cases r
      exact .nil
    | cons e ks ih =>
      intro xs r
      cases r with
      | cons h t =>
        obtain ⟨u, eu⟩ := (show ∃ t, _ = Value.int e.2 t from h.2)
        rw [List.map_cons, eu]
        exact .cons _ _ (ih t)
  exact this rel
/-- sorted(d.values(), reverse=b), values ints -/
def rSortedVR (b : Bool) : List V → List V → Hp → VK → Prop := fun vs zs H Q => ∃ (p d : Addr) (ks : List (Str × Int)), vs = [V.ref p] ∧ zs = [.bl b] ∧ H p = some (valuesO p d) ∧ H d = some (.dK (ks.map entZ)) ∧
  ∀ (ns : List Int) (l : Addr), ns.Perm (ks.map (·.2)) → OrdB b ns → H l = none → Q (.ref l) (upd H l (.lst (ns.map V.int)))
theorem cr_sortedVR {b : Bool} (hc : X.calm = true) : CallRK X (.builtin "sorted") [Str.ofString "reverse"] (rSortedVR b) := by
  intro pins s σ H vs zs us ws Q I r rz h
  obtain ⟨p, d, ks, rfl, rfl, hp, ha, q⟩ := h
  obtain rfl := Vals.ref1 r
  obtain ⟨w1, rfl, e1⟩ := vals1 rz
  obtain rfl : w1 = Value.bool b := e1
  have view : s.heap.IsValuesView p d := (show ObjOk X.prog X.w H s.heap p (valuesO p d) from I.hok p _ hp).1
  obtain ⟨z, hd, xs', rel, dd⟩ := dk_of I.hok ha
  obtain ⟨ep, hat⟩ := dd.dictAt
  have l1 : ks.length = xs'.length := by
    have := Paired.length rel
    rwa [List.length_map] at this
  have hz : xs'.length ≤ sizeLine := by rw [List.length_map] at z; omega
  refine sorted_col (x := .ref p) (b := b) (kw := [(Str.ofString "reverse", .bool b)]) (ltv := fun _ => SrtO.ltIv) (P := fun h' _ vs => IntsAre vs (ks.map (·.2)))
    (fun _ => rfl) (args_sorted_rev _ _) (fun _ => args_list_sort_rev _ _) (fun R hR => ?_) (fun _ _ _ _ => SrtO.swo_int) (fun h' _ vs hP => ?_) (fun h' tk vs hP h2 h₁ c hb keep => ?_) (fun h' tk vs out h2 hk hP h1 hb hk2 hat => ?_)
  · refine PySem.W.kdu_collect (A := X.A.in1) (PySem.W.kdl_values (knd := mixKind X.prog X.w) (kvs := xs') (ep := ep) (r := p) (d := d)) (I.ok.hd hc) ⟨view, hat⟩ hz fun h' tk acc hk hacc => hR h' tk _ hk (vals_ints' rel (by rw [Array.length_toList]; exact hacc.1) fun j v e => hacc.2 j v (by rw [← Array.getElem?_toList]; exact e))
  · rw [hP.length, List.length_map, l1]
    exact hz
  · exact SrtO.ints_sortable hP h2
  · obtain ⟨n, hat⟩ := hat
    obtain ⟨ns', k1, k2, k3⟩ := SrtR.ints_outR hP h1 hb
    have hlen : (ns'.map V.int).length ≤ sizeLine := by
      rw [List.length_map, k2.length_eq, List.length_map, l1]
      exact hz
    have e0 : ((if b = true then out.toArray.reverse else out.toArray).toList).toArray = (if b = true then out.toArray.reverse else out.toArray) := by rw [Array.toArray_toList]
    have gone : s.heap.get? h'.objs.size = none := by
      cases e : s.heap.get? h'.objs.size with
      | none => rfl
      | some o => exact absurd (Heap.lt_size (hk _ _ e)) (Nat.lt_irrefl _)
    have hn := I.hok.gone gone
    exact ⟨.ref h'.objs.size, upd H h'.objs.size (.lst (ns'.map V.int)), I.laidN (t' := tk) (fun c o e => hk2 c o (hk c o e)) gone hn ⟨hlen, _, n, vals_of_ints k1, by rw [e0]; exact hat⟩, rfl, q _ _ k2 k3 hn⟩
/-- sorted(d), keys texts, any number of them -/
def rSortedDS : List V → Hp → VK → Prop := fun vs H Q => ∃ (d : Addr) (kvs : List (Key × V)) (ss : List Str), vs = [V.ref d] ∧ H d = some (.dK kvs) ∧ kvs.map (·.1) = ss.map Sum.inr ∧
  ∀ (ys : List Str) (l : Addr), ys.Perm ss → Srtd ltZ ys → H l = none → Q (.ref l) (upd H l (.lst (ys.map V.str)))
theorem keys_strs {P : Program} {w : World} {xs' : List (Key × Value)} : ∀ {kvs : List (Key × V)} {ss : List Str}, KV kvs xs' → kvs.map (·.1) = ss.map Sum.inr → ∀ {vs : List Value}, vs.length = xs'.length → (∀ (j : Nat) (v : Value), vs[j]? = some v → ∃ k x, xs'[j]? = some (k, x) ∧ (mixKind P w).is k v = true) → StrsAre vs ss := fun {kvs ss} rel hk {vs} hl hv => by
  have : ∀ {kvs : List (Key × V)} {ss : List Str} {xs : List (Key × Value)} {vs : List Value}, KV kvs xs → kvs.map (·.1) = ss.map Sum.inr → vs.length = xs.length → (∀ (j : Nat) (v : Value), vs[j]? = some v → ∃ k x, xs[j]? = some (k, x) ∧ (mixKind P w).is k v = true) → StrsAre vs ss := by
    intro kvs
    induction kvs with
    | nil =>
      intro ss xs vs r hk hl hv
      cases r
      cases ss with
      | nil =>
        have : vs = [] := List.eq_nil_of_length_eq_zero hl
        subst this
        exact .nil
      | cons _ _ => cases hk
    | cons kv kvs ih =>
      intro ss xs vs r hk hl hv
      cases r with
      | cons h t =>
        cases ss with
        | nil => cases hk
        | cons z ss =>
          cases vs with
          | nil => simp at hl
          | cons v vs =>
            rw [List.map_cons, List.map_cons] at hk
            obtain ⟨h1, h2⟩ := List.cons.inj hk
            obtain ⟨k, x, e1, e2⟩ := hv 0 v rfl
            have e1' := (Prod.mk.inj (Option.some.inj e1)).1
            have kk : k = Sum.inr z := by rw [← e1', ← h.1, h1]
            subst kk
            obtain ⟨u, eu⟩ := relV_key (show keyIs (Sum.inr z) v = true from e2)
            subst eu
            exact .cons _ _ (ih t h2 (by simpa using hl) fun j v' e => hv (j + 1) v' (by simpa using e))
  exact this rel hk hl hv
theorem cr_sortedDS (hc : X.calm = true) : CallR X (.builtin "sorted") rSortedDS := by
  intro pins s σ H xs us Q I r h
  obtain ⟨d, kvs, ss, rfl, ha, hks, q⟩ := h
  obtain rfl := Vals.ref1 r
  obtain ⟨z, hd, xs', rel, dd⟩ := dk_of I.hok ha
  obtain ⟨ep, hat⟩ := dd.dictAt
  have l1 : kvs.length = xs'.length := Paired.length rel
  have hz : xs'.length ≤ sizeLine := by omega
  refine sorted_col (x := .ref d) (b := false) (kw := []) (ltv := fun _ => ltSv) (P := fun _ _ vs => StrsAre vs ss)
    plain_rev (args_sorted1 _) (fun _ => args_list_sort _) (fun R hR => ?_) (fun _ _ _ _ => swo_str) (fun h' _ vs hP => ?_) (fun h' tk vs hP h2 h₁ c hb keep => strs_sortable hP h2) (fun h' tk vs out h2 hk hP h1 hb hk2 hat => ?_)
  · refine PySem.W.kdu_collect (A := X.A.in1) (PySem.W.kdl_dict (knd := mixKind X.prog X.w) (kvs := xs') (ep := ep) (d := d) hd) (I.ok.hd hc) hat hz fun h' tk acc hk hacc => hR h' tk _ hk (keys_strs rel hks (by rw [Array.length_toList]; exact hacc.1) fun j v e => hacc.2 j v (by rw [← Array.getElem?_toList]; exact e))
  · rw [hP.length, ← List.length_map (f := (Sum.inr : Str → Key)), ← hks, List.length_map]
    omega
  · obtain ⟨n, hat⟩ := hat
    have isS : ∀ v ∈ out, ∃ x t, v = Value.str x t := fun v hv => StrsAre.all hP v (hb.perm.mem_iff.mp hv)
    have kp : (out.map strOf).Perm ss := by
      have := hb.perm.map strOf
      rwa [if_neg (by decide), strOf_strs hP] at this
    have hlen : ((out.map strOf).map V.str).length ≤ sizeLine := by
      rw [List.length_map, kp.length_eq, ← List.length_map (f := (Sum.inr : Str → Key)), ← hks, List.length_map]
      omega
    have gone : s.heap.get? h'.objs.size = none := by
      cases e : s.heap.get? h'.objs.size with
      | none => rfl
      | some o => exact absurd (Heap.lt_size (hk _ _ e)) (Nat.lt_irrefl _)
    have hn := I.hok.gone gone
    exact ⟨.ref h'.objs.size, upd H h'.objs.size (.lst ((out.map strOf).map V.str)), I.laidN (t' := tk) (fun c o e => hk2 c o (hk c o e)) gone hn ⟨hlen, out, n, vals_of_strs (strsAre_map out isS), hat⟩, rfl, q _ _ kp (srtd_map h1) hn⟩
/-! plain tuples: such of which no attributes are held -/
def Ptp (H : Hp) (a : Addr) (xs : List V) : Prop := ∃ o : Obj, H a = some (.frz o (.tup xs)) ∧ o.dict = none
theorem Ptp.seq {K : PySem.W.Frag} {H : Hp} {a : Addr} {xs : List V} (h : Ptp H a xs) : SqT K H a xs := let ⟨o, e, _⟩ := h; .inl (.inr ⟨o, e⟩)
theorem Ptp.same {H H' : Hp} {a : Addr} {xs : List V} (h : Ptp H a xs) (s : Same H H') : Ptp H' a xs := let ⟨o, e, d⟩ := h; ⟨o, s _ _ e, d⟩
theorem Ptp.ne {H : Hp} {a p : Addr} {xs : List V} (h : Ptp H a xs) (hp : H p = none) : a ≠ p := let ⟨o, e, _⟩ := h; ne_of_none e hp
theorem Ptp.upd {H : Hp} {a p : Addr} {xs : List V} {u : HO} (h : Ptp H a xs) (n : a ≠ p) : Ptp (L2.upd H p u) a xs := let ⟨o, e, d⟩ := h; ⟨o, by rw [upd_ne n]; exact e, d⟩
/-- (a, b, ..), a plain tuple -/
def tTupF (t : TA) : TE := fun σ H Q => t σ H fun xs H1 => xs.length ≤ sizeLine ∧ ∀ p o, H1 p = none → o.dict = none → Q (.ref p) (upd H1 p (.frz o (.tup xs)))
theorem pe_tupF {x1} {es : List Expr} {t : TA} {pos : Pos} (h : PA X es t) : PE X (.Tuple es x1 pos) (tTupF t) := by
  refine ⟨fun pins s σ H Q I hq => ?_⟩
  refine wpAny_Tuple_spliced (thn (h.run pos pins s σ H _ I hq) fun us s1 ⟨xs, H1, I1, r, z, q⟩ => ⟨by rw [← r.length]; exact z, ?_⟩)
  have hf : H1 s1.heap.objs.size = none := I1.hok.fresh (Nat.le_refl _)
  refine ⟨.ref s1.heap.objs.size, _, I1.laid (t' := s1.toks) (fun b u e => Heap.get?_push_of_some _ e) (Nat.le_refl _) ?_, rfl, q _ { cls := .type "tuple", data := .seq us.toArray } hf rfl⟩
  exact ⟨Heap.get?_push_size _ rfl, z, us, r, ⟨_, Heap.get?_push_size _ rfl, rfl, _, rfl⟩⟩
/-- tuple(xs) of a list, a plain tuple -/
theorem call_tupleF : CallR X (.type "tuple") (fun xs H Q => ∃ p ys, xs = [.ref p] ∧ SqL X.K H p ys ∧ ∀ l o, H l = none → o.dict = none → Q (.ref l) (upd H l (.frz o (.tup ys)))) := by
  intro pins s σ H xs us Q I r h
  obtain ⟨p, ys, rfl, hq, q⟩ := h
  obtain ⟨u, rfl, rx⟩ := vals1 r
  cases rx
  obtain ⟨its, r', pl, hz⟩ := I.list hq
  have hlen := r'.length
  refine call_tuple_list pl.isList (fun h' kp => ?_) (by simp only [List.size_toArray] <;> omega)
  have I1 : Inv X pins σ H { s with heap := h' } := I.kept (t' := s.toks) kp
  have I2 : Inv X pins σ (upd H h'.objs.size (.frz _ (.tup ys))) { s with heap := h'.push { cls := .type "tuple", data := .seq its.toArray } } :=
    I1.laid (t' := s.toks) (fun b o e => Heap.get?_push_of_some _ e) (Nat.le_refl _) (show ObjOk X.prog X.w _ _ _ (.frz _ (.tup ys)) from ⟨Heap.get?_push_size _ rfl, hz, its, r', IsTup.new _ _⟩)
  exact ⟨.ref h'.objs.size, _, I2, rfl, q _ _ (I1.hok.fresh (Nat.le_refl _)) rfl⟩
theorem pairs_of2 {pins : List (Addr × Obj)} {σ : St} {H : Hp} {s : Shared} (I : Inv X pins σ H s) : ∀ {ps : List Addr} {kvs : List (Key × V)}, Paired (fun p kv => SqT X.K H p [kV kv.1, kv.2]) ps kvs →
    ∃ (prs : List (Key × Value)) (vps : List (Value × Value)), KV kvs prs ∧ prs.length = ps.length ∧ vps.length = prs.length ∧
      ∀ (j : Nat) (k v : Value), vps[j]? = some (k, v) → ∃ (b : Addr) (q : Key × Value), ps[j]? = some b ∧ prs[j]? = some q ∧ v = q.2 ∧ IsTup s.heap b #[k, v] ∧ keyIs q.1 k = true
  | _, _, .nil => ⟨[], [], .nil, rfl, rfl, fun j k v e => by simp at e⟩
  | _, _, .cons (a := p) (b := kv) h t => by
    obtain ⟨prs, vps, r, hl, hl2, hp⟩ := pairs_of2 I t
    obtain ⟨its, rv, ht, _⟩ := I.tuple h
    obtain ⟨u, y, ei, ru, ry⟩ := vals2 rv
    subst ei
    refine ⟨(kv.1, y) :: prs, (u, y) :: vps, .cons ⟨rfl, ry⟩ r, by rw [List.length_cons, List.length_cons, hl], by rw [List.length_cons, List.length_cons, hl2], fun j k v e => ?_⟩
    cases j with
    | zero =>
      have e' : (u, y) = (k, v) := Option.some.inj e
      cases e'
      exact ⟨p, _, rfl, rfl, rfl, ht, kV_is (P := X.prog) (w := X.w) ru⟩
    | succ j =>
      obtain ⟨b, q, e1, e2, e3⟩ := hp j k v (by simpa using e)
      exact ⟨b, q, by simpa using e1, by simpa using e2, e3⟩
/-- dict(t), t a plain tuple of pairs -/
theorem call_dictPT (hcalm : X.calm = true) : CallR X (.type "dict") (fun xs H Q => ∃ (a : Addr) (ps : List Addr) (kvs : List (Key × V)), xs = [.ref a] ∧ Ptp H a (ps.map V.ref) ∧ Paired (fun p kv => SqT X.K H p [kV kv.1, kv.2]) ps kvs ∧
    ∀ p, H p = none → Q (.ref p) (upd H p (.dK (mergeK [] kvs)))) := by
  intro pins s σ H xs us Q I r q
  obtain ⟨a, ps, kvs, ex, hq, hp, q⟩ := q
  subst ex
  obtain ⟨u, eu, rx⟩ := vals1 r
  subst eu
  cases rx
  obtain ⟨o, ha, hdn⟩ := hq
  obtain ⟨hao, hz, its, rv, o', hao', hc, n, hdat⟩ := (show ObjOk X.prog X.w H s.heap a (.frz o (.tup (ps.map V.ref))) from I.hok a _ ha)
  rw [hao] at hao'
  cases hao'
  have ei := refs_at rv
  subst ei
  rw [List.length_map] at hz
  obtain ⟨prs, vps, rel, hl, hvl, hvp⟩ := pairs_of2 I hp
  have hTs : ∀ j b, ps[j]? = some b → ps.getD j 0 = b := fun j b e => by simp [List.getD, e]
  refine PySem.call_dict_pairs (knd := mixKind X.prog X.w) (kvs := prs) (PairArg.tuple (prog := X.prog) (w := X.w) a (ps.map Value.ref).toArray (fun j => ps.getD j 0) vps) (I.ok.hd hcalm) ⟨⟨o, n, hao, hc, hdn, hdat⟩, ?_, fun j k v e => ?_⟩ ⟨hvl.symm, fun i key v h => ?_⟩ (by rw [hvl, hl]; exact hz) fun h' tk hd' k => ?_
  · simp [hvl, hl]
  · obtain ⟨b, q, e1, e2, e3, e4, e5⟩ := hvp j k v e
    show _ ∧ PairAt s.heap (ps.getD j 0) k v
    rw [hTs j b e1]
    have ed : (List.map Value.ref ps).toArray[j]? = some (Value.ref b) := by simp [e1]
    refine ⟨?_, .inl e4⟩
    show _ = some (Value.ref (ps.getD j 0))
    rw [hTs j b e1]
    exact ed
  · obtain ⟨b, q', e1, e2, e3, e4, e5⟩ := hvp i key v h
    exact ⟨q'.1, by rw [e2, e3], e5⟩
  · have hm : (s.heap.objs.size == sysModules) = false := beq_eq_false_iff_ne.mpr (Nat.ne_of_gt I.big)
    have hlen : (mergeK [] kvs).length ≤ sizeLine := by
      refine Nat.le_trans (length_mergeK kvs []) ?_
      rw [List.length_nil, Nat.zero_add, rel.length, hl]
      exact hz
    exact ⟨.ref s.heap.objs.size, upd H s.heap.objs.size (.dK (mergeK [] kvs)), I.laid (t' := tk) (fun b u e => k b u (by simp) e) (Nat.le_refl _) (show ObjOk X.prog X.w _ _ _ (.dK (mergeK [] kvs)) from ⟨hlen, hm, merged [] prs, KV.merge rel .nil, hd'⟩), rfl, q _ (I.hok.fresh (Nat.le_refl _))⟩
/-- o.f as a target -/
def gFld (K : PySem.W.Frag) (ta : TE) (f : Str) : TG := fun y σ H Q => ta σ H fun x H2 => ∃ a C dx fs, x = .ref a ∧ H2 a = some (.ins C dx fs) ∧ Cls K C ∧ NoAttr K C f ∧ fs.length < 1000 ∧ Q σ (upd H2 a (.ins C dx (putF f y fs)))
theorem pg_fld {o : Expr} {f : Str} {pos : Pos} {ta : TE} (ha : PE X o ta) : PG X (.Attribute o f pos) (gFld X.K ta f) := by
  refine ⟨fun pins s σ H v u Q I r h => ?_⟩
  rw [assign_Attribute]
  refine wpAny_bind (wpAny_holding (thn (ha.run pins s σ H _ I h) fun ov s2 ⟨x, H2, I2, rx, a, C, dx, fs, ex, ea, c, n, l, q2⟩ => ?_))
  subst ex
  obtain rfl : ov = Value.ref a := rx
  refine wpAny_bind (wpAny_standAt (wpAny_bind (wpAny_holding (setattr_ok I2 ea c n l r fun s3 I3 => ?_))))
  exact wpAny_release ⟨σ, _, I3, q2⟩
end
end L2

namespace L2
open PySem PySem.Spec PyProof.Rows SrtO SrtZ
section
variable {X : Cx}
/-- min(d.values()), values ints -/
def rMinV : List V → Hp → VK → Prop := fun vs H Q => ∃ (p d : Addr) (ks : List (Str × Int)), vs = [V.ref p] ∧ H p = some (valuesO p d) ∧ H d = some (.dK (ks.map entZ)) ∧ 0 < ks.length ∧
  ∀ m, m ∈ ks.map (·.2) → (∀ y ∈ ks.map (·.2), m ≤ y) → Q (.int m) H
theorem cr_minV (hc : X.calm = true) : CallR X (.builtin "min") rMinV := by
  intro pins s σ H vs us Q I r h
  obtain ⟨p, d, ks, rfl, hp, ha, hne, q⟩ := h
  obtain rfl := Vals.ref1 r
  have view : s.heap.IsValuesView p d := (show ObjOk X.prog X.w H s.heap p (valuesO p d) from I.hok p _ hp).1
  obtain ⟨z, hd, xs', rel, dd⟩ := dk_of I.hok ha
  obtain ⟨ep, hat⟩ := dd.dictAt
  have l1 : ks.length = xs'.length := by
    have := Paired.length rel
    rwa [List.length_map] at this
  have K := PySem.W.kdl_values (prog := X.prog) (w := X.w) (knd := mixKind X.prog X.w) (kvs := xs') (ep := ep) (r := p) (d := d)
  have hok : s.heap.IsValuesView p d ∧ s.heap.DictAt (mixKind X.prog X.w) d xs' ep := ⟨view, hat⟩
  have hval : ∀ (i : Nat) (v : Value), (∃ k, xs'[i]? = some (k, v)) → ∃ t : Tok, v = Value.int ((ks.map (·.2)).getD i 0) t := fun i v ⟨k, e⟩ => by
    obtain ⟨e', t, e1, e2⟩ := ent_paired rel e
    refine ⟨t, ?_⟩
    have : (ks.map (·.2)).getD i 0 = e'.2 := by simp [List.getD, e1]
    rw [this]
    exact (Prod.mk.inj e2).2
  refine PySem.call_min_walkS ?_
  obtain ⟨oI, St, hit, W, st⟩ := K.iter X.A.in1 s (I.ok.hd hc) hok
  refine hit _ _ ⟨s.heap.objs.size, _, _, _, xs'.length, _, _, fun i j => decide ((ks.map (·.2)).getD i 0 < (ks.map (·.2)).getD j 0), rfl, W.toS, st, fun b hb => ?_, by omega, PySem.CmpOf.ints_lt _ hval, fun v s' hP hm => ?_⟩
  · show b < (s.heap.push oI).objs.size
    rw [size_push']
    rcases List.mem_cons.mp hb with e | hb
    · rw [e]; exact Nat.lt_succ_self _
    · rw [List.mem_singleton.mp hb]; exact Nat.lt_succ_of_lt (K.there _ hok).2
  · have hk : ∀ b o, s.heap.get? b = some o → s'.heap.get? b = some o := fun b o e =>
      hm.heap b o (fun hI => absurd (Heap.lt_size e) (by rw [List.mem_singleton.mp hI]; exact Nat.lt_irrefl _)) (Heap.get?_push_of_some _ e)
    obtain ⟨t, rfl⟩ := hval _ v hP
    obtain ⟨h1, h2⟩ := argBest_lt (fun i => (ks.map (·.2)).getD i 0) (xs'.length - 1)
    have hI : Inv X pins σ H s' := by
      rw [Moved.eq_with hm]
      exact I.kept (t' := s'.toks) hk
    refine ⟨.int _, H, hI, ⟨t, rfl⟩, q _ ?_ fun a ha => ?_⟩
    · exact PySem.getD_mem (by rw [List.length_map]; omega)
    · obtain ⟨j, hj, rfl⟩ := mem_getD ha
      rw [List.length_map] at hj
      exact h2 j (by omega)
end
end L2

namespace L2
open PySem PySem.Spec PyProof.Rows SrtO SrtZ
/-! own rules: (int, text) < (int, text); sorted of a list of texts of any length -/
def ltNZ (i j : Int) (x y : Str) : Bool := if i = j then ltZ x y else decide (i < j)
section
variable {X : Cx}
def rLtNZ (K : PySem.W.Frag) : R2 := fun x y H Q => ∃ (a b : Addr) (i j : Int) (z w : Str), x = .ref a ∧ y = .ref b ∧ SqT K H a [.int i, .str z] ∧ SqT K H b [.int j, .str w] ∧ Q (.bl (ltNZ i j z w)) H
theorem op_ltNZ (hu : X.A.units < cLine) : OpR X (compareOp .Lt) (rLtNZ X.K) := by
  intro pins s σ H x y v u Q I rx ry h
  obtain ⟨a, b, i, j, z, w, rfl, rfl, ha, hb, q⟩ := h
  cases rx
  cases ry
  obtain ⟨its, r1, p1, _⟩ := I.tuple ha
  obtain ⟨its2, r2, p2, _⟩ := I.tuple hb
  obtain ⟨u1, u2, rfl, ri, rj⟩ := vals2 r1
  obtain ⟨w1, w2, rfl, si, sj⟩ := vals2 r2
  obtain ⟨t1, rfl⟩ := ri
  obtain ⟨t2, rfl⟩ := rj
  obtain ⟨t3, rfl⟩ := si
  obtain ⟨t4, rfl⟩ := sj
  have R := Ob.RcOp.tuples_lt (A := X.A) (s := s) (e := fun k => match k with | 0 => (i == j) | _ => (z == w)) (r := fun k => match k with | 0 => decide (i < j) | _ => ltZ z w) p1 p2 hu (fun k h1 h2 => by
    match k, h1, h2 with
    | 0, _, _ => exact SeqAt.EqAt.int_int _ _ _ _
    | 1, _, _ => exact SeqAt.EqAt.str_str _ _ _ _
    | k + 2, h1, _ => exact absurd h1 (by simp)) (fun k h1 h2 _ => by
    match k, h1, h2 with
    | 0, _, _ => exact Ob.RcOp.lt_int _ _ _ _
    | 1, _, _ => exact fun _ _ _ _ h => PyProof.Rows.lt_str h
    | k + 2, h1, _ => exact absurd h1 (by simp))
  have e : Ob.lexAt (fun k => match k with | 0 => (i == j) | _ => (z == w)) (fun k => match k with | 0 => decide (i < j) | _ => ltZ z w) (decide (2 < 2)) 0 2 = ltNZ i j z w := by
    unfold ltNZ
    rw [Ob.lexAt_succ, Ob.lexAt_succ, Ob.lexAt_zero]
    show (if (i == j) = true then (if (z == w) = true then decide (2 < 2) else ltZ z w) else decide (i < j)) = _
    by_cases h1 : i = j
    · rw [if_pos (beq_iff_eq.mpr h1), if_pos h1]
      by_cases h2 : z = w
      · rw [if_pos (by rw [h2]; exact beq_self_eq_true w), h2, ltZ_irr]
        rfl
      · rw [if_neg (fun q => h2 (eq_of_beq q))]
    · rw [if_neg (fun q => h1 (eq_of_beq q)), if_neg h1]
  have R' : Ob.RcOp .Lt X.A s (.ref a) (.ref b) (ltNZ i j z w) := by
    rw [← e]
    exact R
  exact R' X.prog X.w X.xe (EP X pins σ Q) ⟨.bl _, H, I, rfl, q⟩
/-- sorted(xs), xs a list of texts of any length -/
def rSortedSL (K : PySem.W.Frag) : List V → Hp → VK → Prop := fun vs H Q => ∃ (a : Addr) (xs : List Str), vs = [V.ref a] ∧ SqL K H a (xs.map V.str) ∧ ∀ (ys : List Str) (p : Addr), ys.Perm xs → Srtd ltZ ys → H p = none → Q (.ref p) (upd H p (.lst (ys.map V.str)))
theorem cr_sortedSL : CallR X (.builtin "sorted") (rSortedSL X.K) := by
  intro pins s σ H vs us Q I r h
  obtain ⟨a, xs, rfl, hs, q⟩ := h
  obtain ⟨its, rv, hl, hz⟩ := I.list hs
  obtain rfl := Vals.ref1 r
  have hI : StrsAre its xs := strs_of_vals rv
  rw [List.length_map] at hz
  have il : its.length = xs.length := hI.length
  refine SrtO.sorted_ord (ltv := ltSv) ⟨fun x y => swo_str.asym _ _, fun x y z => swo_str.tr _ _ _⟩ hl.isList (by rw [il]; exact hz) (fun h2 h₁ b hb kk => strs_sortable (s := { s with heap := h₁ }) hI h2) fun out h1 h2 => ?_
  obtain ⟨ep, he'⟩ := PyProof.Rows.sortedAll_at s.heap its out.toArray
  have isO : ∀ v ∈ out, ∃ x t, v = Value.str x t := fun v hv => hI.all v (h2.perm.mem_iff.mp hv)
  have hO := strsAre_map out isO
  have pt : (out.map strOf).Perm xs := by
    have := h2.perm.map strOf
    rwa [show its.map strOf = xs from hI.strs] at this
  have hlen : ((out.map strOf).map V.str).length ≤ sizeLine := by rw [List.length_map, pt.length_eq]; exact hz
  refine ⟨.ref _, upd H (s.heap.objs.size + 1) (.lst ((out.map strOf).map V.str)), I.laid (t' := s.toks) (fun _ _ => PyProof.Rows.sortedAll_old) (Nat.le_succ _) ⟨hlen, out, ep, vals_of_strs hO, he'⟩, rfl, q _ _ pt (srtd_map h1) (I.hok.fresh (Nat.le_succ _))⟩
end
end L2

namespace L2
open PySem PySem.Spec PyProof.Rows
section
variable {X : Cx}
/-- name = {.. for ..} on one line, the name a local -/
theorem ps_setDc {i : Nat} {y : Str} {py : Pos} {kx vx tg iter : Expr} {ifs : List Expr} {scope : Scope} {own : List (Str × Nat)} {pos spos : Pos} {wi : TI} {g : TG} {tt : TT} {tk tv : TE} (hc : X.calm = true) (hN : X.N.Nodup) (hy : X.N[i]? = some y) (hyl : X.env.scope.names.lookup y = some .local)
    (hsw : swapsWith (.DictComp kx vx [⟨tg, iter, ifs, 0⟩] scope pos) (some (.Name y py)) spos.line X.env = pure true) (hi : PI X tg iter wi) (ok : BlkOk X.N X.env.scope scope own)
    (hg : ∀ (s : Shared) (H : Hp) (C : Addr) (cl : List (Str × Addr)) (fp : List Addr), PG (X.blk s H scope (compEnvC scope cl C X.env) fp) tg g) (ht : ∀ (s : Shared) (H : Hp) (C : Addr) (cl : List (Str × Addr)) (fp : List Addr), PTs (X.blk s H scope (compEnvC scope cl C X.env) fp) ifs tt)
    (hk : ∀ (s : Shared) (H : Hp) (C : Addr) (cl : List (Str × Addr)) (fp : List Addr), PE (X.blk s H scope (compEnvC scope cl C X.env) fp) kx tk)
    (he : ∀ (s : Shared) (H : Hp) (C : Addr) (cl : List (Str × Addr)) (fp : List Addr), PE (X.blk s H scope (compEnvC scope cl C X.env) fp) vx tv) (hs : ∀ x, foldedSetIterable iter X.env x = pure x := by intro _; rfl) :
    PS X (.Assign [.Name y py] (.DictComp kx vx [⟨tg, iter, ifs, 0⟩] scope pos) spos) (tAsg (tDc wi g tt tk tv (own.map (·.2))) (gName i)) := by
  refine ⟨fun pins s σ H D I h => ?_⟩
  rw [exec_Assign_Name_used _ _ _ _ hsw]
  refine wpAny_bind (wpAny_standAt (wpAny_bind ?_))
  show wpAny _ X.A (do let _ ← comprehension (.DictComp kx vx [⟨tg, iter, ifs, 0⟩] scope pos) scope X.env (firstIterPos [⟨tg, iter, ifs, 0⟩] pos) newDict false (eval iter X.env) (some (assign (.Name y py) X.env))) _ _ s
  have h : tDc wi g tt tk tv (own.map (·.2)) σ H (fun x H1 => gName i x σ H1 D.nx) := h
  refine wpAny_bind (thn (dc_core (Qf := fun _ s' => SP X pins D .next s') hc hN I hi ok hg ht hk he hs h fun L C s' m H' I' q hn f => ?_) fun _ s' hq => wpAny_pure (wpAny_pure hq))
  show wpAny _ _ (assign (.Name y py) X.env (.ref L)) _ _ _
  refine wpAny_assign_Name (store_ok2 (v := V.ref L) I' hN hy (.inl hyl) rfl (fun s2 I2 ⟨a, sb, ha⟩ => ?_) (.inr hyl))
  obtain ⟨f0, f1, f2, f3, f4, f5⟩ := f
  have haC : C ≠ a := by
    rcases ha with z | z
    · rw [z]; exact f1
    · exact fun e => f4 y a z e.symm
  refine ⟨m, hn.sameBut sb haC, fun h3 sb3 => ?_⟩
  exact ⟨_, H', I2.turned (t' := s2.toks) (fun b o hb e => (sb3.2 b hb).trans e) f0 f1 f3 f4 f5, q⟩
theorem sw_trueD {kx vx : Expr} {gs : List Comprehension} {scope : Scope} {pos py : Pos} {y : Str} {l : Nat} {env : Env} (hk : env.scope.kind = .function) (hy : env.scope.names.lookup y = some .local) (hl : (py.line == pos.line) = true)
    (ha : (scope.names.any fun (n, k) => n == y && (k == .local || k == .cell)) = false) : swapsWith (.DictComp kx vx gs scope pos) (some (.Name y py)) l env = pure true := by
  have ky : env.kindOf y = some .local := hy
  have hb : env.blockKind = .function := by unfold Env.blockKind; rw [hk]; rfl
  unfold swapsWith
  simp only [hb, ky, ha, Expr.pos, hl]
  rfl
/-- list.count of a text among texts -/
def rCntS (K : PySem.W.Frag) : V → List V → Hp → VK → Prop := fun x xs H Q => ∃ (p : Addr) (ns : List Str) (k : Str), x = .ref p ∧ xs = [.str k] ∧ SqL K H p (ns.map V.str) ∧ Q (.int (ns.count k : Nat)) H
theorem countS_in (k : Str) : ∀ ns : List Str, PySem.Spec.countIn (.str k) (ns.map PyData.str) = (ns.count k : Nat)
  | [] => rfl
  | n :: r => by
    rw [List.map_cons, PySem.Spec.countIn, countS_in k r, List.count_cons]
    simp only [PySem.Spec.same]
    rcases Bool.eq_false_or_eq_true (n == k) with hb | hb <;> simp only [hb, Bool.false_eq_true, if_true, if_false] <;> push_cast <;> omega
theorem mt_lcountS : MtR X "list.count" (rCntS X.K) := by
  intro pins s σ H x xs v us Q I rx rxs h
  obtain ⟨p, ns, k, rfl, rfl, hs, q⟩ := h
  cases rx
  obtain ⟨u, rfl, ru⟩ := rxs.one
  obtain ⟨t, rfl⟩ := ru
  obtain ⟨its, rv, pl, hlen⟩ := I.list hs
  refine count_list_strs (vs := its) pl.isList (strs_of_vals rv) ?_
  rw [countS_in]
  exact ⟨.int (ns.count k : Nat), H, I.tok _, ⟨s.toks, rfl⟩, q⟩
/-- a method within a comprehension: the written part by name -/
theorem pe_bmK {K : PySem.W.Frag} {o e : Expr} {es : List Expr} {to : TE} {t : TA} {name : Str} {apos cpos : Pos} {T id : String} {r : V → List V → Hp → VK → Prop} (pa : PlainAttrs T) (slot : Slot T name id) (hty : typeOf (.builtin id) = pure (.type "method_descriptor")) (hm : MtR X id r) (ho : PE X o to) (ha : PA X (e :: es) t) (hK : X.K = K := by rfl)
    (hbase : attributeBase o name X.env (eval o X.env) = eval o X.env := by rfl)
    (hfew : ((backTo cpos (starEach (e :: es) X.env)).all (fun x => !x.1) && (backToKw cpos (keywordEach [] X.env)).all (fun x => x.1.isSome)
      && decide ((e :: es).length + ([] : List Keyword).length + (if ([] : List Keyword).isEmpty then 0 else 1) < 30)) = true := by rfl)
    (hline : (apos.endLine == cpos.line) = true := by rfl) (hs : starEach (e :: es) X.env = (false, eval e X.env) :: starEach es X.env := by rfl) (hplain : (backTo cpos (starEach es X.env)).any (·.1) = false := by rfl) :
    PE X (.Call (.Attribute o name apos) (e :: es) [] cpos) (tBM K T r to t) := by
  subst hK
  exact pe_bm pa slot hty hm ho ha hbase hfew hline hs hplain
end
end L2

namespace PySem.SeqAt
open Builtin
open AutoSeq1 (wpAny_loadPart')
/-! a dict is no text and no tuple -/
theorem dict_no_str (l : Addr) (es : Array DictEntry) (n : Nat) (dd : Option Addr) (sl : Array (Option Value)) (i : Str) (u : Tok) :
    Meets (Builtin.«dict.__eq__» ⟨[.ref l, .str i u], []⟩) (fun _ R s => s.heap.get? l = some { cls := .type "dict", dict := dd, data := .dict es n, slots := sl } ∧ R (.ok (.ret .notImplemented)) s) := by
  refine .of_wp fun prog w A R s h => ?_
  obtain ⟨hp, g, d, tk, os⟩ := s
  obtain ⟨hl, h⟩ := h
  have f1 := F.sub_str_dict
  wp_walk using wpAny_loadPart' hl
  exact ⟨_, rfl, h⟩
theorem str_no_dict (l : Addr) (es : Array DictEntry) (n : Nat) (dd : Option Addr) (sl : Array (Option Value)) (i : Str) (u : Tok) :
    Meets (Builtin.«str.__eq__» ⟨[.str i u, .ref l], []⟩) (fun _ R s => s.heap.get? l = some { cls := .type "dict", dict := dd, data := .dict es n, slots := sl } ∧ R (.ok (.ret .notImplemented)) s) := by
  refine .of_wp fun prog w A R s h => ?_
  obtain ⟨hp, g, d, tk, os⟩ := s
  obtain ⟨hl, h⟩ := h
  wp_walk using wpAny_loadPart' hl, wpAny_load hl
  exact ⟨_, rfl, h⟩
theorem dict_no_tuple (l b : Addr) (es : Array DictEntry) (items2 : Array Value) (n n2 : Nat) (dd dd2 : Option Addr) (sl sl2 : Array (Option Value)) :
    Meets (Builtin.«dict.__eq__» ⟨[.ref l, .ref b], []⟩) (fun _ R s => s.heap.get? l = some { cls := .type "dict", dict := dd, data := .dict es n, slots := sl } ∧ s.heap.get? b = some { cls := .type "tuple", dict := dd2, data := .seq items2 n2, slots := sl2 } ∧ R (.ok (.ret .notImplemented)) s) := by
  refine .of_wp fun prog w A R s h => ?_
  obtain ⟨hp, g, d, tk, os⟩ := s
  obtain ⟨hl, hb, h⟩ := h
  have f1 := F.sub_tuple_dict
  wp_walk using wpAny_loadPart' hl, wpAny_loadPart' hb
  exact ⟨_, rfl, h⟩
theorem tuple_no_dict (l b : Addr) (items : Array Value) (es : Array DictEntry) (n n2 : Nat) (dd dd2 : Option Addr) (sl sl2 : Array (Option Value)) :
    Meets (Builtin.«tuple.__eq__» ⟨[.ref l, .ref b], []⟩) (fun _ R s => s.heap.get? l = some { cls := .type "tuple", dict := dd, data := .seq items n, slots := sl } ∧ s.heap.get? b = some { cls := .type "dict", dict := dd2, data := .dict es n2, slots := sl2 } ∧ R (.ok (.ret .notImplemented)) s) := by
  refine .of_wp fun prog w A R s h => ?_
  obtain ⟨hp, g, d, tk, os⟩ := s
  obtain ⟨hl, hb, h⟩ := h
  have f1 := F.sub_dict_tuple
  wp_walk using wpAny_loadPart' hl, wpAny_loadPart' hb
  exact ⟨_, rfl, h⟩
section
variable {A : Around} {s : Shared}
theorem RcAt.dict_str {l : Addr} {es : Array DictEntry} {n : Nat} {dd : Option Addr} {sl : Array (Option Value)} (b : Str) (u : Tok) (ho : s.heap.get? l = some { cls := .type "dict", dict := dd, data := .dict es n, slots := sl }) (hu : A.units < cLine) : RcAt A s (.ref l) (.str b u) false := fun prog w E Q h =>
  rc_eq_decline_or (k := false) ⟨_, ho, rfl⟩ (typeIs_str s b u) (by decide) F.sub_str_dict F.slot_dict_eq F.slot_str_eq_refl
    (fun _ hq => call_meets F.slot_dict_eq ⟨_, ho, rfl⟩ F.entry_dict_eq (F.args_dict_eq_2 _ _) (dict_no_str l es n dd sl b u) ⟨ho, hq⟩)
    (fun _ hq => call_meets F.slot_str_eq_refl (typeIs_str s b u) F.entry_str_eq (F.args_str_eq_2 _ _) (str_no_dict l es n dd sl b u) ⟨ho, hq⟩)
    (fun _ hq => wpAny_of_eq (rfl : isSame (.ref l) (.str b u) = pure false) hq) (.inr hu) h
theorem EqAt.dict_str {l : Addr} {es : Array DictEntry} {n : Nat} {dd : Option Addr} {sl : Array (Option Value)} (b : Str) (u : Tok) (ho : s.heap.get? l = some { cls := .type "dict", dict := dd, data := .dict es n, slots := sl }) (hu : A.units < cLine) : EqAt A s (.ref l) (.str b u) false := fun prog w E Q h => by
  unfold eqBool
  refine wpAny_holding ?_
  refine wpAny_ite_split (fun hab => absurd (eq_of_beq hab) nofun) (fun _ => ?_)
  exact wpAny_bind (RcAt.dict_str b u ho hu prog w E _ (wpAny_truthy_bool h))
theorem RcAt.dict_tuple {l b : Addr} {es : Array DictEntry} {n : Nat} {dd : Option Addr} {sl : Array (Option Value)} {items2 : Array Value} (ho : s.heap.get? l = some { cls := .type "dict", dict := dd, data := .dict es n, slots := sl }) (hb : s.heap.IsTuple b items2) (hu : A.units < cLine) : RcAt A s (.ref l) (.ref b) false := fun prog w E Q h => by
  obtain ⟨⟨cls2, dd2, data2, sl2⟩, ho2, hc2, n2, hd2⟩ := id hb
  simp only at hc2 hd2
  subst hc2 hd2
  have hne : l ≠ b := fun e => by
    subst e
    rw [ho] at ho2
    exact absurd ho2 (by simp)
  exact (rc_eq_decline_or (k := false) ⟨_, ho, rfl⟩ ⟨_, ho2, rfl⟩ (by decide) F.sub_tuple_dict F.slot_dict_eq F.slot_tuple_eq_refl
    (fun _ hq => call_meets F.slot_dict_eq ⟨_, ho, rfl⟩ F.entry_dict_eq (F.args_dict_eq_2 _ _) (dict_no_tuple l b es items2 n n2 dd dd2 sl sl2) ⟨ho, ho2, hq⟩)
    (fun _ hq => call_meets F.slot_tuple_eq_refl ⟨_, ho2, rfl⟩ F.entry_tuple_eq (F.args_tuple_eq_2 _ _) (tuple_no_dict b l items2 es n2 n dd2 dd sl2 sl) ⟨ho2, ho, hq⟩)
    (fun _ hq => wpAny_isSame_ref_other hne ho ho2 (by simp) hq) (.inr hu) h)
end
end PySem.SeqAt
namespace L2
open PySem PySem.Spec PyProof.Rows Builtin
variable {X : Cx} {pins : List (Addr × Obj)} {σ : St} {H : Hp} {s : Shared}
/-! anything against a text -/
def EqS (K : PySem.W.Frag) (H : Hp) (x : V) (z : Str) (c : Bool) : Prop :=
  (x = .non ∧ c = false) ∨ (∃ i, x = .int i ∧ c = false) ∨ (∃ b, x = .bl b ∧ c = false) ∨ (∃ y, x = .str y ∧ c = decide (y = z)) ∨
  ∃ a, x = .ref a ∧ c = false ∧ ((∃ xs, SqL K H a xs) ∨ (∃ xs, SqT K H a xs) ∨ ∃ k, H a = some (.dK k))
theorem dict_at (I : Inv X pins σ H s) {a : Addr} {k : List (Key × V)} (e : H a = some (.dK k)) : ∃ es n dd sl, s.heap.get? a = some { cls := .type "dict", dict := dd, data := .dict es n, slots := sl } := by
  obtain ⟨_, low, vs, _, dd⟩ := (show ObjOk X.prog X.w H s.heap a (.dK k) from I.hok a _ e)
  obtain ⟨o, es, n, ho, shape, r⟩ := dd
  obtain ⟨cls, dct, data, sl⟩ := o
  obtain ⟨c1, c2, c3⟩ := shape
  obtain ⟨c4, _⟩ := r
  simp only at c1 c4
  subst c1 c4
  exact ⟨es, n, dct, sl, ho⟩
theorem str_dec (y z : Str) : (y == z) = decide (y = z) := by
  by_cases h : y = z
  · rw [decide_eq_true h, h]
    exact beq_self_eq_true z
  · rw [decide_eq_false h]
    exact beq_eq_false_iff_ne.mpr h
theorem EqS.rc (I : Inv X pins σ H s) {A : Around} (hu : A.units < cLine) {x : V} {v : Value} {z : Str} {t : Tok} {c : Bool} (h : EqS X.K H x z c) (r : RelV x v) : SeqAt.RcAt A s v (.str z t) c := by
  rcases h with ⟨rfl, rfl⟩ | ⟨i, rfl, rfl⟩ | ⟨b, rfl, rfl⟩ | ⟨y, rfl, rfl⟩ | ⟨a, rfl, rfl, h⟩
  · cases (show v = Value.none from r)
    exact SeqAt.RcAt.none_str z t
  · obtain ⟨t', rfl⟩ := r
    exact SeqAt.RcAt.int_str i t' z t
  · cases (show v = Value.bool b from r)
    exact SeqAt.RcAt.bool_str b z t
  · obtain ⟨t', rfl⟩ := r
    rw [← str_dec]
    exact SeqAt.RcAt.str_str y t' z t
  · cases (show v = Value.ref a from r)
    rcases h with ⟨xs, h⟩ | ⟨xs, h⟩ | ⟨k, h⟩
    · obtain ⟨its, _, p, _⟩ := I.list h
      exact SeqAt.RcAt.list_str z t p.isList hu
    · obtain ⟨its, _, p, _⟩ := I.tuple h
      exact SeqAt.RcAt.tuple_str z t p hu
    · obtain ⟨es, n, dd, sl, ho⟩ := dict_at I h
      exact SeqAt.RcAt.dict_str z t ho hu
theorem EqS.eq (I : Inv X pins σ H s) {A : Around} (hu : A.units < cLine) {x : V} {v : Value} {z : Str} {t : Tok} {c : Bool} (h : EqS X.K H x z c) (r : RelV x v) : SeqAt.EqAt A s v (.str z t) c := by
  rcases h with ⟨rfl, rfl⟩ | ⟨i, rfl, rfl⟩ | ⟨b, rfl, rfl⟩ | ⟨y, rfl, rfl⟩ | ⟨a, rfl, rfl, h⟩
  · cases (show v = Value.none from r)
    exact SeqAt.EqAt.none_str z t
  · obtain ⟨t', rfl⟩ := r
    exact SeqAt.EqAt.int_str i t' z t
  · cases (show v = Value.bool b from r)
    exact SeqAt.EqAt.bool_str b z t
  · obtain ⟨t', rfl⟩ := r
    rw [← str_dec]
    exact SeqAt.EqAt.str_str y t' z t
  · cases (show v = Value.ref a from r)
    rcases h with ⟨xs, h⟩ | ⟨xs, h⟩ | ⟨k, h⟩
    · obtain ⟨its, _, p, _⟩ := I.list h
      exact SeqAt.EqAt.list_str z t p.isList hu
    · obtain ⟨its, _, p, _⟩ := I.tuple h
      exact SeqAt.EqAt.tuple_str z t p hu
    · obtain ⟨es, n, dd, sl, ho⟩ := dict_at I h
      exact SeqAt.EqAt.dict_str z t ho hu
/-- anything == a text -/
theorem op_eqS {K : PySem.W.Frag} (hK : X.K = K) (hu : X.A.units + 64 < cLine) : OpR X (compareOp .Eq) (fun x y H Q => ∃ z c, y = .str z ∧ EqS K H x z c ∧ Q (.bl c) H) := by
  subst hK
  intro pins s σ H x y v u Q I rx ry h
  obtain ⟨z, c, rfl, e, q⟩ := h
  obtain ⟨t, rfl⟩ := ry
  exact EqS.rc I (by omega) e rx _ _ _ _ ⟨.bl c, H, I, rfl, q⟩
/-! anything against a tuple of one text -/
def EqT (K : PySem.W.Frag) (H : Hp) (x : V) (z : Str) (c : Bool) : Prop :=
  (c = false ∧ (x = .non ∨ (∃ i, x = .int i) ∨ (∃ b, x = .bl b) ∨ ∃ y, x = .str y)) ∨
  ∃ a, x = .ref a ∧ ((c = false ∧ ((∃ xs, SqL K H a xs) ∨ ∃ k, H a = some (.dK k))) ∨ (∃ xs, SqT K H a xs ∧ ((xs = [] ∧ c = false) ∨ ∃ x0 r c0, xs = x0 :: r ∧ EqS K H x0 z c0 ∧ c = (c0 && decide (r = []))))) 
theorem vals_nil {its : List Value} (h : Vals [] its) : its = [] := by cases h; rfl
theorem vals_cons {x : V} {xs : List V} {its : List Value} (h : Vals (x :: xs) its) : ∃ v r, its = v :: r ∧ RelV x v ∧ Vals xs r := by
  cases h with
  | cons h t => exact ⟨_, _, rfl, h, t⟩
theorem EqT.rc (I : Inv X pins σ H s) {A : Around} (hu : A.units + 64 < cLine) (hu1 : A.in1.units < cLine) {x : V} {v : Value} {b : Addr} {z : Str} {c : Bool} (h : EqT X.K H x z c) (r : RelV x v) (hb : SqT X.K H b [.str z]) : SeqAt.RcAt A s v (.ref b) c := by
  obtain ⟨its2, rv2, p2, _⟩ := I.tuple hb
  have hu0 : A.units < cLine := by omega
  obtain ⟨w2, r2, rfl, rz, rr⟩ := vals_cons rv2
  obtain rfl := vals_nil rr
  obtain ⟨t, rfl⟩ := rz
  rcases h with ⟨rfl, h⟩ | ⟨a, rfl, h⟩
  · rcases h with rfl | ⟨i, rfl⟩ | ⟨j, rfl⟩ | ⟨y, rfl⟩
    · cases (show v = Value.none from r)
      exact SeqAt.RcAt.none_tuple p2 hu0
    · obtain ⟨t', rfl⟩ := r
      exact SeqAt.RcAt.int_tuple i t' p2 hu0
    · cases (show v = Value.bool j from r)
      exact SeqAt.RcAt.bool_tuple j p2 hu0
    · obtain ⟨t', rfl⟩ := r
      exact SeqAt.RcAt.str_tuple y t' p2 hu0
  · cases (show v = Value.ref a from r)
    rcases h with ⟨rfl, ⟨xs, h⟩ | ⟨k, h⟩⟩ | ⟨xs, hx, h⟩
    · obtain ⟨its, _, p, _⟩ := I.list h
      exact SeqAt.RcAt.list_tuple p.isList p2 hu0
    · obtain ⟨es, n, dd, sl, ho⟩ := dict_at I h
      exact SeqAt.RcAt.dict_tuple ho p2 hu0
    · obtain ⟨its, rv, p, _⟩ := I.tuple hx
      rcases h with ⟨rfl, rfl⟩ | ⟨x0, rs, c0, rfl, e0, rfl⟩
      · obtain rfl := vals_nil rv
        have := SeqAt.RcAt.tuples (e := fun _ => false) p p2 hu0 (fun j j1 j2 => absurd j1 (by simp))
        exact this
      · obtain ⟨v0, r0, rfl, rel0, rrs⟩ := vals_cons rv
        have := SeqAt.RcAt.tuples (A := A) (e := fun _ => c0) p p2 hu0 (fun j j1 j2 => by
          have j0 : j = 0 := by simpa using j2
          subst j0
          exact EqS.eq I hu1 e0 rel0)
        have l1 : rs.length = r0.length := Paired.length rrs
        have e2 : ((List.range (min (v0 :: r0).toArray.size [Value.str z t].toArray.size)).all (fun _ => c0) && (v0 :: r0).toArray.size == [Value.str z t].toArray.size) = (c0 && decide (rs = [])) := by
          cases rs with
          | nil =>
            cases r0 with
            | nil => simp
            | cons _ _ => simp at l1
          | cons y ys =>
            cases r0 with
            | nil => simp at l1
            | cons _ _ => simp
        rw [e2] at this
        exact this
/-- anything == a tuple of one text -/
theorem op_eqT {K : PySem.W.Frag} (hK : X.K = K) (hu : X.A.units + 64 < cLine) : OpR X (compareOp .Eq) (fun x y H Q => ∃ b z c, y = .ref b ∧ SqT K H b [.str z] ∧ EqT K H x z c ∧ Q (.bl c) H) := by
  subst hK
  intro pins s σ H x y v u Q I rx ry h
  obtain ⟨b, z, c, rfl, hb, e, q⟩ := h
  cases (show u = Value.ref b from ry)
  exact EqT.rc I hu (by have : X.A.in1.units ≤ X.A.units + 1 := by simp [Around.in1, Around.units]
                        omega) e rx hb _ _ _ _ ⟨.bl c, H, I, rfl, q⟩
end L2

namespace Kb
open PySem PySem.Spec PyProof.Rows L2
/-! try: .. except A as n: .. except ..: where each error of the body is A's -/
def wFirst (K : PySem.W.Frag) (c : Value) (i : Nat) (ts : Addr → Value → Option Addr → TS) (D : Ends) : WX := fun cls d σ H =>
  PySem.W.exmOne K cls c = some true ∧ ∀ a, H a = none → ts a cls d { nx := fun σ' H' => D.nx (σ'.set i none) H', rt := D.rt, bk := fun σ' H' => D.bk (σ'.set i none) H', ct := fun σ' H' => D.ct (σ'.set i none) H' } (σ.set i (some (.ref a))) H
section
variable {X : Cx} {x n : Str} {c : Value} {i : Nat} {body rest : List Stmt} {first : Stmt} {more : List ExceptHandler} {np pos hpos : Pos} {tb : WX → TS} {ts : Addr → Value → Option Addr → TS}
theorem ps_try_first (stk : X.stack = X.env :: X.outer) (frm : X.env.frame = some X.env.locals) (nd : X.N.Nodup) (at_ : X.N[i]? = some n) (loc : X.env.kindOf n = some .local) (nam : Names X x c)
    (runs : ∀ (W : WX) (pn : List (Addr × Obj)) (way : Value → Shared → Prop), L2.Takes (X.tr pn way) W → PassesOwn (model X.prog X.w) X.A X.env way → PSs (X.tr pn way) body (tb W))
    (caught : ∀ (a : Addr) (oe : Obj) (cls : Value) (d : Option Addr) (pn : List (Addr × Obj)), Zc cls d oe → (∃ vs, oe.data = .fields vs) → PSs (X.suite a ((a, oe) :: pn)) (first :: rest) (ts a cls d)) :
    PS X (.Try body (.ExceptHandler (some (.Name x np)) (some n) (first :: rest) hpos :: more) [] [] pos) (fun D σ H => tb (wFirst X.K c i ts D) D σ H) := by
  refine ⟨fun pins s σ H D I reads => ?_⟩
  have good := I.ok
  have fr : X.A.frames = some (X.env :: X.outer) := by rw [good.frames, stk]
  refine wpAny_Try_except ?_
  have whole := (runs (wFirst X.K c i ts D) (X.pn ++ pins) (fun e t1 => wpAny (model X.prog X.w) X.A (noteFrame e X.env) (fun _ t2 => wpAny (model X.prog X.w) X.A (setFlight e none) (fun _ t3 =>
    wpAny (model X.prog X.w) X.A (handleBy e X.env (.ExceptHandler (some (.Name x np)) (some n) (first :: rest) hpos :: more)) (SP X pins D) X.xe t3) X.xe t2) X.xe t1) (fun u s' air => ?_) PassesOwn.looking).run [] s σ H D (I.toTry _) reads
  · refine wpAny_mono whole (fun fl s1 got => ?_) fun _ _ z => z
    cases fl with
    | next => exact wpAny_execs_nil (let ⟨σ', H', J, q⟩ := got; ⟨σ', H', J.ofTry good, q⟩)
    | brk => exact let ⟨σ', H', J, q⟩ := got; ⟨σ', H', J.ofTry good, q⟩
    | cont => exact let ⟨σ', H', J, q⟩ := got; ⟨σ', H', J.ofTry good, q⟩
    | ret u => exact let ⟨v, σ', H', J, r, q⟩ := got; ⟨v, σ', H', J.ofTry good, r, q⟩
  · obtain ⟨a, B, sI, pins1, σ1, H1, cls, d, eu, J0, ground, up, sky, na, os, ag, yes, suite⟩ := air
    subst eu
    have J : L2.Inv X pins σ1 H1 sI := J0.ofTry good
    have sky : Sky B X.stack a (Zc cls d) X.env.locals s'.heap := sky
    rw [stk] at sky
    show wpAny (model X.prog X.w) X.A (noteFrame (.ref a) X.env) _ _ s'
    refine Sky.land Zc.steady fr frm sky fun g3 fly3 up3 => ?_
    have J3 : L2.Inv X pins σ1 H1 { s' with heap := g3 } := J.landed ground fly3.1 (up.trans up3) os ag
    obtain ⟨o3, v3, e3, z3, d3⟩ := fly3.there
    have offFrames : a ∉ frs (X.env :: X.outer) := fun hm => by
      obtain ⟨_, o', e', nofields⟩ := fly3.2.2.1.mem hm
      rw [e3] at e'
      cases e'
      exact nofields _ d3
    have offL : a ≠ X.env.locals := fun z => offFrames (List.mem_filterMap.mpr ⟨X.env, List.mem_cons_self, by rw [frm, z]⟩)
    have offF : a ∉ X.fs := fun hm => by
      obtain ⟨e, he, q⟩ := List.mem_filterMap.mp hm
      exact offFrames (List.mem_filterMap.mpr ⟨e, List.mem_cons_of_mem _ he, q⟩)
    have in3 := J3.suite e3 d3 na offL offF
    refine wpAny_handleBy_cons (codeAny_handlers_test ?_) (by intro q; cases q)
    have its : PySem.W.Looks (model X.prog X.w) g3 (typeOf (.ref a)) cls := fun _ _ _ _ keep q => wpAny_typeOf_ref (keep _ _ e3) (by rw [z3.1]; exact q)
    have asks := PySem.W.exm_one (M := model X.prog X.w) J3.kIn its yes
    have named : ∀ {R : Value → Shared → Prop} {way : Value → Shared → Prop}, R c { s' with heap := g3 } → wpAny (model X.prog X.w) (X.A.mark (some (.ref a))) (eval (.Name x np) X.env) R way { s' with heap := g3 } := fun {R way} q =>
      match nam with
      | ⟨gl, nodebug, .inl own⟩ => ld_glob (X := X.suite a ((a, o3) :: (X.pn ++ pins))) in3 gl own q nodebug
      | ⟨gl, nodebug, .inr ⟨none_, boot, nonm⟩⟩ => ld_blt (X := X.suite a ((a, o3) :: (X.pn ++ pins))) in3 gl none_ boot q nonm nodebug
    refine named (asks.here (codeAny_handlers_suite_as (HandSPX.lands_againZ fly3 fun g4 fly4 up4 => ?_)))
    have J4 : L2.Inv X pins σ1 H1 { s' with heap := g4 } := J.landed ground fly4.1 ((up.trans up3).trans up4) os ag
    obtain ⟨o4, v4, e4, z4, d4⟩ := fly4.there
    refine store_ok (X := X.suite a ((a, o4) :: (X.pn ++ pins))) (v := .ref a) (J4.suite e4 d4 na offL offF) nd at_ (.inl loc) rfl (fun s5 in5 => ?_) (.inr loc)
    refine wpAny_mono ((caught a o4 cls d (X.pn ++ pins) z4 ⟨_, d4⟩).run [] s5 _ H1 _ in5 (suite a na)) (fun fl s6 got => ?_) fun _ _ z => z.elim
    have over : ∀ {σ6 : L2.St} {H6 : Hp} {R : Shared → Prop}, L2.Inv (X.suite a ((a, o4) :: (X.pn ++ pins))) [] σ6 H6 s6 → (∀ s7, L2.Inv X pins (σ6.set i none) H6 s7 → R s7) →
        wpAny (model X.prog X.w) X.A (do bindName X.env n .none; unbindBehindTheSuite X.env n hpos) (fun _ s7 => R s7) X.xe s6 := fun in6 q => gone_ok (in6.unsuite good) nd at_ loc q
    cases fl with
    | next => exact let ⟨_, _, in6, q6⟩ := got; over in6 fun _ J7 => ⟨_, _, J7, q6⟩
    | brk => exact let ⟨_, _, in6, q6⟩ := got; over in6 fun _ J7 => ⟨_, _, J7, q6⟩
    | cont => exact let ⟨_, _, in6, q6⟩ := got; over in6 fun _ J7 => ⟨_, _, J7, q6⟩
    | ret u => exact let ⟨_, _, _, in6, r6, q6⟩ := got; over in6 fun _ J7 => ⟨_, _, _, J7, r6, q6⟩
end
end Kb

namespace PySem.SeqAt
open Builtin
section
variable {A : Around} {s : Shared}
theorem RcAt.str_dict {l : Addr} {es : Array DictEntry} {n : Nat} {dd : Option Addr} {sl : Array (Option Value)} (b : Str) (u : Tok) (ho : s.heap.get? l = some { cls := .type "dict", dict := dd, data := .dict es n, slots := sl }) (hu : A.units < cLine) : RcAt A s (.str b u) (.ref l) false := fun prog w E Q h =>
  rc_eq_decline_or (k := false) (typeIs_str s b u) ⟨_, ho, rfl⟩ (by decide) F.sub_dict_str F.slot_str_eq F.slot_dict_eq
    (fun _ hq => call_meets F.slot_str_eq (typeIs_str s b u) F.entry_str_eq (F.args_str_eq_2 _ _) (str_no_dict l es n dd sl b u) ⟨ho, hq⟩)
    (fun _ hq => call_meets F.slot_dict_eq ⟨_, ho, rfl⟩ F.entry_dict_eq (F.args_dict_eq_2 _ _) (dict_no_str l es n dd sl b u) ⟨ho, hq⟩)
    (fun _ hq => wpAny_of_eq (rfl : isSame (.str b u) (.ref l) = pure false) hq) (.inr hu) h
theorem EqAt.str_dict {l : Addr} {es : Array DictEntry} {n : Nat} {dd : Option Addr} {sl : Array (Option Value)} (b : Str) (u : Tok) (ho : s.heap.get? l = some { cls := .type "dict", dict := dd, data := .dict es n, slots := sl }) (hu : A.units < cLine) : EqAt A s (.str b u) (.ref l) false := fun prog w E Q h => by
  unfold eqBool
  refine wpAny_holding ?_
  refine wpAny_ite_split (fun hab => absurd (eq_of_beq hab) nofun) (fun _ => ?_)
  exact wpAny_bind (RcAt.str_dict b u ho hu prog w E _ (wpAny_truthy_bool h))
end
end PySem.SeqAt
namespace L2
open PySem PySem.Spec PyProof.Rows Builtin
variable {X : Cx} {pins : List (Addr × Obj)} {σ : St} {H : Hp} {s : Shared}
/-- a list, tuple or dict in a tuple of texts -/
theorem op_inO {K : PySem.W.Frag} (hK : X.K = K) (hu : X.A.units + 64 < cLine) : OpR X (compareOp .In) (fun x y H Q => ∃ (a p : Addr) (zs : List Str), x = .ref a ∧ y = .ref p ∧ ((∃ xs, SqL K H a xs) ∨ (∃ xs, SqT K H a xs) ∨ ∃ k, H a = some (.dK k)) ∧ SqT K H p (zs.map V.str) ∧ Q (.bl false) H) := by
  subst hK
  intro pins s σ H x y v u Q I rx ry h
  obtain ⟨a, p, zs, rfl, rfl, ha, hp, q⟩ := h
  cases (show v = Value.ref a from rx)
  cases (show u = Value.ref p from ry)
  obtain ⟨its, r, pl, hz⟩ := I.tuple hp
  have hu1 : X.A.in1.units < cLine := by
    have : X.A.in1.units ≤ X.A.units + 1 := by simp [Around.in1, Around.units]
    omega
  have all : ∀ {zs : List Str} {its : List Value}, Vals (zs.map V.str) its → ∀ y ∈ its, ∃ z t, y = Value.str z t := by
    intro zs
    induction zs with
    | nil =>
      intro its r y hy
      cases r
      cases hy
    | cons z zs ih =>
      intro its r y hy
      cases r with
      | cons h t =>
        obtain ⟨tk, rfl⟩ := h
        rcases List.mem_cons.mp hy with rfl | hy
        · exact ⟨z, tk, rfl⟩
        · exact ih t y hy
  refine SeqAt.in_tupleAt (fun _ => false) pl (fun y hy => ?_) ⟨.bl false, H, I, ?_, q⟩
  · obtain ⟨z, t, rfl⟩ := all r y (by simpa using hy)
    rcases ha with ⟨xs, h⟩ | ⟨xs, h⟩ | ⟨k, h⟩
    · obtain ⟨its, _, p, _⟩ := I.list h
      exact SeqAt.EqAt.str_list z t p.isList hu1
    · obtain ⟨its, _, p, _⟩ := I.tuple h
      exact SeqAt.EqAt.str_tuple z t p hu1
    · obtain ⟨es, n, dd, sl, ho⟩ := dict_at I h
      exact SeqAt.EqAt.str_dict z t ho hu1
  · show Value.bool _ = Value.bool false
    congr 1
    simp
/-- a tuple != () -/
theorem op_neT0 {K : PySem.W.Frag} (hK : X.K = K) (hu : X.A.units + 64 < cLine) : OpR X (compareOp .NotEq) (fun x y H Q => ∃ (a b : Addr) (xs : List V), x = .ref a ∧ y = .ref b ∧ SqT K H a xs ∧ SqT K H b [] ∧ Q (.bl (!decide (xs = []))) H) := by
  subst hK
  intro pins s σ H x y v u Q I rx ry h
  obtain ⟨a, b, xs, rfl, rfl, ha, hb, q⟩ := h
  cases (show v = Value.ref a from rx)
  cases (show u = Value.ref b from ry)
  obtain ⟨its, r, p, _⟩ := I.tuple ha
  obtain ⟨its2, r2, p2, _⟩ := I.tuple hb
  obtain rfl := vals_nil r2
  have := SeqAt.RcNeAt.tuples (A := X.A) (e := fun _ => false) p p2 (by omega) (fun j j1 j2 => absurd j2 (by simp))
  have e : (!((List.range (min its.toArray.size ([] : List Value).toArray.size)).all (fun _ => false) && its.toArray.size == ([] : List Value).toArray.size)) = !decide (xs = []) := by
    have hl := r.length
    cases xs with
    | nil =>
      cases its with
      | nil => simp
      | cons _ _ => simp at hl
    | cons _ _ =>
      cases its with
      | nil => simp at hl
      | cons _ _ => simp
  rw [e] at this
  exact this _ _ _ _ ⟨.bl _, H, I, rfl, q⟩
end L2


namespace Kb
open PySem PySem.Spec PyProof.Rows L2
/-! the text -/
def topS (i : Nat) : Stmt := PySem.Challenge.pw_knownends_k14_rings_and_sums_refused.main.body.getD i (.Pass ⟨0, 0, 0, 0⟩)
/-! facts -/
structure Dn (K : PySem.W.Frag) (mg : Str → Option Value) (nm : Str) (st : Stmt) (ps : List Str) where
  f : Addr
  fd : FuncData
  F : Fun K nm nm st f fd
  g : mg nm = some (.ref f)
  b : Binds K fd ps []
structure Cst (mg : Str → Option Value) (nm : Str) (v : V) where
  u : Value
  g : mg nm = some u
  r : RelV v u
structure Blt (mg : Str → Option Value) : Prop where
  n_len : mg "len" = none
  n_int : mg "int" = none
  n_abs : mg "abs" = none
  n_range : mg "range" = none
  n_isinstance : mg "isinstance" = none
  n_str : mg "str" = none
  n_all : mg "all" = none
  n_tuple : mg "tuple" = none
  n_bool : mg "bool" = none
  n_list : mg "list" = none
  n_dict : mg "dict" = none
  n_sum : mg "sum" = none
  n_min : mg "min" = none
  n_sorted : mg "sorted" = none
/-! heaps -/
theorem same_upd {H : Hp} {p : Addr} {o : HO} (h : H p = none) : Same H (upd H p o) := fun b x e => by
  rw [upd_ne (ne_of_none e h)]
  exact e
theorem Same.new {H H1 : Hp} {p : Addr} {o : HO} (x : Same H H1) (h : H1 p = none) : Same H (upd H1 p o) := fun b u e => same_upd h b u (x b u e)
theorem Same.gone {H H1 : Hp} {p : Addr} (x : Same H H1) (h : H1 p = none) : H p = none := by
  cases e : H p with
  | none => rfl
  | some o =>
    have := x _ _ e
    rw [h] at this
    cases this
/-- an object that was new is stored anew -/
theorem Same.put {H H1 : Hp} {p : Addr} {o : HO} (x : Same H H1) (h : H p = none) : Same H (upd H1 p o) := fun b u e => by
  rw [upd_ne (ne_of_none e h)]
  exact x b u e
theorem sql {K : PySem.W.Frag} {H : Hp} {a : Addr} {xs : List V} (h : H a = some (.lst xs)) : SqL K H a xs := .inl (.inl h)
theorem seqT {K : PySem.W.Frag} {H H' : Hp} {a : Addr} {xs : List V} (h : SqT K H a xs) (s : Same H H') : SqT K H' a xs := by
  rcases h with (h | ⟨o, h⟩) | h
  · exact .inl (.inl (s _ _ h))
  · exact .inl (.inr ⟨o, s _ _ h⟩)
  · exact .inr h
theorem tyT {K : PySem.W.Frag} {H : Hp} {a : Addr} {xs : List V} (h : SqT K H a xs) : TyX K H (.ref a) (.type "tuple") := by
  rcases h with (h | ⟨o, h⟩) | ⟨o, its, n, h, c, _⟩
  · exact .base (.tup h)
  · exact .fTuple h
  · exact .kTuple h c
/-- %, the rest as a letter -/
def rModB : R2 := fun x y H Q => ∃ i j, x = .int i ∧ y = .int j ∧ 0 < j ∧ ∀ m : Int, 0 ≤ m → m < j → m = i % j → Q (.int m) H
theorem op_modB {X : Cx} : OpR X (binaryOp .Mod) rModB := fun pins s σ H x y v u Q I rx ry h => by
  obtain ⟨i, j, e1, e2, hj, q⟩ := h
  exact op_mod pins s σ H x y v u Q I rx ry ⟨i, j, e1, e2, hj, q _ (Int.emod_nonneg _ (by omega)) (Int.emod_lt_of_pos _ hj) rfl⟩
theorem cmulR {i j : Int} (h1 : 0 ≤ j) (h2 : j < 10000000000) : CMul i j := .inr ⟨by omega, by omega⟩
theorem cmulL {i j : Int} (h1 : 0 ≤ i) (h2 : i < 10000000000) : CMul i j := .inl ⟨by omega, by omega⟩
/-! names -/
def cs (z : Str) : List Nat := z.cps.toList
theorem cs_len (z : Str) : (cs z).length = z.length := by simp [cs, Str.length]
theorem cs_inj {a b : Str} (h : cs a = cs b) : a = b := by
  cases a; cases b
  simp [cs] at h
  rw [h]
def nmC (c : Nat) : Bool := !decide (c < 97) && !decide (122 < c)
/-- a name -/
structure Nm (z : Str) : Prop where
  pos : 1 ≤ z.length
  len : z.length ≤ 8
  abc : ∀ c ∈ cs z, nmC c = true
theorem lt_one (a b : Nat) : decide ([a] < [b]) = decide (a < b) := by
  have : ([a] < [b]) ↔ a < b := by simp [List.cons_lt_cons_iff]
  by_cases h : a < b
  · rw [decide_eq_true h, decide_eq_true (this.mpr h)]
  · rw [decide_eq_false h, decide_eq_false (fun z => h (this.mp z))]
abbrev sP_is_int : Stmt := topS 12
abbrev NP_is_int : List Str := ["thing"]
theorem scP_is_int : FnScope ["thing"] ["thing"] (defScope sP_is_int) := ⟨rfl, rfl, rfl, by decide +kernel, rfl, by decide +kernel, by decide +kernel⟩
abbrev sP_is_number : Stmt := topS 13
abbrev NP_is_number : List Str := ["thing"]
theorem scP_is_number : FnScope ["thing"] ["thing"] (defScope sP_is_number) := ⟨rfl, rfl, rfl, by decide +kernel, rfl, by decide +kernel, by decide +kernel⟩
abbrev sP_is_room : Stmt := topS 14
abbrev NP_is_room : List Str := ["thing"]
theorem scP_is_room : FnScope ["thing"] ["thing"] (defScope sP_is_room) := ⟨rfl, rfl, rfl, by decide +kernel, rfl, by decide +kernel, by decide +kernel⟩
abbrev sP_is_name : Stmt := topS 17
abbrev NP_is_name : List Str := ["thing", "letter"]
theorem scP_is_name : FnScope ["thing", "letter"] ["thing"] (defScope sP_is_name) := ⟨rfl, rfl, rfl, by decide +kernel, rfl, by decide +kernel, by decide +kernel⟩
abbrev NP_is_stream : List Str := ["thing", "item"]
abbrev DnIsInt (K : PySem.W.Frag) (mg : Str → Option Value) := Dn K mg "is_int" sP_is_int ["thing"]
abbrev DnIsNumber (K : PySem.W.Frag) (mg : Str → Option Value) := Dn K mg "is_number" sP_is_number ["thing"]
abbrev DnIsRoom (K : PySem.W.Frag) (mg : Str → Option Value) := Dn K mg "is_room" sP_is_room ["thing"]
abbrev DnIsName (K : PySem.W.Frag) (mg : Str → Option Value) := Dn K mg "is_name" sP_is_name ["thing"]
section
variable {P : Program} {w : World} {K : PySem.W.Frag} {mg : Str → Option Value} {base : Heap}
/-! is_int, of ints -/
def spIsInt : Sp := fun vs H Q _ => ∃ i : Int, vs = [.int i] ∧ Q (.bl true) H
theorem ok_is_int (T : Blt mg) (d : DnIsInt K mg) : FnOk P w K mg base CX0 1 d.f d.fd ["thing"] spIsInt := by
  refine d.F.ok scP_is_int (fun vs H Q E h => ?_) (fun cdv A outer s H vs Q E hr h => ?_)
  · obtain ⟨i, rfl, _⟩ := h
    rfl
  · obtain ⟨i, rfl, q⟩ := h
    refine ⟨_, (pss_one (ps_ret (pe_and (pe_callB call_isi (by rfl) T.n_isinstance (by decide +kernel) (pa_cons (pv 0) (pa_cons (pe_bltn (v := .ty "int") (by rfl) T.n_int (by decide +kernel) rfl) pa_nil))) (pe_one (pe_not (pe_callB call_isi (by rfl) T.n_isinstance (by decide +kernel) (pa_cons (pv 0) (pa_cons (pe_bltn (v := .ty "bool") (by rfl) T.n_bool (by decide +kernel) rfl) pa_nil)))))))), ?_⟩
    refine ⟨.int i, rfl, .int i, _, _, _, true, rfl, .ty "int", .base (.int i), kit_ty (by decide +kernel), true, rfl, iteT ?_⟩
    exact ⟨.int i, rfl, .int i, _, _, _, false, rfl, .ty "bool", .base (.int i), kit_ty (by decide +kernel), false, rfl, q⟩
/-! is_number, of ints -/
def spIsNumber : Sp := fun vs H Q _ => ∃ i : Int, vs = [.int i] ∧ Q (.bl (decide (0 ≤ i))) H
theorem ok_is_number (T : Blt mg) (dP_is_int : DnIsInt K mg) (d : DnIsNumber K mg) : FnOk P w K mg base CX0 2 d.f d.fd ["thing"] spIsNumber := by
  have GP_is_int : FnOk P w K mg base CX0 1 dP_is_int.f dP_is_int.fd ["thing"] spIsInt := ok_is_int T dP_is_int
  refine d.F.ok scP_is_number (fun vs H Q E h => ?_) (fun cdv A outer s H vs Q E hr h => ?_)
  · obtain ⟨i, rfl, _⟩ := h
    rfl
  · obtain ⟨i, rfl, q⟩ := h
    refine ⟨_, (pss_one (ps_ret (pe_and (pe_call GP_is_int (hr.mono (by omega)) (by rfl) dP_is_int.g dP_is_int.F.kp dP_is_int.b .nil pass0 (pa_cons (pv 0) pa_nil)) (pe_one (pe_cmpR op_ge (pv 0) pe_int (nomark _)))))), ?_⟩
    exact ⟨.int i, rfl, i, rfl, true, rfl, iteT ⟨.int i, rfl, _, _, rfl, rfl, q⟩⟩
/-! is_room, of ints -/
def spIsRoom : Sp := fun vs H Q _ => ∃ i : Int, vs = [.int i] ∧ Q (.bl (decide (1 ≤ i) && decide (i ≤ 64))) H
theorem ok_is_room (T : Blt mg) (cM : Cst mg "MOST_ROOM" (.int 64)) (dP_is_int : DnIsInt K mg) (d : DnIsRoom K mg) : FnOk P w K mg base CX0 2 d.f d.fd ["thing"] spIsRoom := by
  have GP_is_int : FnOk P w K mg base CX0 1 dP_is_int.f dP_is_int.fd ["thing"] spIsInt := ok_is_int T dP_is_int
  refine d.F.ok scP_is_room (fun vs H Q E h => ?_) (fun cdv A outer s H vs Q E hr h => ?_)
  · obtain ⟨i, rfl, _⟩ := h
    rfl
  · obtain ⟨i, rfl, q⟩ := h
    refine ⟨_, (pss_one (ps_ret (pe_and (pe_call GP_is_int (hr.mono (by omega)) (by rfl) dP_is_int.g dP_is_int.F.kp dP_is_int.b .nil pass0 (pa_cons (pv 0) pa_nil)) (pe_one (pe_chain op_le op_le pe_int (pv 0) (pe_glob rfl cM.g cM.r)))))), ?_⟩
    refine ⟨.int i, rfl, i, rfl, true, rfl, iteT ⟨.int i, rfl, _, _, rfl, rfl, decide (1 ≤ i), rfl, ite2 (fun e => ⟨_, _, rfl, rfl, ?_⟩) (fun e => ?_)⟩⟩
    · rw [e, Bool.true_and] at q
      exact q
    · rw [show decide (1 ≤ i) = false from by simpa using e, Bool.false_and] at q
      exact q
/-! is_name, of names -/
def spIsName : Sp := fun vs H Q _ => ∃ z : Str, vs = [.str z] ∧ Nm z ∧ ∀ H', Same H H' → Q (.bl true) H'
theorem ok_is_name (T : Blt mg) (cL : Cst mg "LONGEST_NAME" (.int 8)) (d : DnIsName K mg) : FnOk P w K mg base CX0 1 d.f d.fd ["thing"] spIsName := by
  refine d.F.ok scP_is_name (fun vs H Q E h => ?_) (fun cdv A outer s H vs Q E hr h => ?_)
  · obtain ⟨z, rfl, _⟩ := h
    rfl
  · obtain ⟨z, rfl, nm, q⟩ := h
    refine ⟨_, (pss_cons (ps_if (PW.pt (pw_or (pt_not (pt_val (pe_callB call_isi (by rfl) T.n_isinstance (by decide +kernel) (pa_cons (pv 0) (pa_cons (pe_bltn (v := .ty "str") (by rfl) T.n_str (by decide +kernel) rfl) pa_nil))))) (pw_or1 (pt_not (pt_chain op_le op_le pe_int (pe_callB call_len_str (by rfl) T.n_len (by decide +kernel) (pa_cons (pv 0) pa_nil)) (pe_glob rfl cL.g cL.r))))))
      (pss_one (ps_ret pe_bl))
      pss_nil)
    (pss_one (ps_ret (pe_callB (cr_all rfl) (by rfl) T.n_all (by decide +kernel) (pa_cons (pe_lc (own := [("letter", 1)]) (g := gName 1) (tt := tYes) rfl scP_is_name.nd (pi_str (pv 0)) (blkOk_by (N := NP_is_name) (sc := defScope sP_is_name) (by decide +kernel)) (fun _ _ _ _ _ => pg_name (i := 1) scP_is_name.nd rfl (Or.inl rfl)) (fun _ _ _ _ _ => pts_nil) (fun _ _ _ _ _ => (pe_chain op_le_str op_le_str pe_str (pv 1) pe_str))) pa_nil))))), ?_⟩
    have h1 : decide ((1 : Int) ≤ (z.length : Int)) = true := decide_eq_true (by have := nm.pos; omega)
    have h8 : decide ((z.length : Int) ≤ 8) = true := decide_eq_true (by have := nm.len; omega)
    refine ⟨.str z, rfl, .str z, _, _, _, true, rfl, .ty "str", .base (.str z), kit_ty (by decide +kernel), true, rfl, iteF ?_⟩
    refine ⟨.str z, rfl, z, rfl, (by rw [sizeLine_eq]; have := nm.len; omega), _, _, rfl, rfl, true, congrArg V.bl h1, iteT ⟨_, _, rfl, rfl, true, congrArg V.bl h8, iteF ?_⟩⟩
    refine ⟨.str z, rfl, z, rfl, fun D nD => ?_⟩
    refine lc_it walk_str (fun i H3 => Same H H3 ∧ H3 D = some (.lst (((cs z).take i).map fun c => V.bl true))) ⟨same_upd nD, upd_same⟩ (fun _ _ _ _ => trivial) (fun i x H3 H4 hi h3 y => ?_) (fun H3 h3 => ?_)
    · obtain ⟨rfl, c, hc, rfl⟩ := y
      have hc2 : (cs z)[i]? = some c := by
        rw [← hc]
        simp [cs]
      have hcn := nm.abc c (List.mem_of_getElem? hc2)
      unfold nmC at hcn
      have ha : (!decide (c < 97)) = true := by cases h : (!decide (c < 97)) <;> simp_all
      have hz : (!decide (122 < c)) = true := by rw [ha, Bool.true_and] at hcn; exact hcn
      refine ⟨rfl, .str ⟨#[c]⟩, rfl, _, _, rfl, rfl, true, ?_, iteT ⟨_, _, rfl, rfl, ?_⟩⟩
      · show V.bl (!decide ([c] < (Str.ofString "a").cps.toList)) = _
        rw [show (Str.ofString "a").cps.toList = [97] by decide +kernel, lt_one, ha]
      · rw [show (!decide ((Str.ofString "z").cps.toList < [c])) = true by
          rw [show (Str.ofString "z").cps.toList = [122] by decide +kernel, lt_one, hz]]
        refine ⟨_, h3.2, ?_, fun b o e => ?_, ?_⟩
        · rw [List.length_map, List.length_take, sizeLine_eq]
          have := cs_len z
          have := nm.len
          omega
        · rw [upd_ne (ne_of_none e nD)]
          exact h3.1 b o e
        · rw [upd_same, List.take_add_one, hc2, List.map_append]
          rfl
    · refine ⟨D, (cs z).map fun _ => true, rfl, sql ?_, ?_⟩
      · rw [h3.2, List.map_map]
        rw [List.take_of_length_le (by
          show (cs z).length ≤ z.cps.size
          simp [cs])]
        rfl
      · rw [show (((cs z).map fun _ => true).all id) = true by simp]
        exact q H3 h3.1
/-! is_stream, of tuples of names -/
def spIsStream (K : PySem.W.Frag) : Sp := fun vs H Q _ => ∃ (a : Addr) (zs : List Str), vs = [.ref a] ∧ SqT K H a (zs.map V.str) ∧ (∀ z ∈ zs, Nm z) ∧ zs.length ≤ 100000 ∧ ∀ H', Same H H' → Q (.bl true) H'
end
end Kb


namespace Kb
open PySem PySem.Spec PyProof.Rows L2
abbrev NP_is_tree : List Str := ["thing"]
abbrev NP_is_tree_of : List Str := ["thing", "word", "is_right", "many", "height", "step"]
abbrev NP_is_put : List Str := ["step", "word"]
abbrev NP_is_pour : List Str := ["step"]
/-! trees -/
inductive Stp
  | put (zs : List Str)
  | pour
def StpAt (K : PySem.W.Frag) (H : Hp) (v : V) : Stp → Prop
  | .put zs => ∃ a b, v = .ref a ∧ SqT K H a [.str (Str.ofString "stream"), .ref b] ∧ SqT K H b (zs.map V.str) ∧ (∀ z ∈ zs, Nm z) ∧ zs.length ≤ 100000
  | .pour => ∃ a, v = .ref a ∧ SqT K H a [.str (Str.ofString "pour")]
theorem StpAt.same {K : PySem.W.Frag} {H H' : Hp} {v : V} {t : Stp} (h : StpAt K H v t) (s : Same H H') : StpAt K H' v t := by
  cases t with
  | put zs =>
    obtain ⟨a, b, e, h1, h2, r⟩ := h
    exact ⟨a, b, e, seqT h1 s, seqT h2 s, r⟩
  | pour =>
    obtain ⟨a, e, h1⟩ := h
    exact ⟨a, e, seqT h1 s⟩
def hS (h : Int) : Stp → Int
  | .put _ => h + 1
  | .pour => h - 1
def cS (m : Int) : Stp → Int
  | .put zs => m + (zs.length : Nat)
  | .pour => m
def hgt (l : List Stp) : Int := l.foldl hS 0
def mny (l : List Stp) : Int := l.foldl cS 0
structure Tree (l : List Stp) : Prop where
  two : ∀ i, l[i]? = some .pour → 2 ≤ hgt (l.take i)
  one : hgt l = 1
  few : mny l ≤ 50000
  len : l.length ≤ 5000
theorem hgt_snoc {l : List Stp} {i : Nat} {t : Stp} (h : l[i]? = some t) : hgt (l.take (i + 1)) = hS (hgt (l.take i)) t := by
  unfold hgt
  rw [List.take_add_one, h, List.foldl_append]
  rfl
theorem mny_snoc {l : List Stp} {i : Nat} {t : Stp} (h : l[i]? = some t) : mny (l.take (i + 1)) = cS (mny (l.take i)) t := by
  unfold mny
  rw [List.take_add_one, h, List.foldl_append]
  rfl
def TreeAt (K : PySem.W.Frag) (H : Hp) (a : Addr) (l : List Stp) : Prop := ∃ vs, SqT K H a vs ∧ Paired (StpAt K H) vs l
theorem paired_same {K : PySem.W.Frag} {H H' : Hp} (s : Same H H') : ∀ {vs : List V} {l : List Stp}, Paired (StpAt K H) vs l → Paired (StpAt K H') vs l
  | _, _, .nil => .nil
  | _, _, .cons h t => .cons (h.same s) (paired_same s t)
theorem TreeAt.same {K : PySem.W.Frag} {H H' : Hp} {a : Addr} {l : List Stp} (h : TreeAt K H a l) (s : Same H H') : TreeAt K H' a l := by
  obtain ⟨vs, h1, h2⟩ := h
  exact ⟨vs, seqT h1 s, paired_same s h2⟩
theorem stream_ne : ¬ (V.str (Str.ofString "pour") = V.str (Str.ofString "stream")) := by decide +kernel
section
variable {P : Program} {w : World} {K : PySem.W.Frag} {mg : Str → Option Value} {base : Heap}
/-! _is_put -/
def isPut : Stp → Bool
  | .put _ => true
  | .pour => false
def spIsPut (K : PySem.W.Frag) : Sp := fun vs H Q _ => ∃ (v : V) (t : Stp), vs = [v, .str (Str.ofString "stream")] ∧ StpAt K H v t ∧ Q (.bl (isPut t)) H
/-! _is_pour -/
def spIsPour (K : PySem.W.Frag) : Sp := fun vs H Q _ => ∃ v : V, vs = [v] ∧ StpAt K H v .pour ∧ Q (.bl true) H
/-! is_tree_of, is_tree -/
theorem paired_at {α β : Type} {F : α → β → Prop} : ∀ {xs : List α} {ys : List β}, Paired F xs ys → ∀ {i : Nat} {x : α}, xs[i]? = some x → ∃ y, ys[i]? = some y ∧ F x y := LiI.paired_get
def spIsTreeOf (K : PySem.W.Frag) (g : Addr) : Sp := fun vs H Q _ => ∃ (a : Addr) (l : List Stp), vs = [.ref a, .str (Str.ofString "stream"), .ref g] ∧ TreeAt K H a l ∧ Tree l ∧ ∀ H', Same H H' → Q (.bl true) H'
def spIsTree (K : PySem.W.Frag) : Sp := fun vs H Q _ => ∃ (a : Addr) (l : List Stp), vs = [.ref a] ∧ TreeAt K H a l ∧ Tree l ∧ ∀ H', Same H H' → Q (.bl true) H'
end
end Kb


namespace Kb
open PySem PySem.Spec PyProof.Rows L2 SrtZ
abbrev sP_are_counts : Stmt := topS 18
abbrev NP_are_counts : List Str := ["thing", "last", "pair"]
theorem scP_are_counts : FnScope ["thing", "last", "pair"] ["thing"] (defScope sP_are_counts) := ⟨rfl, rfl, rfl, by decide +kernel, rfl, by decide +kernel, by decide +kernel⟩
abbrev sP_is_counted : Stmt := topS 19
abbrev NP_is_counted : List Str := ["pair"]
theorem scP_is_counted : FnScope ["pair"] ["pair"] (defScope sP_is_counted) := ⟨rfl, rfl, rfl, by decide +kernel, rfl, by decide +kernel, by decide +kernel⟩
abbrev sP_lost_of : Stmt := topS 23
abbrev NP_lost_of : List Str := ["sketch", "_", "count"]
theorem scP_lost_of : FnScope ["sketch", "_", "count"] ["sketch"] (defScope sP_lost_of) := ⟨rfl, rfl, rfl, by decide +kernel, rfl, by decide +kernel, by decide +kernel⟩
abbrev sP_is_sketch : Stmt := topS 24
abbrev NP_is_sketch : List Str := ["thing", "room", "many", "off", "kept"]
theorem scP_is_sketch : FnScope ["thing", "room", "many", "off", "kept"] ["thing"] (defScope sP_is_sketch) := ⟨rfl, rfl, rfl, by decide +kernel, rfl, by decide +kernel, by decide +kernel⟩
abbrev sP_bare : Stmt := topS 25
abbrev NP_bare : List Str := ["room"]
theorem scP_bare : FnScope ["room"] ["room"] (defScope sP_bare) := ⟨rfl, rfl, rfl, by decide +kernel, rfl, by decide +kernel, by decide +kernel⟩
abbrev DnAreCounts (K : PySem.W.Frag) (mg : Str → Option Value) := Dn K mg "are_counts" sP_are_counts ["thing"]
abbrev DnIsCounted (K : PySem.W.Frag) (mg : Str → Option Value) := Dn K mg "_is_counted" sP_is_counted ["pair"]
abbrev DnLostOf (K : PySem.W.Frag) (mg : Str → Option Value) := Dn K mg "lost_of" sP_lost_of ["sketch"]
abbrev DnIsSketch (K : PySem.W.Frag) (mg : Str → Option Value) := Dn K mg "is_sketch" sP_is_sketch ["thing"]
abbrev DnBare (K : PySem.W.Frag) (mg : Str → Option Value) := Dn K mg "bare" sP_bare ["room"]
/-! counts -/
abbrev Ct := List (Str × Int)
def PrAt (K : PySem.W.Frag) (H : Hp) (t : Addr) (e : Str × Int) : Prop := SqT K H t [.str e.1, .int e.2]
/-- the tuple at k holds these pairs -/
def CtAt (K : PySem.W.Frag) (H : Hp) (k : Addr) (kvs : Ct) : Prop := ∃ ts : List Addr, SqT K H k (ts.map V.ref) ∧ Paired (PrAt K H) ts kvs
theorem prs_same {K : PySem.W.Frag} {H H' : Hp} (s : Same H H') : ∀ {ts : List Addr} {kvs : Ct}, Paired (PrAt K H) ts kvs → Paired (PrAt K H') ts kvs
  | _, _, .nil => .nil
  | _, _, .cons h t => .cons (seqT h s) (prs_same s t)
theorem CtAt.same {K : PySem.W.Frag} {H H' : Hp} {k : Addr} {kvs : Ct} (h : CtAt K H k kvs) (s : Same H H') : CtAt K H' k kvs := by
  obtain ⟨ts, h1, h2⟩ := h
  exact ⟨ts, seqT h1 s, prs_same s h2⟩
structure Cts (kvs : Ct) : Prop where
  nm : ∀ e ∈ kvs, Nm e.1
  pos : ∀ e ∈ kvs, 1 ≤ e.2
  asc : kvs.Pairwise fun a b => ltZ a.1 b.1 = true
def sumC (kvs : Ct) : Int := (kvs.map (·.2)).sum
theorem map_at {α β : Type} {f : α → β} {xs : List α} {i : Nat} {y : β} (h : (xs.map f)[i]? = some y) : ∃ x, xs[i]? = some x ∧ y = f x := by
  rw [List.getElem?_map] at h
  cases e : xs[i]? with
  | none => rw [e] at h; cases h
  | some x => rw [e] at h; exact ⟨x, rfl, (Option.some.inj h).symm⟩
section
variable {P : Program} {w : World} {K : PySem.W.Frag} {mg : Str → Option Value} {base : Heap}
/-! _is_counted -/
def spIsCounted (K : PySem.W.Frag) : Sp := fun vs H Q _ => ∃ (t : Addr) (e : Str × Int), vs = [.ref t] ∧ PrAt K H t e ∧ Nm e.1 ∧ 1 ≤ e.2 ∧ ∀ H', Same H H' → Q (.bl true) H'
theorem ok_is_counted (T : Blt mg) (cL : Cst mg "LONGEST_NAME" (.int 8)) (dP_is_int : DnIsInt K mg) (dP_is_name : DnIsName K mg) (d : DnIsCounted K mg) : FnOk P w K mg base CX0 2 d.f d.fd ["pair"] (spIsCounted K) := by
  have GP_is_int : FnOk P w K mg base CX0 1 dP_is_int.f dP_is_int.fd ["thing"] spIsInt := ok_is_int T dP_is_int
  have GP_is_name : FnOk P w K mg base CX0 1 dP_is_name.f dP_is_name.fd ["thing"] spIsName := ok_is_name T cL dP_is_name
  refine d.F.ok scP_is_counted (fun vs H Q E h => ?_) (fun cdv A outer s H vs Q E hr h => ?_)
  · obtain ⟨t, e, rfl, _⟩ := h
    rfl
  · obtain ⟨t, e, rfl, hp, hn, h1, q⟩ := h
    refine ⟨_, (pss_cons (ps_if (PW.pt (pw_or (pt_not (pt_val (pe_callB call_isi (by rfl) T.n_isinstance (by decide +kernel) (pa_cons (pv 0) (pa_cons (pe_bltn (v := .ty "tuple") (by rfl) T.n_tuple (by decide +kernel) rfl) pa_nil))))) (pw_or1 (pt_cmpR op_ne (pe_callB call_len_seq (by rfl) T.n_len (by decide +kernel) (pa_cons (pv 0) pa_nil)) pe_int (nomark _)))))
      (pss_one (ps_ret pe_bl))
      pss_nil)
    (pss_one (ps_ret (pe_and (pe_call GP_is_name (hr.mono (by omega)) (by rfl) dP_is_name.g dP_is_name.F.kp dP_is_name.b .nil pass0 (pa_cons (pe_ix ix_tup (pv 0) pe_int (fun _ _ => rfl)) pa_nil)) (pe_and (pe_call GP_is_int (hr.mono (by omega)) (by rfl) dP_is_int.g dP_is_int.F.kp dP_is_int.b .nil pass0 (pa_cons (pe_ix ix_tup (pv 0) pe_int (fun _ _ => rfl)) pa_nil)) (pe_one (pe_cmpR op_ge (pe_ix ix_tup (pv 0) pe_int (fun _ _ => rfl)) pe_int (nomark _)))))))), ?_⟩
    refine ⟨.ref t, rfl, .ref t, _, _, _, true, rfl, .ty "tuple", tyT hp, kit_ty (by decide +kernel), true, rfl, iteF ?_⟩
    refine ⟨.ref t, rfl, t, _, rfl, .inr hp, rfl, false, rfl, iteF ?_⟩
    refine ⟨.ref t, rfl, t, _, _, _, rfl, rfl, hp, atI_nat (j := 0) rfl, e.1, rfl, hn, fun H1 s1 => ⟨true, rfl, iteT ?_⟩⟩
    have hp1 : PrAt K H1 t e := seqT hp s1
    refine ⟨.ref t, rfl, t, _, _, _, rfl, rfl, hp1, atI_nat (j := 1) rfl, e.2, rfl, true, rfl, iteT ?_⟩
    refine ⟨.ref t, rfl, t, _, _, _, rfl, rfl, hp1, atI_nat (j := 1) rfl, _, _, rfl, rfl, ?_⟩
    show Q (.bl (decide (1 ≤ e.2))) H1
    rw [decide_eq_true h1]
    exact q H1 s1
/-! are_counts -/
def spAreCounts (K : PySem.W.Frag) : Sp := fun vs H Q _ => ∃ (k : Addr) (kvs : Ct), vs = [.ref k] ∧ CtAt K H k kvs ∧ Cts kvs ∧ ∀ H', Same H H' → Q (.bl true) H'
theorem ok_are_counts (T : Blt mg) (cL : Cst mg "LONGEST_NAME" (.int 8)) (dP_is_int : DnIsInt K mg) (dP_is_name : DnIsName K mg) (dP_is_counted : DnIsCounted K mg) (d : DnAreCounts K mg) : FnOk P w K mg base CX0 3 d.f d.fd ["thing"] (spAreCounts K) := by
  have GP_is_counted : FnOk P w K mg base CX0 2 dP_is_counted.f dP_is_counted.fd ["pair"] (spIsCounted K) := ok_is_counted T cL dP_is_int dP_is_name dP_is_counted
  refine d.F.ok scP_are_counts (fun vs H Q E h => ?_) (fun cdv A outer s H vs Q E hr h => ?_)
  · obtain ⟨k, kvs, rfl, _⟩ := h
    rfl
  · obtain ⟨k, kvs, rfl, ⟨ts, hS, hp⟩, hc, q⟩ := h
    refine ⟨_, (pss_cons (ps_if (pt_not (pt_val (pe_callB call_isi (by rfl) T.n_isinstance (by decide +kernel) (pa_cons (pv 0) (pa_cons (pe_bltn (v := .ty "tuple") (by rfl) T.n_tuple (by decide +kernel) rfl) pa_nil)))))
      (pss_one (ps_ret pe_bl))
      pss_nil)
    (pss_cons (ps_set (i := 1) scP_are_counts.nd rfl (Or.inl rfl) pe_str)
    (pss_cons (ps_for PassesOwn.never rfl (pi_tup (pv 0)) (pg_name (i := 2) scP_are_counts.nd rfl (Or.inl rfl))
      (pss_cons (ps_if (PW.pt (pw_or (pt_not (pt_val (pe_call GP_is_counted (hr.mono (by omega)) (by rfl) dP_is_counted.g dP_is_counted.F.kp dP_is_counted.b .nil pass0 (pa_cons (pv 2) pa_nil)))) (pw_or1 (pt_cmpR op_le_str (pe_ix ix_tup (pv 2) pe_int (fun _ _ => rfl)) (pv 1) (nomark _)))))
        (pss_one (ps_ret pe_bl))
        pss_nil)
      (pss_one (ps_set (i := 1) scP_are_counts.nd rfl (Or.inl rfl) (pe_ix ix_tup (pv 2) pe_int (fun _ _ => rfl))))))
    (pss_one (ps_ret pe_bl))))), ?_⟩
    refine ⟨.ref k, rfl, .ref k, _, _, _, true, rfl, .ty "tuple", tyT hS, kit_ty (by decide +kernel), true, rfl, iteF ?_⟩
    refine ⟨.ref k, rfl, k, rfl, ⟨_, hS⟩, for_tup (xs := ts.map V.ref) (fun i σ H3 => ∃ (la : Str) (x : Option V), σ = [some (.ref k), some (.str la), x] ∧ Same H H3 ∧ (i = 0 → la = Str.ofString "") ∧ ∀ j e, i = j + 1 → kvs[j]? = some e → la = e.1)
      ⟨Str.ofString "", none, rfl, Same.refl H, fun _ => rfl, fun j e h => by omega⟩ (fun i σ H3 _ ⟨_, _, _, s3, _⟩ => seqT hS s3) ?_ ?_⟩
    · rintro i v σ H3 hi ⟨la, x, rfl, s3, e0, e1⟩
      obtain ⟨t, ht, rfl⟩ := map_at hi
      obtain ⟨e, he, hat⟩ := paired_at hp ht
      have hm := List.mem_of_getElem? he
      refine ⟨.ref t, rfl, t, e, rfl, seqT hat s3, hc.nm e hm, hc.pos e hm, fun H4 s4 => ⟨true, rfl, iteF ?_⟩⟩
      have hat4 : PrAt K H4 t e := seqT hat fun b o z => s4 b o (s3 b o z)
      have hlt : decide (la.cps.toList < e.1.cps.toList) = true := by
        cases i with
        | zero =>
          rw [e0 rfl]
          have h1 := (hc.nm e hm).pos
          have : (Str.ofString "").cps.toList = [] := by decide +kernel
          rw [this]
          refine decide_eq_true ?_
          cases hz : e.1.cps.toList with
          | nil =>
            have : e.1.length = 0 := by rw [← cs_len]; unfold cs; rw [hz]; rfl
            omega
          | cons c r => exact List.nil_lt_cons c r
        | succ j =>
          obtain ⟨e', he'⟩ : ∃ e', kvs[j]? = some e' := ⟨kvs[j]'(by have := (List.getElem?_eq_some_iff.mp he).1; omega), by simp⟩
          rw [e1 j e' rfl he']
          exact (List.pairwise_iff_getElem.mp hc.asc) j (j + 1) (List.getElem?_eq_some_iff.mp he').1 (List.getElem?_eq_some_iff.mp he).1 (by omega) |> fun h => by
            rw [(List.getElem?_eq_some_iff.mp he').2, (List.getElem?_eq_some_iff.mp he).2] at h
            exact h
      refine ⟨.ref t, rfl, t, _, _, _, rfl, rfl, hat4, atI_nat (j := 0) rfl, .str la, rfl, _, _, rfl, rfl, false, ?_, iteF ?_⟩
      · show V.bl (!decide (la.cps.toList < e.1.cps.toList)) = _
        rw [hlt]
        rfl
      refine ⟨.ref t, rfl, t, _, _, _, rfl, rfl, hat4, atI_nat (j := 0) rfl, e.1, some (.ref t), rfl, fun b o z => s4 b o (s3 b o z), fun h => by omega, fun j e' h1 h2 => ?_⟩
      have : j = i := by omega
      subst this
      rw [he] at h2
      cases h2
      rfl
    · rintro σ H3 ⟨la, x, rfl, s3, _⟩
      exact q H3 s3
/-! lost_of -/
def spLostOf (K : PySem.W.Frag) : Sp := fun vs H Q _ => ∃ (s k : Addr) (room many off : Int) (kvs : Ct), vs = [.ref s] ∧ SqT K H s [.int room, .int many, .int off, .ref k] ∧ CtAt K H k kvs ∧ kvs.length ≤ 1000 ∧ ∀ H', Same H H' → Q (.int (many - sumC kvs)) H'
theorem ok_lost_of (T : Blt mg) (d : DnLostOf K mg) : FnOk P w K mg base CX0 1 d.f d.fd ["sketch"] (spLostOf K) := by
  refine d.F.ok scP_lost_of (fun vs H Q E h => ?_) (fun cdv A outer s H vs Q E hr h => ?_)
  · obtain ⟨s, k, _, _, _, _, rfl, _⟩ := h
    rfl
  · obtain ⟨s, k, room, many, off, kvs, rfl, hs, ⟨ts, hS, hp⟩, hl, q⟩ := h
    refine ⟨_, (pss_one (ps_ret (pe_op op_sub (pe_ix ix_tup (pv 0) pe_int (fun _ _ => rfl)) (pe_callB (cr_sum rfl) (by rfl) T.n_sum (by decide +kernel) (pa_cons (pe_lc (own := [("_", 1), ("count", 2)]) (g := gTup K 2 (gCons (gName 1) (gCons (gName 2) gNil))) (tt := tYes) rfl scP_lost_of.nd (pi_tup (pe_ix ix_tup (pv 0) pe_int (fun _ _ => rfl))) (blkOk_by (N := NP_lost_of) (sc := defScope sP_lost_of) (by decide +kernel)) (fun _ _ _ _ _ => pg_tup (by rfl) (pgs_cons (pg_name (i := 1) scP_lost_of.nd rfl (Or.inl rfl)) (pgs_cons (pg_name (i := 2) scP_lost_of.nd rfl (Or.inl rfl)) pgs_nil))) (fun _ _ _ _ _ => pts_nil) (fun _ _ _ _ _ => (pv 2))) pa_nil))))), ?_⟩
    refine ⟨.ref s, rfl, s, _, _, _, rfl, rfl, hs, atI_nat (j := 1) rfl, .ref s, rfl, s, _, _, _, rfl, rfl, hs, atI_nat (j := 3) rfl, k, rfl, ⟨_, hS⟩, fun D nD => lc_tup (xs := ts.map V.ref) (fun i H3 => Same H H3 ∧ H3 D = some (.lst ((kvs.take i).map fun e => V.int e.2))) ⟨same_upd nD, upd_same⟩ (fun i H3 _ h3 => seqT hS h3.1) (fun i x H3 hx h3 => ?_) (fun H3 h3 => ?_)⟩
    · obtain ⟨t, ht, rfl⟩ := map_at hx
      obtain ⟨e, he, hat⟩ := paired_at hp ht
      refine ⟨t, _, rfl, seqT hat h3.1, rfl, _, _, rfl, _, _, rfl, rfl, rfl, .int e.2, rfl, _, h3.2, ?_, fun b o z => ?_, ?_⟩
      · rw [List.length_map, List.length_take, sizeLine_eq]
        omega
      · rw [upd_ne (ne_of_none z nD)]
        exact h3.1 b o z
      · rw [upd_same, List.take_add_one, he, List.map_append]
        rfl
    · refine ⟨D, kvs.map (fun e : Str × Int => e.2), rfl, sql ?_, _, _, rfl, rfl, q H3 h3.1⟩
      rw [h3.2, List.length_map, Paired.length hp, List.take_length, List.map_map]
      rfl
/-! is_sketch -/
def skB (room many off : Int) (kvs : Ct) : Bool :=
  (decide (1 ≤ room) && decide (room ≤ 64)) && (decide (0 ≤ many) && (decide (0 ≤ off) && (decide ((kvs.length : Int) ≤ room) && (decide ((room + 1) * off ≤ many - sumC kvs) && decide (many - sumC kvs ≤ 2 * room * off)))))
def spIsSketch (K : PySem.W.Frag) : Sp := fun vs H Q _ => ∃ (s k : Addr) (room many off : Int) (kvs : Ct), vs = [.ref s] ∧ SqT K H s [.int room, .int many, .int off, .ref k] ∧ CtAt K H k kvs ∧ Cts kvs ∧ kvs.length ≤ 1000 ∧ ∀ H', Same H H' → Q (.bl (skB room many off kvs)) H'
theorem ok_is_sketch (T : Blt mg) (cM : Cst mg "MOST_ROOM" (.int 64)) (cL : Cst mg "LONGEST_NAME" (.int 8)) (dP_is_int : DnIsInt K mg) (dP_is_number : DnIsNumber K mg) (dP_is_room : DnIsRoom K mg) (dP_is_name : DnIsName K mg) (dP_is_counted : DnIsCounted K mg) (dP_are_counts : DnAreCounts K mg)
    (dP_lost_of : DnLostOf K mg) (d : DnIsSketch K mg) : FnOk P w K mg base CX0 4 d.f d.fd ["thing"] (spIsSketch K) := by
  have GP_is_room : FnOk P w K mg base CX0 2 dP_is_room.f dP_is_room.fd ["thing"] spIsRoom := ok_is_room T cM dP_is_int dP_is_room
  have GP_is_number : FnOk P w K mg base CX0 2 dP_is_number.f dP_is_number.fd ["thing"] spIsNumber := ok_is_number T dP_is_int dP_is_number
  have GP_are_counts : FnOk P w K mg base CX0 3 dP_are_counts.f dP_are_counts.fd ["thing"] (spAreCounts K) := ok_are_counts T cL dP_is_int dP_is_name dP_is_counted dP_are_counts
  have GP_lost_of : FnOk P w K mg base CX0 1 dP_lost_of.f dP_lost_of.fd ["sketch"] (spLostOf K) := ok_lost_of T dP_lost_of
  refine d.F.ok scP_is_sketch (fun vs H Q E h => ?_) (fun cdv A outer s H vs Q E hr h => ?_)
  · obtain ⟨s, k, _, _, _, _, rfl, _⟩ := h
    rfl
  · obtain ⟨s, k, room, many, off, kvs, rfl, hs, hk, hc, hl, q⟩ := h
    refine ⟨_, (pss_cons (ps_if (PW.pt (pw_or (pt_not (pt_val (pe_callB call_isi (by rfl) T.n_isinstance (by decide +kernel) (pa_cons (pv 0) (pa_cons (pe_bltn (v := .ty "tuple") (by rfl) T.n_tuple (by decide +kernel) rfl) pa_nil))))) (pw_or1 (pt_cmpR op_ne (pe_callB call_len_seq (by rfl) T.n_len (by decide +kernel) (pa_cons (pv 0) pa_nil)) pe_int (nomark _)))))
      (pss_one (ps_ret pe_bl))
      pss_nil)
    (pss_cons (ps_asg (pv 0) (pg_tup (by rfl) (pgs_cons (pg_name (i := 1) scP_is_sketch.nd rfl (Or.inl rfl)) (pgs_cons (pg_name (i := 2) scP_is_sketch.nd rfl (Or.inl rfl)) (pgs_cons (pg_name (i := 3) scP_is_sketch.nd rfl (Or.inl rfl)) (pgs_cons (pg_name (i := 4) scP_is_sketch.nd rfl (Or.inl rfl)) pgs_nil))))))
    (pss_cons (ps_if (PW.pt (pw_or (pt_not (pt_val (pe_call GP_is_room (hr.mono (by omega)) (by rfl) dP_is_room.g dP_is_room.F.kp dP_is_room.b .nil pass0 (pa_cons (pv 1) pa_nil)))) (pw_or (pt_not (pt_val (pe_call GP_is_number (hr.mono (by omega)) (by rfl) dP_is_number.g dP_is_number.F.kp dP_is_number.b .nil pass0 (pa_cons (pv 2) pa_nil)))) (pw_or1 (pt_not (pt_val (pe_call GP_is_number (hr.mono (by omega)) (by rfl) dP_is_number.g dP_is_number.F.kp dP_is_number.b .nil pass0 (pa_cons (pv 3) pa_nil))))))))
      (pss_one (ps_ret pe_bl))
      pss_nil)
    (pss_cons (ps_if (PW.pt (pw_or (pt_not (pt_val (pe_call GP_are_counts (hr.mono (by omega)) (by rfl) dP_are_counts.g dP_are_counts.F.kp dP_are_counts.b .nil pass0 (pa_cons (pv 4) pa_nil)))) (pw_or1 (pt_cmpR op_gt (pe_callB call_len_seq (by rfl) T.n_len (by decide +kernel) (pa_cons (pv 4) pa_nil)) (pv 1) (nomark _)))))
      (pss_one (ps_ret pe_bl))
      pss_nil)
    (pss_one (ps_ret (pe_chain op_le op_le (pe_op op_mul (pe_op op_add (pv 1) pe_int) (pv 3)) (pe_call GP_lost_of (hr.mono (by omega)) (by rfl) dP_lost_of.g dP_lost_of.F.kp dP_lost_of.b .nil pass0 (pa_cons (pv 0) pa_nil)) (pe_op op_mul (pe_op op_mul pe_int (pv 1)) (pv 3))))))))), ?_⟩
    refine ⟨.ref s, rfl, .ref s, _, _, _, true, rfl, .ty "tuple", tyT hs, kit_ty (by decide +kernel), true, rfl, iteF ?_⟩
    refine ⟨.ref s, rfl, s, _, rfl, .inr hs, rfl, false, rfl, iteF ?_⟩
    refine ⟨.ref s, rfl, s, _, rfl, hs, rfl, _, _, rfl, _, _, rfl, _, _, rfl, _, _, rfl, rfl, ?_⟩
    unfold skB at q
    refine ⟨.int room, rfl, room, rfl, _, rfl, ?_⟩
    cases eR : (decide (1 ≤ room) && decide (room ≤ 64)) with
    | false =>
      rw [eR, Bool.false_and] at q
      exact iteT (iteT (q H (Same.refl H)))
    | true =>
      rw [eR, Bool.true_and] at q
      refine iteF ⟨.int many, rfl, many, rfl, _, rfl, ?_⟩
      cases eM : decide (0 ≤ many) with
      | false =>
        rw [eM, Bool.false_and] at q
        exact iteT (iteT (q H (Same.refl H)))
      | true =>
        rw [eM, Bool.true_and] at q
        refine iteF ⟨.int off, rfl, off, rfl, _, rfl, ?_⟩
        cases eO : decide (0 ≤ off) with
        | false =>
          rw [eO, Bool.false_and] at q
          exact iteT (q H (Same.refl H))
        | true =>
          rw [eO, Bool.true_and] at q
          refine iteF ⟨.ref k, rfl, k, kvs, rfl, hk, hc, fun H1 s1 => ⟨true, rfl, iteF ?_⟩⟩
          have hr1 : 1 ≤ room ∧ room ≤ 64 := by
            rw [Bool.and_eq_true, decide_eq_true_eq, decide_eq_true_eq] at eR
            exact eR
          obtain ⟨ts, hS, hp⟩ := hk.same s1
          have el : (ts.map V.ref).length = kvs.length := by rw [List.length_map, Paired.length hp]
          refine ⟨.ref k, rfl, k, _, rfl, .inr hS, .int room, rfl, _, _, rfl, rfl, _, rfl, ?_⟩
          rw [el]
          by_cases eL : (kvs.length : Int) ≤ room
          · rw [show decide ((kvs.length : Int) > room) = false from decide_eq_false (by omega)]
            rw [decide_eq_true eL, Bool.true_and] at q
            refine iteF ?_
            refine ⟨.int room, rfl, _, _, rfl, rfl, .int off, rfl, _, _, rfl, rfl, cmulL (by omega) (by omega), .ref s, rfl, s, k, room, many, off, kvs, rfl, seqT hs s1, ⟨ts, hS, hp⟩, hl, fun H2 s2 => ⟨_, _, rfl, rfl, _, rfl, ?_⟩⟩
            by_cases e1 : (room + 1) * off ≤ many - sumC kvs
            · rw [decide_eq_true e1] at q ⊢
              rw [Bool.true_and] at q
              refine iteT ⟨.int room, rfl, _, _, rfl, rfl, cmulL (by decide) (by decide), .int off, rfl, _, _, rfl, rfl, cmulL (by omega) (by omega), _, _, rfl, rfl, ?_⟩
              exact q H2 fun b o z => s2 b o (s1 b o z)
            · rw [decide_eq_false e1] at q ⊢
              rw [Bool.false_and] at q
              exact iteF (q H2 fun b o z => s2 b o (s1 b o z))
          · rw [show decide ((kvs.length : Int) > room) = true from decide_eq_true (by omega)]
            rw [decide_eq_false eL, Bool.false_and] at q
            exact iteT (q H1 s1)
/-! bare -/
def spBare : Sp := fun vs H Q _ => ∃ room : Int, vs = [.int room] ∧ 1 ≤ room ∧ room ≤ 64 ∧ ∀ H' s k, Same H H' → H s = none → H' s = some (.tup [.int room, .int 0, .int 0, .ref k]) → Ptp H' k [] → Q (.ref s) H'
theorem ok_bare (T : Blt mg) (cM : Cst mg "MOST_ROOM" (.int 64)) (dP_is_int : DnIsInt K mg) (dP_is_room : DnIsRoom K mg) (d : DnBare K mg) : FnOk P w K mg base CX0 3 d.f d.fd ["room"] spBare := by
  have GP_is_room : FnOk P w K mg base CX0 2 dP_is_room.f dP_is_room.fd ["thing"] spIsRoom := ok_is_room T cM dP_is_int dP_is_room
  refine d.F.ok scP_bare (fun vs H Q E h => ?_) (fun cdv A outer s H vs Q E hr h => ?_)
  · obtain ⟨room, rfl, _⟩ := h
    rfl
  · obtain ⟨room, rfl, h1, h2, q⟩ := h
    refine ⟨_, (pss_cons (ps_if (pt_not (pt_val (pe_call GP_is_room (hr.mono (by omega)) (by rfl) dP_is_room.g dP_is_room.F.kp dP_is_room.b .nil pass0 (pa_cons (pv 0) pa_nil))))
      (pss_one ps_never)
      pss_nil)
    (pss_one (ps_ret (pe_tup (pa_cons (pv 0) (pa_cons pe_int (pa_cons pe_int (pa_cons (pe_tupF pa_nil) pa_nil)))))))), ?_⟩
    refine ⟨.int room, rfl, room, rfl, true, ?_, iteF ?_⟩
    · rw [decide_eq_true h1, decide_eq_true h2]
      rfl
    · refine ⟨.int room, rfl, (by show 0 ≤ sizeLine; decide), fun k o nk ho => ⟨(by show 4 ≤ sizeLine; decide), fun p np => ?_⟩⟩
      have s1 : Same H (upd H k (.frz o (.tup []))) := same_upd nk
      refine q _ p k (Same.new s1 np) (Same.gone s1 np) upd_same ⟨o, ?_, ho⟩
      rw [upd_ne (ne_of_none upd_same np)]
      exact upd_same
end
end Kb


namespace Kb
open PySem PySem.Spec PyProof.Rows L2 SrtZ
abbrev sTinit : Stmt := inClass (topS 21) 0
abbrev NTinit : List Str := ["self", "sketch", "kept"]
theorem scTinit : FnScope ["self", "sketch", "kept"] ["self", "sketch"] (defScope sTinit) := ⟨rfl, rfl, rfl, by decide +kernel, rfl, by decide +kernel, by decide +kernel⟩
abbrev sTsketch : Stmt := inClass (topS 21) 1
abbrev NTsketch : List Str := ["self"]
theorem scTsketch : FnScope ["self"] ["self"] (defScope sTsketch) := ⟨rfl, rfl, rfl, by decide +kernel, rfl, by decide +kernel, by decide +kernel⟩
abbrev sTfeed : Stmt := inClass (topS 21) 2
abbrev NTfeed : List Str := ["self", "name", "times", "amount"]
theorem scTfeed : FnScope ["self", "name", "times", "amount"] ["self", "name", "times"] (defScope sTfeed) := ⟨rfl, rfl, rfl, by decide +kernel, rfl, by decide +kernel, by decide +kernel⟩
abbrev sTpour : Stmt := inClass (topS 21) 3
abbrev sTtake : Stmt := inClass (topS 21) 4
abbrev NTtake : List Str := ["self", "amount", "name", "count"]
theorem scTtake : FnScope ["self", "amount", "name", "count"] ["self", "amount"] (defScope sTtake) := ⟨rfl, rfl, rfl, by decide +kernel, rfl, by decide +kernel, by decide +kernel⟩
/-! the fields -/
theorem k_mr : ¬ (("room" : Str) = "seen") := by decide +kernel
theorem k_or : ¬ (("room" : Str) = "off") := by decide +kernel
theorem k_om : ¬ (("seen" : Str) = "off") := by decide +kernel
theorem k_cr : ¬ (("room" : Str) = "counts") := by decide +kernel
theorem k_cm : ¬ (("seen" : Str) = "counts") := by decide +kernel
theorem k_co : ¬ (("off" : Str) = "counts") := by decide +kernel
def fl (r m o : Int) (d : Addr) : List (Str × V) := [(("room" : Str), V.int r), (("seen" : Str), V.int m), (("off" : Str), V.int o), (("counts" : Str), V.ref d)]
theorem fl_mk (r m o : Int) (d : Addr) : putF "counts" (.ref d) (putF "off" (.int o) (putF "seen" (.int m) (putF "room" (.int r) []))) = fl r m o d := by
  show putF "counts" (.ref d) (putF "off" (.int o) (if ("room" : Str) = "seen" then _ else (("room" : Str), V.int r) :: [(("seen" : Str), V.int m)])) = _
  rw [if_neg k_mr]
  show putF "counts" (.ref d) (if ("room" : Str) = "off" then _ else (("room" : Str), V.int r) :: (if ("seen" : Str) = "off" then _ else (("seen" : Str), V.int m) :: [(("off" : Str), V.int o)])) = _
  rw [if_neg k_or, if_neg k_om]
  show (if ("room" : Str) = "counts" then _ else (("room" : Str), V.int r) :: (if ("seen" : Str) = "counts" then _ else (("seen" : Str), V.int m) :: (if ("off" : Str) = "counts" then _ else (("off" : Str), V.int o) :: [(("counts" : Str), V.ref d)]))) = _
  rw [if_neg k_cr, if_neg k_cm, if_neg k_co]
  rfl
theorem fl_many (r m o x : Int) (d : Addr) : putF "seen" (.int x) (fl r m o d) = fl r x o d := by
  show (if ("room" : Str) = "seen" then _ else (("room" : Str), V.int r) :: (if ("seen" : Str) = "seen" then _ else _)) = _
  rw [if_neg k_mr, if_pos rfl]
  rfl
theorem fl_off (r m o x : Int) (d : Addr) : putF "off" (.int x) (fl r m o d) = fl r m x d := by
  show (if ("room" : Str) = "off" then _ else (("room" : Str), V.int r) :: (if ("seen" : Str) = "off" then _ else (("seen" : Str), V.int m) :: (if ("off" : Str) = "off" then _ else _))) = _
  rw [if_neg k_or, if_neg k_om, if_pos rfl]
  rfl
theorem fl_counts (r m o : Int) (d x : Addr) : putF "counts" (.ref x) (fl r m o d) = fl r m o x := by
  show (if ("room" : Str) = "counts" then _ else (("room" : Str), V.int r) :: (if ("seen" : Str) = "counts" then _ else (("seen" : Str), V.int m) :: (if ("off" : Str) = "counts" then _ else (("off" : Str), V.int o) :: (if ("counts" : Str) = "counts" then _ else _)))) = _
  rw [if_neg k_cr, if_neg k_cm, if_neg k_co, if_pos rfl]
  rfl
theorem g_room (r m o : Int) (d : Addr) : (fl r m o d).lookup ("room" : Str) = some (.int r) := by
  rw [← fl_mk, lookup_putF, if_neg k_cr, lookup_putF, if_neg k_or, lookup_putF, if_neg k_mr, lookup_putF, if_pos rfl]
theorem g_many (r m o : Int) (d : Addr) : (fl r m o d).lookup ("seen" : Str) = some (.int m) := by
  rw [← fl_mk, lookup_putF, if_neg k_cm, lookup_putF, if_neg k_om, lookup_putF, if_pos rfl]
theorem g_off (r m o : Int) (d : Addr) : (fl r m o d).lookup ("off" : Str) = some (.int o) := by
  rw [← fl_mk, lookup_putF, if_neg k_co, lookup_putF, if_pos rfl]
theorem g_counts (r m o : Int) (d : Addr) : (fl r m o d).lookup ("counts" : Str) = some (.ref d) := by
  rw [← fl_mk, lookup_putF, if_pos rfl]
theorem g_no (r m o : Int) (d : Addr) {f : Str} (h1 : ¬ f = "counts") (h2 : ¬ f = "off") (h3 : ¬ f = "seen") (h4 : ¬ f = "room") : (fl r m o d).lookup f = none := by
  rw [← fl_mk, lookup_putF, if_neg h1, lookup_putF, if_neg h2, lookup_putF, if_neg h3, lookup_putF, if_neg h4]
  rfl
/-! counts in a dict -/
def getZ (kvs : Ct) (n : Str) : Option Int := (kvs.find? fun e => decide (e.1 = n)).map (·.2)
def putZ (kvs : Ct) (n : Str) (v : Int) : Ct := if (kvs.any fun e => decide (e.1 = n)) = true then kvs.map (fun e => if e.1 = n then (e.1, v) else e) else kvs ++ [(n, v)]
def addZ (kvs : Ct) (n : Str) (c : Int) : Ct := putZ kvs n ((getZ kvs n).getD 0 + c)
def takeZ (a : Int) (kvs : Ct) : Ct := (kvs.filter fun e => decide (a < e.2)).map fun e => (e.1, e.2 - a)
theorem ent_dec (e : Str × Int) (n : Str) : decide ((entZ e).1 = (Sum.inr n : Key)) = decide (e.1 = n) := key_rr _ _
theorem getZ_val (n : Str) : ∀ kvs : Ct, valV (kvs.map entZ) (Sum.inr n : Key) = (getZ kvs n).map V.int
  | [] => rfl
  | e :: r => by
    have ih := getZ_val n r
    unfold getZ at ih ⊢
    rw [List.map_cons]
    by_cases h : e.1 = n
    · rw [valV_pos (show (entZ e).1 = Sum.inr n by rw [← h])]
      simp [h]
    · rw [valV_neg (show ¬ (entZ e).1 = Sum.inr n from fun z => h (Sum.inr.inj z)), ih]
      simp [h]
theorem putZ_put (kvs : Ct) (n : Str) (v : Int) : putK (kvs.map entZ) (Sum.inr n : Key) (.int v) = (putZ kvs n v).map entZ := by
  unfold putK putZ
  have e : ((kvs.map entZ).any fun kv => decide (kv.1 = (Sum.inr n : Key))) = kvs.any fun e => decide (e.1 = n) := by
    rw [List.any_map]
    congr 1
    funext e
    exact ent_dec e n
  rw [e]
  by_cases h : (kvs.any fun e => decide (e.1 = n)) = true
  · rw [if_pos h, if_pos h, List.map_map, List.map_map]
    refine List.map_congr_left fun e _ => ?_
    show (if (Sum.inr e.1 : Key) = Sum.inr n then _ else _) = entZ (if e.1 = n then _ else _)
    by_cases h2 : e.1 = n
    · rw [if_pos h2, if_pos (by rw [h2])]
    · rw [if_neg h2, if_neg (fun z => h2 (Sum.inr.inj z))]
  · rw [if_neg h, if_neg h, List.map_append]
    rfl
abbrev NdZ (kvs : Ct) : Prop := (kvs.map (·.1)).Nodup
theorem getZ_none {kvs : Ct} {n : Str} : getZ kvs n = none ↔ n ∉ kvs.map (·.1) := by
  unfold getZ
  rw [Option.map_eq_none_iff, List.find?_eq_none]
  constructor
  · intro h z
    obtain ⟨e, he, rfl⟩ := List.mem_map.mp z
    have := h e he
    simp at this
  · intro h e he z
    exact h (List.mem_map.mpr ⟨e, he, of_decide_eq_true z⟩)
theorem any_getZ (n : Str) (kvs : Ct) : (kvs.any fun e => decide (e.1 = n)) = (getZ kvs n).isSome := by
  cases h : getZ kvs n with
  | none =>
    rw [getZ_none] at h
    show _ = false
    rw [List.any_eq_false]
    intro e he z
    exact h (List.mem_map.mpr ⟨e, he, of_decide_eq_true z⟩)
  | some v =>
    show _ = true
    rw [List.any_eq_true]
    unfold getZ at h
    cases hf : kvs.find? fun e => decide (e.1 = n) with
    | none => rw [hf] at h; cases h
    | some e =>
      have h2 := List.find?_some (p := fun e : Str × Int => decide (e.1 = n)) hf
      exact ⟨e, List.mem_of_find?_eq_some hf, h2⟩
theorem putZ_new {kvs : Ct} {n : Str} {v : Int} (h : getZ kvs n = none) : putZ kvs n v = kvs ++ [(n, v)] := by
  unfold putZ
  rw [any_getZ, h]
  exact if_neg (by decide)
theorem putZ_keys_old {kvs : Ct} {n : Str} {v : Int} (h : (getZ kvs n).isSome = true) : (putZ kvs n v).map (·.1) = kvs.map (·.1) := by
  unfold putZ
  rw [any_getZ, if_pos h, List.map_map]
  refine List.map_congr_left fun e _ => ?_
  show (if e.1 = n then _ else _ : Str × Int).1 = e.1
  split <;> rfl
theorem putZ_nd {kvs : Ct} {n : Str} {v : Int} (nd : NdZ kvs) : NdZ (putZ kvs n v) := by
  unfold NdZ
  cases h : getZ kvs n with
  | none =>
    rw [putZ_new h, List.map_append, List.nodup_append]
    refine ⟨nd, by simp, fun a ha b hb => ?_⟩
    rw [List.map_cons, List.map_nil, List.mem_singleton] at hb
    rw [hb]
    intro e
    have e' : a = n := e
    exact getZ_none.mp h (by rw [← e']; exact ha)
  | some x =>
    rw [putZ_keys_old (by rw [h]; rfl)]
    exact nd
theorem putZ_len {kvs : Ct} {n : Str} {v : Int} : (putZ kvs n v).length ≤ kvs.length + 1 := by
  cases h : getZ kvs n with
  | none => rw [putZ_new h, List.length_append]; exact Nat.le_refl _
  | some x =>
    have := congrArg List.length (putZ_keys_old (v := v) (show (getZ kvs n).isSome = true by rw [h]; rfl))
    rw [List.length_map, List.length_map] at this
    omega
theorem takeZ_nd {a : Int} {kvs : Ct} (nd : NdZ kvs) : NdZ (takeZ a kvs) := by
  unfold NdZ takeZ
  rw [List.map_map]
  exact List.Nodup.sublist (List.Sublist.map _ List.filter_sublist) nd
theorem takeZ_len {a : Int} {kvs : Ct} : (takeZ a kvs).length ≤ kvs.length := by
  unfold takeZ
  rw [List.length_map]
  exact List.length_filter_le _ _
theorem mergeZ : ∀ (more kvs : Ct), NdZ (kvs ++ more) → mergeK (kvs.map entZ) (more.map entZ) = (kvs ++ more).map entZ
  | [], kvs, _ => by
    rw [List.append_nil]
    rfl
  | e :: r, kvs, nd => by
    have nm : getZ kvs e.1 = none := getZ_none.mpr fun z => by
      unfold NdZ at nd
      rw [List.map_append, List.nodup_append] at nd
      exact nd.2.2 _ z _ (List.mem_map.mpr ⟨e, List.mem_cons_self, rfl⟩) rfl
    show mergeK (putK (kvs.map entZ) (Sum.inr e.1) (.int e.2)) (r.map entZ) = _
    rw [putZ_put, putZ_new nm, mergeZ r (kvs ++ [e]) (by rw [List.append_assoc]; exact nd), List.append_assoc]
    rfl
/-! a Tally -/
structure TalAt (C : Addr) (H : Hp) (t d : Addr) (r m o : Int) (kvs : Ct) : Prop where
  ob : ∃ dx, H t = some (.ins C dx (fl r m o d))
  dc : H d = some (.dK (kvs.map entZ))
theorem TalAt.ne {C : Addr} {H : Hp} {t d : Addr} {r m o : Int} {kvs : Ct} (h : TalAt C H t d r m o kvs) : t ≠ d := by
  obtain ⟨dx, e⟩ := h.ob
  exact ne_of e h.dc (by intro z; cases z)
theorem TalAt.same {C : Addr} {H H' : Hp} {t d : Addr} {r m o : Int} {kvs : Ct} (h : TalAt C H t d r m o kvs) (s : Same H H') : TalAt C H' t d r m o kvs := by
  obtain ⟨⟨dx, e⟩, e2⟩ := h
  exact ⟨⟨dx, s _ _ e⟩, s _ _ e2⟩
/-- all but the tally stays -/
def But (t d : Addr) (H H' : Hp) : Prop := ∀ b u, b ≠ t → b ≠ d → H b = some u → H' b = some u
theorem But.refl (t d : Addr) (H : Hp) : But t d H H := fun _ _ _ _ e => e
theorem But.trans {t d : Addr} {H H1 H2 : Hp} (x : But t d H H1) (y : But t d H1 H2) : But t d H H2 := fun b u n1 n2 e => y b u n1 n2 (x b u n1 n2 e)
theorem But.same {t d : Addr} {H H1 H2 : Hp} (x : But t d H H1) (y : Same H1 H2) : But t d H H2 := fun b u n1 n2 e => y b u (x b u n1 n2 e)
theorem But.upT {t d : Addr} {H H1 : Hp} {u : HO} (x : But t d H H1) : But t d H (upd H1 t u) := fun b v n1 n2 e => by
  rw [upd_ne n1]
  exact x b v n1 n2 e
theorem But.upD {t d : Addr} {H H1 : Hp} {u : HO} (x : But t d H H1) : But t d H (upd H1 d u) := fun b v n1 n2 e => by
  rw [upd_ne n2]
  exact x b v n1 n2 e
theorem But.new {t d p : Addr} {H H1 : Hp} {u : HO} (x : But t d H H1) (h : H1 p = none) : But t d H (upd H1 p u) := x.same (same_upd h)
/-- of the class, as the top has made it -/
structure Tal (K : PySem.W.Frag) (mg : Str → Option Value) where
  C : Addr
  fI : Addr
  fS : Addr
  fF : Addr
  fP : Addr
  fT : Addr
  dI : FuncData
  dS : FuncData
  dF : FuncData
  dP : FuncData
  dT : FuncData
  FI : Fun K "__init__" "Tally.__init__" sTinit fI dI
  FS : Fun K "sketch" "Tally.sketch" sTsketch fS dS
  FF : Fun K "gain" "Tally.gain" sTfeed fF dF
  FP : Fun K "pour" "Tally.pour" sTpour fP dP
  FT : Fun K "_take" "Tally._take" sTtake fT dT
  bI : Binds K dI ["self", "sketch"] []
  bS : Binds K dS ["self"] []
  bF : Binds K dF ["self", "name", "times"] []
  bP : Binds K dP ["self", "sketch"] []
  bT : Binds K dT ["self", "amount"] []
  mI : Mk K C fI
  mS : Meth K C "sketch" fS
  mF : Meth K C "gain" fF
  mP : Meth K C "pour" fP
  mT : Meth K C "_take" fT
  cl : Cls K C
  nR : NoAttr K C "room"
  nM : NoAttr K C "seen"
  nO : NoAttr K C "off"
  nC : NoAttr K C "counts"
  g : mg "Tally" = some (.ref C)
theorem ents_paired {K : PySem.W.Frag} {H : Hp} : ∀ {ts : List Addr} {kvs : Ct}, Paired (PrAt K H) ts kvs → Paired (fun p kv => SqT K H p [kV kv.1, kv.2]) ts (kvs.map entZ)
  | _, _, .nil => .nil
  | _, _, .cons h t => .cons h (ents_paired t)
theorem seq_upd {K : PySem.W.Frag} {H : Hp} {a t : Addr} {xs : List V} {C dx : Addr} {fs : List (Str × V)} {u : HO} (h : SqT K H a xs) (ht : H t = some (.ins C dx fs)) : SqT K (upd H t u) a xs := by
  rcases h with (h | ⟨o, h⟩) | h
  · exact .inl (.inl (by rw [upd_ne (ne_of h ht (by intro z; cases z))]; exact h))
  · exact .inl (.inr ⟨o, by rw [upd_ne (ne_of h ht (by intro z; cases z))]; exact h⟩)
  · exact .inr h
theorem prs_upd {K : PySem.W.Frag} {H : Hp} {t : Addr} {C dx : Addr} {fs : List (Str × V)} {u : HO} (ht : H t = some (.ins C dx fs)) : ∀ {ts : List Addr} {kvs : Ct}, Paired (PrAt K H) ts kvs → Paired (PrAt K (upd H t u)) ts kvs
  | _, _, .nil => .nil
  | _, _, .cons h q => .cons (seq_upd h ht) (prs_upd ht q)
section
variable {P : Program} {w : World} {K : PySem.W.Frag} {mg : Str → Option Value} {base : Heap}
/-! Tally.__init__ -/
def spTinit (K : PySem.W.Frag) (C : Addr) : Sp := fun vs H Q _ => ∃ (t dx s k : Addr) (r m o : Int) (ts : List Addr) (kvs : Ct), vs = [.ref t, .ref s] ∧ H t = some (.ins C dx []) ∧ SqT K H s [.int r, .int m, .int o, .ref k] ∧ Ptp H k (ts.map V.ref) ∧ Paired (PrAt K H) ts kvs ∧ NdZ kvs ∧
  ∀ H' d, (∀ b u, b ≠ t → H b = some u → H' b = some u) → H d = none → TalAt C H' t d r m o kvs → Q .non H'
theorem ok_Tinit (T : Blt mg) (L : Tal K mg) : FnOk P w K mg base CX0 1 L.fI L.dI ["self", "sketch"] (spTinit K L.C) := by
  refine L.FI.ok scTinit (fun vs H Q E h => ?_) (fun cdv A outer s H vs Q E hr h => ?_)
  · obtain ⟨t, dx, s, k, r, m, o, ts, kvs, rfl, _⟩ := h
    rfl
  · obtain ⟨t, dx, s, k, r, m, o, ts, kvs, rfl, ht, hs, hk, hp, nd, q⟩ := h
    refine ⟨_, (pss_cons (ps_asg (pv 1) (pg_tup (by rfl) (pgs_cons (pg_fld (pv 0)) (pgs_cons (pg_fld (pv 0)) (pgs_cons (pg_fld (pv 0)) (pgs_cons (pg_name (i := 2) scTinit.nd rfl (Or.inl rfl)) pgs_nil))))))
    (pss_one (ps_fld (pv 0) (pe_callTy (call_dictPT rfl) (by rfl) T.n_dict (by decide +kernel) (pa_cons (pv 2) pa_nil)) rfl))), ?_⟩
    have kt : k ≠ t := by
      obtain ⟨ob, e, _⟩ := hk
      exact ne_of e ht (by intro z; cases z)
    refine ⟨.ref s, rfl, s, _, rfl, hs, rfl, _, _, rfl, .ref t, rfl, t, L.C, dx, _, rfl, ht, L.cl, L.nR, (by show 0 < 1000; decide), ?_⟩
    refine ⟨_, _, rfl, .ref t, rfl, t, L.C, dx, _, rfl, upd_same, L.cl, L.nM, (by show 1 < 1000; decide), ?_⟩
    have l2 : (putF "seen" (V.int m) (putF "room" (V.int r) [])).length < 1000 := by
      show (if ("room" : Str) = "seen" then _ else (("room" : Str), V.int r) :: [(("seen" : Str), V.int m)]).length < 1000
      rw [if_neg k_mr]
      show 2 < 1000
      decide
    have l3 : (putF "off" (V.int o) (putF "seen" (V.int m) (putF "room" (V.int r) []))).length < 1000 := by
      show (putF "off" (V.int o) (if ("room" : Str) = "seen" then _ else (("room" : Str), V.int r) :: [(("seen" : Str), V.int m)])).length < 1000
      rw [if_neg k_mr]
      show (if ("room" : Str) = "off" then _ else (("room" : Str), V.int r) :: (if ("seen" : Str) = "off" then _ else (("seen" : Str), V.int m) :: [(("off" : Str), V.int o)])).length < 1000
      rw [if_neg k_or, if_neg k_om]
      show 3 < 1000
      decide
    refine ⟨_, _, rfl, .ref t, rfl, t, L.C, dx, _, rfl, upd_same, L.cl, L.nO, l2, ?_⟩
    rw [upd_upd, upd_upd]
    refine ⟨_, _, rfl, rfl, .ref k, rfl, k, ts, kvs.map entZ, rfl, hk.upd kt, ents_paired (prs_upd ht hp), fun d nd2 => ?_⟩
    have td : t ≠ d := ne_of_none upd_same nd2
    have nd0 : H d = none := by rw [upd_ne td.symm] at nd2; exact nd2
    refine ⟨.ref t, rfl, t, L.C, dx, _, rfl, (by rw [upd_ne td]; exact upd_same), L.cl, L.nC, l3, ?_⟩
    rw [fl_mk, show mergeK [] (kvs.map entZ) = kvs.map entZ from mergeZ kvs [] nd]
    refine q _ d (fun b u hb e => ?_) nd0 ⟨⟨dx, upd_same⟩, by rw [upd_ne td.symm]; exact upd_same⟩
    rw [upd_ne hb, upd_ne (ne_of_none e nd0), upd_ne hb]
    exact e
end
end Kb


namespace L2
section
variable {J : It} {n : Nat} {G : Hp → Prop} {Y : Nat → Hp → V → Hp → Prop}
/-- a dict comprehension over a walk -/
theorem dc_it (w : Walk J n G Y) {g : TG} {tt : TT} {tk tv : TE} {vs : List Nat} {σ : St} {H1 : Hp} {D : PySem.Addr} {Qd : Hp → Prop} (Pv : Nat → Hp → Prop) (h0 : Pv 0 (upd H1 D (.dK []))) (hG : ∀ i H, i ≤ n → Pv i H → G H)
    (hs : ∀ i x H H', i < n → Pv i H → Y i H x H' → g x (wipe σ vs) H' fun σ2 H2 => wipe σ2 vs = wipe σ vs ∧ tt σ2 H2 fun b H3 =>
      if b = true then tk σ2 H3 fun y H4 => tv σ2 H4 fun z H5 => ∃ kvs k, y = kV k ∧ H5 D = some (.dK kvs) ∧ kvs.length < PySem.sizeLine ∧ Pv (i + 1) (upd H5 D (.dK (putK kvs k z))) else Pv (i + 1) H3) (hd : ∀ H, Pv n H → Qd H) :
    ∃ W : Nat → Nat → Hp → Prop, (∃ m, W 0 m (upd H1 D (.dK []))) ∧ ∀ i m H, W i m H →
      (J.stop i H ∧ Qd H) ∨ (J.go i H ∧ ∃ Nx : Hp → Prop, (∀ H', Nx H' → ∃ m', m' < m ∧ W (i + 1) m' H') ∧ ∀ x H', J.yld i H x H' → g x (wipe σ vs) H' fun σ2 H2 => wipe σ2 vs = wipe σ vs ∧ tt σ2 H2 fun b H3 =>
        if b = true then tk σ2 H3 fun y H4 => tv σ2 H4 fun z H5 => ∃ kvs k, y = kV k ∧ H5 D = some (.dK kvs) ∧ kvs.length < PySem.sizeLine ∧ Nx (upd H5 D (.dK (putK kvs k z))) else Nx H3) := by
  refine ⟨fun i m H => m = n - i ∧ i ≤ n ∧ Pv i H, ⟨n, by simp, Nat.zero_le _, h0⟩, ?_⟩
  rintro i m H ⟨rfl, hi, p⟩
  have q := hG i H hi p
  by_cases hlt : i < n
  · refine .inr ⟨w.goes i H hlt q, Pv (i + 1), fun H' p' => ⟨n - (i + 1), by omega, rfl, hlt, p'⟩, fun x H' y => hs i x H H' hlt p (w.yields i H x H' hlt q y)⟩
  · have e : i = n := by omega
    subst e
    exact .inl ⟨w.stops H q, hd H p⟩
end
end L2
namespace Kb
open PySem PySem.Spec PyProof.Rows L2 SrtZ SrtO
def Asc (kvs : Ct) : Prop := kvs.Pairwise fun a b => ltZ a.1 b.1 = true
/-- sorted, names unlike: ascending -/
theorem asc_of {ys kvs : Ct} (h : Srtd lexZ ys) (p : ys.Perm kvs) (nd : NdZ kvs) : Asc ys := by
  have nd2 : (ys.map (·.1)).Nodup := (p.map (·.1)).nodup_iff.mpr nd
  rw [List.Nodup, List.pairwise_map] at nd2
  refine List.Pairwise.imp₂ (fun {a b} h1 h2 => ?_) h nd2
  rw [lexZ_ne (fun e => h2 e.symm)] at h1
  rcases bcase (ltZ a.1 b.1) with q | q
  · exact q
  · exact absurd (ltZ_tri q h1) h2
theorem asc_uniq {xs ys : Ct} (hx : Asc xs) (hy : Asc ys) (p : xs.Perm ys) : xs = ys :=
  List.Perm.eq_of_pairwise (le := fun (a b : Str × Int) => ltZ a.1 b.1 = true) (fun a b _ _ h1 h2 => by
    have := ltZ_asym h1
    rw [h2] at this
    cases this) hx hy p
theorem putZ_snoc {kvs : Ct} {n : Str} {v : Int} (h : n ∉ kvs.map (·.1)) : putZ kvs n v = kvs ++ [(n, v)] := putZ_new (getZ_none.mpr h)
theorem takeZ_snoc (a : Int) (kvs : Ct) (e : Str × Int) : takeZ a (kvs ++ [e]) = takeZ a kvs ++ (if a < e.2 then [(e.1, e.2 - a)] else []) := by
  unfold takeZ
  rw [List.filter_append, List.map_append]
  by_cases h : a < e.2
  · rw [if_pos h, List.filter_cons_of_pos (by simpa using h)]
    rfl
  · rw [if_neg h, List.filter_cons_of_neg (by simpa using h)]
    rfl
theorem takeZ_keys {a : Int} {kvs : Ct} {n : Str} (h : n ∈ (takeZ a kvs).map (·.1)) : n ∈ kvs.map (·.1) := by
  unfold takeZ at h
  rw [List.map_map] at h
  obtain ⟨e, he, rfl⟩ := List.mem_map.mp h
  exact List.mem_map.mpr ⟨e, (List.mem_filter.mp he).1, rfl⟩
section
variable {P : Program} {w : World} {K : PySem.W.Frag} {mg : Str → Option Value} {base : Heap}
/-! Tally.sketch -/
def spTsketch (C : Addr) : Sp := fun vs H Q _ => ∃ (t d : Addr) (r m o : Int) (kvs : Ct), vs = [.ref t] ∧ TalAt C H t d r m o kvs ∧ NdZ kvs ∧ kvs.length ≤ 1000 ∧
  ∀ H' s k (ys : Ct) (ts : List Addr), Same H H' → H s = none → H' s = some (.tup [.int r, .int m, .int o, .ref k]) → Ptp H' k (ts.map V.ref) → Paired (fun (t : Addr) (y : Str × Int) => H' t = some (.tup [.str y.1, .int y.2])) ts ys → ys.Perm kvs → Asc ys → Q (.ref s) H'
theorem ok_Tsketch (T : Blt mg) (L : Tal K mg) : FnOk P w K mg base CX0 1 L.fS L.dS ["self"] (spTsketch L.C) := by
  refine L.FS.ok scTsketch (fun vs H Q E h => ?_) (fun cdv A outer s H vs Q E hr h => ?_)
  · obtain ⟨t, d, r, m, o, kvs, rfl, _⟩ := h
    rfl
  · obtain ⟨t, d, r, m, o, kvs, rfl, ta, nd, hl, q⟩ := h
    refine ⟨_, (pss_one (ps_ret (pe_tup (pa_cons (pe_fld (pv 0) rfl) (pa_cons (pe_fld (pv 0) rfl) (pa_cons (pe_fld (pv 0) rfl) (pa_cons (pe_callTy call_tupleF (by rfl) T.n_tuple (by decide +kernel) (pa_cons (pe_callB (cr_sortedIZ rfl) (by rfl) T.n_sorted (by decide +kernel) (pa_cons (pe_bm0 PySem.F.plainAttrs_dict PySem.F.slot_dict_items PySem.F.type_dict_items mt_itemsK (pe_fld (pv 0) rfl)) pa_nil)) pa_nil)) pa_nil))))))), ?_⟩
    obtain ⟨⟨dx, ht⟩, hd⟩ := id ta
    refine ⟨.ref t, rfl, t, L.C, dx, _, _, rfl, ht, L.cl, L.nR, g_room _ _ _ _, .ref t, rfl, t, L.C, dx, _, _, rfl, ht, L.cl, L.nM, g_many _ _ _ _, .ref t, rfl, t, L.C, dx, _, _, rfl, ht, L.cl, L.nO, g_off _ _ _ _, ?_⟩
    refine ⟨.ref t, rfl, t, L.C, dx, _, _, rfl, ht, L.cl, L.nC, g_counts _ _ _ _, .inr (.inr (.inl ⟨rfl, .inl ⟨_, hd⟩⟩)), d, _, rfl, rfl, hd, fun p np => ?_⟩
    refine ⟨p, d, kvs, rfl, upd_same, (by rw [upd_ne (ne_of_none hd np)]; exact hd), fun H1 l ys ts s1 nl nts lts pm so hl1 hts => ?_⟩
    refine ⟨l, _, rfl, sql hl1, fun k ob nk ho => ⟨(by show 4 ≤ sizeLine; decide), fun s ns => ?_⟩⟩
    have sa : Same H (upd H p (DX.itemsO p d)) := same_upd np
    have sb : Same H H1 := fun b u e => s1 b u (sa b u e)
    have sc : Same H (upd H1 k (.frz ob (.tup (ts.map V.ref)))) := Same.new sb nk
    refine q _ s k ys ts (Same.new sc ns) (Same.gone sc ns) upd_same ⟨ob, ?_, ho⟩ ?_ pm (asc_of so pm nd)
    · rw [upd_ne (ne_of_none upd_same ns)]
      exact upd_same
    · have : ∀ {ts : List Addr} {ys : Ct}, Paired (fun (t : Addr) (y : Str × Int) => H1 t = some (.tup [.str y.1, .int y.2])) ts ys → Paired (fun (t : Addr) (y : Str × Int) => (upd (upd H1 k (.frz ob (.tup (ts.map V.ref)))) s (.tup [.int r, .int m, .int o, .ref k])) t = some (.tup [.str y.1, .int y.2])) ts ys := by
        intro ts ys h
        have gen : ∀ (u : HO) (ns' : (upd H1 k u) s = none) (v : HO) {ts : List Addr} {ys : Ct}, Paired (fun (t : Addr) (y : Str × Int) => H1 t = some (.tup [.str y.1, .int y.2])) ts ys → Paired (fun (t : Addr) (y : Str × Int) => (upd (upd H1 k u) s v) t = some (.tup [.str y.1, .int y.2])) ts ys := by
          intro u ns' v ts ys h
          induction h with
          | nil => exact .nil
          | cons h _ ih => exact .cons ((Same.new (same_upd nk) ns') _ _ h) ih
        exact gen _ (by
          have e : s ≠ k := (ne_of_none upd_same ns).symm
          rw [upd_ne e] at ns ⊢
          exact ns) _ h
      exact this hts
/-! Tally._take -/
def spTtake (C : Addr) : Sp := fun vs H Q _ => ∃ (t d : Addr) (r m o a : Int) (kvs : Ct), vs = [.ref t, .int a] ∧ TalAt C H t d r m o kvs ∧ NdZ kvs ∧ kvs.length ≤ 1000 ∧
  ∀ H' d', But t d H H' → H d' = none → TalAt C H' t d' r m (o + a) (takeZ a kvs) → Q .non H'
theorem ok_Ttake (T : Blt mg) (L : Tal K mg) : FnOk P w K mg base CX0 1 L.fT L.dT ["self", "amount"] (spTtake L.C) := by
  refine L.FT.ok scTtake (fun vs H Q E h => ?_) (fun cdv A outer s H vs Q E hr h => ?_)
  · obtain ⟨t, d, r, m, o, a, kvs, rfl, _⟩ := h
    rfl
  · obtain ⟨t, d, r, m, o, a, kvs, rfl, ta, nd, hl, q⟩ := h
    refine ⟨_, (pss_cons (ps_fldaug (pv 0) (pv 1) in_add)
    (pss_one (ps_fld (pv 0) (pe_lock (pe_dc rfl scTtake.nd (own := [("name", 2), ("count", 3)]) (g := gTup K 2 (gCons (gName 2) (gCons (gName 3) gNil))) (pi_items (pe_fld (pv 0) rfl)) (blkOk_by (N := NTtake) (sc := defScope sTtake) (by decide +kernel)) (fun _ _ _ _ _ => pg_tup (by rfl) (pgs_cons (pg_name (i := 2) scTtake.nd rfl (Or.inl rfl)) (pgs_cons (pg_name (i := 3) scTtake.nd rfl (Or.inl rfl)) pgs_nil))) (fun _ _ _ _ _ => pts_one (pt_cmpR op_gt (pv 3) (pv 1) (nomark _))) (fun _ _ _ _ _ => (pv 2)) (fun _ _ _ _ _ => (pe_op op_sub (pv 3) (pv 1))))) rfl))), ?_⟩
    obtain ⟨⟨dx, ht⟩, hd⟩ := id ta
    have td := ta.ne
    refine ⟨.ref t, rfl, t, L.C, dx, _, _, rfl, ht, L.cl, L.nO, g_off _ _ _ _, .int a, rfl, _, _, rfl, rfl, dx, _, ht, (by show 4 < 1000; decide), ?_⟩
    rw [fl_off]
    have hd1 : (upd H t (.ins L.C dx (fl r m (o + a) d))) d = some (.dK (kvs.map entZ)) := by rw [upd_ne td.symm]; exact hd
    refine ⟨d, _, hd1, trivial, fun od => ⟨.ref t, rfl, t, L.C, dx, _, _, rfl, (by rw [upd_ne td]; exact upd_same), L.cl, L.nC, g_counts _ _ _ _, d, od, kvs.map entZ, rfl, upd_same, fun D nD => ?_⟩⟩
    have tD : t ≠ D := ne_of_none (by rw [upd_ne td]; exact upd_same) nD
    have dD : d ≠ D := ne_of_none upd_same nD
    generalize hHl : upd (upd H t (.ins L.C dx (fl r m (o + a) d))) d (.frz od (.dK (kvs.map entZ))) = Hl at nD ⊢
    have hlt : Hl t = some (.ins L.C dx (fl r m (o + a) d)) := by rw [← hHl, upd_ne td]; exact upd_same
    have hld : Hl d = some (.frz od (.dK (kvs.map entZ))) := by rw [← hHl]; exact upd_same
    refine dc_it (walk_items (kvs := kvs.map entZ)) (fun i H3 => (∀ b u, b ≠ D → Hl b = some u → H3 b = some u) ∧ H3 D = some (.dK ((takeZ a (kvs.take i)).map entZ))) ⟨fun b u n e => by rw [upd_ne n]; exact e, upd_same⟩ (fun i H3 _ h3 => h3.1 d _ dD hld) (fun i x H3 H4 hi h3 y => ?_) (fun H3 h3 => ?_)
    · obtain ⟨Tp, x1, y1, rfl, nT, rfl, hx, hy⟩ := y
      dsimp only at hx hy
      rw [List.length_map] at hi
      have he : kvs[i]? = some kvs[i] := List.getElem?_eq_getElem hi
      generalize kvs[i] = e at he
      have hx1 : x1 = .str e.1 := by
        rw [List.getElem?_map, he] at hx
        exact (Option.some.inj hx).symm
      have hy1 : y1 = .int e.2 := by
        rw [List.getElem?_map, he] at hy
        exact (Option.some.inj hy).symm
      subst hx1 hy1
      have TD : Tp ≠ D := (ne_of_none h3.2 nT).symm
      refine ⟨Tp, _, rfl, .inl (.inl upd_same), rfl, _, _, rfl, _, _, rfl, rfl, rfl, .int e.2, rfl, .int a, rfl, _, _, rfl, rfl, _, rfl, ?_⟩
      have tk := takeZ_snoc a (kvs.take i) e
      have te : kvs.take (i + 1) = kvs.take i ++ [e] := by rw [List.take_add_one, he]; rfl
      refine ite2 (fun hgt => ?_) (fun hgt => ?_)
      · have hga : a < e.2 := of_decide_eq_true hgt
        refine ⟨.str e.1, rfl, .int e.2, rfl, .int a, rfl, _, _, rfl, rfl, _, Sum.inr e.1, rfl, (by rw [upd_ne TD.symm]; exact h3.2), ?_, fun b u nb e' => ?_, ?_⟩
        · rw [List.length_map, sizeLine_eq]
          have := takeZ_len (a := a) (kvs := kvs.take i)
          rw [List.length_take] at this
          omega
        · rw [upd_ne nb]
          by_cases hb : b = Tp
          · subst hb
            have := h3.1 b u nb e'
            rw [nT] at this
            cases this
          · rw [upd_ne hb]
            exact h3.1 b u nb e'
        · rw [upd_same, putZ_put, putZ_snoc, te, tk, if_pos hga]
          intro z
          have z2 := takeZ_keys z
          have nd2 := nd
          unfold NdZ at nd2
          rw [← List.take_append_drop i kvs, List.map_append, List.nodup_append] at nd2
          refine nd2.2.2 _ z2 e.1 (List.mem_map.mpr ⟨e, ?_, rfl⟩) rfl
          rw [List.drop_eq_getElem_cons hi]
          have := (List.getElem?_eq_some_iff.mp he).2
          rw [this]
          exact List.mem_cons_self
      · have hga : ¬ a < e.2 := fun z => hgt (decide_eq_true z)
        refine ⟨fun b u nb e' => ?_, ?_⟩
        · by_cases hb : b = Tp
          · subst hb
            have := h3.1 b u nb e'
            rw [nT] at this
            cases this
          · rw [upd_ne hb]
            exact h3.1 b u nb e'
        · rw [upd_ne TD.symm, te, tk, if_neg hga, List.append_nil]
          exact h3.2
    · have h3t := h3.1 t _ tD hlt
      have h3d := h3.1 d _ dD hld
      refine ⟨h3d, .ref t, rfl, t, L.C, dx, _, rfl, (by rw [upd_ne td]; exact h3t), L.cl, L.nC, (by show 4 < 1000; decide), ?_⟩
      rw [fl_counts]
      have h3D : H3 D = some (.dK ((takeZ a kvs).map entZ)) := by
        have := h3.2
        rw [List.length_map, List.take_length] at this
        exact this
      have nD0 : H D = none := by
        rw [← hHl, upd_ne dD.symm, upd_ne tD.symm] at nD
        exact nD
      refine q _ D (fun b u n1 n2 e => ?_) nD0 ⟨⟨dx, upd_same⟩, by rw [upd_ne tD.symm, upd_ne dD.symm]; exact h3D⟩
      rw [upd_ne n1, upd_ne n2]
      refine h3.1 b u (ne_of_none e nD0) ?_
      rw [← hHl, upd_ne n2, upd_ne n1]
      exact e
end
end Kb


namespace Kb
open PySem PySem.Spec PyProof.Rows L2 SrtZ SrtO
/-- the least count -/
def mnC : Ct → Int
  | [] => 0
  | [e] => e.2
  | e :: r => if e.2 ≤ mnC r then e.2 else mnC r
theorem mnC_spec : ∀ {kvs : Ct}, kvs ≠ [] → mnC kvs ∈ kvs.map (·.2) ∧ ∀ y ∈ kvs.map (·.2), mnC kvs ≤ y
  | [], h => absurd rfl h
  | [e], _ => ⟨by simp [mnC], fun y hy => by
    have : y = e.2 := by simpa using hy
    rw [this]
    exact Int.le_refl _⟩
  | e :: f :: r, _ => by
    obtain ⟨h1, h2⟩ := mnC_spec (kvs := f :: r) (by simp)
    show (if e.2 ≤ mnC (f :: r) then e.2 else mnC (f :: r)) ∈ _ ∧ ∀ y ∈ _, (if e.2 ≤ mnC (f :: r) then e.2 else mnC (f :: r)) ≤ y
    by_cases h : e.2 ≤ mnC (f :: r)
    · rw [if_pos h]
      refine ⟨by simp, fun y hy => ?_⟩
      rw [List.map_cons] at hy
      rcases List.mem_cons.mp hy with rfl | hy
      · exact Int.le_refl _
      · exact Int.le_trans h (h2 y hy)
    · rw [if_neg h]
      refine ⟨by rw [List.map_cons]; exact List.mem_cons_of_mem _ h1, fun y hy => ?_⟩
      rw [List.map_cons] at hy
      rcases List.mem_cons.mp hy with rfl | hy
      · omega
      · exact h2 y hy
theorem mnC_uniq {kvs : Ct} {m : Int} (h : m ∈ kvs.map (·.2)) (hm : ∀ y ∈ kvs.map (·.2), m ≤ y) : m = mnC kvs := by
  have ne : kvs ≠ [] := by
    rintro rfl
    simp at h
  obtain ⟨h1, h2⟩ := mnC_spec ne
  have a := h2 _ h
  have b := hm _ h1
  omega
/-- what a tally holds: many, off, counts -/
structure Tl where
  m : Int
  o : Int
  c : Ct
def full (r : Int) (n : Str) (kvs : Ct) : Bool := !(getZ kvs n).isSome && decide ((kvs.length : Int) = r)
def feedT (r : Int) (n : Str) (c : Int) (x : Tl) : Tl :=
  if full r n x.c = true then
    let a := if mnC x.c < c then mnC x.c else c
    ⟨x.m + c, x.o + a, if 0 < c - a then addZ (takeZ a x.c) n (c - a) else takeZ a x.c⟩
  else ⟨x.m + c, x.o, if 0 < c then addZ x.c n c else x.c⟩
def sumsZ (more kvs : Ct) : Ct := more.foldl (fun a e => addZ a e.1 e.2) kvs
def fallZ (kvs : Ct) (r : Int) : Int := ((kvs.map (·.2)).mergeSort (fun a b => decide (b ≤ a))).getD r.toNat 0
def pourT (r : Int) (y x : Tl) : Tl :=
  let all := sumsZ y.c x.c
  if r < (all.length : Int) then ⟨x.m + y.m, x.o + y.o + fallZ all r, takeZ (fallZ all r) all⟩ else ⟨x.m + y.m, x.o + y.o, all⟩
theorem fall_uniq {kvs : Ct} {ns : List Int} (p : ns.Perm (kvs.map (·.2))) (h : ns.Pairwise (· ≥ ·)) : ns = (kvs.map (·.2)).mergeSort (fun a b => decide (b ≤ a)) := by
  refine List.Perm.eq_of_pairwise (le := fun (a b : Int) => b ≤ a) (fun a b _ _ h1 h2 => Int.le_antisymm h2 h1) h ?_ (p.trans (List.mergeSort_perm _ _).symm)
  have := List.pairwise_mergeSort (le := fun (a b : Int) => decide (b ≤ a)) (fun a b c h1 h2 => by simp at *; omega) (fun a b => by simp; omega) (kvs.map (·.2))
  exact this.imp fun h => of_decide_eq_true h
theorem addZ_nd {kvs : Ct} {n : Str} {c : Int} (nd : NdZ kvs) : NdZ (addZ kvs n c) := putZ_nd nd
theorem addZ_len {kvs : Ct} {n : Str} {c : Int} : (addZ kvs n c).length ≤ kvs.length + 1 := putZ_len
theorem sumsZ_nd : ∀ {more kvs : Ct}, NdZ kvs → NdZ (sumsZ more kvs)
  | [], _, h => h
  | e :: r, kvs, h => sumsZ_nd (more := r) (addZ_nd (n := e.1) (c := e.2) h)
theorem sumsZ_len : ∀ {more kvs : Ct}, (sumsZ more kvs).length ≤ kvs.length + more.length
  | [], kvs => Nat.le_refl _
  | e :: r, kvs => by
    have h := sumsZ_len (more := r) (kvs := addZ kvs e.1 e.2)
    have h2 := addZ_len (kvs := kvs) (n := e.1) (c := e.2)
    show (sumsZ r (addZ kvs e.1 e.2)).length ≤ kvs.length + (r.length + 1)
    omega
theorem sumsZ_snoc {more kvs : Ct} {i : Nat} {e : Str × Int} (h : more[i]? = some e) : sumsZ (more.take (i + 1)) kvs = addZ (sumsZ (more.take i) kvs) e.1 e.2 := by
  unfold sumsZ
  rw [List.take_add_one, h, List.foldl_append]
  rfl
section
variable {P : Program} {w : World} {K : PySem.W.Frag} {mg : Str → Option Value} {base : Heap}
/-! Tally.feed -/
def spTfeed (C : Addr) : Sp := fun vs H Q _ => ∃ (t d : Addr) (r c : Int) (n : Str) (x : Tl), vs = [.ref t, .str n, .int c] ∧ TalAt C H t d r x.m x.o x.c ∧ NdZ x.c ∧ x.c.length ≤ 500 ∧ 1 ≤ r ∧
  ∀ H' d', But t d H H' → (d' = d ∨ H d' = none) → TalAt C H' t d' r (feedT r n c x).m (feedT r n c x).o (feedT r n c x).c → Q .non H'
theorem ok_Tfeed (T : Blt mg) (L : Tal K mg) : FnOk P w K mg base CX0 2 L.fF L.dF ["self", "name", "times"] (spTfeed L.C) := by
  have G_take : FnOk P w K mg base CX0 1 L.fT L.dT ["self", "amount"] (spTtake L.C) := ok_Ttake T L
  refine L.FF.ok scTfeed (fun vs H Q E h => ?_) (fun cdv A outer s H vs Q E hr h => ?_)
  · obtain ⟨t, d, r, c, n, x, rfl, _⟩ := h
    rfl
  · obtain ⟨t, d, r, c, n, ⟨m, o, kvs⟩, rfl, ta, nd, hl, hr1, q⟩ := h
    dsimp only at ta nd hl q
    have hu := hu_of hr
    refine ⟨_, (pss_cons (ps_fldaug (pv 0) (pv 2) in_add)
    (C8.pss_cut (ps_if (PW.pt (pw_and (pt_cmp (pc_dnotin hu (pv 1) (pe_fld (pv 0) rfl))) (pw_and1 (pt_cmpR op_eq (pe_callB call_lenD (by rfl) T.n_len (by decide +kernel) (pa_cons (pe_fld (pv 0) rfl) pa_nil)) (pe_fld (pv 0) rfl) (nomark _)))))
      (pss_cons (ps_set (i := 3) scTfeed.nd rfl (Or.inl rfl) (pe_callB (call_min2 rfl) (by rfl) T.n_min (by decide +kernel) (pa_cons (pv 2) (pa_cons (pe_callB (cr_minV rfl) (by rfl) T.n_min (by decide +kernel) (pa_cons (pe_bm0 PySem.F.plainAttrs_dict PySem.F.slot_dict_values PySem.F.type_dict_values mt_valuesK (pe_fld (pv 0) rfl)) pa_nil)) pa_nil))))
      (pss_cons (ps_expr (pe_meth (pv 0) L.cl L.mT G_take (hr.mono (by omega)) L.bT .nil pass0 (pa_cons (pv 3) pa_nil)))
      (pss_one (ps_aug (i := 2) scTfeed.nd rfl (Or.inl rfl) (pv 3) ip_sub))))
      pss_nil)
    (pss_one (ps_if (pt_cmpR op_gt (pv 2) pe_int (nomark _))
      (pss_one (ps_dput hu (pe_fld (pv 0) rfl) (pv 1) (pe_op op_add (pe_dget2 hu (pe_fld (pv 0) rfl) (pv 1) pe_int ⟨rfl, rfl, rfl, rfl⟩) (pv 2)) rfl))
      pss_nil)))), ?_⟩
    obtain ⟨⟨dx, ht⟩, hd⟩ := id ta
    have td := ta.ne
    refine ⟨.ref t, rfl, t, L.C, dx, _, _, rfl, ht, L.cl, L.nM, g_many _ _ _ _, .int c, rfl, _, _, rfl, rfl, dx, _, ht, (by show 4 < 1000; decide), ?_⟩
    rw [fl_many]
    have ta1 : TalAt L.C (upd H t (.ins L.C dx (fl r (m + c) o d))) t d r (m + c) o kvs := ⟨⟨dx, upd_same⟩, by rw [upd_ne td.symm]; exact hd⟩
    have bt1 : But t d H (upd H t (.ins L.C dx (fl r (m + c) o d))) := (But.refl t d H).upT
    generalize upd H t (.ins L.C dx (fl r (m + c) o d)) = H1 at ta1 bt1
    -- what stands behind the first if
    refine ⟨fun σ H2 => ∃ (d2 : Addr) (o2 c2 : Int) (kvs2 : Ct) (y : Option V), σ = [some (.ref t), some (.str n), some (.int c2), y] ∧ But t d H H2 ∧ (d2 = d ∨ H d2 = none) ∧ TalAt L.C H2 t d2 r (m + c) o2 kvs2 ∧ NdZ kvs2 ∧ kvs2.length ≤ 500 ∧
      feedT r n c ⟨m, o, kvs⟩ = ⟨m + c, o2, if 0 < c2 then addZ kvs2 n c2 else kvs2⟩, ?_, ?_⟩
    · obtain ⟨⟨dx1, ht1⟩, hd1⟩ := id ta1
      refine ⟨.str n, rfl, .ref t, rfl, t, L.C, dx1, _, _, rfl, ht1, L.cl, L.nC, g_counts _ _ _ _, d, _, rfl, DGet.k (k := Sum.inr n) hd1, _, rfl, ?_⟩
      rw [getZ_val]
      have stay : full r n kvs = false → ∃ (d2 : Addr) (o2 c2 : Int) (kvs2 : Ct) (y : Option V), [some (V.ref t), some (V.str n), some (V.int c), none] = [some (.ref t), some (.str n), some (.int c2), y] ∧ But t d H H1 ∧ (d2 = d ∨ H d2 = none) ∧ TalAt L.C H1 t d2 r (m + c) o2 kvs2 ∧ NdZ kvs2 ∧ kvs2.length ≤ 500 ∧
          feedT r n c ⟨m, o, kvs⟩ = ⟨m + c, o2, if 0 < c2 then addZ kvs2 n c2 else kvs2⟩ := fun hf => ⟨d, o, c, kvs, none, rfl, bt1, .inl rfl, ta1, nd, hl, by unfold feedT; rw [if_neg (by rw [hf]; decide)]⟩
      cases hg : getZ kvs n with
      | some v =>
        refine iteF ?_
        exact stay (by unfold full; rw [hg]; rfl)
      | none =>
        refine iteT ⟨.ref t, rfl, t, L.C, dx1, _, _, rfl, ht1, L.cl, L.nC, g_counts _ _ _ _, d, _, rfl, hd1, .ref t, rfl, t, L.C, dx1, _, _, rfl, ht1, L.cl, L.nR, g_room _ _ _ _, rfl, _, rfl, ?_⟩
        rw [List.length_map]
        by_cases hfull : (kvs.length : Int) = r
        · have hf : full r n kvs = true := by
            unfold full
            rw [hg, decide_eq_true hfull]
            rfl
          rw [show decide (V.int (kvs.length : Int) = V.int r) = true from decide_eq_true (by rw [hfull])]
          refine iteT ?_
          have hne : kvs ≠ [] := by
            rintro rfl
            have : (0 : Int) = r := hfull
            omega
          refine ⟨.int c, rfl, .ref t, rfl, t, L.C, dx1, _, _, rfl, ht1, L.cl, L.nC, g_counts _ _ _ _, .inr (.inr (.inl ⟨rfl, .inl ⟨_, hd1⟩⟩)), d, _, rfl, rfl, hd1, fun p np => ?_⟩
          refine ⟨p, d, kvs, rfl, upd_same, (by rw [upd_ne (ne_of_none hd1 np)]; exact hd1), List.length_pos_iff.mpr hne, fun mn h1 h2 => ?_⟩
          have emn := mnC_uniq h1 h2
          subst emn
          refine ⟨_, _, rfl, ?_⟩
          generalize ha : (if mnC kvs < c then mnC kvs else c) = a
          have ta2 : TalAt L.C (upd H1 p (valuesO p d)) t d r (m + c) o kvs := ta1.same (same_upd np)
          obtain ⟨⟨dx2, ht2⟩, _⟩ := id ta2
          refine ⟨.ref t, rfl, t, dx2, _, rfl, ht2, g_no _ _ _ _ (by decide +kernel) (by decide +kernel) (by decide +kernel) (by decide +kernel), .int a, rfl, t, d, r, m + c, o, a, kvs, rfl, ta2, nd, (by omega), fun H3 d3 b3 nd3 ta3 => ?_⟩
          refine ⟨.int c, rfl, .int a, rfl, _, _, rfl, rfl, d3, o + a, c - a, takeZ a kvs, some (.int a), rfl, ?_, .inr ?_, ta3, takeZ_nd nd, Nat.le_trans takeZ_len hl, ?_⟩
          · exact (bt1.new np).trans b3
          · have nd4 : H1 d3 = none := Same.gone (same_upd np) nd3
            cases e : H d3 with
            | none => rfl
            | some u =>
              by_cases e1 : d3 = t
              · subst e1
                rw [ht1] at nd4
                cases nd4
              · by_cases e2 : d3 = d
                · subst e2
                  rw [hd1] at nd4
                  cases nd4
                · have := bt1 d3 u e1 e2 e
                  rw [nd4] at this
                  cases this
          · unfold feedT
            rw [if_pos hf]
            dsimp only
            rw [ha]
        · have hf : full r n kvs = false := by
            unfold full
            rw [hg, decide_eq_false hfull]
            rfl
          rw [show decide (V.int (kvs.length : Int) = V.int r) = false from decide_eq_false (fun z => hfull (by injection z))]
          exact iteF (stay hf)
    · rintro σ H2 ⟨d2, o2, c2, kvs2, y, rfl, bt2, hd2, ta2, nd2, hl2, hf⟩
      rw [hf] at q
      dsimp only at q
      obtain ⟨⟨dx2, ht2⟩, hdd⟩ := id ta2
      have td2 := ta2.ne
      refine ⟨.int c2, rfl, _, _, rfl, rfl, _, rfl, ite2 (fun hp => ?_) fun hp => ?_⟩
      · have hp' : 0 < c2 := of_decide_eq_true hp
        rw [if_pos hp'] at q
        refine ⟨.ref t, rfl, t, L.C, dx2, _, _, rfl, ht2, L.cl, L.nC, g_counts _ _ _ _, d2, rfl, .inl ⟨_, .inl hdd⟩, .str n, rfl, _, DGet.k (k := Sum.inr n) hdd, ?_⟩
        rw [getZ_val]
        refine ⟨.int c2, rfl, (getZ kvs2 n).getD 0, c2, ?_, rfl, ?_⟩
        · cases getZ kvs2 n <;> rfl
        · refine ⟨.ref t, rfl, t, L.C, dx2, _, _, rfl, ht2, L.cl, L.nC, g_counts _ _ _ _, .str n, rfl, d2, _, rfl, DPut.k (k := Sum.inr n) hdd (by rw [List.length_map, sizeLine_eq]; omega), ?_⟩
          rw [putZ_put]
          refine q _ d2 (fun b u n1 n2 e => ?_) hd2 ⟨⟨dx2, by rw [upd_ne td2]; exact ht2⟩, upd_same⟩
          by_cases hb : b = d2
          · subst hb
            rcases hd2 with rfl | hd2
            · exact absurd rfl n2
            · rw [e] at hd2
              cases hd2
          · rw [upd_ne hb]
            exact bt2 b u n1 n2 e
      · have hp' : ¬ 0 < c2 := fun z => hp (decide_eq_true z)
        rw [if_neg hp'] at q
        exact q H2 d2 bt2 hd2 ta2
end
end Kb


namespace Kb
open PySem PySem.Spec PyProof.Rows L2 SrtZ SrtO
theorem seqT_but {K : PySem.W.Frag} {C : Addr} {H H' : Hp} {t d a : Addr} {r m o : Int} {kvs : Ct} {xs : List V} (h : SqT K H a xs) (ta : TalAt C H t d r m o kvs) (b : But t d H H') : SqT K H' a xs := by
  obtain ⟨⟨dx, ht⟩, hd⟩ := ta
  rcases h with (h | ⟨o, h⟩) | h
  · exact .inl (.inl (b a _ (ne_of h ht (by intro z; cases z)) (ne_of h hd (by intro z; cases z)) h))
  · exact .inl (.inr ⟨o, b a _ (ne_of h ht (by intro z; cases z)) (ne_of h hd (by intro z; cases z)) h⟩)
  · exact .inr h
theorem prs_but {K : PySem.W.Frag} {C : Addr} {H H' : Hp} {t d : Addr} {r m o : Int} {kvs : Ct} (ta : TalAt C H t d r m o kvs) (b : But t d H H') : ∀ {ts : List Addr} {ks : Ct}, Paired (PrAt K H) ts ks → Paired (PrAt K H') ts ks
  | _, _, .nil => .nil
  | _, _, .cons h q => .cons (seqT_but h ta b) (prs_but ta b q)
section
variable {P : Program} {w : World} {K : PySem.W.Frag} {mg : Str → Option Value} {base : Heap}
/-! Tally.pour -/
def spTpour (K : PySem.W.Frag) (C : Addr) : Sp := fun vs H Q _ => ∃ (t d s k : Addr) (r r2 : Int) (x y : Tl), vs = [.ref t, .ref s] ∧ TalAt C H t d r x.m x.o x.c ∧ NdZ x.c ∧ x.c.length ≤ 200 ∧ SqT K H s [.int r2, .int y.m, .int y.o, .ref k] ∧ CtAt K H k y.c ∧ y.c.length ≤ 200 ∧ 0 ≤ r ∧
  ∀ H' d', But t d H H' → (d' = d ∨ H d' = none) → TalAt C H' t d' r (pourT r y x).m (pourT r y x).o (pourT r y x).c → Q .non H'
end
end Kb


namespace Kb
open PySem PySem.Spec PyProof.Rows L2 SrtZ SrtO
/-! what stays true of a tally -/
structure TlOk (r : Int) (x : Tl) : Prop where
  nd : NdZ x.c
  len : (x.c.length : Int) ≤ r
  pos : ∀ e ∈ x.c, 1 ≤ e.2
  nm : ∀ e ∈ x.c, Nm e.1
theorem getZ_pos {kvs : Ct} {n : Str} (pos : ∀ e ∈ kvs, 1 ≤ e.2) : 0 ≤ (getZ kvs n).getD 0 := by
  unfold getZ
  cases h : kvs.find? fun e => decide (e.1 = n) with
  | none => exact Int.le_refl _
  | some e =>
    have := pos e (List.mem_of_find?_eq_some h)
    show 0 ≤ e.2
    omega
theorem putZ_mem {kvs : Ct} {n : Str} {v : Int} {e : Str × Int} (h : e ∈ putZ kvs n v) : e ∈ kvs ∨ e = (n, v) := by
  unfold putZ at h
  split at h
  · obtain ⟨f, hf, rfl⟩ := List.mem_map.mp h
    by_cases hn : f.1 = n
    · rw [if_pos hn]
      exact .inr (by rw [hn])
    · rw [if_neg hn]
      exact .inl hf
  · rcases List.mem_append.mp h with h | h
    · exact .inl h
    · exact .inr (List.mem_singleton.mp h)
theorem addZ_pos {kvs : Ct} {n : Str} {c : Int} (pos : ∀ e ∈ kvs, 1 ≤ e.2) (hc : 1 ≤ c) : ∀ e ∈ addZ kvs n c, 1 ≤ e.2 := fun e he => by
  rcases putZ_mem he with h | h
  · exact pos e h
  · have := getZ_pos (n := n) pos
    rw [h]
    show 1 ≤ _ + c
    omega
theorem addZ_nm {kvs : Ct} {n : Str} {c : Int} (nm : ∀ e ∈ kvs, Nm e.1) (hn : Nm n) : ∀ e ∈ addZ kvs n c, Nm e.1 := fun e he => by
  rcases putZ_mem he with h | h
  · exact nm e h
  · rw [h]
    exact hn
theorem addZ_len_old {kvs : Ct} {n : Str} {c : Int} (h : (getZ kvs n).isSome = true) : (addZ kvs n c).length = kvs.length := by
  have := congrArg List.length (putZ_keys_old (v := (getZ kvs n).getD 0 + c) h)
  rwa [List.length_map, List.length_map] at this
theorem takeZ_mem {a : Int} {kvs : Ct} {e : Str × Int} (h : e ∈ takeZ a kvs) : ∃ f ∈ kvs, a < f.2 ∧ e = (f.1, f.2 - a) := by
  unfold takeZ at h
  obtain ⟨f, hf, rfl⟩ := List.mem_map.mp h
  obtain ⟨h1, h2⟩ := List.mem_filter.mp hf
  exact ⟨f, h1, of_decide_eq_true h2, rfl⟩
theorem takeZ_pos {a : Int} {kvs : Ct} : ∀ e ∈ takeZ a kvs, 1 ≤ e.2 := fun e he => by
  obtain ⟨f, _, h, rfl⟩ := takeZ_mem he
  show 1 ≤ f.2 - a
  omega
theorem takeZ_nm {a : Int} {kvs : Ct} (nm : ∀ e ∈ kvs, Nm e.1) : ∀ e ∈ takeZ a kvs, Nm e.1 := fun e he => by
  obtain ⟨f, hf, _, rfl⟩ := takeZ_mem he
  exact nm f hf
/-- the least one goes when it is taken off -/
theorem takeZ_less {kvs : Ct} (ne : kvs ≠ []) : (takeZ (mnC kvs) kvs).length < kvs.length := by
  obtain ⟨h1, _⟩ := mnC_spec ne
  obtain ⟨e, he, h⟩ := List.mem_map.mp h1
  unfold takeZ
  rw [List.length_map]
  have h2 : (kvs.filter fun e => decide (mnC kvs < e.2)).length ≤ kvs.length := List.length_filter_le _ _
  rcases Nat.lt_or_ge (kvs.filter fun e => decide (mnC kvs < e.2)).length kvs.length with h3 | h3
  · exact h3
  · have h4 : (kvs.filter fun e => decide (mnC kvs < e.2)) = kvs := List.filter_sublist.eq_of_length (by omega)
    rw [← h4] at he
    have := of_decide_eq_true (List.mem_filter.mp he).2
    omega
theorem feedT_ok {r c : Int} {n : Str} {x : Tl} (h : TlOk r x) (hr : 1 ≤ r) (hn : Nm n) (hc : 0 ≤ c) : TlOk r (feedT r n c x) := by
  obtain ⟨nd, len, pos, nm⟩ := h
  unfold feedT
  cases hf : full r n x.c with
  | true =>
    have hfull : (x.c.length : Int) = r := by
      unfold full at hf
      rw [Bool.and_eq_true] at hf
      exact of_decide_eq_true hf.2
    have ne : x.c ≠ [] := by
      intro e
      rw [e] at hfull
      have : (0 : Int) = r := hfull
      omega
    rw [if_pos rfl]
    dsimp only
    generalize ha : (if mnC x.c < c then mnC x.c else c) = a
    by_cases hp : 0 < c - a
    · have ea : a = mnC x.c := by
        by_cases hm : mnC x.c < c
        · rw [if_pos hm] at ha
          exact ha.symm
        · rw [if_neg hm] at ha
          omega
      have hl := takeZ_less ne
      have hl2 := addZ_len (kvs := takeZ a x.c) (n := n) (c := c - a)
      refine ⟨?_, ?_, ?_, ?_⟩ <;> dsimp only <;> rw [if_pos hp]
      · exact addZ_nd (takeZ_nd nd)
      · rw [ea] at hl2 ⊢
        omega
      · exact addZ_pos takeZ_pos (by omega)
      · exact addZ_nm (takeZ_nm nm) hn
    · refine ⟨?_, ?_, ?_, ?_⟩ <;> dsimp only <;> rw [if_neg hp]
      · exact takeZ_nd nd
      · have := takeZ_len (a := a) (kvs := x.c)
        omega
      · exact takeZ_pos
      · exact takeZ_nm nm
  | false =>
    rw [if_neg (by decide)]
    by_cases hp : 0 < c
    · refine ⟨?_, ?_, ?_, ?_⟩ <;> dsimp only <;> rw [if_pos hp]
      · exact addZ_nd nd
      · cases hg : getZ x.c n with
        | some v =>
          rw [addZ_len_old (by rw [hg]; rfl)]
          exact len
        | none =>
          have h1 := addZ_len (kvs := x.c) (n := n) (c := c)
          unfold full at hf
          rw [hg] at hf
          have h2 : ¬ (x.c.length : Int) = r := by
            intro e
            rw [decide_eq_true e] at hf
            cases hf
          omega
      · exact addZ_pos pos (by omega)
      · exact addZ_nm nm hn
    · refine ⟨?_, ?_, ?_, ?_⟩ <;> dsimp only <;> rw [if_neg hp]
      · exact nd
      · exact len
      · exact pos
      · exact nm
def feedsT (r : Int) (zs : List Str) (x : Tl) : Tl := zs.foldl (fun x n => feedT r n 1 x) x
theorem feedsT_snoc {r : Int} {zs : List Str} {x : Tl} {i : Nat} {n : Str} (h : zs[i]? = some n) : feedsT r (zs.take (i + 1)) x = feedT r n 1 (feedsT r (zs.take i) x) := by
  unfold feedsT
  rw [List.take_add_one, h, List.foldl_append]
  rfl
theorem feedsT_ok {r : Int} (hr : 1 ≤ r) : ∀ {zs : List Str} {x : Tl}, TlOk r x → (∀ z ∈ zs, Nm z) → TlOk r (feedsT r zs x)
  | [], _, h, _ => h
  | z :: zs, x, h, hn => feedsT_ok (zs := zs) hr (feedT_ok h hr (hn z List.mem_cons_self) (by decide)) fun y hy => hn y (List.mem_cons_of_mem _ hy)
def tl0 : Tl := ⟨0, 0, []⟩
theorem tl0_ok {r : Int} (hr : 1 ≤ r) : TlOk r tl0 := ⟨List.nodup_nil, (by show (0 : Int) ≤ r; omega), (fun _ h => nomatch h), (fun _ h => nomatch h)⟩
theorem sumsZ_pos : ∀ {more kvs : Ct}, (∀ e ∈ more, 1 ≤ e.2) → (∀ e ∈ kvs, 1 ≤ e.2) → ∀ e ∈ sumsZ more kvs, 1 ≤ e.2
  | [], _, _, h => h
  | f :: r, kvs, hm, h => sumsZ_pos (more := r) (fun e he => hm e (List.mem_cons_of_mem _ he)) (addZ_pos h (hm f List.mem_cons_self))
theorem sumsZ_nm : ∀ {more kvs : Ct}, (∀ e ∈ more, Nm e.1) → (∀ e ∈ kvs, Nm e.1) → ∀ e ∈ sumsZ more kvs, Nm e.1
  | [], _, _, h => h
  | f :: r, kvs, hm, h => sumsZ_nm (more := r) (fun e he => hm e (List.mem_cons_of_mem _ he)) (addZ_nm h (hm f List.mem_cons_self))
/-- what is above the count at place r is at most r names -/
theorem fall_len {kvs : Ct} {r : Nat} (h : r < kvs.length) : (takeZ (fallZ kvs r) kvs).length ≤ r := by
  unfold takeZ
  rw [List.length_map]
  have hp := List.mergeSort_perm (kvs.map (·.2)) (fun a b => decide (b ≤ a))
  have hs := List.pairwise_mergeSort (le := fun (a b : Int) => decide (b ≤ a)) (fun a b c h1 h2 => by simp at *; omega) (fun a b => by simp; omega) (kvs.map (·.2))
  have e1 : (kvs.filter fun e => decide (fallZ kvs r < e.2)).length = ((kvs.map (·.2)).filter fun c => decide (fallZ kvs r < c)).length := by
    rw [List.filter_map, List.length_map]
    rfl
  rw [e1, ← (hp.filter _).length_eq]
  unfold fallZ
  rw [Int.toNat_natCast]
  generalize (kvs.map (·.2)).mergeSort (fun a b => decide (b ≤ a)) = s at hp hs
  have hl : r < s.length := by rw [hp.length_eq, List.length_map]; exact h
  have eg : s.getD r 0 = s[r] := by simp [List.getD, hl]
  rw [eg]
  generalize hv : s[r] = v
  have h1 : ((s.take r).filter fun c => decide (v < c)).length ≤ r := by
    have := List.length_filter_le (fun c => decide (v < c)) (s.take r)
    rw [List.length_take] at this
    omega
  have h2 : ((s.drop r).filter fun c => decide (v < c)) = [] := by
    rw [List.filter_eq_nil_iff]
    intro c hc z
    have z := of_decide_eq_true z
    have hd : (s.drop r).Pairwise fun a b => decide (b ≤ a) = true := hs.sublist (List.drop_sublist _ _)
    rw [List.drop_eq_getElem_cons hl] at hc hd
    rcases List.mem_cons.mp hc with e | hc
    · omega
    · have := of_decide_eq_true ((List.pairwise_cons.mp hd).1 c hc)
      omega
  have e3 : (s.filter fun c => decide (v < c)) = ((s.take r).filter fun c => decide (v < c)) ++ ((s.drop r).filter fun c => decide (v < c)) := by
    rw [← List.filter_append, List.take_append_drop]
  rw [e3, h2, List.append_nil]
  exact h1
theorem pourT_ok {r : Int} {x y : Tl} (hx : TlOk r x) (hy : TlOk r y) (hr : 0 ≤ r) : TlOk r (pourT r y x) := by
  obtain ⟨rn, rfl⟩ := Int.eq_ofNat_of_zero_le hr
  unfold pourT
  dsimp only
  have nd := sumsZ_nd (more := y.c) hx.nd
  have pos := sumsZ_pos hy.pos hx.pos
  have nm := sumsZ_nm hy.nm hx.nm
  generalize sumsZ y.c x.c = all at nd pos nm
  by_cases h : (rn : Int) < (all.length : Int)
  · rw [if_pos h]
    refine ⟨takeZ_nd nd, ?_, takeZ_pos, takeZ_nm nm⟩
    have := fall_len (kvs := all) (r := rn) (by omega)
    dsimp only
    omega
  · rw [if_neg h]
    exact ⟨nd, (by dsimp only; omega), pos, nm⟩
/-! the order of names -/
def srtZ (kvs : Ct) : Ct := kvs.mergeSort fun a b => !ltZ b.1 a.1
theorem srtZ_perm (kvs : Ct) : (srtZ kvs).Perm kvs := List.mergeSort_perm _ _
theorem srtZ_asc {kvs : Ct} (nd : NdZ kvs) : Asc (srtZ kvs) := by
  have hs := List.pairwise_mergeSort (le := fun (a b : Str × Int) => !ltZ b.1 a.1) (fun a b c h1 h2 => ?_) (fun a b => ?_) kvs
  · have nd2 : ((srtZ kvs).map (·.1)).Nodup := ((srtZ_perm kvs).map (·.1)).nodup_iff.mpr nd
    rw [List.Nodup, List.pairwise_map] at nd2
    refine List.Pairwise.imp₂ (fun {a b} h1 h2 => ?_) hs nd2
    rcases bcase (ltZ a.1 b.1) with q | q
    · exact q
    · have h3 : ltZ b.1 a.1 = false := by simpa using h1
      exact absurd (ltZ_tri q h3) h2
  · have h1 : ltZ b.1 a.1 = false := by simpa using h1
    have h2 : ltZ c.1 b.1 = false := by simpa using h2
    show (!ltZ c.1 a.1) = true
    rcases bcase (ltZ c.1 a.1) with q | q
    · rcases bcase (ltZ a.1 b.1) with p | p
      · have := ltZ_trans q p
        rw [h2] at this
        cases this
      · have e := ltZ_tri p h1
        rw [e, h2] at q
        cases q
    · rw [q]
      rfl
  · show ((!ltZ b.1 a.1) || (!ltZ a.1 b.1)) = true
    rcases bcase (ltZ b.1 a.1) with q | q
    · rw [ltZ_asym q]
      simp
    · rw [q]
      rfl
theorem srtZ_of {ys kvs : Ct} (h : Asc ys) (p : ys.Perm kvs) (nd : NdZ kvs) : ys = srtZ kvs := asc_uniq h (srtZ_asc nd) (p.trans (srtZ_perm kvs).symm)
def skT (x : Tl) : Tl := ⟨x.m, x.o, srtZ x.c⟩
theorem skT_ok {r : Int} {x : Tl} (h : TlOk r x) : TlOk r (skT x) := by
  have p := srtZ_perm x.c
  refine ⟨(p.map (·.1)).nodup_iff.mpr h.nd, ?_, fun e he => h.pos e (p.mem_iff.mp he), fun e he => h.nm e (p.mem_iff.mp he)⟩
  show ((srtZ x.c).length : Int) ≤ r
  rw [p.length_eq]
  exact h.len
/-! a tree's pile, the uppermost first -/
def stepT (r : Int) (st : List Tl) : Stp → List Tl
  | .put zs => feedsT r zs tl0 :: st
  | .pour => match st with
    | x :: y :: st => pourT r (skT x) y :: st
    | st => st
def runT (r : Int) (l : List Stp) : List Tl := l.foldl (stepT r) []
theorem runT_snoc {r : Int} {l : List Stp} {i : Nat} {t : Stp} (h : l[i]? = some t) : runT r (l.take (i + 1)) = stepT r (runT r (l.take i)) t := by
  unfold runT
  rw [List.take_add_one, h, List.foldl_append]
  rfl
end Kb


namespace Kb
open PySem PySem.Spec PyProof.Rows L2 SrtZ SrtO
abbrev NP_sketch_of : List Str := ["room", "tree", "pile", "step", "tally", "name", "above"]
/-- a tally on the pile: its instance, its dict, what it holds -/
structure Pe where
  t : Addr
  d : Addr
  x : Tl
structure PileAt (C : Addr) (r : Int) (H : Hp) (l : List Pe) : Prop where
  at_ : ∀ e ∈ l, TalAt C H e.t e.d r e.x.m e.x.o e.x.c
  ok : ∀ e ∈ l, TlOk r e.x
  nt : (l.map (·.t)).Nodup
  nd : (l.map (·.d)).Nodup
theorem PileAt.same {C : Addr} {r : Int} {H H' : Hp} {l : List Pe} (h : PileAt C r H l) (s : Same H H') : PileAt C r H' l := ⟨fun e he => (h.at_ e he).same s, h.ok, h.nt, h.nd⟩
theorem TalAt.keep {C : Addr} {H H' : Hp} {t d : Addr} {r m o : Int} {kvs : Ct} (h : TalAt C H t d r m o kvs) (k : ∀ b u, (b = t ∨ b = d) → H b = some u → H' b = some u) : TalAt C H' t d r m o kvs := by
  obtain ⟨⟨dx, e⟩, e2⟩ := h
  exact ⟨⟨dx, k _ _ (.inl rfl) e⟩, k _ _ (.inr rfl) e2⟩
theorem run_len {r : Int} {l : List Stp} (two : ∀ i, l[i]? = some .pour → 2 ≤ hgt (l.take i)) : ∀ i, i ≤ l.length → ((runT r (l.take i)).length : Int) = hgt (l.take i)
  | 0, _ => rfl
  | i + 1, h => by
    have ih := run_len (r := r) two i (by omega)
    obtain ⟨t, ht⟩ : ∃ t, l[i]? = some t := ⟨l[i], List.getElem?_eq_getElem (by omega)⟩
    rw [runT_snoc ht, hgt_snoc ht]
    cases t with
    | put zs =>
      show (((feedsT r zs tl0 :: runT r (l.take i)).length : Nat) : Int) = _ + 1
      rw [List.length_cons]
      omega
    | pour =>
      have h2 := two i ht
      match hr : runT r (l.take i) with
      | [] => rw [hr] at ih; simp at ih; omega
      | [x] => rw [hr] at ih; simp at ih; omega
      | x :: y :: st =>
        rw [hr] at ih
        show (((pourT r (skT x) y :: st).length : Nat) : Int) = _ - 1
        rw [List.length_cons] at ih ⊢
        rw [List.length_cons] at ih
        omega
theorem run_short {r : Int} (l : List Stp) : (runT r l).length ≤ l.length := by
  have gen : ∀ (l : List Stp) (st : List Tl), (l.foldl (stepT r) st).length ≤ st.length + l.length := by
    intro l
    induction l with
    | nil => exact fun st => Nat.le_refl _
    | cons t l ih =>
      intro st
      have h := ih (stepT r st t)
      have h2 : (stepT r st t).length ≤ st.length + 1 := by
        cases t with
        | put zs => exact Nat.le_refl _
        | pour =>
          match st with
          | [] => exact Nat.zero_le _
          | [_] => show 1 ≤ 1 + 1; omega
          | _ :: _ :: st => show st.length + 1 ≤ st.length + 1 + 1 + 1; omega
      show (l.foldl (stepT r) (stepT r st t)).length ≤ st.length + (l.length + 1)
      omega
  have := gen l []
  simpa [runT] using this
theorem refs_rev (l : List Pe) (e : Pe) : ((e :: l).reverse.map fun e => V.ref e.t) = (l.reverse.map fun e => V.ref e.t) ++ [V.ref e.t] := by
  rw [List.reverse_cons, List.map_append]
  rfl
section
variable {P : Program} {w : World} {K : PySem.W.Frag} {mg : Str → Option Value} {base : Heap}
def spSketchOf (K : PySem.W.Frag) : Sp := fun vs H Q _ => ∃ (a : Addr) (r : Int) (l : List Stp) (x : Tl), vs = [.int r, .ref a] ∧ 1 ≤ r ∧ r ≤ 64 ∧ TreeAt K H a l ∧ Tree l ∧ (∀ zs, .put zs ∈ l → ∀ z ∈ zs, Nm z) ∧ runT r l = [x] ∧
  (TlOk r x → ∀ H' s k (ts : List Addr), Same H H' → H s = none → H' s = some (.tup [.int r, .int x.m, .int x.o, .ref k]) → Ptp H' k (ts.map V.ref) → Paired (fun (t : Addr) (y : Str × Int) => H' t = some (.tup [.str y.1, .int y.2])) ts (srtZ x.c) → Q (.ref s) H')
end
end Kb



namespace Kb
open PySem PySem.Spec PyProof.Rows L2 SrtZ SrtO
abbrev smixed : Stmt := topS 51
abbrev Nmixed : List Str := ["_law_number_here"]
theorem scmixed : FnScope ["_law_number_here"] ["_law_number_here"] (defScope smixed) := ⟨rfl, rfl, rfl, by decide +kernel, rfl, by decide +kernel, by decide +kernel⟩
abbrev swell : Stmt := topS 52
abbrev Nwell : List Str := ["_law_script", "_law_cell"]
theorem scwell : FnScope ["_law_script", "_law_cell"] ["_law_script"] (defScope swell) := ⟨rfl, rfl, rfl, by decide +kernel, rfl, by decide +kernel, by decide +kernel⟩
abbrev sfilled : Stmt := topS 53
abbrev Nfilled : List Str := ["_law_well_here", "_law_cell"]
theorem scfilled : FnScope ["_law_well_here", "_law_cell"] ["_law_well_here"] (defScope sfilled) := ⟨rfl, rfl, rfl, by decide +kernel, rfl, by decide +kernel, by decide +kernel⟩
abbrev sdraw : Stmt := topS 54
abbrev Ndraw : List Str := ["_law_well_here", "_law_many", "_law_told"]
theorem scdraw : FnScope ["_law_well_here", "_law_many", "_law_told"] ["_law_well_here", "_law_many"] (defScope sdraw) := ⟨rfl, rfl, rfl, by decide +kernel, rfl, by decide +kernel, by decide +kernel⟩
abbrev Dnmixed (K : PySem.W.Frag) (mg : Str → Option Value) := Dn K mg "_law_mixed" smixed ["_law_number_here"]
abbrev Dnwell (K : PySem.W.Frag) (mg : Str → Option Value) := Dn K mg "_law_well" swell ["_law_script"]
abbrev Dnfilled (K : PySem.W.Frag) (mg : Str → Option Value) := Dn K mg "_law_filled" sfilled ["_law_well_here"]
abbrev Dndraw (K : PySem.W.Frag) (mg : Str → Option Value) := Dn K mg "_law_draw" sdraw ["_law_well_here", "_law_many"]
/-- the well that is drawn from: its list, its cells -/
structure Wl (a c : Addr) (H : Hp) : Prop where
  ac : a ≠ c
  ex : ∃ (ns : List Int) (t u z : Int), H a = some (.lst [.ref c, .int t, .int u, .int z]) ∧ H c = some (.lst (ns.map V.int)) ∧ 0 ≤ t ∧ 0 ≤ u ∧ 0 ≤ z ∧ z < 2147483629
/-- all but the well stays -/
def Exw (a : Addr) (H H' : Hp) : Prop := ∀ b o, b ≠ a → H b = some o → H' b = some o
theorem Exw.refl (a : Addr) (H : Hp) : Exw a H H := fun _ _ _ h => h
theorem Exw.trans {a : Addr} {H H1 H2 : Hp} (x : Exw a H H1) (y : Exw a H1 H2) : Exw a H H2 := fun b o n h => y b o n (x b o n h)
theorem Exw.up {a : Addr} {H H1 : Hp} {u : HO} (x : Exw a H H1) : Exw a H (upd H1 a u) := fun b o n h => by
  rw [upd_ne n]
  exact x b o n h
theorem Exw.same {a : Addr} {H H1 H2 : Hp} (x : Exw a H H1) (y : Same H1 H2) : Exw a H H2 := fun b o n h => y b o (x b o n h)
theorem Same.exw {a : Addr} {H H1 : Hp} (x : Same H H1) : Exw a H H1 := fun b o _ h => x b o h
theorem Wl.same {a c : Addr} {H H' : Hp} (h : Wl a c H) (y : Same H H') : Wl a c H' := by
  obtain ⟨n1, ns, t, u, z, e1, e2, r⟩ := h
  exact ⟨n1, ns, t, u, z, y _ _ e1, y _ _ e2, r⟩
theorem Wl.nea {a c p : Addr} {H : Hp} (h : Wl a c H) (hp : H p = none) : p ≠ a := by
  obtain ⟨_, ns, t, u, z, e1, e2, _⟩ := h
  exact (ne_of_none e1 hp).symm
/-- what is no list of the well's form stays -/
theorem Exw.at {a c b : Addr} {H H' : Hp} {o : HO} (x : Exw a H H') (h : Wl a c H) (hb : H b = some o) (hl : ∀ xs, o ≠ .lst xs) : H' b = some o := by
  obtain ⟨_, ns, t, u, z, e1, e2, _⟩ := h
  exact x b o (ne_of hb e1 (hl _)) hb
/-- a list of texts is not the well's -/
theorem Exw.strs {a c b : Addr} {H H' : Hp} {zs : List Str} (x : Exw a H H') (h : Wl a c H) (hb : H b = some (.lst (zs.map V.str))) : H' b = some (.lst (zs.map V.str)) := by
  obtain ⟨_, ns, t, u, z, e1, e2, _⟩ := h
  refine x b _ (fun e => ?_) hb
  subst e
  rw [hb] at e1
  have := HO.lst.inj (Option.some.inj e1)
  cases zs with
  | nil => cases this
  | cons y ys => cases this
theorem Exw.tup {K : PySem.W.Frag} {a c b : Addr} {H H' : Hp} {xs : List V} (x : Exw a H H') (h : Wl a c H) (hb : SqT K H b xs) : SqT K H' b xs := by
  rcases hb with (hb | ⟨o, hb⟩) | hb
  · exact .inl (.inl (x.at h hb (by intro _ z; cases z)))
  · exact .inl (.inr ⟨o, x.at h hb (by intro _ z; cases z)⟩)
  · exact .inr hb
theorem Exw.new {a p : Addr} {H H1 : Hp} {u : HO} (x : Exw a H H1) (h : H1 p = none) : Exw a H (upd H1 p u) := x.same (same_upd h)
theorem Exw.gone {a p : Addr} {H H1 : Hp} (x : Exw a H H1) (ne : p ≠ a) (h : H1 p = none) : H p = none := by
  cases e : H p with
  | none => rfl
  | some o => rw [x _ _ ne e] at h; cases h
/-- an object that was new is stored anew -/
theorem Exw.put {a p : Addr} {H H1 : Hp} {u : HO} (x : Exw a H H1) (h : H p = none) : Exw a H (upd H1 p u) := fun b o n e => by
  rw [upd_ne (ne_of_none e h)]
  exact x b o n e
theorem rd_ix {K : PySem.W.Frag} {σ : L2.St} {H : Hp} {Q : VK} {a : Addr} {xs : List V} {v : V} {n : Nat} (k : Nat) (h0 : σ[n]? = some (some (.ref a))) (hS : SqL K H a xs) (hv : xs[k]? = some v) (q : Q v H) :
    tOp (rIxL K) (tVar n) (tC (.int (k : Int))) σ H Q := ⟨.ref a, h0, a, xs, k, v, rfl, rfl, hS, atI_nat hv, q⟩
theorem rd_set {H : Hp} {σ : L2.St} {a : Addr} {xs : List V} {v : V} {n : Nat} (k : Nat) {R : L2.St → Hp → Prop} (h0 : σ[n]? = some (some (.ref a))) (h : H a = some (.lst xs)) (hk : k < xs.length) (q : R σ (upd H a (.lst (xs.set k v)))) :
    gSub (tVar n) (tC (.int (k : Int))) rSetL v σ H R := ⟨.ref a, h0, a, xs, k, k, rfl, rfl, h, by unfold ixN; rw [if_pos (by omega), if_pos (by omega)]; simp, q⟩
theorem cut63 {xs : List V} (h : xs.length ≤ 63) : cutV xs none (some 63) = xs := by
  unfold cutV
  rw [show HT.sIx xs.length xs.length (some 63) = min 63 xs.length from HT.sIx_nat xs.length xs.length 63, HT.sIx_none, List.drop_zero, Nat.sub_zero]
  exact List.take_of_length_le (by omega)
section
variable {P : Program} {w : World} {K : PySem.W.Frag} {mg : Str → Option Value} {base : Heap}
/-! _law_mixed -/
def spMixed : Sp := fun vs H Q _ => ∃ n : Int, vs = [.int n] ∧ ∀ r : Int, 0 ≤ r → Q (.int r) H
theorem ok_mixed (T : Blt mg) (d : Dnmixed K mg) : FnOk P w K mg base CX0 1 d.f d.fd ["_law_number_here"] spMixed := by
  refine d.F.ok scmixed (fun vs H Q E h => ?_) (fun cdv A outer s H vs Q E hr h => ?_)
  · obtain ⟨n, rfl, _⟩ := h
    rfl
  · obtain ⟨n, rfl, q⟩ := h
    refine ⟨_, (pss_cons (ps_set (i := 0) scmixed.nd rfl (Or.inl rfl) (pe_op op_modB (pe_callTy call_int1 (by rfl) T.n_int (by decide +kernel) (pa_cons (pe_op op_add (pe_op op_mul (pv 0) pe_int) pe_int) pa_nil)) pe_int))
    (pss_cons (ps_set (i := 0) scmixed.nd rfl (Or.inl rfl) (pe_op op_modB (pe_callTy call_int1 (by rfl) T.n_int (by decide +kernel) (pa_cons (pe_op op_add (pe_op op_mul (pv 0) (pe_op op_add (pe_op op_fdiv (pv 0) pe_int) pe_int)) pe_int) pa_nil)) pe_int))
    (pss_one (ps_ret (pe_op op_add (pe_op op_mul (pv 0) pe_int) (pe_op op_modB (pe_callTy call_int1 (by rfl) T.n_int (by decide +kernel) (pa_cons (pe_op op_add (pe_op op_mul (pv 0) (pe_op op_add (pe_op op_fdiv (pv 0) pe_int) pe_int)) pe_int) pa_nil)) pe_int)))))), ?_⟩
    refine ⟨.int n, rfl, _, _, rfl, rfl, cmulR (by decide) (by decide), _, _, rfl, rfl, .inl ⟨_, rfl, _, _, rfl, rfl, (by show (0 : Int) < 2147483647; decide), fun x1 a0 a1 _ => ?_⟩⟩
    refine ⟨.int x1, rfl, .int x1, rfl, _, _, rfl, rfl, ⟨by decide, by decide⟩, _, _, rfl, rfl, _, _, rfl, rfl, cmulL a0 (by omega), _, _, rfl, rfl, .inl ⟨_, rfl, _, _, rfl, rfl, (by show (0 : Int) < 2147483647; decide), fun x2 b0 b1 _ => ?_⟩⟩
    refine ⟨.int x2, rfl, _, _, rfl, rfl, cmulL b0 (by omega), .int x2, rfl, .int x2, rfl, _, _, rfl, rfl, ⟨by decide, by decide⟩, _, _, rfl, rfl, _, _, rfl, rfl, cmulL b0 (by omega), _, _, rfl, rfl, .inl ⟨_, rfl, _, _, rfl, rfl, (by show (0 : Int) < 2147483399; decide), fun x3 c0 c1 _ => ?_⟩⟩
    exact ⟨_, _, rfl, rfl, q _ (by have : 0 ≤ x2 * 2147483399 := Int.mul_nonneg b0 (by decide); omega)⟩
/-! _law_well -/
def spWell (K : PySem.W.Frag) : Sp := fun vs H Q _ => ∃ (a : Addr) (ns : List Int), vs = [.ref a] ∧ SqL K H a (ns.map V.int) ∧ ns.length ≤ 63 ∧ ∀ H' p c, Same H H' → H p = none → Wl p c H' → Q (.ref p) H'
theorem ok_well (T : Blt mg) (d : Dnwell K mg) : FnOk P w K mg base CX0 1 d.f d.fd ["_law_script"] (spWell K) := by
  refine d.F.ok scwell (fun vs H Q E h => ?_) (fun cdv A outer s H vs Q E hr h => ?_)
  · obtain ⟨a, ns, rfl, _⟩ := h
    rfl
  · obtain ⟨a, ns, rfl, hS, hlen, q⟩ := h
    refine ⟨_, (pss_one (ps_ret (pe_lst (pa_cons (pe_lc (own := [("_law_cell", 1)]) (g := gName 1) (tt := tYes) rfl scwell.nd (pi_list (pe_slice sl_list (pv 0) po_none (po_some pe_int))) (blkOk_by (N := Nwell) (sc := defScope swell) (by decide +kernel)) (fun _ _ _ _ _ => pg_name (i := 1) scwell.nd rfl (Or.inl rfl)) (fun _ _ _ _ _ => pts_nil) (fun _ _ _ _ _ => (pe_callTy call_int1 (by rfl) T.n_int (by decide +kernel) (pa_cons (pv 1) pa_nil)))) (pa_cons pe_int (pa_cons pe_int (pa_cons pe_int pa_nil))))))), ?_⟩
    refine ⟨.ref a, rfl, 63, rfl, a, _, rfl, hS, fun c nc => ?_⟩
    rw [cut63 (by rw [List.length_map]; exact hlen)]
    refine ⟨c, rfl, ⟨_, sql upd_same⟩, fun D nD => lc_list (xs := ns.map V.int) (fun i H3 => Same H H3 ∧ H3 c = some (.lst (ns.map V.int)) ∧ H3 D = some (.lst ((ns.take i).map V.int)))
      ⟨Same.new (same_upd nc) nD, by rw [upd_ne (ne_of_none upd_same nD)]; exact upd_same, upd_same⟩ (fun i H3 _ h3 => sql h3.2.1) (fun i x H3 hx h3 => ?_) (fun H3 h3 => ?_)⟩
    · obtain ⟨x, hx', rfl⟩ := map_at hx
      have cD : c ≠ D := ne_of_none upd_same nD
      have nD0 : H D = none := Same.gone (same_upd nc) nD
      refine ⟨rfl, .int x, rfl, .inl ⟨_, rfl, _, h3.2.2, ?_, Same.put h3.1 nD0, by rw [upd_ne cD]; exact h3.2.1, ?_⟩⟩
      · rw [List.length_map, List.length_take, sizeLine_eq]
        omega
      · rw [upd_same, List.take_add_one, hx', List.map_append]
        rfl
    · obtain ⟨s3, hc3, hD3⟩ := h3
      rw [List.length_map, List.take_length] at hD3
      refine ⟨(by show 4 ≤ sizeLine; decide), fun p np => ?_⟩
      have Dp : D ≠ p := ne_of_none hD3 np
      exact q _ p D (Same.new s3 np) (Same.gone s3 np) ⟨Dp.symm, ns, 0, 0, 1, upd_same, by rw [upd_ne Dp]; exact hD3, by decide, by decide, by decide, by decide⟩
/-! _law_filled -/
def spFilled : Sp := fun vs H Q _ => ∃ (a c : Addr), vs = [.ref a] ∧ Wl a c H ∧ ∀ H' (r : Int), Exw a H H' → Wl a c H' → 0 ≤ r → Q (.int r) H'
theorem ok_filled (T : Blt mg) (dmixed : Dnmixed K mg) (d : Dnfilled K mg) : FnOk P w K mg base CX0 2 d.f d.fd ["_law_well_here"] spFilled := by
  have Gmixed : FnOk P w K mg base CX0 1 dmixed.f dmixed.fd ["_law_number_here"] spMixed := ok_mixed T dmixed
  refine d.F.ok scfilled (fun vs H Q E h => ?_) (fun cdv A outer s H vs Q E hr h => ?_)
  · obtain ⟨a, c, rfl, _⟩ := h
    rfl
  · obtain ⟨a, c, rfl, ⟨nac, ns, t, u, z, ea, ec, t0, u0, z0, z1⟩, q⟩ := h
    refine ⟨_, (pss_cons (ps_asg (pe_op op_add (pe_ix ix_list (pv 0) pe_int (fun _ _ => rfl)) pe_int) (pg_sub (pv 0) pe_int set_list))
    (pss_cons (ps_if (pt_cmpR op_le (pe_ix ix_list (pv 0) pe_int (fun _ _ => rfl)) (pe_callB call_len_seq (by rfl) T.n_len (by decide +kernel) (pa_cons (pe_ix ix_list (pv 0) pe_int (fun _ _ => rfl)) pa_nil)) (nomark _))
      (pss_cons (ps_set (i := 1) scfilled.nd rfl (Or.inl rfl) (pe_ix ix_list (pe_ix ix_list (pv 0) pe_int (fun _ _ => rfl)) (pe_op op_sub (pe_ix ix_list (pv 0) pe_int (fun _ _ => rfl)) pe_int) (fun _ _ => rfl)))
      (pss_cons (ps_asg (pe_op op_modB (pe_callTy call_int1 (by rfl) T.n_int (by decide +kernel) (pa_cons (pe_op op_add (pe_op op_add (pe_op op_mul (pe_ix ix_list (pv 0) pe_int (fun _ _ => rfl)) pe_int) (pv 1)) pe_int) pa_nil)) pe_int) (pg_sub (pv 0) pe_int set_list))
      (pss_cons (ps_if (pt_cmpR op_ge (pv 1) (pe_op op_pow pe_int pe_int) (nomark _))
        (pss_one (ps_ret (pv 1)))
        pss_nil)
      (pss_one (ps_ret (pe_call Gmixed (hr.mono (by omega)) (by rfl) dmixed.g dmixed.F.kp dmixed.b .nil pass0 (pa_cons (pe_op op_add (pv 1) (pe_op op_mul pe_int (pe_ix ix_list (pv 0) pe_int (fun _ _ => rfl)))) pa_nil)))))))
      pss_nil)
    (pss_one (ps_ret (pe_call Gmixed (hr.mono (by omega)) (by rfl) dmixed.g dmixed.F.kp dmixed.b .nil pass0 (pa_cons (pe_op op_add (pe_ix ix_list (pv 0) pe_int (fun _ _ => rfl)) (pe_op op_mul pe_int (pe_ix ix_list (pv 0) pe_int (fun _ _ => rfl)))) pa_nil)))))), ?_⟩
    refine rd_ix 1 rfl (sql ea) rfl ⟨_, _, rfl, rfl, rd_set 1 rfl ea (by decide : 1 < 4) ?_⟩
    have ea1 : (upd H a (.lst ([V.ref c, V.int t, V.int u, V.int z].set 1 (V.int (t + 1))))) a = some (.lst [.ref c, .int (t + 1), .int u, .int z]) := upd_same
    have ec1 : (upd H a (.lst ([V.ref c, V.int t, V.int u, V.int z].set 1 (V.int (t + 1))))) c = some (.lst (ns.map V.int)) := by rw [upd_ne nac.symm]; exact ec
    have ex1 : Exw a H (upd H a (.lst ([V.ref c, V.int t, V.int u, V.int z].set 1 (V.int (t + 1))))) := (Exw.refl a H).up
    generalize upd H a (.lst ([V.ref c, V.int t, V.int u, V.int z].set 1 (V.int (t + 1)))) = H1 at ea1 ec1 ex1
    refine rd_ix 1 rfl (sql ea1) rfl (rd_ix 0 rfl (sql ea1) rfl ⟨c, _, rfl, .inl (sql ec1), _, _, rfl, rfl, _, rfl, ite2 (fun hp => ?_) fun _ => ?_⟩)
    · have hl := of_decide_eq_true hp
      rw [List.length_map] at hl
      obtain ⟨k, rfl⟩ := Int.eq_ofNat_of_zero_le t0
      have hk : k < ns.length := by omega
      have hx : (ns.map V.int)[k]? = some (.int ns[k]) := by rw [List.getElem?_map, List.getElem?_eq_getElem hk]; rfl
      refine rd_ix 0 rfl (sql ea1) rfl (rd_ix 1 rfl (sql ea1) rfl ⟨_, _, rfl, rfl, c, _, _, _, rfl, rfl, sql ec1, (by rw [show (k : Int) + 1 - 1 = (k : Int) by omega]; exact atI_nat hx), ?_⟩)
      refine rd_ix 3 rfl (sql ea1) rfl ⟨_, _, rfl, rfl, cmulR (by decide) (by decide), .int ns[k], rfl, _, _, rfl, rfl, _, _, rfl, rfl, .inl ⟨_, rfl, _, _, rfl, rfl, (by show (0 : Int) < 2147483629; decide), fun z2 z20 z21 _ => ?_⟩⟩
      refine rd_set 3 rfl ea1 (by decide : 3 < 4) ?_
      have ea2 : (upd H1 a (.lst ([V.ref c, V.int (k + 1), V.int u, V.int z].set 3 (V.int z2)))) a = some (.lst [.ref c, .int (k + 1), .int u, .int z2]) := upd_same
      have ec2 : (upd H1 a (.lst ([V.ref c, V.int (k + 1), V.int u, V.int z].set 3 (V.int z2)))) c = some (.lst (ns.map V.int)) := by rw [upd_ne nac.symm]; exact ec1
      have ex2 : Exw a H (upd H1 a (.lst ([V.ref c, V.int (k + 1), V.int u, V.int z].set 3 (V.int z2)))) := ex1.up
      generalize upd H1 a (.lst ([V.ref c, V.int (k + 1), V.int u, V.int z].set 3 (V.int z2))) = H2 at ea2 ec2 ex2
      have wl2 : Wl a c H2 := ⟨nac, ns, k + 1, u, z2, ea2, ec2, by omega, u0, z20, z21⟩
      refine ⟨.int ns[k], rfl, _, _, rfl, rfl, ⟨by decide, by decide, by decide⟩, _, _, rfl, rfl, _, rfl, ite2 (fun hb => ?_) fun _ => ?_⟩
      · exact ⟨.int ns[k], rfl, q H2 _ ex2 wl2 (by have h := of_decide_eq_true hb; simp at h; omega)⟩
      · refine ⟨.int ns[k], rfl, rd_ix 1 rfl (sql ea2) rfl ⟨_, _, rfl, rfl, cmulL (by decide) (by decide), _, _, rfl, rfl, _, rfl, fun r r0 => q H2 r ex2 wl2 r0⟩⟩
    · have wl1 : Wl a c H1 := ⟨nac, ns, t + 1, u, z, ea1, ec1, by omega, u0, z0, z1⟩
      exact rd_ix 3 rfl (sql ea1) rfl (rd_ix 1 rfl (sql ea1) rfl ⟨_, _, rfl, rfl, cmulL (by decide) (by decide), _, _, rfl, rfl, _, rfl, fun r r0 => q H1 r ex1 wl1 r0⟩)
/-! _law_draw -/
def spDraw : Sp := fun vs H Q _ => ∃ (a c : Addr) (n : Int), vs = [.ref a, .int n] ∧ Wl a c H ∧ 0 < n ∧ n < 1073741824 ∧ ∀ H' (r : Int), Exw a H H' → Wl a c H' → 0 ≤ r → r < n → Q (.int r) H'
theorem ok_draw (T : Blt mg) (dmixed : Dnmixed K mg) (dfilled : Dnfilled K mg) (d : Dndraw K mg) : FnOk P w K mg base CX0 3 d.f d.fd ["_law_well_here", "_law_many"] spDraw := by
  have Gfilled : FnOk P w K mg base CX0 2 dfilled.f dfilled.fd ["_law_well_here"] spFilled := ok_filled T dmixed dfilled
  refine d.F.ok scdraw (fun vs H Q E h => ?_) (fun cdv A outer s H vs Q E hr h => ?_)
  · obtain ⟨a, c, n, rfl, _⟩ := h
    rfl
  · obtain ⟨a, c, n, rfl, hw, hn0, hn1, q⟩ := h
    refine ⟨_, (C8.pss_cut (ps_if (pt_cmpR op_eq (pe_ix ix_list (pv 0) pe_int (fun _ _ => rfl)) pe_int (nomark _))
      (pss_one (ps_asg (pe_call Gfilled (hr.mono (by omega)) (by rfl) dfilled.g dfilled.F.kp dfilled.b .nil pass0 (pa_cons (pv 0) pa_nil)) (pg_sub (pv 0) pe_int set_list)))
      pss_nil)
    (pss_cons (ps_set (i := 2) scdraw.nd rfl (Or.inl rfl) (pe_op op_modB (pe_callTy call_int1 (by rfl) T.n_int (by decide +kernel) (pa_cons (pe_ix ix_list (pv 0) pe_int (fun _ _ => rfl)) pa_nil)) (pv 1)))
    (pss_cons (ps_asg (pe_op op_fdiv (pe_callTy call_int1 (by rfl) T.n_int (by decide +kernel) (pa_cons (pe_ix ix_list (pv 0) pe_int (fun _ _ => rfl)) pa_nil)) (pv 1)) (pg_sub (pv 0) pe_int set_list))
    (pss_one (ps_ret (pv 2)))))), ?_⟩
    refine ⟨fun σ H3 => σ = [some (.ref a), some (.int n), none] ∧ Exw a H H3 ∧ Wl a c H3, ?_, ?_⟩
    · obtain ⟨nac, ns, t, u, z, ea, ec, t0, u0, z0, z1⟩ := id hw
      refine rd_ix 2 rfl (sql ea) rfl ⟨rfl, _, rfl, ite2 (fun _ => ?_) fun _ => ?_⟩
      · refine ⟨.ref a, rfl, a, c, rfl, hw, fun H1 r x1 w1 r0 => ?_⟩
        obtain ⟨nac, ns, t, u, z, ea, ec, t0, u0, z0, z1⟩ := w1
        refine rd_set 2 rfl ea (by decide : 2 < 4) ⟨rfl, x1.up, nac, ns, t, r, z, upd_same, by rw [upd_ne nac.symm]; exact ec, t0, r0, z0, z1⟩
      · exact ⟨rfl, Exw.refl a H, hw⟩
    · rintro σ H3 ⟨rfl, x3, nac, ns, t, u, z, ea, ec, t0, u0, z0, z1⟩
      refine rd_ix 2 rfl (sql ea) rfl (.inl ⟨_, rfl, .int n, rfl, _, _, rfl, rfl, hn0, fun r r0 r1 _ => ?_⟩)
      refine rd_ix 2 rfl (sql ea) rfl (.inl ⟨_, rfl, .int n, rfl, _, _, rfl, rfl, ⟨hn0, hn1⟩, ?_⟩)
      refine rd_set 2 rfl ea (by decide : 2 < 4) ⟨.int r, rfl, ?_⟩
      exact q _ r x3.up ⟨nac, ns, t, u / n, z, upd_same, by rw [upd_ne nac.symm]; exact ec, t0, Int.ediv_nonneg u0 (by omega), z0, z1⟩ r0 r1
end
end Kb



namespace Kb
open PySem PySem.Spec PyProof.Rows L2 SrtZ SrtO
abbrev sname : Stmt := topS 58
abbrev Nname : List Str := ["_law_well_here", "_law_many", "_law_k"]
theorem scname : FnScope ["_law_well_here", "_law_many", "_law_k"] ["_law_well_here"] (defScope sname) := ⟨rfl, rfl, rfl, by decide +kernel, rfl, by decide +kernel, by decide +kernel⟩
abbrev sunlike : Stmt := topS 59
abbrev Nunlike : List Str := ["_law_things", "_law_found", "_law_thing"]
theorem scunlike : FnScope ["_law_things", "_law_found", "_law_thing"] ["_law_things"] (defScope sunlike) := ⟨rfl, rfl, rfl, by decide +kernel, rfl, by decide +kernel, by decide +kernel⟩
abbrev snames : Stmt := topS 64
abbrev Nnames : List Str := ["_law_well_here", "_law_most", "_law_k"]
theorem scnames : FnScope ["_law_well_here", "_law_most", "_law_k"] ["_law_well_here", "_law_most"] (defScope snames) := ⟨rfl, rfl, rfl, by decide +kernel, rfl, by decide +kernel, by decide +kernel⟩
abbrev sroom : Stmt := topS 65
abbrev Nroom : List Str := ["_law_well_here"]
theorem scroom : FnScope ["_law_well_here"] ["_law_well_here"] (defScope sroom) := ⟨rfl, rfl, rfl, by decide +kernel, rfl, by decide +kernel, by decide +kernel⟩
abbrev Dnname (K : PySem.W.Frag) (mg : Str → Option Value) := Dn K mg "_law_name" sname ["_law_well_here"]
abbrev Dnunlike (K : PySem.W.Frag) (mg : Str → Option Value) := Dn K mg "_law_unlike" sunlike ["_law_things"]
abbrev Dnnames (K : PySem.W.Frag) (mg : Str → Option Value) := Dn K mg "_law_names" snames ["_law_well_here", "_law_most"]
abbrev Dnroom (K : PySem.W.Frag) (mg : Str → Option Value) := Dn K mg "_law_room" sroom ["_law_well_here"]
/-! texts by their signs -/
def S (l : List Nat) : Str := ⟨l.toArray⟩
theorem cs_S (l : List Nat) : cs (S l) = l := by simp [cs, S]
theorem S_cs (z : Str) : S (cs z) = z := by cases z; simp [cs, S]
theorem S_len (l : List Nat) : (S l).length = l.length := by simp [S, Str.length]
theorem cs_app (a b : Str) : cs (a ++ b) = cs a ++ cs b := by
  show (a.cps ++ b.cps).toList = _
  simp [cs]
theorem join0 : ∀ ys : List Str, Str.join (S []) ys = S (ys.map cs).flatten
  | [] => rfl
  | [x] => by
    show x = _
    simp [S_cs]
  | x :: y :: r => by
    show x ++ S [] ++ Str.join (S []) (y :: r) = _
    rw [join0 (y :: r)]
    apply cs_inj
    rw [cs_app, cs_app, cs_S, cs_S, cs_S]
    simp
theorem join_signs (l : List Nat) : Txt.join (S []) (l.map fun c => S [c]) = S l := by
  rw [show Txt.join (S []) (l.map fun c => S [c]) = Str.join (S []) (l.map fun c => S [c]) from PySem.StrLaws.glued_eq_join _ _, join0]
  congr 1
  induction l with
  | nil => rfl
  | cons c l ih =>
    rw [List.map_cons, List.map_cons, List.flatten_cons, ih, cs_S]
    rfl
theorem signs_len (l : List Nat) : ((List.map ((fun x => x.length) ∘ fun c => S [c]) l)).sum = l.length := by
  induction l with
  | nil => rfl
  | cons x r ih =>
    rw [List.map_cons, List.sum_cons, ih, List.length_cons]
    show 1 + _ = _
    omega
theorem abc_at : ∀ m : Fin 26, (Str.ofString "abcdefghijklmnopqrstuvwxyz").cps.toList[m.val]? = some (97 + m.val) := by decide +kernel
theorem Wl.ne2 {a c p : Addr} {H : Hp} (h : Wl a c H) (hp : H p = none) : p ≠ a ∧ p ≠ c := by
  obtain ⟨_, ns, t, u, z, e1, e2, _⟩ := h
  exact ⟨(ne_of_none e1 hp).symm, (ne_of_none e2 hp).symm⟩
theorem Wl.put {a c p : Addr} {H : Hp} {u : HO} (h : Wl a c H) (n : p ≠ a ∧ p ≠ c) : Wl a c (upd H p u) := by
  obtain ⟨n1, ns, t, v, z, e1, e2, r⟩ := h
  exact ⟨n1, ns, t, v, z, by rw [upd_ne n.1.symm]; exact e1, by rw [upd_ne n.2.symm]; exact e2, r⟩
theorem inV_str {z : Str} {fs : List Str} : inV (V.str z) (fs.map V.str) = decide (z ∈ fs) := by
  unfold inV
  rw [List.any_map]
  by_cases h : z ∈ fs
  · rw [decide_eq_true h]
    refine List.any_eq_true.mpr ⟨z, h, ?_⟩
    show (z == z) = true
    exact beq_self_eq_true z
  · rw [decide_eq_false h]
    refine List.any_eq_false.mpr fun y hy => ?_
    show ¬ (y == z) = true
    intro e
    exact h (eq_of_beq e ▸ hy)
theorem flat_strs (fs : List Str) : (fs.map V.str).all flatV = true := List.all_eq_true.mpr fun v hv => by
  obtain ⟨z, _, rfl⟩ := List.mem_map.mp hv
  rfl
theorem asc_strs {ys : List Str} (h : Srtd ltZ ys) (nd : ys.Nodup) : ys.Pairwise fun a b => ltZ a b = true := by
  refine List.Pairwise.imp₂ (fun a b (h1 : ltZ b a = false) (h2 : a ≠ b) => ?_) h nd
  rcases bcase (ltZ a b) with q | q
  · exact q
  · exact absurd (ltZ_tri q h1) h2
section
variable {P : Program} {w : World} {K : PySem.W.Frag} {mg : Str → Option Value} {base : Heap}
/-! _law_name -/
def spName : Sp := fun vs H Q _ => ∃ (a c : Addr), vs = [.ref a] ∧ Wl a c H ∧ ∀ H' z, Exw a H H' → Wl a c H' → Nm z → Q (.str z) H'
theorem ok_name (T : Blt mg) (dmixed : Dnmixed K mg) (dfilled : Dnfilled K mg) (ddraw : Dndraw K mg) (d : Dnname K mg) : FnOk P w K mg base CX0 4 d.f d.fd ["_law_well_here"] spName := by
  have Gdraw : FnOk P w K mg base CX0 3 ddraw.f ddraw.fd ["_law_well_here", "_law_many"] spDraw := ok_draw T dmixed dfilled ddraw
  refine d.F.ok scname (fun vs H Q E h => ?_) (fun cdv A outer s H vs Q E hr h => ?_)
  · obtain ⟨a, c, rfl, _⟩ := h
    rfl
  · obtain ⟨a, c, rfl, hw, q⟩ := h
    refine ⟨_, (pss_cons (ps_set (i := 1) scname.nd rfl (Or.inl rfl) (pe_op op_add pe_int (pe_call Gdraw (hr.mono (by omega)) (by rfl) ddraw.g ddraw.F.kp ddraw.b .nil pass0 (pa_cons (pv 0) (pa_cons pe_int pa_nil)))))
    (C8.pss_cut (ps_if (pt_cmpR op_eq (pe_call Gdraw (hr.mono (by omega)) (by rfl) ddraw.g ddraw.F.kp ddraw.b .nil pass0 (pa_cons (pv 0) (pa_cons pe_int pa_nil))) pe_int (nomark _))
      (pss_one (ps_set (i := 1) scname.nd rfl (Or.inl rfl) (pe_op op_add pe_int (pe_call Gdraw (hr.mono (by omega)) (by rfl) ddraw.g ddraw.F.kp ddraw.b .nil pass0 (pa_cons (pv 0) (pa_cons pe_int pa_nil))))))
      pss_nil)
    (pss_one (ps_ret (pe_join pe_str (pe_lc (own := [("_law_k", 2)]) (g := gName 2) (tt := tYes) rfl scname.nd (pi_range1 (by rfl) T.n_range (pa_cons (pv 1) pa_nil)) (blkOk_by (N := Nname) (sc := defScope sname) (by decide +kernel)) (fun _ _ _ _ _ => pg_name (i := 2) scname.nd rfl (Or.inl rfl)) (fun _ _ _ _ _ => pts_nil) (fun _ _ _ _ _ => (pe_ix ix_str pe_str (pe_call Gdraw (hr.mono (by omega)) (by rfl) ddraw.g ddraw.F.kp ddraw.b .nil pass0 (pa_cons (pv 0) (pa_cons pe_int pa_nil))) (fun _ _ => rfl))))))))), ?_⟩
    refine ⟨.ref a, rfl, a, c, 2, rfl, hw, (by decide), (by decide), fun H1 k x1 w1 k0 k1 => ⟨_, _, rfl, rfl, ?_⟩⟩
    refine ⟨fun σ H3 => ∃ m : Nat, 1 ≤ m ∧ m ≤ 8 ∧ σ = [some (.ref a), some (.int (m : Int)), none] ∧ Exw a H H3 ∧ Wl a c H3, ?_, ?_⟩
    · refine ⟨.ref a, rfl, a, c, 4, rfl, w1, (by decide), (by decide), fun H2 j x2 w2 j0 j1 => ⟨rfl, _, rfl, ite2 (fun _ => ?_) fun _ => ?_⟩⟩
      · refine ⟨.ref a, rfl, a, c, 8, rfl, w2, (by decide), (by decide), fun H3 i x3 w3 i0 i1 => ⟨_, _, rfl, rfl, ?_⟩⟩
        obtain ⟨n, rfl⟩ := Int.eq_ofNat_of_zero_le i0
        exact ⟨1 + n, by omega, by omega, by push_cast; rfl, (x1.trans x2).trans x3, w3⟩
      · obtain ⟨n, rfl⟩ := Int.eq_ofNat_of_zero_le k0
        exact ⟨1 + n, by omega, by omega, by push_cast; rfl, x1.trans x2, w2⟩
    · rintro σ H3 ⟨m, m1, m8, rfl, x3, w3⟩
      refine ⟨⟨_, rfl⟩, .int (m : Int), rfl, (m : Int), rfl, (by omega), (by omega), fun D nD => ?_⟩
      rw [Int.toNat_natCast]
      have hD := w3.ne2 nD
      refine lc_range (lo := 0) (n := m) (fun i H8 => Exw a H3 H8 ∧ Wl a c H8 ∧ ∃ l : List Nat, H8 D = some (.lst (l.map fun c => V.str (S [c]))) ∧ l.length = i ∧ ∀ c ∈ l, nmC c = true) ⟨(Exw.refl a H3).put nD, w3.same (same_upd nD), [], upd_same, rfl, fun _ h => nomatch h⟩ (fun i H8 hi h8 => ?_) (fun H8 h8 => ?_)
      · obtain ⟨x8, p8, l, hD8, hl, hc⟩ := h8
        refine ⟨rfl, .ref a, rfl, a, c, 26, rfl, p8, (by decide), (by decide), fun H9 c' x9 p9 c0 c26 => ?_⟩
        obtain ⟨c', rfl⟩ := Int.eq_ofNat_of_zero_le c0
        have hc26 : c' < 26 := by omega
        have hz : (Str.ofString "abcdefghijklmnopqrstuvwxyz").length ≤ sizeLine := by
          rw [show (Str.ofString "abcdefghijklmnopqrstuvwxyz").length = 26 by decide +kernel, sizeLine_eq]
          decide
        refine ⟨_, _, _, rfl, rfl, hz, atI_nat (abc_at ⟨c', hc26⟩), _, x9 D _ hD.1 hD8, ?_, (x8.trans x9).put nD, p9.put hD, l ++ [97 + c'], ?_, ?_, fun u hu => ?_⟩
        · rw [List.length_map, hl, sizeLine_eq]
          omega
        · rw [upd_same, List.map_append]
          rfl
        · rw [List.length_append, hl]
          rfl
        · rcases List.mem_append.mp hu with hu | hu
          · exact hc u hu
          · rw [List.mem_singleton.mp hu]
            unfold nmC
            simp
            omega
      obtain ⟨x8, p8, l, hD8, hl, hc⟩ := h8
      have ej : Txt.join (Str.ofString "") (l.map fun c => S [c]) = S l := join_signs l
      refine ⟨_, D, l.map fun c => S [c], rfl, rfl, .inl (sql (by rw [hD8, List.map_map]; rfl)), ?_, ?_⟩
      · rw [List.map_map, List.length_map, signs_len]
        show l.length + l.length * 0 ≤ 16777216
        omega
      · rw [ej]
        exact q H8 _ (x3.trans x8) p8 ⟨by rw [S_len]; omega, by rw [S_len]; omega, by rw [cs_S]; exact hc⟩
/-! _law_unlike -/
def spUnlike : Sp := fun vs H Q _ => ∃ (l : Addr) (zs : List Str), vs = [.ref l] ∧ H l = some (.lst (zs.map V.str)) ∧ zs.length ≤ 1000 ∧
  ∀ H' p (ys : List Str), Same H H' → H p = none → H' p = some (.lst (ys.map V.str)) → (ys.Pairwise fun a b => ltZ a b = true) → (∀ y, y ∈ ys ↔ y ∈ zs) → ys.length ≤ zs.length → Q (.ref p) H'
theorem ok_unlike (T : Blt mg) (d : Dnunlike K mg) : FnOk P w K mg base CX0 1 d.f d.fd ["_law_things"] spUnlike := by
  refine d.F.ok scunlike (fun vs H Q E h => ?_) (fun cdv A outer s H vs Q E hr h => ?_)
  · obtain ⟨l, zs, rfl, _⟩ := h
    rfl
  · obtain ⟨l, zs, rfl, hl, hlen, q⟩ := h
    refine ⟨_, (pss_cons (ps_set (i := 1) scunlike.nd rfl (Or.inl rfl) (pe_lst pa_nil))
    (pss_cons (ps_for PassesOwn.never rfl (pi_list (pv 0)) (pg_name (i := 2) scunlike.nd rfl (Or.inl rfl))
      (pss_one (ps_if (pt_cmpR op_notIn_seq (pv 2) (pv 1) rfl)
        (pss_one (ps_expr (pe_bm PySem.F.plainAttrs_list PySem.F.slot_list_append PySem.F.type_list_append mt_append (pv 1) (pa_cons (pv 2) pa_nil))))
        pss_nil)))
    (pss_one (ps_ret (pe_callB cr_sortedSL (by rfl) T.n_sorted (by decide +kernel) (pa_cons (pv 1) pa_nil)))))), ?_⟩
    refine ⟨(by show 0 ≤ sizeLine; exact Nat.zero_le _), fun D nD => ?_⟩
    have lD : l ≠ D := ne_of_none hl nD
    refine ⟨.ref l, rfl, l, rfl, ⟨_, sql (same_upd nD _ _ hl)⟩, for_list (xs := zs.map V.str) (fun i σ H3 => ∃ x, σ = [some (.ref l), some (.ref D), x] ∧ Same H H3 ∧ ∃ fs : List Str, H3 D = some (.lst (fs.map V.str)) ∧ fs.Nodup ∧ fs.length ≤ i ∧ ∀ y, y ∈ fs ↔ y ∈ zs.take i) ⟨none, rfl, same_upd nD, [], upd_same, List.nodup_nil, Nat.le_refl _, fun y => by simp⟩ (fun i σ H3 _ ⟨_, _, s3, _⟩ => sql (s3 _ _ hl)) ?_ ?_⟩
    · rintro i v σ H3 hi ⟨x, rfl, s3, fs, hD3, nd, fl, mem⟩
      obtain ⟨z, hz, rfl⟩ := map_at hi
      have hil := (List.getElem?_eq_some_iff.mp hz).1
      refine ⟨.str z, rfl, .ref D, rfl, D, _, rfl, .inl (sql hD3), rfl, flat_strs fs, _, rfl, ?_⟩
      rw [inV_str]
      by_cases h : z ∈ fs
      · rw [decide_eq_true h]
        refine iteF ⟨some (.str z), rfl, s3, fs, hD3, nd, by omega, fun y => ?_⟩
        rw [List.take_add_one, hz, mem y]
        constructor
        · intro hy
          exact List.mem_append.mpr (.inl hy)
        · intro hy
          rcases List.mem_append.mp hy with hy | hy
          · exact hy
          · rw [List.mem_singleton.mp hy]
            exact (mem z).mp h
      · rw [decide_eq_false h]
        refine iteT ⟨.ref D, rfl, .inl ⟨rfl, _, sql hD3⟩, .str z, rfl, D, _, _, rfl, rfl, hD3, ?_, some (.str z), rfl, Same.put s3 nD, fs ++ [z], ?_, ?_, ?_, fun y => ?_⟩
        · rw [List.length_map, sizeLine_eq]
          omega
        · rw [upd_same, List.map_append]
          rfl
        · exact List.nodup_append.mpr ⟨nd, (by simp), fun a ha b hb e => by rw [List.mem_singleton.mp hb] at e; exact h (e ▸ ha)⟩
        · rw [List.length_append]
          show fs.length + 1 ≤ i + 1
          omega
        · rw [List.take_add_one, hz]
          constructor
          · intro hy
            rcases List.mem_append.mp hy with hy | hy
            · exact List.mem_append.mpr (.inl ((mem y).mp hy))
            · exact List.mem_append.mpr (.inr hy)
          · intro hy
            rcases List.mem_append.mp hy with hy | hy
            · exact List.mem_append.mpr (.inl ((mem y).mpr hy))
            · exact List.mem_append.mpr (.inr hy)
    · rintro σ H3 ⟨x, rfl, s3, fs, hD3, nd, fl, mem⟩
      rw [List.length_map] at fl mem
      rw [List.take_length] at mem
      refine ⟨.ref D, rfl, D, fs, rfl, sql hD3, fun ys p pm so np => ?_⟩
      exact q _ p ys (Same.new s3 np) (Same.gone s3 np) upd_same (asc_strs so (pm.nodup_iff.mpr nd)) (fun y => (pm.mem_iff).trans (mem y)) (by rw [pm.length_eq]; exact fl)
/-! _law_names -/
def spNames : Sp := fun vs H Q _ => ∃ (a c : Addr) (n : Int), vs = [.ref a, .int n] ∧ Wl a c H ∧ 0 < n ∧ n ≤ 900 ∧
  ∀ H' p (ys : List Str), Exw a H H' → Wl a c H' → H p = none → p ≠ a → p ≠ c → H' p = some (.lst (ys.map V.str)) → (ys.Pairwise fun a b => ltZ a b = true) → (∀ y ∈ ys, Nm y) → 0 < ys.length → (ys.length : Int) ≤ n → Q (.ref p) H'
theorem ok_names (T : Blt mg) (dmixed : Dnmixed K mg) (dfilled : Dnfilled K mg) (ddraw : Dndraw K mg) (dname : Dnname K mg) (dunlike : Dnunlike K mg) (d : Dnnames K mg) : FnOk P w K mg base CX0 5 d.f d.fd ["_law_well_here", "_law_most"] spNames := by
  have Gdraw : FnOk P w K mg base CX0 3 ddraw.f ddraw.fd ["_law_well_here", "_law_many"] spDraw := ok_draw T dmixed dfilled ddraw
  have Gname : FnOk P w K mg base CX0 4 dname.f dname.fd ["_law_well_here"] spName := ok_name T dmixed dfilled ddraw dname
  have Gunlike : FnOk P w K mg base CX0 1 dunlike.f dunlike.fd ["_law_things"] spUnlike := ok_unlike T dunlike
  refine d.F.ok scnames (fun vs H Q E h => ?_) (fun cdv A outer s H vs Q E hr h => ?_)
  · obtain ⟨a, c, n, rfl, _⟩ := h
    rfl
  · obtain ⟨a, c, n, rfl, hw, n0, n1, q⟩ := h
    refine ⟨_, (pss_one (ps_ret (pe_call Gunlike (hr.mono (by omega)) (by rfl) dunlike.g dunlike.F.kp dunlike.b .nil pass0 (pa_cons (pe_lc (own := [("_law_k", 2)]) (g := gName 2) (tt := tYes) rfl scnames.nd (pi_range1 (by rfl) T.n_range (pa_cons (pe_op op_add pe_int (pe_call Gdraw (hr.mono (by omega)) (by rfl) ddraw.g ddraw.F.kp ddraw.b .nil pass0 (pa_cons (pv 0) (pa_cons (pv 1) pa_nil)))) pa_nil)) (blkOk_by (N := Nnames) (sc := defScope snames) (by decide +kernel)) (fun _ _ _ _ _ => pg_name (i := 2) scnames.nd rfl (Or.inl rfl)) (fun _ _ _ _ _ => pts_nil) (fun _ _ _ _ _ => (pe_call Gname (hr.mono (by omega)) (by rfl) dname.g dname.F.kp dname.b .nil pass0 (pa_cons (pv 0) pa_nil)))) pa_nil)))), ?_⟩
    refine ⟨.ref a, rfl, .int n, rfl, a, c, n, rfl, hw, n0, (by omega), fun H1 k x1 w1 k0 k1 => ⟨_, _, rfl, rfl, 1 + k, rfl, (by omega), (by omega), fun D nD => ?_⟩⟩
    have hD := w1.ne2 nD
    obtain ⟨kn, rfl⟩ := Int.eq_ofNat_of_zero_le k0
    rw [show (1 + (kn : Int)).toNat = 1 + kn by omega]
    refine lc_range (lo := 0) (n := 1 + kn) (fun i H8 => Exw a H1 H8 ∧ Wl a c H8 ∧ ∃ zs : List Str, H8 D = some (.lst (zs.map V.str)) ∧ zs.length = i ∧ ∀ z ∈ zs, Nm z) ⟨(Exw.refl a H1).put nD, w1.same (same_upd nD), [], upd_same, rfl, fun _ h => nomatch h⟩ (fun i H8 hi h8 => ?_) (fun H8 h8 => ?_)
    · obtain ⟨x8, p8, zs, hD8, hl, hc⟩ := h8
      refine ⟨rfl, .ref a, rfl, a, c, rfl, p8, fun H9 z x9 p9 hz => ⟨_, x9 D _ hD.1 hD8, ?_, (x8.trans x9).put nD, p9.put hD, zs ++ [z], ?_, ?_, fun u hu => ?_⟩⟩
      · rw [List.length_map, hl, sizeLine_eq]
        omega
      · rw [upd_same, List.map_append]
        rfl
      · rw [List.length_append, hl]
        rfl
      · rcases List.mem_append.mp hu with hu | hu
        · exact hc u hu
        · rw [List.mem_singleton.mp hu]
          exact hz
    · obtain ⟨x8, p8, zs, hD8, hl, hc⟩ := h8
      refine ⟨D, zs, rfl, hD8, by omega, fun H9 p ys s9 np hp9 so mem len => ?_⟩
      have hp := p8.ne2 np
      refine q H9 p ys ((x1.trans x8).same s9) (p8.same s9) (Exw.gone (x1.trans x8) hp.1 np) hp.1 hp.2 hp9 so (fun y hy => hc y ((mem y).mp hy)) ?_ (by omega)
      cases ys with
      | cons _ _ => exact Nat.succ_pos _
      | nil =>
        cases zs with
        | nil => exact absurd hl (by simp; omega)
        | cons z r => exact nomatch (mem z).mpr List.mem_cons_self
/-! _law_room -/
def spRoom : Sp := fun vs H Q _ => ∃ (a c : Addr), vs = [.ref a] ∧ Wl a c H ∧ ∀ H' (r : Int), Exw a H H' → Wl a c H' → 1 ≤ r → r ≤ 64 → Q (.int r) H'
theorem ok_room (T : Blt mg) (dmixed : Dnmixed K mg) (dfilled : Dnfilled K mg) (ddraw : Dndraw K mg) (d : Dnroom K mg) : FnOk P w K mg base CX0 4 d.f d.fd ["_law_well_here"] spRoom := by
  have Gdraw : FnOk P w K mg base CX0 3 ddraw.f ddraw.fd ["_law_well_here", "_law_many"] spDraw := ok_draw T dmixed dfilled ddraw
  refine d.F.ok scroom (fun vs H Q E h => ?_) (fun cdv A outer s H vs Q E hr h => ?_)
  · obtain ⟨a, c, rfl, _⟩ := h
    rfl
  · obtain ⟨a, c, rfl, hw, q⟩ := h
    refine ⟨_, (pss_one (ps_ret (pe_op op_add pe_int (pe_call Gdraw (hr.mono (by omega)) (by rfl) ddraw.g ddraw.F.kp ddraw.b .nil pass0 (pa_cons (pv 0) (pa_cons (pe_ix ix_list (pe_lst (pa_cons pe_int (pa_cons pe_int (pa_cons pe_int (pa_cons pe_int pa_nil))))) (pe_call Gdraw (hr.mono (by omega)) (by rfl) ddraw.g ddraw.F.kp ddraw.b .nil pass0 (pa_cons (pv 0) (pa_cons pe_int pa_nil))) (fun _ _ => rfl)) pa_nil)))))), ?_⟩
    refine ⟨.ref a, rfl, (by show 4 ≤ sizeLine; decide), fun l nl => ?_⟩
    have hl := hw.ne2 nl
    refine ⟨.ref a, rfl, a, c, 4, rfl, hw.same (same_upd nl), (by decide), (by decide), fun H1 k x1 w1 k0 k1 => ?_⟩
    obtain ⟨kn, rfl⟩ := Int.eq_ofNat_of_zero_le k0
    have hk : kn < 4 := by omega
    obtain ⟨m, hm, m0, m1⟩ : ∃ m : Int, [V.int 4, V.int 4, V.int 8, V.int 64][kn]? = some (.int m) ∧ 0 < m ∧ m ≤ 64 := by
      match kn, hk with
      | 0, _ => exact ⟨4, rfl, by decide, by decide⟩
      | 1, _ => exact ⟨4, rfl, by decide, by decide⟩
      | 2, _ => exact ⟨8, rfl, by decide, by decide⟩
      | 3, _ => exact ⟨64, rfl, by decide, by decide⟩
      | n + 4, h => exact absurd h (by omega)
    refine ⟨l, _, _, _, rfl, rfl, sql (x1 _ _ hl.1 upd_same), atI_nat hm, a, c, m, rfl, w1, m0, (by omega), fun H2 r x2 w2 r0 r1 => ⟨_, _, rfl, rfl, ?_⟩⟩
    exact q H2 _ (((Same.exw (same_upd nl)).trans x1).trans x2) w2 (by omega) (by omega)
end
end Kb



namespace Kb
open PySem PySem.Spec PyProof.Rows L2 SrtZ SrtO
abbrev salike : Stmt := topS 75
abbrev Nalike : List Str := ["_law_told", "_law_due", "_law_k"]
theorem scalike : FnScope ["_law_told", "_law_due", "_law_k"] ["_law_told", "_law_due"] (defScope salike) := ⟨rfl, rfl, rfl, by decide +kernel, rfl, by decide +kernel, by decide +kernel⟩
abbrev Dnalike (K : PySem.W.Frag) (mg : Str → Option Value) := Dn K mg "_law_alike" salike ["_law_told", "_law_due"]
/-! data that are alike -/
def Leq (x y : V) : Prop := (∃ i : Int, x = .int i ∧ y = .int i) ∨ ∃ z : Str, x = .str z ∧ y = .str z
def Eqv (K : PySem.W.Frag) : Nat → Hp → V → V → Prop
  | 0, _, x, y => Leq x y
  | n + 1, H, x, y => Leq x y ∨ ∃ (a b : Addr) (xs ys : List V), x = .ref a ∧ y = .ref b ∧ SqT K H a xs ∧ SqT K H b ys ∧ xs.length = ys.length ∧ xs.length ≤ 1000 ∧ ∀ (i : Nat) (u v : V), xs[i]? = some u → ys[i]? = some v → Eqv K n H u v
theorem Eqv.same {K : PySem.W.Frag} {H H' : Hp} (s : Same H H') : ∀ {n : Nat} {x y : V}, Eqv K n H x y → Eqv K n H' x y
  | 0, _, _, h => h
  | n + 1, x, y, h => by
    rcases h with h | ⟨a, b, xs, ys, e1, e2, h1, h2, h3, h4, h5⟩
    · exact .inl h
    · exact .inr ⟨a, b, xs, ys, e1, e2, seqT h1 s, seqT h2 s, h3, h4, fun i u v hu hv => Eqv.same s (h5 i u v hu hv)⟩
def spAlike (K : PySem.W.Frag) (n : Nat) : Sp := fun vs H Q _ => ∃ x y : V, vs = [x, y] ∧ Eqv K n H x y ∧ ∀ H', Same H H' → Q (.bl true) H'
def spAlike' (K : PySem.W.Frag) : Nat → Sp
  | 0 => fun _ _ _ _ => False
  | n + 1 => spAlike K n
theorem Eqv.cases {K : PySem.W.Frag} {n : Nat} {H : Hp} {x y : V} (h : Eqv K n H x y) : Leq x y ∨ ∃ m, n = m + 1 ∧ ∃ (a b : Addr) (xs ys : List V), x = .ref a ∧ y = .ref b ∧ SqT K H a xs ∧ SqT K H b ys ∧ xs.length = ys.length ∧ xs.length ≤ 1000 ∧ ∀ (i : Nat) (u v : V), xs[i]? = some u → ys[i]? = some v → Eqv K m H u v := by
  cases n with
  | zero => exact .inl h
  | succ n =>
    rcases h with h | h
    · exact .inl h
    · exact .inr ⟨n, rfl, h⟩
section
variable {P : Program} {w : World} {K : PySem.W.Frag} {mg : Str → Option Value} {base : Heap}
theorem ok_alike' (T : Blt mg) (dalike : Dnalike K mg) (n : Nat) (Galike : FnOk P w K mg base CX0 (n + 1) dalike.f dalike.fd ["_law_told", "_law_due"] (spAlike' K n)) : FnOk P w K mg base CX0 (n + 2) dalike.f dalike.fd ["_law_told", "_law_due"] (spAlike K n) := by
  refine dalike.F.ok scalike (fun vs H Q E h => ?_) (fun cdv A outer s H vs Q E hr h => ?_)
  · obtain ⟨x, y, rfl, _⟩ := h
    rfl
  · obtain ⟨x, y, rfl, he, q⟩ := h
    refine ⟨_, (pss_cons (ps_if (pt_val (pe_callB call_isi (by rfl) T.n_isinstance (by decide +kernel) (pa_cons (pv 1) (pa_cons (pe_bltn (v := .ty "tuple") (by rfl) T.n_tuple (by decide +kernel) rfl) pa_nil))))
      (pss_cons (ps_if (PW.pt (pw_or (pt_not (pt_val (pe_callB call_isi (by rfl) T.n_isinstance (by decide +kernel) (pa_cons (pv 0) (pa_cons (pe_bltn (v := .ty "tuple") (by rfl) T.n_tuple (by decide +kernel) rfl) pa_nil))))) (pw_or1 (pt_cmpR op_ne (pe_callB call_len_seq (by rfl) T.n_len (by decide +kernel) (pa_cons (pv 0) pa_nil)) (pe_callB call_len_seq (by rfl) T.n_len (by decide +kernel) (pa_cons (pv 1) pa_nil)) (nomark _)))))
        (pss_one (ps_ret pe_bl))
        pss_nil)
      (pss_one (ps_ret (pe_callB (cr_all rfl) (by rfl) T.n_all (by decide +kernel) (pa_cons (pe_lc (own := [("_law_k", 2)]) (g := gName 2) (tt := tYes) rfl scalike.nd (pi_range1 (by rfl) T.n_range (pa_cons (pe_callB call_len_seq (by rfl) T.n_len (by decide +kernel) (pa_cons (pv 1) pa_nil)) pa_nil)) (blkOk_by (N := Nalike) (sc := defScope salike) (by decide +kernel)) (fun _ _ _ _ _ => pg_name (i := 2) scalike.nd rfl (Or.inl rfl)) (fun _ _ _ _ _ => pts_nil) (fun _ _ _ _ _ => (pe_call Galike (hr.mono (by omega)) (by rfl) dalike.g dalike.F.kp dalike.b .nil pass0 (pa_cons (pe_ix (r := rIxT K) ix_tup (pv 0) (pv 2) (fun _ _ => rfl)) (pa_cons (pe_ix (r := rIxT K) ix_tup (pv 1) (pv 2) (fun _ _ => rfl)) pa_nil))))) pa_nil)))))
      pss_nil)
    (pss_cons (ps_if (pt_cmpR op_isN (pv 1) pe_non (nomark _))
      (pss_one (ps_ret (pe_cmpR op_isN (pv 0) pe_non (nomark _))))
      pss_nil)
    (pss_cons (ps_if (pt_val (pe_callB call_isi (by rfl) T.n_isinstance (by decide +kernel) (pa_cons (pv 1) (pa_cons (pe_bltn (v := .ty "str") (by rfl) T.n_str (by decide +kernel) rfl) pa_nil))))
      (pss_one (ps_ret (pe_and (pe_callB call_isi (by rfl) T.n_isinstance (by decide +kernel) (pa_cons (pv 0) (pa_cons (pe_bltn (v := .ty "str") (by rfl) T.n_str (by decide +kernel) rfl) pa_nil))) (pe_one (pe_cmpR op_eq (pv 0) (pv 1) (nomark _))))))
      pss_nil)
    (pss_one (ps_ret (pe_and (pe_callB call_isi (by rfl) T.n_isinstance (by decide +kernel) (pa_cons (pv 0) (pa_cons (pe_bltn (v := .ty "int") (by rfl) T.n_int (by decide +kernel) rfl) pa_nil))) (pe_and (pe_not (pe_callB call_isi (by rfl) T.n_isinstance (by decide +kernel) (pa_cons (pv 0) (pa_cons (pe_bltn (v := .ty "bool") (by rfl) T.n_bool (by decide +kernel) rfl) pa_nil)))) (pe_one (pe_cmpR op_eq (pv 0) (pv 1) (nomark _)))))))))), ?_⟩
    rcases he.cases with (⟨i, rfl, rfl⟩ | ⟨z, rfl, rfl⟩) | ⟨m, rfl, a, b, xs, ys, rfl, rfl, g1, g2, hl, hl2, h5⟩
    · refine ⟨.int i, rfl, .int i, _, _, _, false, rfl, .ty "tuple", .base (.int i), kit_ty (by decide +kernel), false, rfl, iteF ?_⟩
      refine ⟨.int i, rfl, rfl, false, rfl, iteF ?_⟩
      refine ⟨.int i, rfl, .int i, _, _, _, false, rfl, .ty "str", .base (.int i), kit_ty (by decide +kernel), false, rfl, iteF ?_⟩
      refine ⟨.int i, rfl, .int i, _, _, _, true, rfl, .ty "int", .base (.int i), kit_ty (by decide +kernel), true, rfl, iteT ?_⟩
      refine ⟨.int i, rfl, .int i, _, _, _, false, rfl, .ty "bool", .base (.int i), kit_ty (by decide +kernel), false, rfl, true, rfl, iteT ⟨.int i, rfl, .int i, rfl, rfl, ?_⟩⟩
      rw [decide_eq_true rfl]
      exact q _ (Same.refl H)
    · refine ⟨.str z, rfl, .str z, _, _, _, false, rfl, .ty "tuple", .base (.str z), kit_ty (by decide +kernel), false, rfl, iteF ?_⟩
      refine ⟨.str z, rfl, rfl, false, rfl, iteF ?_⟩
      refine ⟨.str z, rfl, .str z, _, _, _, true, rfl, .ty "str", .base (.str z), kit_ty (by decide +kernel), true, rfl, iteT ?_⟩
      refine ⟨.str z, rfl, .str z, _, _, _, true, rfl, .ty "str", .base (.str z), kit_ty (by decide +kernel), true, rfl, iteT ⟨.str z, rfl, .str z, rfl, rfl, ?_⟩⟩
      rw [decide_eq_true rfl]
      exact q _ (Same.refl H)
    · refine ⟨.ref b, rfl, .ref b, _, _, _, true, rfl, .ty "tuple", tyT g2, kit_ty (by decide +kernel), true, rfl, iteT ?_⟩
      refine ⟨.ref a, rfl, .ref a, _, _, _, true, rfl, .ty "tuple", tyT g1, kit_ty (by decide +kernel), true, rfl, iteF ?_⟩
      refine ⟨.ref a, rfl, a, _, rfl, .inr g1, .ref b, rfl, b, _, rfl, .inr g2, rfl, false, congrArg V.bl (by rw [hl]; simp), iteF ?_⟩
      refine ⟨.ref b, rfl, b, _, rfl, .inr g2, ys.length, rfl, by omega, by omega, fun D nD => ?_⟩
      rw [Int.toNat_natCast]
      refine lc_range (lo := 0) (n := ys.length) (fun i H3 => Same H H3 ∧ H3 D = some (.lst ((List.range i).map fun _ => V.bl true))) ⟨same_upd nD, upd_same⟩ (fun i H3 hi h3 => ?_) (fun H3 h3 => ?_)
      · have hxi : xs[i]? = some (xs[i]'(by omega)) := List.getElem?_eq_getElem (by omega)
        have hyi : ys[i]? = some ys[i] := List.getElem?_eq_getElem hi
        have ev := Eqv.same h3.1 (h5 i _ _ hxi hyi)
        refine ⟨rfl, .ref a, rfl, .int (0 + (i : Int)), rfl, a, _, _, _, rfl, rfl, seqT g1 h3.1, (by rw [Int.zero_add]; exact atI_nat hxi), .ref b, rfl, .int (0 + (i : Int)), rfl, b, _, _, _, rfl, rfl, seqT g2 h3.1, (by rw [Int.zero_add]; exact atI_nat hyi), _, _, rfl, ev, fun H4 s4 => ⟨_, s4 _ _ h3.2, ?_, ?_, ?_⟩⟩
        · rw [List.length_map, List.length_range, sizeLine_eq]
          omega
        · exact Same.put (fun b u e => s4 b u (h3.1 b u e)) nD
        · rw [upd_same, List.range_succ, List.map_append]
          rfl
      · refine ⟨D, (List.range ys.length).map fun _ => true, rfl, sql (by rw [h3.2, List.map_map]; rfl), ?_⟩
        rw [show (((List.range ys.length).map fun _ => true).all id) = true by simp]
        exact q H3 h3.1
theorem ok_alike (T : Blt mg) (dalike : Dnalike K mg) : ∀ n : Nat, FnOk P w K mg base CX0 (n + 1) dalike.f dalike.fd ["_law_told", "_law_due"] (spAlike' K n)
  | 0 => dalike.F.ok scalike (fun _ _ _ _ h => h.elim) (fun _ _ _ _ _ _ _ _ _ h => h.elim)
  | n + 1 => ok_alike' T dalike n (ok_alike T dalike n)
end
end Kb



namespace Kb
open PySem PySem.Spec PyProof.Rows L2 SrtZ SrtO
/-- the pair that a tuple of the heap holds -/
def rdP (H : Hp) (t : Addr) : Str × Int := match H t with
  | some (.tup [.str x, .int y]) => (x, y)
  | _ => (⟨#[]⟩, 0)
theorem rdP_of {H : Hp} {t : Addr} {e : Str × Int} (h : H t = some (.tup [.str e.1, .int e.2])) : rdP H t = e := by
  unfold rdP
  rw [h]
theorem paired_snoc {α β : Type} {F : α → β → Prop} : ∀ {xs : List α} {ys : List β} {x : α} {y : β}, Paired F xs ys → F x y → Paired F (xs ++ [x]) (ys ++ [y])
  | _, _, _, _, .nil, h => .cons h .nil
  | _, _, _, _, .cons h t, k => .cons h (paired_snoc t k)
theorem paired_imp {α β : Type} {F G : α → β → Prop} (h : ∀ a b, F a b → G a b) : ∀ {xs : List α} {ys : List β}, Paired F xs ys → Paired G xs ys
  | _, _, .nil => .nil
  | _, _, .cons a t => .cons (h _ _ a) (paired_imp h t)
theorem paired_rd {H : Hp} : ∀ {ts : List Addr} {kvs : Ct}, Paired (fun (t : Addr) (e : Str × Int) => H t = some (.tup [.str e.1, .int e.2])) ts kvs → ts.map (rdP H) = kvs ∧ ∀ t ∈ ts, H t = some (.tup [.str (rdP H t).1, .int (rdP H t).2])
  | _, _, .nil => ⟨rfl, fun _ h => nomatch h⟩
  | _, _, .cons h t => by
    obtain ⟨h1, h2⟩ := paired_rd t
    have e := rdP_of h
    refine ⟨by rw [List.map_cons, h1, e], fun u hu => ?_⟩
    rcases List.mem_cons.mp hu with rfl | hu
    · rw [e]
      exact h
    · exact h2 u hu
theorem paired_map {H : Hp} {k : Addr → Str × Int} : ∀ {ts : List Addr}, (∀ t ∈ ts, H t = some (.tup [.str (k t).1, .int (k t).2])) → Paired (fun (t : Addr) (e : Str × Int) => H t = some (.tup [.str e.1, .int e.2])) ts (ts.map k)
  | [], _ => .nil
  | t :: ts, h => .cons (h t List.mem_cons_self) (paired_map fun u hu => h u (List.mem_cons_of_mem _ hu))
theorem getZ_self {kvs : Ct} {i : Nat} {e : Str × Int} (nd : NdZ kvs) (h : kvs[i]? = some e) : getZ kvs e.1 = some e.2 := by
  have hm := List.mem_of_getElem? h
  clear h
  unfold getZ
  induction kvs with
  | nil => cases hm
  | cons f r ih =>
    unfold NdZ at nd
    rw [List.map_cons, List.nodup_cons] at nd
    rcases List.mem_cons.mp hm with rfl | hm
    · simp
    · have : ¬ f.1 = e.1 := fun z => nd.1 (List.mem_map.mpr ⟨e, hm, z.symm⟩)
      rw [List.find?_cons_of_neg (by simpa using this)]
      exact ih nd.2 hm
theorem getZ_mem {kvs : Ct} {e : Str × Int} (nd : NdZ kvs) (h : e ∈ kvs) : getZ kvs e.1 = some e.2 := by
  obtain ⟨i, hi⟩ := List.mem_iff_getElem?.mp h
  exact getZ_self nd hi
theorem getZ_in {kvs : Ct} {n : Str} {v : Int} (h : getZ kvs n = some v) : (n, v) ∈ kvs := by
  unfold getZ at h
  cases e : kvs.find? fun e => decide (e.1 = n) with
  | none => rw [e] at h; cases h
  | some x =>
    rw [e] at h
    have h1 := List.mem_of_find?_eq_some e
    have h2 : x.1 = n := of_decide_eq_true (List.find?_some (p := fun e : Str × Int => decide (e.1 = n)) e)
    have h3 : x.2 = v := Option.some.inj h
    rw [← h2, ← h3]
    exact h1
end Kb




namespace Kb
open PySem PySem.Spec PyProof.Rows L2 SrtZ SrtO
/-! sketches on the heap -/
abbrev PrT (H : Hp) (t : Addr) (y : Str × Int) : Prop := H t = some (.tup [.str y.1, .int y.2])
theorem eqv_pair {K : PySem.W.Frag} {H : Hp} {t t2 : Addr} {e : Str × Int} (h1 : PrT H t e) (h2 : PrT H t2 e) : Eqv K 1 H (.ref t) (.ref t2) :=
  .inr ⟨t, t2, _, _, rfl, rfl, .inl (.inl h1), .inl (.inl h2), rfl, (by show 2 ≤ 1000; decide), fun i u v hu hv => by
    match i, hu, hv with
    | 0, hu, hv =>
      cases hu
      cases hv
      exact .inr ⟨_, rfl, rfl⟩
    | 1, hu, hv =>
      cases hu
      cases hv
      exact .inl ⟨_, rfl, rfl⟩
    | i + 2, hu, hv => simp at hu⟩
theorem eqv_counts {K : PySem.W.Frag} {H : Hp} {k k2 : Addr} {ts ts2 : List Addr} {ys : Ct} (h1 : SqT K H k (ts.map V.ref)) (h2 : SqT K H k2 (ts2.map V.ref)) (p1 : Paired (PrT H) ts ys) (p2 : Paired (PrT H) ts2 ys) (hl : ys.length ≤ 1000) : Eqv K 2 H (.ref k) (.ref k2) :=
  .inr ⟨k, k2, _, _, rfl, rfl, h1, h2, (by rw [List.length_map, List.length_map, Paired.length p1, Paired.length p2]), (by rw [List.length_map, Paired.length p1]; exact hl), fun i u v hu hv => by
    obtain ⟨t, ht, rfl⟩ := map_at hu
    obtain ⟨t2, ht2, rfl⟩ := map_at hv
    obtain ⟨e, he, f⟩ := paired_at p1 ht
    obtain ⟨e2, he2, f2⟩ := paired_at p2 ht2
    rw [he] at he2
    cases he2
    exact eqv_pair f f2⟩
theorem eqv_sketch {K : PySem.W.Frag} {H : Hp} {s s2 k k2 : Addr} {r m o : Int} {ts ts2 : List Addr} {ys : Ct} (g1 : H s = some (.tup [.int r, .int m, .int o, .ref k])) (g2 : H s2 = some (.tup [.int r, .int m, .int o, .ref k2])) (h1 : SqT K H k (ts.map V.ref)) (h2 : SqT K H k2 (ts2.map V.ref)) (p1 : Paired (PrT H) ts ys) (p2 : Paired (PrT H) ts2 ys) (hl : ys.length ≤ 1000) : Eqv K 3 H (.ref s) (.ref s2) :=
  .inr ⟨s, s2, _, _, rfl, rfl, .inl (.inl g1), .inl (.inl g2), rfl, (by show 4 ≤ 1000; decide), fun i u v hu hv => by
    match i, hu, hv with
    | 0, hu, hv =>
      cases hu
      cases hv
      exact .inl (.inl ⟨_, rfl, rfl⟩)
    | 1, hu, hv =>
      cases hu
      cases hv
      exact .inl (.inl ⟨_, rfl, rfl⟩)
    | 2, hu, hv =>
      cases hu
      cases hv
      exact .inl (.inl ⟨_, rfl, rfl⟩)
    | 3, hu, hv =>
      cases hu
      cases hv
      exact eqv_counts h1 h2 p1 p2 hl
    | i + 4, hu, hv => simp at hu⟩
def SkAt (H : Hp) (s : Addr) (r : Int) (x : Tl) : Prop := ∃ (k : Addr) (ts : List Addr), H s = some (.tup [.int r, .int x.m, .int x.o, .ref k]) ∧ Ptp H k (ts.map V.ref) ∧ Paired (PrT H) ts (srtZ x.c)
theorem SkAt.same {H H' : Hp} {s : Addr} {r : Int} {x : Tl} (h : SkAt H s r x) (y : Same H H') : SkAt H' s r x := by
  obtain ⟨k, ts, h1, h2, h3⟩ := h
  exact ⟨k, ts, y _ _ h1, h2.same y, paired_imp (fun t e h => y _ _ h) h3⟩
theorem SkAt.congr {H : Hp} {s : Addr} {r : Int} {x y : Tl} (h : SkAt H s r x) (e : skT x = skT y) : SkAt H s r y := by
  obtain ⟨m, o, c⟩ := x
  obtain ⟨m2, o2, c2⟩ := y
  unfold skT at e
  injection e with e1 e2 e3
  dsimp only at e1 e2 e3
  subst e1 e2
  obtain ⟨k, ts, h1, h2, h3⟩ := h
  exact ⟨k, ts, h1, h2, by dsimp only at h3 ⊢; rw [← e3]; exact h3⟩
theorem eqv_sk {K : PySem.W.Frag} {H : Hp} {s s2 : Addr} {r : Int} {x : Tl} (h : SkAt H s r x) (h2 : SkAt H s2 r x) (hl : x.c.length ≤ 1000) : Eqv K 3 H (.ref s) (.ref s2) := by
  obtain ⟨k, ts, a1, a2, a3⟩ := h
  obtain ⟨k2, ts2, b1, b2, b3⟩ := h2
  exact eqv_sketch a1 b1 a2.seq b2.seq a3 b3 (by rw [(srtZ_perm x.c).length_eq]; exact hl)
/-! the order in which counts stand means nothing -/
theorem getZ_perm {a b : Ct} (p : a.Perm b) (nd : NdZ a) (n : Str) : getZ a n = getZ b n := by
  have ndb : NdZ b := by
    unfold NdZ
    exact (p.map (·.1)).nodup_iff.mp nd
  cases ha : getZ a n with
  | none =>
    have := getZ_none.mp ha
    exact (getZ_none.mpr fun h => this ((p.map (·.1)).mem_iff.mpr h)).symm
  | some v =>
    have : ∃ e ∈ a, e.1 = n ∧ e.2 = v := by
      unfold getZ at ha
      cases h : a.find? fun e => decide (e.1 = n) with
      | none => rw [h] at ha; cases ha
      | some e =>
        rw [h] at ha
        exact ⟨e, List.mem_of_find?_eq_some h, of_decide_eq_true (List.find?_some (p := fun e : Str × Int => decide (e.1 = n)) h), Option.some.inj ha⟩
    obtain ⟨e, he, rfl, rfl⟩ := this
    obtain ⟨i, hi⟩ := List.mem_iff_getElem?.mp (p.mem_iff.mp he)
    exact (getZ_self ndb hi).symm
theorem putZ_perm {a b : Ct} (p : a.Perm b) (n : Str) (v : Int) : (putZ a n v).Perm (putZ b n v) := by
  have e : (a.any fun e => decide (e.1 = n)) = (b.any fun e => decide (e.1 = n)) := by
    rw [Bool.eq_iff_iff, List.any_eq_true, List.any_eq_true]
    exact ⟨fun ⟨x, h, k⟩ => ⟨x, p.mem_iff.mp h, k⟩, fun ⟨x, h, k⟩ => ⟨x, p.mem_iff.mpr h, k⟩⟩
  unfold putZ
  rw [e]
  split
  · exact p.map _
  · exact p.append_right _
theorem addZ_perm {a b : Ct} (p : a.Perm b) (nd : NdZ a) (n : Str) (c : Int) : (addZ a n c).Perm (addZ b n c) := by
  unfold addZ
  rw [getZ_perm p nd]
  exact putZ_perm p _ _
theorem takeZ_perm {a b : Ct} (p : a.Perm b) (k : Int) : (takeZ k a).Perm (takeZ k b) := (p.filter _).map _
theorem mnC_perm {a b : Ct} (p : a.Perm b) : mnC a = mnC b := by
  by_cases h : a = []
  · subst h
    have := p.symm.eq_nil
    subst this
    rfl
  · obtain ⟨h1, h2⟩ := mnC_spec h
    have q := p.map (·.2)
    exact mnC_uniq (q.mem_iff.mp h1) fun y hy => h2 y (q.mem_iff.mpr hy)
theorem full_perm {a b : Ct} (p : a.Perm b) (nd : NdZ a) (r : Int) (n : Str) : full r n a = full r n b := by
  unfold full
  rw [getZ_perm p nd, p.length_eq]
theorem srtZ_eq {a b : Ct} (p : a.Perm b) (nd : NdZ a) : srtZ a = srtZ b := by
  have ndb : NdZ b := by
    unfold NdZ
    exact (p.map (·.1)).nodup_iff.mp nd
  exact srtZ_of (srtZ_asc nd) ((srtZ_perm a).trans p) ndb
theorem feed_skT {r c : Int} {n : Str} {x : Tl} (nd : NdZ x.c) : skT (feedT r n c (skT x)) = skT (feedT r n c x) := by
  obtain ⟨m, o, kvs⟩ := x
  have p := srtZ_perm kvs
  have nds : NdZ (srtZ kvs) := (p.map (·.1)).nodup_iff.mpr nd
  unfold feedT skT
  dsimp only
  rw [full_perm p nds, mnC_perm p]
  by_cases hf : full r n kvs = true
  · rw [if_pos hf, if_pos hf]
    dsimp only
    generalize (if mnC kvs < c then mnC kvs else c) = a
    have e : srtZ (if 0 < c - a then addZ (takeZ a (srtZ kvs)) n (c - a) else takeZ a (srtZ kvs)) = srtZ (if 0 < c - a then addZ (takeZ a kvs) n (c - a) else takeZ a kvs) := by
      have pt := takeZ_perm p a
      have ndt : NdZ (takeZ a (srtZ kvs)) := takeZ_nd nds
      split
      · exact srtZ_eq (addZ_perm pt ndt _ _) (addZ_nd ndt)
      · exact srtZ_eq pt ndt
    rw [e]
  · rw [if_neg hf, if_neg hf]
    dsimp only
    have e : srtZ (if 0 < c then addZ (srtZ kvs) n c else srtZ kvs) = srtZ (if 0 < c then addZ kvs n c else kvs) := by
      split
      · exact srtZ_eq (addZ_perm p nds _ _) (addZ_nd nds)
      · exact srtZ_eq p nds
    rw [e]
theorem skT_skT {x : Tl} (nd : NdZ x.c) : skT (skT x) = skT x := by
  obtain ⟨m, o, kvs⟩ := x
  unfold skT
  dsimp only
  rw [srtZ_eq (srtZ_perm kvs) ((srtZ_perm kvs).map (·.1) |>.nodup_iff.mpr nd)]
end Kb



namespace Kb
open PySem PySem.Spec PyProof.Rows L2 SrtZ SrtO
/-! counts, read behind a change -/
theorem getZ_cons (e : Str × Int) (kvs : Ct) (k : Str) : getZ (e :: kvs) k = if e.1 = k then some e.2 else getZ kvs k := by
  unfold getZ
  by_cases h : e.1 = k
  · rw [List.find?_cons_of_pos (by simpa using h), if_pos h]
    rfl
  · rw [List.find?_cons_of_neg (by simpa using h), if_neg h]
theorem getZ_app (a b : Ct) (k : Str) : getZ (a ++ b) k = (getZ a k).or (getZ b k) := by
  induction a with
  | nil => simp [getZ]
  | cons e a ih =>
    rw [List.cons_append, getZ_cons, getZ_cons, ih]
    split <;> rfl
theorem getZ_repl (kvs : Ct) (n : Str) (v : Int) (k : Str) : getZ (kvs.map fun e => if e.1 = n then (e.1, v) else e) k = if k = n then (getZ kvs n).map fun _ => v else getZ kvs k := by
  induction kvs with
  | nil => simp [getZ]
  | cons e r ih =>
    rw [List.map_cons, getZ_cons, getZ_cons, ih, getZ_cons]
    by_cases h1 : e.1 = n
    · rw [if_pos h1]
      dsimp only
      by_cases h2 : e.1 = k
      · rw [if_pos h2, if_pos (h2.symm.trans h1), if_pos h1]
        rfl
      · rw [if_neg h2, if_neg h2]
        by_cases h3 : k = n
        · exact absurd (h1.trans h3.symm) h2
        · rw [if_neg h3, if_neg h3]
    · rw [if_neg h1]
      by_cases h2 : e.1 = k
      · rw [if_pos h2, if_neg (fun z => h1 (h2.trans z)), if_pos h2]
      · rw [if_neg h2, if_neg h2, if_neg h1]
theorem getZ_put (kvs : Ct) (n : Str) (v : Int) (k : Str) : getZ (putZ kvs n v) k = if k = n then some v else getZ kvs k := by
  unfold putZ
  rw [any_getZ]
  cases h : getZ kvs n with
  | some u =>
    rw [if_pos (show (some u).isSome = true from rfl), getZ_repl, h]
    rfl
  | none =>
    rw [if_neg (show ¬ (none : Option Int).isSome = true by decide), getZ_app]
    by_cases e : k = n
    · subst e
      rw [h, if_pos rfl, getZ_cons, if_pos rfl]
      rfl
    · rw [if_neg e, getZ_cons, if_neg (Ne.symm e)]
      cases getZ kvs k <;> rfl
theorem getZ_take {a : Int} : ∀ {kvs : Ct}, NdZ kvs → ∀ k, getZ (takeZ a kvs) k = (getZ kvs k).bind fun v => if a < v then some (v - a) else none
  | [], _, k => rfl
  | e :: r, nd, k => by
    unfold NdZ at nd
    rw [List.map_cons, List.nodup_cons] at nd
    have ih := getZ_take (a := a) (kvs := r) nd.2 k
    have hno : e.1 = k → getZ r k = none := fun h => getZ_none.mpr (h ▸ nd.1)
    unfold takeZ at ih ⊢
    by_cases h : a < e.2
    · rw [List.filter_cons_of_pos (by simpa using h), List.map_cons, getZ_cons, getZ_cons]
      by_cases h2 : e.1 = k
      · rw [if_pos h2, if_pos h2]
        show some (e.2 - a) = if a < e.2 then _ else _
        rw [if_pos h]
      · rw [if_neg h2, if_neg h2]
        exact ih
    · rw [List.filter_cons_of_neg (by simpa using h), ih, getZ_cons]
      by_cases h2 : e.1 = k
      · rw [if_pos h2, hno h2]
        show none = if a < e.2 then _ else _
        rw [if_neg h]
      · rw [if_neg h2]
theorem putZ_putZ (kvs : Ct) (n : Str) (u v : Int) : putZ (putZ kvs n u) n v = putZ kvs n v := by
  cases h : getZ kvs n with
  | some g =>
    have e : ∀ w : Int, putZ kvs n w = kvs.map fun e => if e.1 = n then (e.1, w) else e := fun w => by
      unfold putZ
      rw [any_getZ, h, if_pos (show (some g).isSome = true from rfl)]
    rw [e u, e v]
    unfold putZ
    rw [any_getZ, getZ_repl, if_pos rfl, h, if_pos (show ((some g).map fun _ => u).isSome = true from rfl), List.map_map]
    refine List.map_congr_left fun e _ => ?_
    show (if (if e.1 = n then (e.1, u) else e).1 = n then ((if e.1 = n then (e.1, u) else e).1, v) else (if e.1 = n then (e.1, u) else e)) = _
    by_cases h1 : e.1 = n
    · rw [if_pos h1, if_pos h1, if_pos h1]
    · rw [if_neg h1, if_neg h1]
  | none =>
    rw [putZ_new h, putZ_new h]
    have hz := getZ_none.mp h
    unfold putZ
    rw [any_getZ, getZ_app, h, getZ_cons, if_pos rfl, if_pos (show ((none : Option Int).or (some u)).isSome = true from rfl), List.map_append]
    congr 1
    · have : ∀ e ∈ kvs, (if e.1 = n then (e.1, v) else e) = e := fun e he => by
        rw [if_neg (fun q => hz (List.mem_map.mpr ⟨e, he, q⟩))]
      rw [List.map_congr_left this, List.map_id']
    · show [if n = n then (n, v) else (n, u)] = _
      rw [if_pos rfl]
theorem addZ_addZ (kvs : Ct) (n : Str) (c e : Int) : addZ (addZ kvs n c) n e = addZ kvs n (c + e) := by
  unfold addZ
  rw [getZ_put, if_pos rfl, putZ_putZ]
  show putZ kvs n ((getZ kvs n).getD 0 + c + e) = _
  rw [Int.add_assoc]
theorem takeZ_takeZ {a b : Int} (hb : 0 ≤ b) : ∀ kvs : Ct, takeZ b (takeZ a kvs) = takeZ (a + b) kvs
  | [] => rfl
  | e :: r => by
    have ih := takeZ_takeZ hb (a := a) r
    unfold takeZ at ih ⊢
    by_cases h : a < e.2
    · rw [List.filter_cons_of_pos (by simpa using h), List.map_cons]
      by_cases h2 : a + b < e.2
      · rw [List.filter_cons_of_pos (by simp; omega), List.map_cons, ih, List.filter_cons_of_pos (by simpa using h2), List.map_cons]
        congr 2
        show e.2 - a - b = e.2 - (a + b)
        omega
      · rw [List.filter_cons_of_neg (by simp; omega), ih, List.filter_cons_of_neg (by simpa using h2)]
    · rw [List.filter_cons_of_neg (by simpa using h), ih, List.filter_cons_of_neg (by simp; omega)]
theorem takeZ_zero : ∀ {kvs : Ct}, (∀ e ∈ kvs, 1 ≤ e.2) → takeZ 0 kvs = kvs
  | [], _ => rfl
  | e :: r, h => by
    have ih := takeZ_zero (kvs := r) fun f hf => h f (List.mem_cons_of_mem _ hf)
    have h1 := h e List.mem_cons_self
    unfold takeZ at ih ⊢
    rw [List.filter_cons_of_pos (by simp; omega), List.map_cons, ih]
    congr 1
    show (e.1, e.2 - 0) = e
    rw [Int.sub_zero]
/-- less than the least is taken off: all stay -/
theorem takeZ_all : ∀ {kvs : Ct} {c : Int}, (∀ e ∈ kvs, c < e.2) → takeZ c kvs = kvs.map fun e => (e.1, e.2 - c)
  | [], _, _ => rfl
  | e :: r, c, h => by
    have ih := takeZ_all (kvs := r) (c := c) fun f hf => h f (List.mem_cons_of_mem _ hf)
    unfold takeZ at ih ⊢
    rw [List.filter_cons_of_pos (by simpa using h e List.mem_cons_self), List.map_cons, ih]
    rfl
theorem sumC_cons' (e : Str × Int) (kvs : Ct) : sumC (e :: kvs) = e.2 + sumC kvs := by
  unfold sumC
  rw [List.map_cons, List.sum_cons]
theorem sumC_perm' {a b : Ct} (p : a.Perm b) : sumC a = sumC b := by
  induction p with
  | nil => rfl
  | cons x _ ih => rw [sumC_cons', sumC_cons', ih]
  | swap x y l =>
    rw [sumC_cons', sumC_cons', sumC_cons', sumC_cons']
    omega
  | trans _ _ ih1 ih2 => rw [ih1, ih2]
theorem sumC_app : ∀ a b : Ct, sumC (a ++ b) = sumC a + sumC b
  | [], b => by show sumC b = 0 + sumC b; omega
  | e :: a, b => by
    rw [List.cons_append, sumC_cons', sumC_cons', sumC_app a b]
    omega
theorem sumC_repl {n : Str} {v : Int} : ∀ {kvs : Ct} {g : Int}, NdZ kvs → getZ kvs n = some g → sumC (kvs.map fun e => if e.1 = n then (e.1, v) else e) = sumC kvs + (v - g)
  | [], _, _, h => by cases h
  | e :: r, g, nd, h => by
    unfold NdZ at nd
    rw [List.map_cons, List.nodup_cons] at nd
    rw [getZ_cons] at h
    rw [List.map_cons, sumC_cons', sumC_cons']
    by_cases h1 : e.1 = n
    · rw [if_pos h1] at h ⊢
      have : ∀ f ∈ r, (if f.1 = n then (f.1, v) else f) = f := fun f hf => by
        rw [if_neg (fun q => nd.1 (List.mem_map.mpr ⟨f, hf, q.trans h1.symm⟩))]
      rw [List.map_congr_left this, List.map_id']
      have := Option.some.inj h
      show v + _ = _
      omega
    · rw [if_neg h1] at h ⊢
      rw [sumC_repl nd.2 h]
      omega
theorem sumC_add {kvs : Ct} {n : Str} {c : Int} (nd : NdZ kvs) : sumC (addZ kvs n c) = sumC kvs + c := by
  unfold addZ putZ
  rw [any_getZ]
  cases h : getZ kvs n with
  | some g =>
    rw [if_pos (show (some g).isSome = true from rfl), sumC_repl nd h]
    show _ + (g + c - g) = _
    omega
  | none =>
    rw [if_neg (show ¬ (none : Option Int).isSome = true by decide), sumC_app]
    show sumC kvs + (0 + c + 0) = _
    omega
theorem sumC_take1 : ∀ {kvs : Ct}, (∀ e ∈ kvs, 1 ≤ e.2) → sumC (takeZ 1 kvs) = sumC kvs - (kvs.length : Int)
  | [], _ => rfl
  | e :: r, h => by
    have ih := sumC_take1 (kvs := r) fun f hf => h f (List.mem_cons_of_mem _ hf)
    have h1 := h e List.mem_cons_self
    rw [sumC_cons', List.length_cons]
    unfold takeZ at ih ⊢
    by_cases h2 : 1 < e.2
    · rw [List.filter_cons_of_pos (by simpa using h2), List.map_cons, sumC_cons', ih]
      show e.2 - 1 + _ = _
      omega
    · rw [List.filter_cons_of_neg (by simpa using h2), ih]
      omega
theorem full_of {r : Int} {n : Str} {kvs : Ct} (h : full r n kvs = true) : getZ kvs n = none ∧ (kvs.length : Int) = r := by
  unfold full at h
  rw [Bool.and_eq_true] at h
  refine ⟨?_, of_decide_eq_true h.2⟩
  cases e : getZ kvs n with
  | none => rfl
  | some _ =>
    rw [e] at h
    exact absurd h.1 (by intro z; cases z)
theorem full_yes {r : Int} {n : Str} {kvs : Ct} (h : getZ kvs n = none) (h2 : (kvs.length : Int) = r) : full r n kvs = true := by
  unfold full
  rw [h, decide_eq_true h2]
  rfl
theorem full_no' {r : Int} {n : Str} {kvs : Ct} (h : (getZ kvs n).isSome = true ∨ ¬ (kvs.length : Int) = r) : full r n kvs = false := by
  unfold full
  rcases h with h | h
  · rw [h]
    rfl
  · rw [decide_eq_false h, Bool.and_false]
theorem mn_pos {kvs : Ct} (ne : kvs ≠ []) (pos : ∀ e ∈ kvs, 1 ≤ e.2) : 1 ≤ mnC kvs := by
  obtain ⟨h, _⟩ := mnC_spec ne
  obtain ⟨e, he, h⟩ := List.mem_map.mp h
  rw [← h]
  exact pos e he
theorem ne_of_full {r : Int} {kvs : Ct} (hr : 1 ≤ r) (h : (kvs.length : Int) = r) : kvs ≠ [] := by
  rintro rfl
  have : (0 : Int) = r := h
  omega
theorem feed_lt {r c m o : Int} {n : Str} {kvs : Ct} (hf : full r n kvs = true) (hc : c ≤ mnC kvs) : feedT r n c ⟨m, o, kvs⟩ = ⟨m + c, o + c, takeZ c kvs⟩ := by
  unfold feedT
  dsimp only
  rw [hf, if_pos rfl, if_neg (show ¬ mnC kvs < c by omega), if_neg (show ¬ 0 < c - c by omega)]
theorem feed_gt {r c m o : Int} {n : Str} {kvs : Ct} (hf : full r n kvs = true) (hc : mnC kvs < c) : feedT r n c ⟨m, o, kvs⟩ = ⟨m + c, o + mnC kvs, addZ (takeZ (mnC kvs) kvs) n (c - mnC kvs)⟩ := by
  unfold feedT
  dsimp only
  rw [hf, if_pos rfl, if_pos hc, if_pos (show 0 < c - mnC kvs by omega)]
theorem feed_add {r c m o : Int} {n : Str} {kvs : Ct} (hf : full r n kvs = false) (hc : 0 < c) : feedT r n c ⟨m, o, kvs⟩ = ⟨m + c, o, addZ kvs n c⟩ := by
  unfold feedT
  dsimp only
  rw [hf, if_neg (by decide), if_pos hc]
theorem feed_zero {r : Int} {n : Str} {x : Tl} (ok : TlOk r x) (hr : 1 ≤ r) : feedT r n 0 x = x := by
  obtain ⟨m, o, kvs⟩ := x
  cases hf : full r n kvs with
  | true =>
    obtain ⟨_, hl⟩ := full_of hf
    have h1 := mn_pos (ne_of_full hr hl) ok.pos
    rw [feed_lt hf (by omega), takeZ_zero ok.pos, Int.add_zero, Int.add_zero]
  | false =>
    unfold feedT
    dsimp only
    rw [hf, if_neg (by decide), if_neg (by decide), Int.add_zero]
theorem full_added {r c : Int} {n : Str} {kvs : Ct} : full r n (addZ kvs n c) = false := full_no' (.inl (by unfold addZ; rw [getZ_put, if_pos rfl]; rfl))
theorem full_less {r : Int} {n : Str} {kvs : Ct} (hr : 1 ≤ r) (hl : (kvs.length : Int) = r) : full r n (takeZ (mnC kvs) kvs) = false := full_no' (.inr (by have := takeZ_less (ne_of_full hr hl); omega))
theorem feed_iter {r c : Int} {n : Str} {x : Tl} (ok : TlOk r x) (hr : 1 ≤ r) (hc : 0 ≤ c) : feedT r n (c + 1) x = feedT r n 1 (feedT r n c x) := by
  obtain ⟨m, o, kvs⟩ := x
  have ok0 := ok
  obtain ⟨nd, len, pos, nm⟩ := ok
  dsimp only at nd len pos nm
  have e0 : m + (c + 1) = m + c + 1 := by omega
  by_cases h0 : 0 < c
  · cases hf : full r n kvs with
    | false => rw [feed_add hf (by omega), feed_add hf h0, feed_add full_added (by decide), addZ_addZ, e0]
    | true =>
      obtain ⟨hg, hl⟩ := full_of hf
      have ne := ne_of_full hr hl
      obtain ⟨hm, hle⟩ := mnC_spec ne
      by_cases hcm : c < mnC kvs
      · have hall : ∀ e ∈ kvs, c < e.2 := fun e he => by
          have := hle e.2 (List.mem_map.mpr ⟨e, he, rfl⟩)
          omega
        have ht := takeZ_all hall
        have hy : full r n (takeZ c kvs) = true := full_yes (by rw [getZ_take nd, hg]; rfl) (by rw [ht, List.length_map]; exact hl)
        have hmn : mnC (takeZ c kvs) = mnC kvs - c := by
          refine (mnC_uniq ?_ fun y hy => ?_).symm
          · rw [ht, List.map_map]
            obtain ⟨e, he, h⟩ := List.mem_map.mp hm
            exact List.mem_map.mpr ⟨e, he, by show e.2 - c = _; rw [h]⟩
          · rw [ht, List.map_map] at hy
            obtain ⟨e, he, rfl⟩ := List.mem_map.mp hy
            have := hle e.2 (List.mem_map.mpr ⟨e, he, rfl⟩)
            show mnC kvs - c ≤ e.2 - c
            omega
        rw [feed_lt hf (by omega), feed_lt hf (by omega), feed_lt hy (by omega), takeZ_takeZ (by decide), e0, Int.add_assoc o c 1]
      · by_cases hcm2 : c = mnC kvs
        · rw [feed_gt hf (by omega), feed_lt hf (by omega), hcm2, feed_add (full_less hr hl) (by decide), ← hcm2, e0]
          congr 2
          omega
        · rw [feed_gt hf (by omega), feed_gt hf (by omega), feed_add full_added (by decide), addZ_addZ, e0]
          congr 2
          omega
  · have : c = 0 := by omega
    subst this
    rw [feed_zero ok0 hr]
    rfl
/-! what feeding leaves true -/
/-- of an exact stream: so much was taken off -/
structure Fd (r : Int) (x : Tl) : Prop where
  lost : x.m - sumC x.c = (r + 1) * x.o
  off : 0 ≤ x.o
theorem fd0 (r : Int) : Fd r tl0 := ⟨by show (0 : Int) - 0 = (r + 1) * 0; rw [Int.mul_zero]; rfl, Int.le_refl _⟩
theorem fd_feed {r : Int} {n : Str} {x : Tl} (ok : TlOk r x) (hr : 1 ≤ r) (h : Fd r x) : Fd r (feedT r n 1 x) := by
  obtain ⟨m, o, kvs⟩ := x
  obtain ⟨hl, ho⟩ := h
  dsimp only at hl ho
  cases hf : full r n kvs with
  | false =>
    rw [feed_add hf (by decide)]
    refine ⟨?_, ho⟩
    show m + 1 - sumC (addZ kvs n 1) = _
    rw [sumC_add (show NdZ kvs from ok.nd)]
    show _ = (r + 1) * o
    omega
  | true =>
    obtain ⟨hg, hlen⟩ := full_of hf
    have m1 := mn_pos (ne_of_full hr hlen) ok.pos
    rw [feed_lt hf (by omega)]
    refine ⟨?_, by dsimp only; omega⟩
    show m + 1 - sumC (takeZ 1 kvs) = (r + 1) * (o + 1)
    rw [sumC_take1 (show ∀ e ∈ kvs, 1 ≤ e.2 from ok.pos), Int.mul_add, ← hl, hlen]
    omega
theorem fd_sk {r : Int} {x : Tl} (ok : TlOk r x) (hr1 : 1 ≤ r) (hr2 : r ≤ 64) (h : Fd r x) (hm : 0 ≤ x.m) : skB r x.m x.o (srtZ x.c) = true := by
  have p := srtZ_perm x.c
  have es : sumC (srtZ x.c) = sumC x.c := sumC_perm' p
  have hl := h.lost
  have ho := h.off
  have h2 : (r + 1) * x.o ≤ 2 * r * x.o := Int.mul_le_mul_of_nonneg_right (by omega) ho
  have hlen : ((srtZ x.c).length : Int) ≤ r := by rw [p.length_eq]; exact ok.len
  unfold skB
  rw [es, hl, decide_eq_true hr1, decide_eq_true hr2, decide_eq_true hm, decide_eq_true ho, decide_eq_true hlen, decide_eq_true (Int.le_refl _), decide_eq_true h2]
  rfl
def gd (kvs : Ct) (k : Str) : Int := (getZ kvs k).getD 0
theorem gd_add (kvs : Ct) (n : Str) (c : Int) (k : Str) : gd (addZ kvs n c) k = gd kvs k + if k = n then c else 0 := by
  unfold gd addZ
  rw [getZ_put]
  by_cases h : k = n
  · subst h
    rw [if_pos rfl, if_pos rfl]
    rfl
  · rw [if_neg h, if_neg h, Int.add_zero]
theorem gd_take1 {kvs : Ct} (nd : NdZ kvs) (pos : ∀ e ∈ kvs, 1 ≤ e.2) (k : Str) : gd (takeZ 1 kvs) k = if 0 < gd kvs k then gd kvs k - 1 else 0 := by
  unfold gd
  rw [getZ_take nd]
  cases h : getZ kvs k with
  | none => rfl
  | some v =>
    have hv : 1 ≤ v := by
      have := getZ_pos (n := k) pos
      unfold getZ at h
      cases hh : kvs.find? fun e => decide (e.1 = k) with
      | none => rw [hh] at h; cases h
      | some e =>
        rw [hh] at h
        have h1 := pos e (List.mem_of_find?_eq_some hh)
        have h2 := Option.some.inj h
        have h3 : e.2 = v := h2
        omega
    show (if 1 < v then some (v - 1) else none).getD 0 = if 0 < v then v - 1 else 0
    rw [if_pos (show 0 < v by omega)]
    by_cases h1 : 1 < v
    · rw [if_pos h1]
      rfl
    · rw [if_neg h1]
      show (0 : Int) = v - 1
      omega
/-- the true counts lie from the kept ones to off above -/
def Tru (kc : Ct) (x : Tl) : Prop := ∀ k, 0 ≤ gd kc k - gd x.c k ∧ gd kc k - gd x.c k ≤ x.o
theorem tru0 : Tru [] tl0 := fun k => ⟨Int.le_refl _, Int.le_refl _⟩
theorem tru_feed {r : Int} {n : Str} {x : Tl} {kc : Ct} (ok : TlOk r x) (hr : 1 ≤ r) (h : Tru kc x) : Tru (addZ kc n 1) (feedT r n 1 x) := by
  obtain ⟨m, o, kvs⟩ := x
  intro k
  obtain ⟨a, b⟩ := h k
  dsimp only at a b
  rw [gd_add]
  cases hf : full r n kvs with
  | false =>
    rw [feed_add hf (by decide)]
    dsimp only
    rw [gd_add]
    omega
  | true =>
    obtain ⟨hg, hlen⟩ := full_of hf
    have m1 := mn_pos (ne_of_full hr hlen) ok.pos
    rw [feed_lt hf (by omega)]
    dsimp only
    rw [gd_take1 (show NdZ kvs from ok.nd) (show ∀ e ∈ kvs, 1 ≤ e.2 from ok.pos)]
    have hp : 0 ≤ gd kvs k := getZ_pos ok.pos
    by_cases hk : k = n
    · subst hk
      have : gd kvs k = 0 := by
        unfold gd
        rw [hg]
        rfl
      rw [if_pos rfl, this, if_neg (by decide)]
      omega
    · rw [if_neg hk]
      split <;> omega
end Kb


namespace Kb
open PySem PySem.Spec PyProof.Rows L2 SrtZ SrtO
abbrev sP_asked : Stmt := topS 27
abbrev NP_asked : List Str := ["question", "part"]
theorem scP_asked : FnScope ["question", "part"] ["question"] (defScope sP_asked) := ⟨rfl, rfl, rfl, by decide +kernel, rfl, by decide +kernel, by decide +kernel⟩
abbrev sP_parted : Stmt := topS 29
abbrev NP_parted : List Str := ["amount", "size", "groups", "part", "many"]
theorem scP_parted : FnScope ["amount", "size", "groups", "part", "many"] ["amount", "size"] (defScope sP_parted) := ⟨rfl, rfl, rfl, by decide +kernel, rfl, by decide +kernel, by decide +kernel⟩
abbrev sP_filled : Stmt := topS 31
abbrev NP_filled : List Str := ["sketch", "question", "names", "size", "off", "left", "taken", "name"]
theorem scP_filled : FnScope ["sketch", "question", "names", "size", "off", "left", "taken", "name"] ["sketch", "question", "names", "size"] (defScope sP_filled) := ⟨rfl, rfl, rfl, by decide +kernel, rfl, by decide +kernel, by decide +kernel⟩
abbrev DnAsked (K : PySem.W.Frag) (mg : Str → Option Value) := Dn K mg "asked" sP_asked ["question"]
abbrev DnParted (K : PySem.W.Frag) (mg : Str → Option Value) := Dn K mg "parted" sP_parted ["amount", "size"]
abbrev DnFilled (K : PySem.W.Frag) (mg : Str → Option Value) := Dn K mg "_filled" sP_filled ["sketch", "question", "names", "size"]
/-! plans as mathematics -/
abbrev qCount : V := .str (Str.ofString "count")
/-- pairs of ints on the heap -/
abbrev PrI (H : Hp) (t : Addr) (e : Int × Int) : Prop := H t = some (.tup [.int e.1, .int e.2])
def groupsZ (a sz : Int) : List (Int × Int) := [(sz, a / sz), (a % sz, 1)]
def okG (e : Int × Int) : Bool := decide (0 < e.1) && decide (0 < e.2)
def partedZ (a sz : Int) : List (Int × Int) := if a = 0 then [] else (groupsZ a sz).filter okG
theorem partedZ_len (a sz : Int) : (partedZ a sz).length ≤ 2 := by
  unfold partedZ
  split
  · exact Nat.zero_le _
  · exact Nat.le_trans (List.length_filter_le _ _) (Nat.le_refl 2)
/-- what is taken from these names, one behind another, and what is left -/
def fillZ (off : Int) : List Str → Ct × Int → Ct × Int
  | [], x => x
  | n :: r, x => fillZ off r (putZ x.1 n (if x.2 < off then x.2 else off), x.2 - (if x.2 < off then x.2 else off))
def nullZ : List Str → Ct → Ct
  | [], d => d
  | n :: r, d => nullZ r (putZ d n 0)
theorem nullZ_snoc (n : Str) : ∀ (zs : List Str) (d : Ct), nullZ (zs ++ [n]) d = putZ (nullZ zs d) n 0
  | [], _ => rfl
  | z :: r, d => nullZ_snoc n r (putZ d z 0)
theorem fillZ_snoc (off : Int) (n : Str) : ∀ (zs : List Str) (x : Ct × Int), fillZ off (zs ++ [n]) x = fillZ off [n] (fillZ off zs x)
  | [], _ => rfl
  | z :: r, x => fillZ_snoc off n r _
theorem nullZ_len : ∀ (zs : List Str) (d : Ct), (nullZ zs d).length ≤ d.length + zs.length
  | [], _ => Nat.le_refl _
  | z :: r, d => by
    have := nullZ_len r (putZ d z 0)
    have := putZ_len (kvs := d) (n := z) (v := 0)
    show (nullZ r (putZ d z 0)).length ≤ d.length + (r.length + 1)
    omega
theorem fillZ_len (off : Int) : ∀ (zs : List Str) (x : Ct × Int), (fillZ off zs x).1.length ≤ x.1.length + zs.length
  | [], _ => Nat.le_refl _
  | z :: r, x => by
    have := fillZ_len off r (putZ x.1 z (if x.2 < off then x.2 else off), x.2 - (if x.2 < off then x.2 else off))
    have := putZ_len (kvs := x.1) (n := z) (v := if x.2 < off then x.2 else off)
    dsimp only at *
    show (fillZ off r _).1.length ≤ x.1.length + (r.length + 1)
    omega
theorem fillZ_left {off : Int} (h0 : 0 ≤ off) : ∀ (zs : List Str) (x : Ct × Int), 0 ≤ x.2 → 0 ≤ (fillZ off zs x).2 ∧ (fillZ off zs x).2 ≤ x.2
  | [], x, h => ⟨h, Int.le_refl _⟩
  | z :: r, x, h => by
    have := fillZ_left h0 r (putZ x.1 z (if x.2 < off then x.2 else off), x.2 - (if x.2 < off then x.2 else off)) (by dsimp only; split <;> omega)
    dsimp only at this
    show 0 ≤ (fillZ off r _).2 ∧ (fillZ off r _).2 ≤ x.2
    refine ⟨this.1, ?_⟩
    have h2 := this.2
    split at h2 <;> omega
/-- a sketch on the heap, anywhere -/
structure SkC (K : PySem.W.Frag) (H : Hp) (s : Addr) (r m o : Int) (kvs : Ct) : Prop where
  ob : ∃ (k : Addr) (ts : List Addr), SqT K H s [.int r, .int m, .int o, .ref k] ∧ Ptp H k (ts.map V.ref) ∧ Paired (PrAt K H) ts kvs
theorem SkC.same {K : PySem.W.Frag} {H H' : Hp} {s : Addr} {r m o : Int} {kvs : Ct} (h : SkC K H s r m o kvs) (y : Same H H') : SkC K H' s r m o kvs := by
  obtain ⟨k, ts, h1, h2, h3⟩ := h.ob
  exact ⟨k, ts, seqT h1 y, h2.same y, paired_imp (fun t e h => seqT h y) h3⟩
/-- it is a sketch -/
structure SkG (r m o : Int) (kvs : Ct) : Prop where
  r1 : 1 ≤ r
  r64 : r ≤ 64
  m0 : 0 ≤ m
  o0 : 0 ≤ o
  cts : Cts kvs
  len : (kvs.length : Int) ≤ r
  lo : (r + 1) * o ≤ m - sumC kvs
  hi : m - sumC kvs ≤ 2 * r * o
  big : m < 2 ^ 100
theorem SkC.of {K : PySem.W.Frag} {H : Hp} {s : Addr} {r : Int} {x : Tl} (h : SkAt H s r x) : SkC K H s r x.m x.o (srtZ x.c) := by
  obtain ⟨k, ts, h1, h2, h3⟩ := h
  exact ⟨k, ts, .inl (.inl h1), h2, paired_imp (fun t e h => .inl (.inl h)) h3⟩
section
variable {P : Program} {w : World} {K : PySem.W.Frag} {mg : Str → Option Value} {base : Heap}
/-! asked, of count questions -/
def spAsked (K : PySem.W.Frag) : Sp := fun vs H Q _ => ∃ (q : Addr) (z : Str), vs = [.ref q] ∧ SqT K H q [qCount, .str z] ∧ ∀ H' p, Same H H' → H' p = some (.tup [.str z]) → Q (.ref p) H'
theorem ok_asked (T : Blt mg) (d : DnAsked K mg) : FnOk P w K mg base CX0 1 d.f d.fd ["question"] (spAsked K) := by
  refine d.F.ok scP_asked (fun vs H Q E h => ?_) (fun cdv A outer s H vs Q E hr h => ?_)
  · obtain ⟨q, z, rfl, _⟩ := h
    rfl
  · obtain ⟨q, z, rfl, hq, k⟩ := h
    refine ⟨_, (pss_cons (ps_if (pt_cmpR op_eq (pe_ix ix_tup (pv 0) pe_int (fun _ _ => rfl)) pe_str (nomark _))
      (pss_one ps_never)
      pss_nil)
    (pss_one (ps_ret (pe_callTy call_tuple_of (by rfl) T.n_tuple (by decide +kernel) (pa_cons (pe_lc (own := [("part", 1)]) (g := gName 1) rfl scP_asked.nd (pi_tup (pe_slice sl_tup (pv 0) (po_some pe_int) po_none)) (blkOk_by (N := NP_asked) (sc := defScope sP_asked) (by decide +kernel)) (fun _ _ _ _ _ => pg_name (i := 1) scP_asked.nd rfl (Or.inl rfl)) (fun _ _ _ _ _ => pts_one (pt_val (pe_callB (r := rIsi K) call_isi (by rfl) T.n_isinstance (show bootBuiltins (Str.ofString "isinstance") = some (Value.builtin "isinstance") by decide +kernel) (pa_cons (pv 1) (pa_cons (pe_bltn (v := .ty "str") (by rfl) T.n_str (by decide +kernel) rfl) pa_nil))))) (fun _ _ _ _ _ => (pv 1))) pa_nil))))), ?_⟩
    refine ⟨.ref q, rfl, q, _, _, _, rfl, rfl, hq, atI_nat (j := 0) rfl, rfl, false, congrArg V.bl (decide_eq_false (by decide +kernel)), iteF ?_⟩
    refine ⟨.ref q, rfl, 1, rfl, q, _, rfl, hq, fun z => absurd (show HT.sIx 2 0 (some 1) = 0 from z.1) (by decide +kernel), fun p np => ?_⟩
    rw [show cutV [qCount, V.str z] (some 1) none = [V.str z] from rfl]
    refine ⟨p, rfl, ⟨_, .inl (.inl upd_same)⟩, fun D nD => ?_⟩
    have pD : p ≠ D := ne_of_none upd_same nD
    have s1 : Same H (upd (upd H p (.tup [.str z])) D (.lst [])) := Same.new (same_upd np) nD
    have hp1 : (upd (upd H p (.tup [.str z])) D (.lst [])) p = some (.tup [.str z]) := by rw [upd_ne pD]; exact upd_same
    refine lc_tup (xs := [.str z]) (fun i H3 => Same H H3 ∧ H3 p = some (.tup [.str z]) ∧ H3 D = some (.lst (([V.str z]).take i))) ⟨s1, hp1, upd_same⟩ (fun i H3 _ h3 => .inl (.inl h3.2.1)) (fun i x H3 hx h3 => ?_) (fun H3 h3 => ?_)
    · match i, hx with
      | 0, hx =>
        cases hx
        refine ⟨rfl, .str z, rfl, .str z, _, _, _, true, rfl, .ty "str", .base (.str z), kit_ty (by decide +kernel), true, rfl, iteT ?_⟩
        refine ⟨.str z, rfl, _, h3.2.2, (by show 0 < sizeLine; decide), fun b o e => ?_, by rw [upd_ne pD]; exact h3.2.1, by rw [upd_same]; rfl⟩
        rw [upd_ne (ne_of_none e (Same.gone (same_upd np) nD))]
        exact h3.1 b o e
      | i + 1, hx => simp at hx
    · refine ⟨D, _, rfl, .inl ⟨sql h3.2.2, fun u nu => ?_⟩⟩
      exact k _ u (Same.new h3.1 nu) upd_same
/-! parted -/
def spParted : Sp := fun vs H Q _ => ∃ (a sz : Int), vs = [.int a, .int sz] ∧ 0 ≤ a ∧ (a = 0 ∨ (0 < sz ∧ sz < 2 ^ 100)) ∧ ∀ H' p (ts : List Addr), Same H H' → H p = none → H' p = some (.lst (ts.map V.ref)) → Paired (PrI H') ts (partedZ a sz) → Q (.ref p) H'
theorem ok_parted (T : Blt mg) (d : DnParted K mg) : FnOk P w K mg base CX0 1 d.f d.fd ["amount", "size"] spParted := by
  refine d.F.ok scP_parted (fun vs H Q E h => ?_) (fun cdv A outer s H vs Q E hr h => ?_)
  · obtain ⟨a, sz, rfl, _⟩ := h
    rfl
  · obtain ⟨a, sz, rfl, ha, hsz, k⟩ := h
    refine ⟨_, (pss_cons (ps_if (pt_cmpR op_eq (pv 0) pe_int (nomark _))
      (pss_one (ps_ret (pe_lst pa_nil)))
      pss_nil)
    (pss_cons (ps_set (i := 2) scP_parted.nd rfl (Or.inl rfl) (pe_lst (pa_cons (pe_tup (pa_cons (pv 1) (pa_cons (pe_op op_fdivW (pv 0) (pv 1)) pa_nil))) (pa_cons (pe_tup (pa_cons (pe_op op_mod (pv 0) (pv 1)) (pa_cons pe_int pa_nil))) pa_nil))))
    (pss_one (ps_ret (pe_lc (own := [("part", 3), ("many", 4)]) (g := gTup K 2 (gCons (gName 3) (gCons (gName 4) gNil))) rfl scP_parted.nd (pi_list (pv 2)) (blkOk_by (N := NP_parted) (sc := defScope sP_parted) (by decide +kernel)) (fun _ _ _ _ _ => pg_tup (by rfl) (pgs_cons (pg_name (i := 3) scP_parted.nd rfl (Or.inl rfl)) (pgs_cons (pg_name (i := 4) scP_parted.nd rfl (Or.inl rfl)) pgs_nil))) (fun _ _ _ _ _ => pts_one (PW.pt (pw_and (pt_cmpR op_gt (pv 3) pe_int (nomark _)) (pw_and1 (pt_cmpR op_gt (pv 4) pe_int (nomark _)))))) (fun _ _ _ _ _ => (pe_tup (pa_cons (pv 3) (pa_cons (pv 4) pa_nil))))))))), ?_⟩
    refine ⟨.int a, rfl, rfl, _, rfl, ?_⟩
    by_cases h0 : a = 0
    · rw [show decide (V.int a = V.int 0) = true from decide_eq_true (by rw [h0])]
      refine iteT ⟨(by show 0 ≤ sizeLine; decide), fun p np => k _ p [] (same_upd np) np upd_same ?_⟩
      unfold partedZ
      rw [if_pos h0]
      exact .nil
    · rw [show decide (V.int a = V.int 0) = false from decide_eq_false (by intro z; injection z with z; exact h0 z)]
      obtain ⟨h1, h2⟩ : 0 < sz ∧ sz < 2 ^ 100 := by
        rcases hsz with h | h
        · exact absurd h h0
        · exact h
      refine iteF ⟨.int sz, rfl, .int a, rfl, .int sz, rfl, _, _, rfl, rfl, wide_div (b := 100) h1 (by omega) (by decide) (by decide), (by show 2 ≤ sizeLine; decide), fun t1 n1 => ?_⟩
      refine ⟨.int a, rfl, .int sz, rfl, _, _, rfl, rfl, h1, (by show 2 ≤ sizeLine; decide), fun t2 n2 => ⟨(by show 2 ≤ sizeLine; decide), fun l nl => ?_⟩⟩
      have s1 : Same H (upd (upd (upd H t1 (.tup [.int sz, .int (a / sz)])) t2 (.tup [.int (a % sz), .int 1])) l (.lst [.ref t1, .ref t2])) := Same.new (Same.new (same_upd n1) n2) nl
      have g1 := Same.new (o := .lst [.ref t1, .ref t2]) (same_upd (o := .tup [.int (a % sz), .int 1]) n2) nl t1 _ upd_same
      have g2 := same_upd (o := .lst [.ref t1, .ref t2]) nl t2 _ (upd_same (H := upd H t1 (.tup [.int sz, .int (a / sz)])))
      have gl : (upd (upd (upd H t1 (.tup [.int sz, .int (a / sz)])) t2 (.tup [.int (a % sz), .int 1])) l (.lst [.ref t1, .ref t2])) l = some (.lst [.ref t1, .ref t2]) := upd_same
      generalize upd (upd (upd H t1 (.tup [.int sz, .int (a / sz)])) t2 (.tup [.int (a % sz), .int 1])) l (.lst [.ref t1, .ref t2]) = H1 at s1 g1 g2 gl ⊢
      refine ⟨.ref l, rfl, l, rfl, ⟨_, sql gl⟩, fun D nD => ?_⟩
      have nD0 : H D = none := Same.gone s1 nD
      have hp : Paired (PrI H1) [t1, t2] (groupsZ a sz) := .cons g1 (.cons g2 .nil)
      refine lc_list (xs := [.ref t1, .ref t2]) (fun i H3 => Same H1 H3 ∧ ∃ ts : List Addr, H3 D = some (.lst (ts.map V.ref)) ∧ Paired (PrI H3) ts (((groupsZ a sz).take i).filter okG)) ⟨same_upd nD, [], upd_same, .nil⟩ (fun i H3 _ h3 => sql (h3.1 _ _ gl)) (fun i x H3 hx h3 => ?_) (fun H3 h3 => ?_)
      · obtain ⟨s3, ts, hD, hts⟩ := h3
        obtain ⟨t, ht, rfl⟩ := map_at (f := V.ref) (xs := [t1, t2]) hx
        obtain ⟨e, he, hat⟩ := paired_at hp ht
        have hat3 : PrI H3 t e := s3 _ _ hat
        have hi : i < 2 := (List.getElem?_eq_some_iff.mp ht).1
        have tk : (groupsZ a sz).take (i + 1) = (groupsZ a sz).take i ++ [e] := by rw [List.take_add_one, he]; rfl
        have hl2 : ts.length ≤ 2 := by
          rw [Paired.length hts]
          refine Nat.le_trans (List.length_filter_le _ _) ?_
          rw [List.length_take]
          omega
        have no : okG e = false → (((groupsZ a sz).take (i + 1)).filter okG) = (((groupsZ a sz).take i).filter okG) := fun h => by
          rw [tk, List.filter_append, List.filter_cons_of_neg (by rw [h]; decide)]
          exact List.append_nil _
        refine ⟨t, _, rfl, .inl (.inl hat3), rfl, _, _, rfl, _, _, rfl, rfl, rfl, .int e.1, rfl, _, _, rfl, rfl, _, rfl, ?_⟩
        refine ite2 (fun h1 => ?_) fun h1 => ?_
        · refine ⟨.int e.2, rfl, _, _, rfl, rfl, _, rfl, ?_⟩
          refine ite2 (fun h2 => ?_) fun h2 => ?_
          · refine ⟨.int e.1, rfl, .int e.2, rfl, (by show 2 ≤ sizeLine; decide), fun u nu => ?_⟩
            have hk : okG e = true := by
              unfold okG
              rw [Bool.and_eq_true]
              exact ⟨h1, h2⟩
            have uD : u ≠ D := (ne_of_none hD nu).symm
            refine ⟨_, by rw [upd_ne uD.symm]; exact hD, by rw [List.length_map, sizeLine_eq]; omega, fun b o e' => ?_, ts ++ [u], by rw [upd_same, List.map_append]; rfl, ?_⟩
            · rw [upd_ne (ne_of_none e' nD), upd_ne (ne_of_none (s3 _ _ e') nu)]
              exact s3 _ _ e'
            · rw [tk, List.filter_append, List.filter_cons_of_pos (by exact hk)]
              refine paired_snoc (paired_imp (fun t' e' h => ?_) hts) ?_
              · show upd _ D _ t' = _
                rw [upd_ne (ne_of h hD (by intro z; cases z)), upd_ne (ne_of_none h nu)]
                exact h
              · show upd _ D _ u = _
                rw [upd_ne uD]
                exact upd_same
          · exact ⟨s3, ts, hD, by rw [no (by unfold okG; rw [show decide (0 < e.2) = false by simpa using h2, Bool.and_false])]; exact hts⟩
        · exact ⟨s3, ts, hD, by rw [no (by unfold okG; rw [show decide (0 < e.1) = false by simpa using h1, Bool.false_and])]; exact hts⟩
      · obtain ⟨s3, ts, hD, hts⟩ := h3
        refine k H3 D ts (fun b o e => s3 _ _ (s1 _ _ e)) nD0 hD ?_
        unfold partedZ
        rw [if_neg h0]
        exact hts
end
end Kb


namespace Kb
open PySem PySem.Spec PyProof.Rows L2 SrtZ SrtO
/-- a plan on the heap: what is taken, and parts -/
structure PlanAt (H : Hp) (p : Addr) (tk : Ct) (ps : List (Int × Int)) : Prop where
  ob : ∃ (d l : Addr) (ts : List Addr), H p = some (.tup [.ref d, .ref l]) ∧ H d = some (.dK (tk.map entZ)) ∧ H l = some (.lst (ts.map V.ref)) ∧ Paired (PrI H) ts ps
theorem PlanAt.same {H H' : Hp} {p : Addr} {tk : Ct} {ps : List (Int × Int)} (h : PlanAt H p tk ps) (y : Same H H') : PlanAt H' p tk ps := by
  obtain ⟨d, l, ts, h1, h2, h3, h4⟩ := h.ob
  exact ⟨d, l, ts, y _ _ h1, y _ _ h2, y _ _ h3, paired_imp (fun t e h => y _ _ h) h4⟩
def planZ (kvs : Ct) (m off size : Int) (zs ys : List Str) : Ct × List (Int × Int) := ((fillZ off ys (nullZ zs [], m - sumC kvs)).1, partedZ (fillZ off ys (nullZ zs [], m - sumC kvs)).2 size)
section
variable {P : Program} {w : World} {K : PySem.W.Frag} {mg : Str → Option Value} {base : Heap}
/-! _filled -/
def spPFilled (K : PySem.W.Frag) : Sp := fun vs H Q _ => ∃ (s q n : Addr) (r m off size : Int) (kvs : Ct) (z : Str) (ys : List Str), vs = [.ref s, .ref q, .ref n, .int size] ∧ SkC K H s r m off kvs ∧ SkG r m off kvs ∧ SqT K H q [qCount, .str z] ∧ SqT K H n (ys.map V.str) ∧ ys.length ≤ 100 ∧ size < 2 ^ 100 ∧ (0 < size ∨ (fillZ off ys (nullZ [z] [], m - sumC kvs)).2 = 0) ∧
  ∀ H' p, Same H H' → H p = none → PlanAt H' p (planZ kvs m off size [z] ys).1 (planZ kvs m off size [z] ys).2 → Q (.ref p) H'
theorem ok_pfilled (T : Blt mg) (dP_lost_of : DnLostOf K mg) (dP_asked : DnAsked K mg) (dP_parted : DnParted K mg) (d : DnFilled K mg) : FnOk P w K mg base CX0 2 d.f d.fd ["sketch", "question", "names", "size"] (spPFilled K) := by
  have GP_lost_of : FnOk P w K mg base CX0 1 dP_lost_of.f dP_lost_of.fd ["sketch"] (spLostOf K) := ok_lost_of T dP_lost_of
  have GP_asked : FnOk P w K mg base CX0 1 dP_asked.f dP_asked.fd ["question"] (spAsked K) := ok_asked T dP_asked
  have GP_parted : FnOk P w K mg base CX0 1 dP_parted.f dP_parted.fd ["amount", "size"] spParted := ok_parted T dP_parted
  refine d.F.ok scP_filled (fun vs H Q E h => ?_) (fun cdv A outer s H vs Q E hr h => ?_)
  · obtain ⟨s, q, n, r, m, off, size, kvs, z, ys, rfl, _⟩ := h
    rfl
  · obtain ⟨sk, q, n, r, m, off, size, kvs, z, ys, rfl, hs, hg, hq, hn, hyl, hs100, hsz, k⟩ := h
    have hu := hu_of hr
    refine ⟨_, (pss_cons (ps_set (i := 4) scP_filled.nd rfl (Or.inl rfl) (pe_ix ix_tup (pv 0) pe_int (fun _ _ => rfl)))
    (pss_cons (ps_set (i := 5) scP_filled.nd rfl (Or.inl rfl) (pe_call GP_lost_of (hr.mono (by omega)) (by rfl) dP_lost_of.g dP_lost_of.F.kp dP_lost_of.b .nil pass0 (pa_cons (pv 0) pa_nil)))
    (pss_cons (ps_setDc (i := 6) (own := [("name", 7)]) (g := gName 7) (tt := tYes) rfl scP_filled.nd rfl rfl (sw_trueD rfl rfl rfl (by decide +kernel)) (pi_tup (pe_call GP_asked (hr.mono (by omega)) (by rfl) dP_asked.g dP_asked.F.kp dP_asked.b .nil pass0 (pa_cons (pv 1) pa_nil))) (blkOk_by (N := NP_filled) (sc := defScope sP_filled) (by decide +kernel)) (fun _ _ _ _ _ => pg_name (i := 7) scP_filled.nd rfl (Or.inl rfl)) (fun _ _ _ _ _ => pts_nil) (fun _ _ _ _ _ => (pv 7)) (fun _ _ _ _ _ => pe_int))
    (pss_cons (ps_for PassesOwn.never rfl (pi_tup (pv 2)) (pg_name (i := 7) scP_filled.nd rfl (Or.inl rfl))
      (pss_cons (ps_dput hu (pv 6) (pv 7) (pe_callB (call_min2 rfl) (by rfl) T.n_min (by decide +kernel) (pa_cons (pv 4) (pa_cons (pv 5) pa_nil))) rfl)
      (pss_one (ps_aug (i := 5) scP_filled.nd rfl (Or.inl rfl) (pe_dget hu (pv 6) (pv 7) (fun _ _ => rfl)) ip_sub))))
    (pss_one (ps_ret (pe_tup (pa_cons (pv 6) (pa_cons (pe_call GP_parted (hr.mono (by omega)) (by rfl) dP_parted.g dP_parted.F.kp dP_parted.b .nil pass0 (pa_cons (pv 5) (pa_cons (pv 3) pa_nil))) pa_nil))))))))), ?_⟩
    obtain ⟨kk, ts, h1, h2, h3⟩ := hs.ob
    have hlen := hg.len
    have hr64 := hg.r64
    refine ⟨.ref sk, rfl, sk, _, _, _, rfl, rfl, h1, atI_nat (j := 2) rfl, ?_⟩
    refine ⟨.ref sk, rfl, sk, kk, r, m, off, kvs, rfl, h1, ⟨ts, h2.seq, h3⟩, by omega, fun H1 s1 => ?_⟩
    refine ⟨.ref q, rfl, q, z, rfl, seqT hq s1, fun H2 a s2 ha => ?_⟩
    refine ⟨a, rfl, ⟨_, .inl (.inl ha)⟩, fun D nD => ?_⟩
    have s12 : Same H H2 := fun b u e => s2 _ _ (s1 _ _ e)
    have nD0 : H D = none := Same.gone s12 nD
    have aD : a ≠ D := ne_of_none ha nD
    refine dc_it (walk_tup (K := K) (xs := [.str z])) (fun i H3 => Same H2 H3 ∧ H3 D = some (.dK ((nullZ (([z] : List Str).take i) []).map entZ))) ⟨same_upd nD, upd_same⟩ (fun i H3 _ h3 => .inl (.inl (h3.1 _ _ ha))) (fun i x H3 H3' hi h3 y => ?_) (fun H3 h3 => ?_)
    · obtain ⟨rfl, hx⟩ := y
      match i, hx with
      | 0, hx =>
        cases hx
        refine ⟨rfl, .str z, rfl, [], Sum.inr z, rfl, h3.2, by decide, fun b o e => ?_, by rw [upd_same]; rfl⟩
        rw [upd_ne (ne_of_none e nD)]
        exact h3.1 b o e
      | i + 1, hx => simp at hx
    · obtain ⟨s3, hD⟩ := h3
      have s03 : Same H H3 := fun b u e => s3 _ _ (s12 _ _ e)
      refine ⟨.ref n, rfl, n, rfl, ⟨_, seqT hn s03⟩, for_tup (xs := ys.map V.str) (fun i σ H4 => ∃ y7, σ = [some (.ref sk), some (.ref q), some (.ref n), some (.int size), some (.int off), some (.int (fillZ off (ys.take i) (nullZ [z] [], m - sumC kvs)).2), some (.ref D), y7] ∧ Same H H4 ∧ H4 D = some (.dK ((fillZ off (ys.take i) (nullZ [z] [], m - sumC kvs)).1.map entZ)))
        ⟨none, rfl, s03, hD⟩ (fun i σ H4 _ ⟨_, _, s4, _⟩ => seqT hn s4) ?_ ?_⟩
      · rintro i v σ H4 hi ⟨y7, rfl, s4, hD4⟩
        obtain ⟨y, hy, rfl⟩ := map_at hi
        have tk : ys.take (i + 1) = ys.take i ++ [y] := by rw [List.take_add_one, hy]; rfl
        have hlt := (List.getElem?_eq_some_iff.mp hy).1
        have hll := fillZ_len off (ys.take i) (nullZ [z] [], m - sumC kvs)
        rw [List.length_take] at hll
        have h1l : (nullZ [z] []).length ≤ 1 := nullZ_len [z] []
        dsimp only at hll
        have st := fillZ_snoc off y (ys.take i) (nullZ [z] [], m - sumC kvs)
        rw [← tk] at st
        generalize fillZ off (ys.take i) (nullZ [z] [], m - sumC kvs) = x at hD4 hll st ⊢
        have st : fillZ off (ys.take (i + 1)) (nullZ [z] [], m - sumC kvs) = (putZ x.1 y (if x.2 < off then x.2 else off), x.2 - (if x.2 < off then x.2 else off)) := st
        refine ⟨.int off, rfl, .int x.2, rfl, off, x.2, rfl, ?_⟩
        refine ⟨.ref D, rfl, .str y, rfl, D, _, rfl, DPut.k (k := Sum.inr y) hD4 (by rw [List.length_map, sizeLine_eq]; omega), ?_⟩
        rw [putZ_put]
        generalize hw : (if x.2 < off then x.2 else off) = w at st ⊢
        have hD5 : (upd H4 D (.dK ((putZ x.1 y w).map entZ))) D = some (.dK ((putZ x.1 y w).map entZ)) := upd_same
        have s5 : Same H (upd H4 D (.dK ((putZ x.1 y w).map entZ))) := Same.put s4 nD0
        generalize upd H4 D (.dK ((putZ x.1 y w).map entZ)) = H5 at hD5 s5 ⊢
        have gv : valV ((putZ x.1 y w).map entZ) (Sum.inr y : Key) = some (.int w) := by
          rw [getZ_val, getZ_put, if_pos rfl]
          rfl
        have dg : DGet H5 D (.str y) (some (.int w)) := by
          rw [← gv]
          exact DGet.k (k := Sum.inr y) hD5
        refine ⟨.int x.2, rfl, .ref D, rfl, .str y, rfl, D, _, rfl, dg, _, _, rfl, rfl, some (.str y), by rw [st]; rfl, s5, by rw [st]; exact hD5⟩
      · rintro σ H4 ⟨y7, rfl, s4, hD4⟩
        rw [List.length_map, List.take_length] at hD4 ⊢
        have hlo := hg.lo
        have ho := hg.o0
        have hr1 := hg.r1
        have hl0 : 0 ≤ m - sumC kvs := Int.le_trans (Int.mul_nonneg (by omega) ho) hlo
        have hf := fillZ_left ho ys (nullZ [z] [], m - sumC kvs) hl0
        refine ⟨.ref D, rfl, .int _, rfl, .int size, rfl, _, size, rfl, hf.1, ?_, fun H5 l us s5 nl hl hus => ⟨(by show 2 ≤ sizeLine; decide), fun p np => ?_⟩⟩
        · rcases hsz with h | h
          · exact .inr ⟨h, hs100⟩
          · exact .inl h
        · have s45 : Same H4 (upd H5 p (.tup [.ref D, .ref l])) := Same.new s5 np
          have lp : l ≠ p := ne_of_none hl np
          refine k _ p (fun b u e => s45 _ _ (s4 _ _ e)) (Same.gone s4 (Same.gone s5 np)) ⟨D, l, us, upd_same, s45 _ _ hD4, by rw [upd_ne lp]; exact hl, paired_imp (fun t e h => ?_) hus⟩
          show upd H5 p _ t = _
          rw [upd_ne (ne_of_none h np)]
          exact h
end
end Kb


namespace Kb
open PySem PySem.Spec PyProof.Rows L2 SrtZ SrtO
abbrev sP_plans_of : Stmt := topS 30
theorem scP_plans_of : FnScope ["sketch", "question", "off", "word", "spread", "lumped"] ["sketch", "question"] (defScope sP_plans_of) := ⟨rfl, rfl, rfl, by decide +kernel, rfl, by decide +kernel, by decide +kernel⟩
abbrev sP_is_question : Stmt := topS 35
theorem scP_is_question : FnScope ["thing", "word"] ["thing"] (defScope sP_is_question) := ⟨rfl, rfl, rfl, by decide +kernel, rfl, by decide +kernel, by decide +kernel⟩
abbrev sP_worth : Stmt := topS 37
abbrev NP_worth : List Str := ["named", "parts", "question", "word", "groups", "mine", "count", "many", "name", "_"]
theorem scP_worth : FnScope ["named", "parts", "question", "word", "groups", "mine", "count", "many", "name", "_"] ["named", "parts", "question"] (defScope sP_worth) := ⟨rfl, rfl, rfl, by decide +kernel, rfl, by decide +kernel, by decide +kernel⟩
abbrev sP_need_both : Stmt := topS 39
theorem scP_need_both : FnScope ["sketch", "question"] ["sketch", "question"] (defScope sP_need_both) := ⟨rfl, rfl, rfl, by decide +kernel, rfl, by decide +kernel, by decide +kernel⟩
abbrev sP_named : Stmt := topS 40
abbrev NP_named : List Str := ["sketch", "taken", "named", "name", "amount"]
theorem scP_named : FnScope ["sketch", "taken", "named", "name", "amount"] ["sketch", "taken"] (defScope sP_named) := ⟨rfl, rfl, rfl, by decide +kernel, rfl, by decide +kernel, by decide +kernel⟩
abbrev sP_ends : Stmt := topS 41
abbrev NP_ends : List Str := ["sketch", "question", "low", "high", "taken", "parts"]
theorem scP_ends : FnScope ["sketch", "question", "low", "high", "taken", "parts"] ["sketch", "question"] (defScope sP_ends) := ⟨rfl, rfl, rfl, by decide +kernel, rfl, by decide +kernel, by decide +kernel⟩
abbrev DnPlansOf (K : PySem.W.Frag) (mg : Str → Option Value) := Dn K mg "plans_of" sP_plans_of ["sketch", "question"]
abbrev DnIsQuestion (K : PySem.W.Frag) (mg : Str → Option Value) := Dn K mg "is_question" sP_is_question ["thing"]
abbrev DnWorth (K : PySem.W.Frag) (mg : Str → Option Value) := Dn K mg "_worth" sP_worth ["named", "parts", "question"]
abbrev DnNeedBoth (K : PySem.W.Frag) (mg : Str → Option Value) := Dn K mg "_need_both" sP_need_both ["sketch", "question"]
abbrev DnNamed (K : PySem.W.Frag) (mg : Str → Option Value) := Dn K mg "_named" sP_named ["sketch", "taken"]
abbrev DnEnds (K : PySem.W.Frag) (mg : Str → Option Value) := Dn K mg "ends" sP_ends ["sketch", "question"]
/-- what was locked is free again -/
theorem unlock_same {H H3 : Hp} {d : Addr} {u : HO} {od : Obj} (hd : H d = some u) (s : Same (upd H d (.frz od u)) H3) : Same H (upd H3 d u) := fun b o e => by
  by_cases h : b = d
  · subst h
    rw [hd] at e
    cases e
    exact upd_same
  · rw [upd_ne h]
    exact s b o (by rw [upd_ne h]; exact e)
def namedZ (kvs tk : Ct) : Ct := tk.foldl (fun a e => addZ a e.1 e.2) kvs
theorem namedZ_snoc (kvs tk : Ct) (e : Str × Int) : namedZ kvs (tk ++ [e]) = addZ (namedZ kvs tk) e.1 e.2 := by
  unfold namedZ
  rw [List.foldl_append]
  rfl
theorem addZ_len1 {kvs : Ct} {n : Str} {c : Int} : (addZ kvs n c).length ≤ kvs.length + 1 := putZ_len
theorem namedZ_len : ∀ (tk kvs : Ct), (namedZ kvs tk).length ≤ kvs.length + tk.length
  | [], _ => Nat.le_refl _
  | e :: r, kvs => by
    have := namedZ_len r (addZ kvs e.1 e.2)
    have := addZ_len1 (kvs := kvs) (n := e.1) (c := e.2)
    show (namedZ (addZ kvs e.1 e.2) r).length ≤ kvs.length + (r.length + 1)
    omega
theorem dget_of {H : Hp} {d : Addr} {kvs : Ct} {y : Str} {v : Int} (h : H d = some (.dK (kvs.map entZ))) (g : getZ kvs y = some v) : DGet H d (.str y) (some (.int v)) := by
  have gv : valV (kvs.map entZ) (Sum.inr y : Key) = some (.int v) := by
    rw [getZ_val, g]
    rfl
  rw [← gv]
  exact DGet.k (k := Sum.inr y) h
/-- the bounds of a count -/
def lowZ (kvs : Ct) (z : Str) : Int := (getZ kvs z).getD 0
section
variable {P : Program} {w : World} {K : PySem.W.Frag} {mg : Str → Option Value} {base : Heap}
/-! plans_of, of count questions -/
def spPlansOf (K : PySem.W.Frag) : Sp := fun vs H Q _ => ∃ (s q : Addr) (r m off : Int) (kvs : Ct) (z : Str), vs = [.ref s, .ref q] ∧ SkC K H s r m off kvs ∧ SkG r m off kvs ∧ SqT K H q [qCount, .str z] ∧
  ∀ H' p p1 p2, Same H H' → H' p = some (.tup [.ref p1, .ref p2]) → PlanAt H' p1 (planZ kvs m off off [z] []).1 (planZ kvs m off off [z] []).2 → PlanAt H' p2 (planZ kvs m off off [z] [z]).1 (planZ kvs m off off [z] [z]).2 → Q (.ref p) H'
theorem ok_plans_of (T : Blt mg) (dP_lost_of : DnLostOf K mg) (dP_asked : DnAsked K mg) (dP_parted : DnParted K mg) (dP_filled : DnFilled K mg) (d : DnPlansOf K mg) : FnOk P w K mg base CX0 3 d.f d.fd ["sketch", "question"] (spPlansOf K) := by
  have GP_filled : FnOk P w K mg base CX0 2 dP_filled.f dP_filled.fd ["sketch", "question", "names", "size"] (spPFilled K) := ok_pfilled T dP_lost_of dP_asked dP_parted dP_filled
  have GP_asked : FnOk P w K mg base CX0 1 dP_asked.f dP_asked.fd ["question"] (spAsked K) := ok_asked T dP_asked
  refine d.F.ok scP_plans_of (fun vs H Q E h => ?_) (fun cdv A outer s H vs Q E hr h => ?_)
  · obtain ⟨s, q, r, m, off, kvs, z, rfl, _⟩ := h
    rfl
  · obtain ⟨sk, q, r, m, off, kvs, z, rfl, hs, hg, hq, k⟩ := h
    refine ⟨_, (pss_cons (ps_set (i := 2) scP_plans_of.nd rfl (Or.inl rfl) (pe_ix ix_tup (pv 0) pe_int (fun _ _ => rfl)))
    (pss_cons (ps_set (i := 3) scP_plans_of.nd rfl (Or.inl rfl) (pe_ix ix_tup (pv 1) pe_int (fun _ _ => rfl)))
    (pss_cons (ps_set (i := 4) scP_plans_of.nd rfl (Or.inl rfl) (pe_call GP_filled (hr.mono (by omega)) (by rfl) dP_filled.g dP_filled.F.kp dP_filled.b .nil pass0 (pa_cons (pv 0) (pa_cons (pv 1) (pa_cons (pe_tup pa_nil) (pa_cons pe_int pa_nil))))))
    (pss_cons (ps_if (pt_cmpR op_in_seq (pv 3) (pe_tup (pa_cons pe_str (pa_cons pe_str (pa_cons pe_str pa_nil)))) rfl)
      (pss_cons ps_never (pss_one ps_never))
      pss_nil)
    (pss_cons (ps_if (pt_cmpR op_eq (pv 3) pe_str (nomark _))
      (pss_one ps_never)
      pss_nil)
    (pss_cons (ps_if (pt_cmpR op_eq (pv 3) pe_str (nomark _))
      (pss_one ps_never)
      pss_nil)
    (pss_one (ps_ret (pe_tup (pa_cons (pe_call GP_filled (hr.mono (by omega)) (by rfl) dP_filled.g dP_filled.F.kp dP_filled.b .nil pass0 (pa_cons (pv 0) (pa_cons (pv 1) (pa_cons (pe_tup pa_nil) (pa_cons (pv 2) pa_nil))))) (pa_cons (pe_call GP_filled (hr.mono (by omega)) (by rfl) dP_filled.g dP_filled.F.kp dP_filled.b .nil pass0 (pa_cons (pv 0) (pa_cons (pv 1) (pa_cons (pe_call GP_asked (hr.mono (by omega)) (by rfl) dP_asked.g dP_asked.F.kp dP_asked.b .nil pass0 (pa_cons (pv 1) pa_nil)) (pa_cons (pv 2) pa_nil))))) pa_nil))))))))))), ?_⟩
    obtain ⟨kk, ts, h1, h2, h3⟩ := hs.ob
    have ho := hg.o0
    have hlo := hg.lo
    have hhi := hg.hi
    have hr1 := hg.r1
    have hr64 := hg.r64
    have hbig := hg.big
    have hl0 : 0 ≤ m - sumC kvs := Int.le_trans (Int.mul_nonneg (by omega) ho) hlo
    have hom : off ≤ m - sumC kvs := by
      have : 1 * off ≤ (r + 1) * off := Int.mul_le_mul_of_nonneg_right (by omega) ho
      omega
    have hz : off = 0 → m - sumC kvs = 0 := fun e => by
      rw [e, Int.mul_zero] at hhi
      omega
    have hsc : 0 ≤ sumC kvs := by
      have := hg.cts.pos
      unfold sumC
      have go : ∀ l : Ct, (∀ e ∈ l, 1 ≤ e.2) → 0 ≤ (l.map (·.2)).sum := by
        intro l
        induction l with
        | nil => intro _; exact Int.le_refl _
        | cons e l ih =>
          intro h
          have h1 := h e List.mem_cons_self
          have h2 := ih fun x hx => h x (List.mem_cons_of_mem _ hx)
          rw [List.map_cons, List.sum_cons]
          omega
      exact go kvs this
    refine ⟨.ref sk, rfl, sk, _, _, _, rfl, rfl, h1, atI_nat (j := 2) rfl, ?_⟩
    refine ⟨.ref q, rfl, q, _, _, _, rfl, rfl, hq, atI_nat (j := 0) rfl, ?_⟩
    refine ⟨.ref sk, rfl, .ref q, rfl, (by show 0 ≤ sizeLine; decide), fun e0 ne0 => ?_⟩
    have s0 : Same H (upd H e0 (.tup [])) := same_upd ne0
    have he0 : (upd H e0 (.tup [])) e0 = some (.tup (([] : List Str).map V.str)) := upd_same
    generalize upd H e0 (.tup []) = H1 at s0 he0 ⊢
    refine ⟨sk, q, e0, r, m, off, 1, kvs, z, [], rfl, hs.same s0, hg, seqT hq s0, .inl (.inl he0), by decide, by decide, .inl (by decide), fun H2 p0 s2 np0 pl0 => ?_⟩
    have s02 : Same H H2 := fun b u e => s2 _ _ (s0 _ _ e)
    refine ⟨qCount, rfl, (by show 3 ≤ sizeLine; decide), fun t0 nt0 => ⟨t0, _, rfl, .inr (.inl (.inl upd_same)), rfl, rfl, false, congrArg V.bl (by decide +kernel), iteF ?_⟩⟩
    have s3 : Same H (upd H2 t0 (.tup [.str (Str.ofString "first"), .str (Str.ofString "unlike"), .str (Str.ofString "squares")])) := Same.new s02 nt0
    generalize upd H2 t0 (.tup [.str (Str.ofString "first"), .str (Str.ofString "unlike"), .str (Str.ofString "squares")]) = H3 at s3 ⊢
    refine ⟨qCount, rfl, rfl, false, congrArg V.bl (decide_eq_false (by decide +kernel)), iteF ?_⟩
    refine ⟨qCount, rfl, rfl, false, congrArg V.bl (decide_eq_false (by decide +kernel)), iteF ?_⟩
    refine ⟨.ref sk, rfl, .ref q, rfl, ⟨(by show 0 ≤ sizeLine; decide), fun e1 ne1 => ?_⟩⟩
    have s4 : Same H (upd H3 e1 (.tup [])) := Same.new s3 ne1
    have he1 : (upd H3 e1 (.tup [])) e1 = some (.tup (([] : List Str).map V.str)) := upd_same
    generalize upd H3 e1 (.tup []) = H4 at s4 he1 ⊢
    refine ⟨.int off, rfl, sk, q, e1, r, m, off, off, kvs, z, [], rfl, hs.same s4, hg, seqT hq s4, .inl (.inl he1), by decide, by omega, ?_, fun H5 p1 s5 np1 pl1 => ?_⟩
    · by_cases e : off = 0
      · exact .inr (hz e)
      · exact .inl (by omega)
    have s05 : Same H H5 := fun b u e => s5 _ _ (s4 _ _ e)
    refine ⟨.ref sk, rfl, .ref q, rfl, .ref q, rfl, q, z, rfl, seqT hq s05, fun H6 a s6 ha => ?_⟩
    have s06 : Same H H6 := fun b u e => s6 _ _ (s05 _ _ e)
    refine ⟨.int off, rfl, sk, q, a, r, m, off, off, kvs, z, [z], rfl, hs.same s06, hg, seqT hq s06, .inl (.inl ha), (by show 1 ≤ 100; decide), by omega, ?_, fun H7 p2 s7 np2 pl2 => ⟨(by show 2 ≤ sizeLine; decide), fun p np => ?_⟩⟩
    · by_cases e : off = 0
      · refine .inr ?_
        show m - sumC kvs - (if m - sumC kvs < off then m - sumC kvs else off) = 0
        rw [hz e, e]
        rfl
      · exact .inl (by omega)
    have s8 : Same H7 (upd H7 p (.tup [.ref p1, .ref p2])) := same_upd np
    exact k _ p p1 p2 (fun b u e => s8 _ _ (s7 _ _ (s06 _ _ e))) upd_same (pl1.same fun b u e => s8 _ _ (s7 _ _ (s6 _ _ e))) (pl2.same s8)
end
end Kb


namespace Kb
open PySem PySem.Spec PyProof.Rows L2 SrtZ SrtO
section
variable {P : Program} {w : World} {K : PySem.W.Frag} {mg : Str → Option Value} {base : Heap}
/-! is_question, of count questions -/
def spIsQuestion (K : PySem.W.Frag) : Sp := fun vs H Q _ => ∃ (q : Addr) (z : Str), vs = [.ref q] ∧ SqT K H q [qCount, .str z] ∧ Nm z ∧ ∀ H', Same H H' → Q (.bl true) H'
theorem ok_is_question (T : Blt mg) (cL : Cst mg "LONGEST_NAME" (.int 8)) (dP_is_name : DnIsName K mg) (d : DnIsQuestion K mg) : FnOk P w K mg base CX0 2 d.f d.fd ["thing"] (spIsQuestion K) := by
  have GP_is_name : FnOk P w K mg base CX0 1 dP_is_name.f dP_is_name.fd ["thing"] spIsName := ok_is_name T cL dP_is_name
  refine d.F.ok scP_is_question (fun vs H Q E h => ?_) (fun cdv A outer s H vs Q E hr h => ?_)
  · obtain ⟨q, z, rfl, _⟩ := h
    rfl
  · obtain ⟨q, z, rfl, hq, nm, k⟩ := h
    refine ⟨_, (pss_cons (ps_if (PW.pt (pw_or (pt_not (pt_val (pe_callB call_isi (by rfl) T.n_isinstance (by decide +kernel) (pa_cons (pv 0) (pa_cons (pe_bltn (v := .ty "tuple") (by rfl) T.n_tuple (by decide +kernel) rfl) pa_nil))))) (pw_or (pt_not (pt_truth (pv 0) (by intro _; rfl))) (pw_or1 (pt_not (pt_val (pe_callB call_isi (by rfl) T.n_isinstance (by decide +kernel) (pa_cons (pe_ix ix_tup (pv 0) pe_int (fun _ _ => rfl)) (pa_cons (pe_bltn (v := .ty "str") (by rfl) T.n_str (by decide +kernel) rfl) pa_nil)))))))))
      (pss_one (ps_ret pe_bl))
      pss_nil)
    (pss_cons (ps_set (i := 1) scP_is_question.nd rfl (Or.inl rfl) (pe_ix ix_tup (pv 0) pe_int (fun _ _ => rfl)))
    (pss_cons (ps_if (pt_cmpR op_in_seq (pv 1) (pe_tup (pa_cons pe_str (pa_cons pe_str pa_nil))) rfl)
      (pss_one ps_never)
      pss_nil)
    (pss_cons (ps_if (pt_cmpR op_eq (pv 1) pe_str (nomark _))
      (pss_one ps_never)
      pss_nil)
    (pss_cons (ps_if (pt_cmpR op_ne (pe_callB call_len_seq (by rfl) T.n_len (by decide +kernel) (pa_cons (pv 0) pa_nil)) pe_int (nomark _))
      (pss_one (ps_ret pe_bl))
      pss_nil)
    (pss_cons (ps_if (pt_cmpR op_in_seq (pv 1) (pe_tup (pa_cons pe_str (pa_cons pe_str pa_nil))) rfl)
      (pss_one (ps_ret (pe_call GP_is_name (hr.mono (by omega)) (by rfl) dP_is_name.g dP_is_name.F.kp dP_is_name.b .nil pass0 (pa_cons (pe_ix ix_tup (pv 0) pe_int (fun _ _ => rfl)) pa_nil))))
      pss_nil)
    (pss_cons (ps_if (pt_cmpR op_eq (pv 1) pe_str (nomark _))
      (pss_one ps_never)
      pss_nil)
    (pss_one ps_never)))))))), ?_⟩
    refine ⟨.ref q, rfl, .ref q, _, _, _, true, rfl, .ty "tuple", tyT hq, kit_ty (by decide +kernel), true, rfl, iteF ?_⟩
    refine ⟨.ref q, rfl, true, .inr (.inl ⟨_, hq, rfl⟩), iteF ?_⟩
    refine ⟨.ref q, rfl, q, _, _, _, rfl, rfl, hq, atI_nat (j := 0) rfl, qCount, _, _, _, true, rfl, .ty "str", .base (.str _), kit_ty (by decide +kernel), true, rfl, iteF ?_⟩
    refine ⟨.ref q, rfl, q, _, _, _, rfl, rfl, hq, atI_nat (j := 0) rfl, ?_⟩
    refine ⟨qCount, rfl, (by show 2 ≤ sizeLine; decide), fun t0 nt0 => ⟨t0, _, rfl, .inr (.inl (.inl upd_same)), rfl, rfl, false, congrArg V.bl (by decide +kernel), iteF ?_⟩⟩
    have s1 : Same H (upd H t0 (.tup [.str (Str.ofString "unlike"), .str (Str.ofString "squares")])) := same_upd nt0
    generalize upd H t0 (.tup [.str (Str.ofString "unlike"), .str (Str.ofString "squares")]) = H1 at s1 ⊢
    refine ⟨qCount, rfl, rfl, false, congrArg V.bl (decide_eq_false (by decide +kernel)), iteF ?_⟩
    refine ⟨.ref q, rfl, q, _, rfl, .inr (seqT hq s1), rfl, false, rfl, iteF ?_⟩
    refine ⟨qCount, rfl, (by show 2 ≤ sizeLine; decide), fun t1 nt1 => ⟨t1, _, rfl, .inr (.inl (.inl upd_same)), rfl, rfl, true, congrArg V.bl (by decide +kernel), iteT ?_⟩⟩
    have s2 : Same H (upd H1 t1 (.tup [.str (Str.ofString "count"), .str (Str.ofString "place")])) := Same.new s1 nt1
    refine ⟨.ref q, rfl, q, _, _, _, rfl, rfl, seqT hq s2, atI_nat (j := 1) rfl, z, rfl, nm, fun H3 s3 => k H3 fun b u e => s3 _ _ (s2 _ _ e)⟩
/-! _worth, of count questions -/
def spWorth (K : PySem.W.Frag) : Sp := fun vs H Q _ => ∃ (dd l q : Addr) (kvs : Ct) (ts : List Addr) (z : Str), vs = [.ref dd, .ref l, .ref q] ∧ H dd = some (.dK (kvs.map entZ)) ∧ kvs.length ≤ 1000 ∧ H l = some (.lst (ts.map V.ref)) ∧ ts.length ≤ 1000 ∧ SqT K H q [qCount, .str z] ∧ ∀ H', Same H H' → Q (.int (lowZ kvs z)) H'
theorem ok_worth (T : Blt mg) (d : DnWorth K mg) : FnOk P w K mg base CX0 1 d.f d.fd ["named", "parts", "question"] (spWorth K) := by
  refine d.F.ok scP_worth (fun vs H Q E h => ?_) (fun cdv A outer s H vs Q E hr h => ?_)
  · obtain ⟨dd, l, q, kvs, ts, z, rfl, _⟩ := h
    rfl
  · obtain ⟨dd, l, q, kvs, ts, z, rfl, hd, hk, hl, hts, hq, k⟩ := h
    have hu := hu_of hr
    refine ⟨_, (pss_cons (ps_set (i := 3) scP_worth.nd rfl (Or.inl rfl) (pe_ix ix_tup (pv 2) pe_int (fun _ _ => rfl)))
    (pss_cons (ps_set (i := 4) scP_worth.nd rfl (Or.inl rfl) (pe_op op_cat (pe_lock (pe_lc (own := [("count", 6)]) (g := gName 6) rfl scP_worth.nd (pi_values (pv 0)) (blkOk_by (N := NP_worth) (sc := defScope sP_worth) (by decide +kernel)) (fun _ _ _ _ _ => pg_name (i := 6) scP_worth.nd rfl (Or.inl rfl)) (fun _ _ _ _ _ => pts_one (pt_cmpR op_gt (pv 6) pe_int (nomark _))) (fun _ _ _ _ _ => (pe_tup (pa_cons (pv 6) (pa_cons pe_int pa_nil)))))) (pv 1)))
    (pss_cons (ps_if (pt_cmpR op_eq (pv 3) pe_str (nomark _))
      (pss_one (ps_ret (pe_dget2 hu (pv 0) (pe_ix ix_tup (pv 2) pe_int (fun _ _ => rfl)) pe_int ⟨rfl, rfl, rfl, rfl⟩)))
      pss_nil)
    (pss_cons (ps_if (pt_cmpR op_eq (pv 3) pe_str (nomark _)) (pss_one ps_never) pss_nil)
    (pss_cons (ps_if (pt_cmpR op_eq (pv 3) pe_str (nomark _)) (pss_one ps_never) pss_nil)
    (pss_cons (ps_if (pt_cmpR op_eq (pv 3) pe_str (nomark _)) (pss_cons ps_never (pss_one ps_never)) pss_nil)
    (pss_cons (ps_if (pt_cmpR op_eq (pv 3) pe_str (nomark _)) (pss_one ps_never) pss_nil)
    (pss_cons (ps_if (pt_cmpR op_eq (pv 3) pe_str (nomark _)) (pss_one ps_never) pss_nil)
    (pss_one ps_never))))))))), ?_⟩
    refine ⟨.ref q, rfl, q, _, _, _, rfl, rfl, hq, atI_nat (j := 0) rfl, ?_⟩
    refine ⟨dd, _, hd, trivial, fun od => ⟨.ref dd, rfl, dd, od, kvs.map entZ, rfl, upd_same, fun D nD => ?_⟩⟩
    have dD : dd ≠ D := ne_of_none upd_same nD
    have nD0 : H D = none := by
      rw [upd_ne dD.symm] at nD
      exact nD
    generalize hHl : upd H dd (.frz od (.dK (kvs.map entZ))) = Hl at nD ⊢
    have hld : Hl dd = some (.frz od (.dK (kvs.map entZ))) := by rw [← hHl]; exact upd_same
    refine lc_it (walk_values (kvs := kvs.map entZ)) (fun i H3 => Same Hl H3 ∧ ∃ us : List Addr, us.length ≤ i ∧ H3 D = some (.lst (us.map V.ref))) ⟨same_upd nD, [], Nat.le_refl _, upd_same⟩ (fun i H3 _ h3 => h3.1 _ _ hld) (fun i x H3 H4 hi h3 y => ?_) (fun H3 h3 => ?_)
    · obtain ⟨s3, us, hul, hD⟩ := h3
      obtain ⟨rfl, kk, hx⟩ := y
      rw [List.getElem?_map] at hx
      obtain ⟨e, rfl⟩ : ∃ e : Str × Int, x = .int e.2 := by
        cases he : kvs[i]? with
        | none => rw [he] at hx; cases hx
        | some e =>
          rw [he] at hx
          injection hx with hx
          injection hx with _ hx
          exact ⟨e, hx.symm⟩
      rw [List.length_map] at hi
      refine ⟨rfl, .int e.2, rfl, _, _, rfl, rfl, _, rfl, ite2 (fun h1 => ?_) fun h1 => ⟨s3, us, by omega, hD⟩⟩
      refine ⟨.int e.2, rfl, (by show 2 ≤ sizeLine; decide), fun u nu => ?_⟩
      have uD : D ≠ u := ne_of_none hD nu
      refine ⟨_, by rw [upd_ne uD]; exact hD, by rw [List.length_map, sizeLine_eq]; omega, fun b o e' => ?_, us ++ [u], by rw [List.length_append]; exact Nat.succ_le_succ hul, by rw [upd_same, List.map_append]; rfl⟩
      rw [upd_ne (ne_of_none e' nD), upd_ne (ne_of_none (s3 _ _ e') nu)]
      exact s3 _ _ e'
    · obtain ⟨s3, us, hul, hD⟩ := h3
      rw [List.length_map] at hul
      refine ⟨s3 _ _ hld, ?_⟩
      have s4 : Same H (upd H3 dd (.dK (kvs.map entZ))) := unlock_same hd (by rw [hHl]; exact s3)
      have hD4 : (upd H3 dd (.dK (kvs.map entZ))) D = some (.lst (us.map V.ref)) := by rw [upd_ne dD.symm]; exact hD
      generalize upd H3 dd (.dK (kvs.map entZ)) = H4 at s4 hD4 ⊢
      refine ⟨.ref l, rfl, _, _, _, _, rfl, rfl, hD4, s4 _ _ hl, (by rw [List.length_map, List.length_map, sizeLine_eq]; omega), fun p np => ?_⟩
      have s5 := Same.new (o := .lst (us.map V.ref ++ ts.map V.ref)) s4 np
      generalize upd H4 p (.lst (us.map V.ref ++ ts.map V.ref)) = H5 at s5 ⊢
      refine ⟨qCount, rfl, rfl, true, congrArg V.bl (decide_eq_true rfl), iteT ?_⟩
      refine ⟨.ref dd, rfl, dd, rfl, .inl ⟨_, .inl (s5 _ _ hd)⟩, .ref q, rfl, q, _, _, _, rfl, rfl, seqT hq s5, atI_nat (j := 1) rfl, _, DGet.k (k := Sum.inr z) (s5 _ _ hd), ?_⟩
      rw [getZ_val]
      unfold lowZ at k
      cases hgz : getZ kvs z with
      | none => rw [hgz] at k; exact k H5 s5
      | some v => rw [hgz] at k; exact k H5 s5
end
end Kb


namespace Kb
open PySem PySem.Spec PyProof.Rows L2 SrtZ SrtO
theorem asc_nd {kvs : Ct} (h : kvs.Pairwise fun a b => ltZ a.1 b.1 = true) : NdZ kvs := by
  unfold NdZ
  rw [List.Nodup, List.pairwise_map]
  refine h.imp fun {a b} h e => ?_
  rw [e] at h
  have := ltZ_asym h
  rw [h] at this
  cases this
theorem SkG.yes {r m o : Int} {kvs : Ct} (g : SkG r m o kvs) : skB r m o kvs = true := by
  unfold skB
  rw [decide_eq_true g.r1, decide_eq_true g.r64, decide_eq_true g.m0, decide_eq_true g.o0, decide_eq_true g.len, decide_eq_true g.lo, decide_eq_true g.hi]
  rfl
theorem SkG.off_le {r m o : Int} {kvs : Ct} (g : SkG r m o kvs) : o ≤ m - sumC kvs := by
  have h1 := g.lo
  have h2 : 1 * o ≤ (r + 1) * o := Int.mul_le_mul_of_nonneg_right (by have := g.r1; omega) g.o0
  omega
theorem low_low {r m o : Int} {kvs : Ct} {z : Str} : lowZ (namedZ kvs (planZ kvs m o o [z] []).1) z = lowZ kvs z := by
  show ((getZ (addZ kvs z 0) z)).getD 0 = _
  unfold addZ
  rw [getZ_put, if_pos rfl]
  show (getZ kvs z).getD 0 + 0 = _
  rw [Int.add_zero]
  rfl
theorem low_high {r m o : Int} {kvs : Ct} {z : Str} (g : SkG r m o kvs) : lowZ (namedZ kvs (planZ kvs m o o [z] [z]).1) z = lowZ kvs z + o := by
  have e : (planZ kvs m o o [z] [z]).1 = [(z, o)] := by
    show putZ (putZ [] z 0) z (if m - sumC kvs < o then m - sumC kvs else o) = _
    rw [if_neg (by have := g.off_le; omega)]
    show putZ [(z, 0)] z o = _
    unfold putZ
    rw [if_pos (by simp)]
    simp
  rw [e]
  show ((getZ (addZ kvs z o) z)).getD 0 = _
  unfold addZ
  rw [getZ_put, if_pos rfl]
  rfl
section
variable {P : Program} {w : World} {K : PySem.W.Frag} {mg : Str → Option Value} {base : Heap}
/-! _need_both -/
def spNeedBoth (K : PySem.W.Frag) : Sp := fun vs H Q _ => ∃ (s q : Addr) (r m off : Int) (kvs : Ct) (z : Str), vs = [.ref s, .ref q] ∧ SkC K H s r m off kvs ∧ SkG r m off kvs ∧ SqT K H q [qCount, .str z] ∧ Nm z ∧ ∀ H', Same H H' → Q .non H'
theorem ok_need_both (T : Blt mg) (cM : Cst mg "MOST_ROOM" (.int 64)) (cL : Cst mg "LONGEST_NAME" (.int 8)) (dP_is_int : DnIsInt K mg) (dP_is_number : DnIsNumber K mg) (dP_is_room : DnIsRoom K mg) (dP_is_name : DnIsName K mg) (dP_is_counted : DnIsCounted K mg) (dP_are_counts : DnAreCounts K mg)
    (dP_lost_of : DnLostOf K mg) (dP_is_sketch : DnIsSketch K mg) (dP_is_question : DnIsQuestion K mg) (d : DnNeedBoth K mg) : FnOk P w K mg base CX0 5 d.f d.fd ["sketch", "question"] (spNeedBoth K) := by
  have GP_is_sketch : FnOk P w K mg base CX0 4 dP_is_sketch.f dP_is_sketch.fd ["thing"] (spIsSketch K) := ok_is_sketch T cM cL dP_is_int dP_is_number dP_is_room dP_is_name dP_is_counted dP_are_counts dP_lost_of dP_is_sketch
  have GP_is_question : FnOk P w K mg base CX0 2 dP_is_question.f dP_is_question.fd ["thing"] (spIsQuestion K) := ok_is_question T cL dP_is_name dP_is_question
  refine d.F.ok scP_need_both (fun vs H Q E h => ?_) (fun cdv A outer s H vs Q E hr h => ?_)
  · obtain ⟨s, q, r, m, off, kvs, z, rfl, _⟩ := h
    rfl
  · obtain ⟨sk, q, r, m, off, kvs, z, rfl, hs, hg, hq, nm, k⟩ := h
    refine ⟨_, (pss_cons (ps_if (pt_not (pt_val (pe_call GP_is_sketch (hr.mono (by omega)) (by rfl) dP_is_sketch.g dP_is_sketch.F.kp dP_is_sketch.b .nil pass0 (pa_cons (pv 0) pa_nil))))
      (pss_one ps_never)
      pss_nil)
    (pss_one (ps_if (pt_not (pt_val (pe_call GP_is_question (hr.mono (by omega)) (by rfl) dP_is_question.g dP_is_question.F.kp dP_is_question.b .nil pass0 (pa_cons (pv 1) pa_nil))))
      (pss_one ps_never)
      pss_nil))), ?_⟩
    obtain ⟨kk, ts, h1, h2, h3⟩ := hs.ob
    have hlen := hg.len
    have hr64 := hg.r64
    refine ⟨.ref sk, rfl, sk, kk, r, m, off, kvs, rfl, h1, ⟨ts, h2.seq, h3⟩, hg.cts, by omega, fun H1 s1 => ?_⟩
    rw [hg.yes]
    refine ⟨true, rfl, iteF ⟨.ref q, rfl, q, z, rfl, seqT hq s1, nm, fun H2 s2 => ⟨true, rfl, iteF ?_⟩⟩⟩
    exact k H2 fun b u e => s2 _ _ (s1 _ _ e)
/-! _named -/
def spNamed (K : PySem.W.Frag) : Sp := fun vs H Q _ => ∃ (s dd : Addr) (r m off : Int) (kvs tk : Ct), vs = [.ref s, .ref dd] ∧ SkC K H s r m off kvs ∧ SkG r m off kvs ∧ H dd = some (.dK (tk.map entZ)) ∧ tk.length ≤ 500 ∧
  ∀ H' p, Same H H' → H p = none → H' p = some (.dK ((namedZ kvs tk).map entZ)) → Q (.ref p) H'
theorem ok_named (T : Blt mg) (d : DnNamed K mg) : FnOk P w K mg base CX0 1 d.f d.fd ["sketch", "taken"] (spNamed K) := by
  refine d.F.ok scP_named (fun vs H Q E h => ?_) (fun cdv A outer s H vs Q E hr h => ?_)
  · obtain ⟨s, dd, r, m, off, kvs, tk, rfl, _⟩ := h
    rfl
  · obtain ⟨sk, dd, r, m, off, kvs, tk, rfl, hs, hg, hd, htk, k⟩ := h
    have hu := hu_of hr
    refine ⟨_, (pss_cons (ps_set (i := 2) scP_named.nd rfl (Or.inl rfl) (pe_callTy (call_dictPT rfl) (by rfl) T.n_dict (by decide +kernel) (pa_cons (pe_ix ix_tup (pv 0) pe_int (fun _ _ => rfl)) pa_nil)))
    (pss_cons (ps_lock (ps_for PassesOwn.never rfl (pi_items (pv 1)) (pg_tup (by rfl) (pgs_cons (pg_name (i := 3) scP_named.nd rfl (Or.inl rfl)) (pgs_cons (pg_name (i := 4) scP_named.nd rfl (Or.inl rfl)) pgs_nil)))
      (pss_one (ps_dput hu (pv 2) (pv 3) (pe_op op_add (pe_dget2 hu (pv 2) (pv 3) pe_int ⟨rfl, rfl, rfl, rfl⟩) (pv 4)) rfl))))
    (pss_one (ps_ret (pv 2))))), ?_⟩
    obtain ⟨kk, ts, h1, h2, h3⟩ := hs.ob
    have hlen := hg.len
    have hr64 := hg.r64
    have nd : NdZ kvs := asc_nd hg.cts.asc
    refine ⟨.ref sk, rfl, sk, _, _, _, rfl, rfl, h1, atI_nat (j := 3) rfl, kk, ts, kvs.map entZ, rfl, h2, ents_paired h3, fun p np => ?_⟩
    rw [show mergeK [] (kvs.map entZ) = kvs.map entZ from mergeZ kvs [] nd]
    have dp : dd ≠ p := ne_of_none hd np
    have hd1 : (upd H p (.dK (kvs.map entZ))) dd = some (.dK (tk.map entZ)) := by rw [upd_ne dp]; exact hd
    refine ⟨dd, _, hd1, trivial, fun od => ?_⟩
    have hp1 : (upd (upd H p (.dK (kvs.map entZ))) dd (.frz od (.dK (tk.map entZ)))) p = some (.dK (kvs.map entZ)) := by rw [upd_ne dp.symm]; exact upd_same
    have hd2 : (upd (upd H p (.dK (kvs.map entZ))) dd (.frz od (.dK (tk.map entZ)))) dd = some (.frz od (.dK (tk.map entZ))) := upd_same
    have kp1 : ∀ b u, b ≠ p → b ≠ dd → H b = some u → (upd (upd H p (.dK (kvs.map entZ))) dd (.frz od (.dK (tk.map entZ)))) b = some u := fun b u n1 n2 e => by rw [upd_ne n2, upd_ne n1]; exact e
    generalize upd (upd H p (.dK (kvs.map entZ))) dd (.frz od (.dK (tk.map entZ))) = H1 at hp1 hd2 kp1 ⊢
    refine ⟨.ref dd, rfl, dd, od, tk.map entZ, rfl, hd2, for_it (walk_items (kvs := tk.map entZ)) (fun i σ H3 => ∃ y3 y4, σ = [some (.ref sk), some (.ref dd), some (.ref p), y3, y4] ∧ (∀ b u, b ≠ p → H1 b = some u → H3 b = some u) ∧ H3 p = some (.dK ((namedZ kvs (tk.take i)).map entZ)))
      ⟨none, none, rfl, fun _ _ _ e => e, hp1⟩ (fun i σ H3 _ ⟨_, _, _, k3, _⟩ => k3 _ _ dp hd2) (fun i x σ H3 H4 hi h3 y => ?_) (fun σ H3 h3 => ?_)⟩
    · obtain ⟨y3, y4, rfl, k3, hp3⟩ := h3
      obtain ⟨Tp, x1, y1, rfl, nT, rfl, hx, hy⟩ := y
      dsimp only at hx hy
      rw [List.length_map] at hi
      have he : tk[i]? = some tk[i] := List.getElem?_eq_getElem hi
      generalize tk[i] = e at he
      have hx1 : x1 = .str e.1 := by
        rw [List.getElem?_map, he] at hx
        exact (Option.some.inj hx).symm
      have hy1 : y1 = .int e.2 := by
        rw [List.getElem?_map, he] at hy
        exact (Option.some.inj hy).symm
      subst hx1 hy1
      have pT : p ≠ Tp := ne_of_none hp3 nT
      have te : tk.take (i + 1) = tk.take i ++ [e] := by rw [List.take_add_one, he]; rfl
      have hp4 : (upd H3 Tp (.tup [.str e.1, .int e.2])) p = some (.dK ((namedZ kvs (tk.take i)).map entZ)) := by rw [upd_ne pT]; exact hp3
      have hnl := namedZ_len (tk.take i) kvs
      rw [List.length_take] at hnl
      refine ⟨Tp, _, rfl, .inl (.inl upd_same), rfl, _, _, rfl, _, _, rfl, rfl, ?_⟩
      refine ⟨.ref p, rfl, p, rfl, .inl ⟨_, .inl hp4⟩, .str e.1, rfl, _, DGet.k (k := Sum.inr e.1) hp4, ?_⟩
      rw [getZ_val]
      refine ⟨.int e.2, rfl, (getZ (namedZ kvs (tk.take i)) e.1).getD 0, e.2, ?_, rfl, ?_⟩
      · cases getZ (namedZ kvs (tk.take i)) e.1 <;> rfl
      · refine ⟨.ref p, rfl, .str e.1, rfl, p, _, rfl, DPut.k (k := Sum.inr e.1) hp4 (by rw [List.length_map, sizeLine_eq]; omega), ?_⟩
        rw [putZ_put]
        refine ⟨some (.str e.1), some (.int e.2), rfl, fun b u n e' => ?_, by rw [upd_same, te, namedZ_snoc]; rfl⟩
        rw [upd_ne n, upd_ne (ne_of_none (k3 _ _ n e') nT)]
        exact k3 _ _ n e'
    · obtain ⟨y3, y4, rfl, k3, hp3⟩ := h3
      rw [List.length_map, List.take_length] at hp3
      refine ⟨k3 _ _ dp hd2, .ref p, rfl, k _ p (fun b u e => ?_) np ?_⟩
      · by_cases hb : b = dd
        · subst hb
          rw [hd] at e
          cases e
          exact upd_same
        · rw [upd_ne hb]
          have n := ne_of_none e np
          exact k3 _ _ n (kp1 _ _ n hb e)
      · rw [upd_ne dp.symm]
        exact hp3
/-! ends, of count questions -/
def spEnds (K : PySem.W.Frag) : Sp := fun vs H Q _ => ∃ (s q : Addr) (r m off : Int) (kvs : Ct) (z : Str), vs = [.ref s, .ref q] ∧ SkC K H s r m off kvs ∧ SkG r m off kvs ∧ SqT K H q [qCount, .str z] ∧ Nm z ∧
  ∀ H' p, Same H H' → H p = none → H' p = some (.tup [.int (lowZ kvs z), .int (lowZ kvs z + off)]) → Q (.ref p) H'
structure DefsE (K : PySem.W.Frag) (mg : Str → Option Value) where
  T : Blt mg
  cM : Cst mg "MOST_ROOM" (.int 64)
  cL : Cst mg "LONGEST_NAME" (.int 8)
  dP_is_int : DnIsInt K mg
  dP_is_number : DnIsNumber K mg
  dP_is_room : DnIsRoom K mg
  dP_is_name : DnIsName K mg
  dP_is_counted : DnIsCounted K mg
  dP_are_counts : DnAreCounts K mg
  dP_lost_of : DnLostOf K mg
  dP_is_sketch : DnIsSketch K mg
  dP_asked : DnAsked K mg
  dP_parted : DnParted K mg
  dP_filled : DnFilled K mg
  dP_plans_of : DnPlansOf K mg
  dP_is_question : DnIsQuestion K mg
  dP_worth : DnWorth K mg
  dP_need_both : DnNeedBoth K mg
  dP_named : DnNamed K mg
  dP_ends : DnEnds K mg
theorem ok_ends (D : DefsE K mg) : FnOk P w K mg base CX0 6 D.dP_ends.f D.dP_ends.fd ["sketch", "question"] (spEnds K) := by
  obtain ⟨T, cM, cL, dP_is_int, dP_is_number, dP_is_room, dP_is_name, dP_is_counted, dP_are_counts, dP_lost_of, dP_is_sketch, dP_asked, dP_parted, dP_filled, dP_plans_of, dP_is_question, dP_worth, dP_need_both, dP_named, d⟩ := D
  show FnOk P w K mg base CX0 6 d.f d.fd ["sketch", "question"] (spEnds K)
  have GP_need_both : FnOk P w K mg base CX0 5 dP_need_both.f dP_need_both.fd ["sketch", "question"] (spNeedBoth K) := ok_need_both T cM cL dP_is_int dP_is_number dP_is_room dP_is_name dP_is_counted dP_are_counts dP_lost_of dP_is_sketch dP_is_question dP_need_both
  have GP_plans_of : FnOk P w K mg base CX0 3 dP_plans_of.f dP_plans_of.fd ["sketch", "question"] (spPlansOf K) := ok_plans_of T dP_lost_of dP_asked dP_parted dP_filled dP_plans_of
  have GP_worth : FnOk P w K mg base CX0 1 dP_worth.f dP_worth.fd ["named", "parts", "question"] (spWorth K) := ok_worth T dP_worth
  have GP_named : FnOk P w K mg base CX0 1 dP_named.f dP_named.fd ["sketch", "taken"] (spNamed K) := ok_named T dP_named
  refine d.F.ok scP_ends (fun vs H Q E h => ?_) (fun cdv A outer s H vs Q E hr h => ?_)
  · obtain ⟨s, q, r, m, off, kvs, z, rfl, _⟩ := h
    rfl
  · obtain ⟨sk, q, r, m, off, kvs, z, rfl, hs, hg, hq, nm, k⟩ := h
    refine ⟨_, (pss_cons (ps_expr (pe_call GP_need_both (hr.mono (by omega)) (by rfl) dP_need_both.g dP_need_both.F.kp dP_need_both.b .nil pass0 (pa_cons (pv 0) (pa_cons (pv 1) pa_nil))))
    (pss_cons (ps_asg (pe_lc (own := [("taken", 4), ("parts", 5)]) (g := gTup K 2 (gCons (gName 4) (gCons (gName 5) gNil))) (tt := tYes) rfl scP_ends.nd (pi_tup (pe_call GP_plans_of (hr.mono (by omega)) (by rfl) dP_plans_of.g dP_plans_of.F.kp dP_plans_of.b .nil pass0 (pa_cons (pv 0) (pa_cons (pv 1) pa_nil)))) (blkOk_by (N := NP_ends) (sc := defScope sP_ends) (by decide +kernel)) (fun _ _ _ _ _ => pg_tup (by rfl) (pgs_cons (pg_name (i := 4) scP_ends.nd rfl (Or.inl rfl)) (pgs_cons (pg_name (i := 5) scP_ends.nd rfl (Or.inl rfl)) pgs_nil))) (fun _ _ _ _ _ => pts_nil) (fun _ _ _ _ _ => (pe_call GP_worth (hr.mono (by omega)) (by rfl) dP_worth.g dP_worth.F.kp dP_worth.b .nil pass0 (pa_cons (pe_call GP_named (hr.mono (by omega)) (by rfl) dP_named.g dP_named.F.kp dP_named.b .nil pass0 (pa_cons (pv 0) (pa_cons (pv 4) pa_nil))) (pa_cons (pv 5) (pa_cons (pv 1) pa_nil)))))) (pg_unl (by rfl) (pgs_cons (pg_name (i := 2) scP_ends.nd rfl (Or.inl rfl)) (pgs_cons (pg_name (i := 3) scP_ends.nd rfl (Or.inl rfl)) pgs_nil))))
    (pss_one (ps_ret (pe_tup (pa_cons (pv 2) (pa_cons (pv 3) pa_nil))))))), ?_⟩
    refine ⟨.ref sk, rfl, .ref q, rfl, sk, q, r, m, off, kvs, z, rfl, hs, hg, hq, nm, fun H1 s1 => ?_⟩
    refine ⟨.ref sk, rfl, .ref q, rfl, sk, q, r, m, off, kvs, z, rfl, hs.same s1, hg, seqT hq s1, fun H2 p p1 p2 s2 hp pl1 pl2 => ?_⟩
    have s02 : Same H H2 := fun b u e => s2 _ _ (s1 _ _ e)
    refine ⟨p, rfl, ⟨_, .inl (.inl hp)⟩, fun D nD => ?_⟩
    have nD0 : H D = none := Same.gone s02 nD
    have pD : p ≠ D := ne_of_none hp nD
    refine lc_tup (xs := [.ref p1, .ref p2]) (fun i H3 => Same H2 H3 ∧ H3 D = some (.lst (([V.int (lowZ kvs z), V.int (lowZ kvs z + off)]).take i))) ⟨same_upd nD, upd_same⟩ (fun i H3 _ h3 => .inl (.inl (h3.1 _ _ hp))) (fun i x H3 hx h3 => ?_) (fun H3 h3 => ?_)
    · obtain ⟨s3, hD⟩ := h3
      obtain ⟨pp, tk, ps, hl, rfl, pl, htk, hval⟩ : ∃ pp tk ps, tk.length ≤ 2 ∧ x = .ref pp ∧ PlanAt H2 pp tk ps ∧ ps.length ≤ 2 ∧ ([V.int (lowZ kvs z), V.int (lowZ kvs z + off)])[i]? = some (.int (lowZ (namedZ kvs tk) z)) := by
        match i, hx with
        | 0, hx =>
          cases hx
          exact ⟨p1, (planZ kvs m off off [z] []).1, (planZ kvs m off off [z] []).2, Nat.le_trans (fillZ_len off [] _) (by have := nullZ_len [z] []; dsimp only [List.length] at this ⊢; omega), rfl, pl1, partedZ_len _ _, by rw [low_low (r := r)]; rfl⟩
        | 1, hx =>
          cases hx
          exact ⟨p2, (planZ kvs m off off [z] [z]).1, (planZ kvs m off off [z] [z]).2, Nat.le_trans (fillZ_len off [z] _) (by have := nullZ_len [z] []; dsimp only [List.length] at this ⊢; omega), rfl, pl2, partedZ_len _ _, by rw [low_high hg]; rfl⟩
        | i + 2, hx => simp at hx
      have hi : i < 2 := (List.getElem?_eq_some_iff.mp hval).1
      obtain ⟨dd, l, ts, hpp, hdd, hll, hts⟩ := pl.ob
      have s03 : Same H H3 := fun b u e => s3 _ _ (s02 _ _ e)
      refine ⟨pp, _, rfl, .inl (.inl (s3 _ _ hpp)), rfl, _, _, rfl, _, _, rfl, rfl, rfl, ?_⟩
      refine ⟨.ref sk, rfl, .ref dd, rfl, sk, dd, r, m, off, kvs, tk, rfl, hs.same s03, hg, s3 _ _ hdd, by omega, fun H4 nd s4 nnd hnd => ?_⟩
      have hnl := namedZ_len tk kvs
      have hlen := hg.len
      have hr64 := hg.r64
      refine ⟨.ref l, rfl, .ref q, rfl, nd, l, q, namedZ kvs tk, ts, z, rfl, hnd, by omega, s4 _ _ (s3 _ _ hll), by rw [Paired.length hts]; omega, seqT hq fun b u e => s4 _ _ (s03 _ _ e), fun H5 s5 => ?_⟩
      have hD5 := s5 _ _ (s4 _ _ hD)
      refine ⟨_, hD5, by rw [List.length_take, sizeLine_eq]; omega, fun b u e => ?_, by rw [upd_same, List.take_add_one, hval]; rfl⟩
      rw [upd_ne (ne_of_none e nD)]
      exact s5 _ _ (s4 _ _ (s3 _ _ e))
    · obtain ⟨s3, hD⟩ := h3
      refine ⟨D, _, rfl, sql hD, rfl, _, _, rfl, _, _, rfl, rfl, ?_⟩
      refine ⟨.int _, rfl, .int _, rfl, (by show 2 ≤ sizeLine; decide), fun u nu => ?_⟩
      exact k _ u (Same.new (fun b o e => s3 _ _ (s02 _ _ e)) nu) (Same.gone s02 (Same.gone s3 nu)) upd_same
end
end Kb


namespace Kb
open PySem PySem.Spec PyProof.Rows L2 SrtZ SrtO
abbrev sP_are_sketches : Stmt := topS 48
abbrev NP_are_sketches : List Str := ["thing", "sketch"]
theorem scP_are_sketches : FnScope ["thing", "sketch"] ["thing"] (defScope sP_are_sketches) := ⟨rfl, rfl, rfl, by decide +kernel, rfl, by decide +kernel, by decide +kernel⟩
abbrev sP_sum_ends : Stmt := topS 49
abbrev NP_sum_ends : List Str := ["sketches", "name", "pairs", "sketch", "low", "_", "high"]
theorem scP_sum_ends : FnScope ["sketches", "name", "pairs", "sketch", "low", "_", "high"] ["sketches", "name"] (defScope sP_sum_ends) := ⟨rfl, rfl, rfl, by decide +kernel, rfl, by decide +kernel, by decide +kernel⟩
abbrev DnAreSketches (K : PySem.W.Frag) (mg : Str → Option Value) := Dn K mg "_are_sketches" sP_are_sketches ["thing"]
abbrev DnSumEnds (K : PySem.W.Frag) (mg : Str → Option Value) := Dn K mg "sum_ends" sP_sum_ends ["sketches", "name"]
/-- a sketch as data -/
structure Sk where
  r : Int
  m : Int
  o : Int
  c : Ct
abbrev SkX (K : PySem.W.Frag) (H : Hp) (s : Addr) (x : Sk) : Prop := SkC K H s x.r x.m x.o x.c
abbrev SkV (x : Sk) : Prop := SkG x.r x.m x.o x.c
def lowS (xs : List Sk) (z : Str) : Int := (xs.map fun x => lowZ x.c z).sum
def highS (xs : List Sk) (z : Str) : Int := (xs.map fun x => lowZ x.c z + x.o).sum
section
variable {P : Program} {w : World} {K : PySem.W.Frag} {mg : Str → Option Value} {base : Heap}
def spAreSketches (K : PySem.W.Frag) : Sp := fun vs H Q _ => ∃ (t : Addr) (ss : List Addr) (xs : List Sk), vs = [.ref t] ∧ SqT K H t (ss.map V.ref) ∧ Paired (SkX K H) ss xs ∧ (∀ x ∈ xs, SkV x) ∧ xs.length ≤ 100 ∧ ∀ H', Same H H' → Q (.bl true) H'
theorem ok_are_sketches (D : DefsE K mg) (cK : Cst mg "MOST_SKETCHES" (.int 100)) (d : DnAreSketches K mg) : FnOk P w K mg base CX0 5 d.f d.fd ["thing"] (spAreSketches K) := by
  obtain ⟨T, cM, cL, dP_is_int, dP_is_number, dP_is_room, dP_is_name, dP_is_counted, dP_are_counts, dP_lost_of, dP_is_sketch, dP_asked, dP_parted, dP_filled, dP_plans_of, dP_is_question, dP_worth, dP_need_both, dP_named, dP_ends⟩ := D
  have GP_is_sketch : FnOk P w K mg base CX0 4 dP_is_sketch.f dP_is_sketch.fd ["thing"] (spIsSketch K) := ok_is_sketch T cM cL dP_is_int dP_is_number dP_is_room dP_is_name dP_is_counted dP_are_counts dP_lost_of dP_is_sketch
  refine d.F.ok scP_are_sketches (fun vs H Q E h => ?_) (fun cdv A outer s H vs Q E hr h => ?_)
  · obtain ⟨t, ss, xs, rfl, _⟩ := h
    rfl
  · obtain ⟨t, ss, xs, rfl, ht, hp, hv, hl, k⟩ := h
    have hsl : ss.length = xs.length := Paired.length hp
    refine ⟨_, (pss_cons (ps_if (PW.pt (pw_or (pt_not (pt_val (pe_callB call_isi (by rfl) T.n_isinstance (by decide +kernel) (pa_cons (pv 0) (pa_cons (pe_bltn (v := .ty "tuple") (by rfl) T.n_tuple (by decide +kernel) rfl) pa_nil))))) (pw_or1 (pt_cmpR op_gt (pe_callB call_len_seq (by rfl) T.n_len (by decide +kernel) (pa_cons (pv 0) pa_nil)) (pe_glob rfl cK.g cK.r) (nomark _)))))
      (pss_one (ps_ret pe_bl))
      pss_nil)
    (pss_one (ps_ret (pe_callB (cr_all rfl) (by rfl) T.n_all (by decide +kernel) (pa_cons (pe_lc (own := [("sketch", 1)]) (g := gName 1) (tt := tYes) rfl scP_are_sketches.nd (pi_tup (pv 0)) (blkOk_by (N := NP_are_sketches) (sc := defScope sP_are_sketches) (by decide +kernel)) (fun _ _ _ _ _ => pg_name (i := 1) scP_are_sketches.nd rfl (Or.inl rfl)) (fun _ _ _ _ _ => pts_nil) (fun _ _ _ _ _ => (pe_call GP_is_sketch (hr.mono (by omega)) (by rfl) dP_is_sketch.g dP_is_sketch.F.kp dP_is_sketch.b .nil pass0 (pa_cons (pv 1) pa_nil)))) pa_nil))))), ?_⟩
    refine ⟨.ref t, rfl, .ref t, _, _, _, true, rfl, .ty "tuple", tyT ht, kit_ty (by decide +kernel), true, rfl, iteF ?_⟩
    refine ⟨.ref t, rfl, t, _, rfl, .inr ht, _, _, rfl, rfl, false, congrArg V.bl (decide_eq_false (by rw [List.length_map]; omega)), iteF ?_⟩
    refine ⟨.ref t, rfl, t, rfl, ⟨_, ht⟩, fun D nD => lc_tup (xs := ss.map V.ref) (fun i H3 => Same H H3 ∧ H3 D = some (.lst ((ss.take i).map fun _ => V.bl true))) ⟨same_upd nD, upd_same⟩ (fun i H3 _ h3 => seqT ht h3.1) (fun i x H3 hx h3 => ?_) (fun H3 h3 => ?_)⟩
    · obtain ⟨s, hs, rfl⟩ := map_at hx
      obtain ⟨y, hy, hat⟩ := paired_at hp hs
      have hg := hv y (List.mem_of_getElem? hy)
      obtain ⟨kk, ts, h1, h2, h4⟩ := (hat.same h3.1).ob
      have hlen := hg.len
      have hr64 := hg.r64
      refine ⟨rfl, .ref s, rfl, s, kk, y.r, y.m, y.o, y.c, rfl, h1, ⟨ts, h2.seq, h4⟩, hg.cts, by omega, fun H4 s4 => ⟨_, s4 _ _ h3.2, ?_, fun b o e => ?_, ?_⟩⟩
      · rw [List.length_map, List.length_take, sizeLine_eq]
        omega
      · rw [upd_ne (ne_of_none e nD)]
        exact s4 b o (h3.1 b o e)
      · rw [upd_same, List.take_add_one, hs, List.map_append, hg.yes]
        rfl
    · refine ⟨D, ss.map fun _ => true, rfl, sql ?_, ?_⟩
      · rw [h3.2, List.length_map, List.take_length, List.map_map]
        rfl
      · rw [show ((ss.map fun _ => true).all id) = true by simp]
        exact k H3 h3.1
def spSumEnds (K : PySem.W.Frag) : Sp := fun vs H Q _ => ∃ (t : Addr) (z : Str) (ss : List Addr) (xs : List Sk), vs = [.ref t, .str z] ∧ SqT K H t (ss.map V.ref) ∧ Paired (SkX K H) ss xs ∧ (∀ x ∈ xs, SkV x) ∧ xs.length ≤ 100 ∧ Nm z ∧
  ∀ H' p, Same H H' → H p = none → H' p = some (.tup [.int (lowS xs z), .int (highS xs z)]) → Q (.ref p) H'
theorem ok_sum_ends (D : DefsE K mg) (cK : Cst mg "MOST_SKETCHES" (.int 100)) (dP_are_sketches : DnAreSketches K mg) (d : DnSumEnds K mg) : FnOk P w K mg base CX0 7 d.f d.fd ["sketches", "name"] (spSumEnds K) := by
  have GP_ends : FnOk P w K mg base CX0 6 D.dP_ends.f D.dP_ends.fd ["sketch", "question"] (spEnds K) := ok_ends D
  have GP_are_sketches : FnOk P w K mg base CX0 5 dP_are_sketches.f dP_are_sketches.fd ["thing"] (spAreSketches K) := ok_are_sketches D cK dP_are_sketches
  obtain ⟨T, cM, cL, dP_is_int, dP_is_number, dP_is_room, dP_is_name, dP_is_counted, dP_are_counts, dP_lost_of, dP_is_sketch, dP_asked, dP_parted, dP_filled, dP_plans_of, dP_is_question, dP_worth, dP_need_both, dP_named, dP_ends⟩ := D
  have GP_ends : FnOk P w K mg base CX0 6 dP_ends.f dP_ends.fd ["sketch", "question"] (spEnds K) := GP_ends
  have GP_is_name : FnOk P w K mg base CX0 1 dP_is_name.f dP_is_name.fd ["thing"] spIsName := ok_is_name T cL dP_is_name
  refine d.F.ok scP_sum_ends (fun vs H Q E h => ?_) (fun cdv A outer s H vs Q E hr h => ?_)
  · obtain ⟨t, z, ss, xs, rfl, _⟩ := h
    rfl
  · obtain ⟨t, z, ss, xs, rfl, ht, hp, hv, hl, nm, k⟩ := h
    have hsl : ss.length = xs.length := Paired.length hp
    refine ⟨_, (pss_cons (ps_if (pt_not (pt_val (pe_call GP_are_sketches (hr.mono (by omega)) (by rfl) dP_are_sketches.g dP_are_sketches.F.kp dP_are_sketches.b .nil pass0 (pa_cons (pv 0) pa_nil))))
      (pss_one ps_never)
      pss_nil)
    (pss_cons (ps_if (pt_not (pt_val (pe_call GP_is_name (hr.mono (by omega)) (by rfl) dP_is_name.g dP_is_name.F.kp dP_is_name.b .nil pass0 (pa_cons (pv 1) pa_nil))))
      (pss_one ps_never)
      pss_nil)
    (pss_cons (ps_setLc (i := 2) (own := [("sketch", 3)]) (g := gName 3) (tt := tYes) rfl scP_sum_ends.nd rfl rfl (sw_true rfl rfl rfl (by decide +kernel)) (pi_tup (pv 0)) (blkOk_by (N := NP_sum_ends) (sc := defScope sP_sum_ends) (by decide +kernel)) (fun _ _ _ _ _ => pg_name (i := 3) scP_sum_ends.nd rfl (Or.inl rfl)) (fun _ _ _ _ _ => pts_nil) (fun _ _ _ _ _ => (pe_call GP_ends (hr.mono (by omega)) (by rfl) dP_ends.g dP_ends.F.kp dP_ends.b .nil pass0 (pa_cons (pv 3) (pa_cons (pe_tup (pa_cons pe_str (pa_cons (pv 1) pa_nil))) pa_nil)))))
    (pss_one (ps_ret (pe_tup (pa_cons (pe_callB (cr_sum rfl) (by rfl) T.n_sum (by decide +kernel) (pa_cons (pe_lc (own := [("low", 4), ("_", 5)]) (g := gTup K 2 (gCons (gName 4) (gCons (gName 5) gNil))) (tt := tYes) rfl scP_sum_ends.nd (pi_list (pv 2)) (blkOk_by (N := NP_sum_ends) (sc := defScope sP_sum_ends) (by decide +kernel)) (fun _ _ _ _ _ => pg_tup (by rfl) (pgs_cons (pg_name (i := 4) scP_sum_ends.nd rfl (Or.inl rfl)) (pgs_cons (pg_name (i := 5) scP_sum_ends.nd rfl (Or.inl rfl)) pgs_nil))) (fun _ _ _ _ _ => pts_nil) (fun _ _ _ _ _ => (pv 4))) pa_nil)) (pa_cons (pe_callB (cr_sum rfl) (by rfl) T.n_sum (by decide +kernel) (pa_cons (pe_lc (own := [("_", 5), ("high", 6)]) (g := gTup K 2 (gCons (gName 5) (gCons (gName 6) gNil))) (tt := tYes) rfl scP_sum_ends.nd (pi_list (pv 2)) (blkOk_by (N := NP_sum_ends) (sc := defScope sP_sum_ends) (by decide +kernel)) (fun _ _ _ _ _ => pg_tup (by rfl) (pgs_cons (pg_name (i := 5) scP_sum_ends.nd rfl (Or.inl rfl)) (pgs_cons (pg_name (i := 6) scP_sum_ends.nd rfl (Or.inl rfl)) pgs_nil))) (fun _ _ _ _ _ => pts_nil) (fun _ _ _ _ _ => (pv 6))) pa_nil)) pa_nil)))))))), ?_⟩
    refine ⟨.ref t, rfl, t, ss, xs, rfl, ht, hp, hv, hl, fun H1 s1 => ⟨true, rfl, iteF ?_⟩⟩
    refine ⟨.str z, rfl, z, rfl, nm, fun H2 s2 => ⟨true, rfl, iteF ?_⟩⟩
    have s02 : Same H H2 := fun b u e => s2 _ _ (s1 _ _ e)
    refine ⟨.ref t, rfl, t, rfl, ⟨_, seqT ht s02⟩, fun D nD => ?_⟩
    have nD0 : H D = none := Same.gone s02 nD
    have lw := hl
    refine lc_tup (xs := ss.map V.ref) (fun i H3 => Same H2 H3 ∧ ∃ us : List Addr, H3 D = some (.lst (us.map V.ref)) ∧ Paired (fun u (x : Sk) => H3 u = some (.tup [.int (lowZ x.c z), .int (lowZ x.c z + x.o)])) us (xs.take i)) ⟨same_upd nD, [], upd_same, .nil⟩ (fun i H3 _ h3 => seqT ht fun b u e => h3.1 _ _ (s02 _ _ e)) (fun i x H3 hx h3 => ?_) (fun H3 h3 => ?_)
    · obtain ⟨s3, us, hD, hus⟩ := h3
      have s03 : Same H H3 := fun b u e => s3 _ _ (s02 _ _ e)
      obtain ⟨s, hs, rfl⟩ := map_at hx
      obtain ⟨y, hy, hat⟩ := paired_at hp hs
      have hg := hv y (List.mem_of_getElem? hy)
      refine ⟨rfl, .ref s, rfl, .str z, rfl, (by show 2 ≤ sizeLine; decide), fun q nq => ?_⟩
      have s4 : Same H3 (upd H3 q (.tup [qCount, .str z])) := same_upd nq
      have hq : (upd H3 q (.tup [qCount, .str z])) q = some (.tup [qCount, .str z]) := upd_same
      generalize upd H3 q (.tup [qCount, .str z]) = H4 at s4 hq ⊢
      refine ⟨s, q, y.r, y.m, y.o, y.c, z, rfl, hat.same fun b u e => s4 _ _ (s03 _ _ e), hg, .inl (.inl hq), nm, fun H5 p s5 np hpp => ?_⟩
      have hD5 := s5 _ _ (s4 _ _ hD)
      have pD : p ≠ D := (ne_of_none (s4 _ _ hD) np).symm
      have hul : us.length ≤ 100 := by
        rw [Paired.length hus, List.length_take]
        omega
      refine ⟨_, hD5, by rw [List.length_map, sizeLine_eq]; omega, fun b u e => ?_, us ++ [p], by rw [upd_same, List.map_append]; rfl, ?_⟩
      · rw [upd_ne (ne_of_none e nD)]
        exact s5 _ _ (s4 _ _ (s3 _ _ e))
      · rw [List.take_add_one, hy]
        refine paired_snoc (paired_imp (fun u x h => ?_) hus) ?_
        · rw [upd_ne (ne_of h hD (by intro z; cases z))]
          exact s5 _ _ (s4 _ _ h)
        · rw [upd_ne pD]
          exact hpp
    · obtain ⟨s3, us, hD, hus⟩ := h3
      have hlx : (ss.map V.ref).length = xs.length := by rw [List.length_map, hsl]
      rw [hlx, List.take_length] at hus
      have s03 : Same H H3 := fun b u e => s3 _ _ (s02 _ _ e)
      have hul : us.length ≤ 100 := by
        rw [Paired.length hus]
        exact hl
      refine ⟨.ref D, rfl, D, rfl, ⟨_, sql hD⟩, fun D2 nD2 => ?_⟩
      refine lc_list (xs := us.map V.ref) (fun i H4 => Same H3 H4 ∧ H4 D2 = some (.lst ((xs.take i).map fun x => V.int (lowZ x.c z)))) ⟨same_upd nD2, upd_same⟩ (fun i H4 _ h4 => sql (h4.1 _ _ hD)) (fun i x H4 hx h4 => ?_) (fun H4 h4 => ?_)
      · obtain ⟨u, hu, rfl⟩ := map_at hx
        obtain ⟨y, hy, hat⟩ := paired_at hus hu
        have hi := (List.getElem?_eq_some_iff.mp hy).1
        refine ⟨u, _, rfl, .inl (.inl (h4.1 _ _ hat)), rfl, _, _, rfl, _, _, rfl, rfl, rfl, .int (lowZ y.c z), rfl, _, h4.2, by rw [List.length_map, List.length_take, sizeLine_eq]; omega, fun b o e => ?_, by rw [upd_same, List.take_add_one, hy, List.map_append]; rfl⟩
        rw [upd_ne (ne_of_none e nD2)]
        exact h4.1 _ _ e
      · obtain ⟨s4, hD2⟩ := h4
        rw [List.length_map, Paired.length hus, List.take_length] at hD2
        refine ⟨D2, xs.map fun x => lowZ x.c z, rfl, sql (by rw [hD2, List.map_map]; rfl), ?_⟩
        refine ⟨.ref D, rfl, D, rfl, ⟨_, sql (s4 _ _ hD)⟩, fun D3 nD3 => ?_⟩
        refine lc_list (xs := us.map V.ref) (fun i H5 => Same H4 H5 ∧ H5 D3 = some (.lst ((xs.take i).map fun x => V.int (lowZ x.c z + x.o)))) ⟨same_upd nD3, upd_same⟩ (fun i H5 _ h5 => sql (h5.1 _ _ (s4 _ _ hD))) (fun i x H5 hx h5 => ?_) (fun H5 h5 => ?_)
        · obtain ⟨u, hu, rfl⟩ := map_at hx
          obtain ⟨y, hy, hat⟩ := paired_at hus hu
          have hi := (List.getElem?_eq_some_iff.mp hy).1
          refine ⟨u, _, rfl, .inl (.inl (h5.1 _ _ (s4 _ _ hat))), rfl, _, _, rfl, _, _, rfl, rfl, rfl, .int (lowZ y.c z + y.o), rfl, _, h5.2, by rw [List.length_map, List.length_take, sizeLine_eq]; omega, fun b o e => ?_, by rw [upd_same, List.take_add_one, hy, List.map_append]; rfl⟩
          rw [upd_ne (ne_of_none e nD3)]
          exact h5.1 _ _ e
        · obtain ⟨s5, hD3⟩ := h5
          rw [List.length_map, Paired.length hus, List.take_length] at hD3
          refine ⟨D3, xs.map fun x => lowZ x.c z + x.o, rfl, sql (by rw [hD3, List.map_map]; rfl), (by show 2 ≤ sizeLine; decide), fun p np => ?_⟩
          have s05 : Same H H5 := fun b u e => s5 _ _ (s4 _ _ (s03 _ _ e))
          exact k _ p (Same.new s05 np) (Same.gone s05 np) upd_same
end
end Kb



namespace Kb
open PySem PySem.Spec PyProof.Rows L2 SrtZ SrtO
abbrev sP_within : Stmt := topS 46
theorem scP_within : FnScope ["thing", "low", "high"] ["thing", "low", "high"] (defScope sP_within) := ⟨rfl, rfl, rfl, by decide +kernel, rfl, by decide +kernel, by decide +kernel⟩
abbrev DnIsWithin (K : PySem.W.Frag) (mg : Str → Option Value) := Dn K mg "_is_within" sP_within ["thing", "low", "high"]
abbrev sRinit : Stmt := inClass (topS 47) 0
theorem scRinit : FnScope ["self", "room", "size", "blocks"] ["self", "room", "size", "blocks"] (defScope sRinit) := ⟨rfl, rfl, rfl, by decide +kernel, rfl, by decide +kernel, by decide +kernel⟩
abbrev sRfeed : Stmt := inClass (topS 47) 1
theorem scRfeed : FnScope ["self", "name"] ["self", "name"] (defScope sRfeed) := ⟨rfl, rfl, rfl, by decide +kernel, rfl, by decide +kernel, by decide +kernel⟩
abbrev sRmany : Stmt := inClass (topS 47) 2
theorem scRmany : FnScope ["self"] ["self"] (defScope sRmany) := ⟨rfl, rfl, rfl, by decide +kernel, rfl, by decide +kernel, by decide +kernel⟩
abbrev sRlast : Stmt := inClass (topS 47) 3
theorem scRlast : FnScope ["self", "j"] ["self", "j"] (defScope sRlast) := ⟨rfl, rfl, rfl, by decide +kernel, rfl, by decide +kernel, by decide +kernel⟩
abbrev sRnow : Stmt := inClass (topS 47) 4
theorem scRnow : FnScope ["self"] ["self"] (defScope sRnow) := ⟨rfl, rfl, rfl, by decide +kernel, rfl, by decide +kernel, by decide +kernel⟩
abbrev sRcopy : Stmt := inClass (topS 47) 5
structure Rng (K : PySem.W.Frag) (mg : Str → Option Value) where
  C : Addr
  fI : Addr
  fF : Addr
  fM : Addr
  fL : Addr
  fN : Addr
  fC : Addr
  dI : FuncData
  dF : FuncData
  dM : FuncData
  dL : FuncData
  dN : FuncData
  dC : FuncData
  FI : Fun K "__init__" "Ring.__init__" sRinit fI dI
  FF : Fun K "feed" "Ring.feed" sRfeed fF dF
  FM : Fun K "many" "Ring.many" sRmany fM dM
  FL : Fun K "last" "Ring.last" sRlast fL dL
  FN : Fun K "now" "Ring.now" sRnow fN dN
  FC : Fun K "copy" "Ring.copy" sRcopy fC dC
  bI : Binds K dI ["self", "room", "size", "blocks"] []
  bF : Binds K dF ["self", "name"] []
  bM : Binds K dM ["self"] []
  bL : Binds K dL ["self", "j"] []
  bN : Binds K dN ["self"] []
  bC : Binds K dC ["self"] []
  mI : Mk K C fI
  mF : Meth K C "feed" fF
  mM : Meth K C "many" fM
  mL : Meth K C "last" fL
  mN : Meth K C "now" fN
  mC : Meth K C "copy" fC
  cl : Cls K C
  nT : NoAttr K C "tally"
  nR : NoAttr K C "room"
  nS : NoAttr K C "size"
  nB : NoAttr K C "blocks"
  nO : NoAttr K C "total"
  nK : NoAttr K C "sketches"
  g : mg "Ring" = some (.ref C)
theorem putF_len (f : Str) (v : V) : ∀ fs : List (Str × V), (putF f v fs).length ≤ fs.length + 1
  | [] => Nat.le_refl _
  | (g, x) :: r => by
    unfold putF
    by_cases h : g = f
    · rw [if_pos h]
      exact Nat.le_succ _
    · rw [if_neg h]
      exact Nat.succ_le_succ (putF_len f v r)
theorem putF_len0 {f : Str} {v : V} : ∀ {fs : List (Str × V)} {u : V}, fs.lookup f = some u → (putF f v fs).length = fs.length
  | [], _, h => by cases h
  | (g, x) :: r, u, h => by
    unfold putF
    by_cases e : g = f
    · rw [if_pos e]
      rfl
    · rw [if_neg e]
      have h' : r.lookup f = some u := by
        rw [List.lookup_cons] at h
        have : (f == g) = false := by
          rw [beq_eq_false_iff_ne]
          exact fun z => e z.symm
        rw [this] at h
        exact h
      show (putF f v r).length + 1 = r.length + 1
      rw [putF_len0 h']
def mthR : List Str := ["feed", "many", "last", "now", "copy"]
/-- the fields of a ring -/
structure RF (fs : List (Str × V)) (ta : Addr) (r sz bl to : Int) (L : Addr) : Prop where
  len : fs.length ≤ 6
  t : fs.lookup ("tally" : Str) = some (.ref ta)
  r : fs.lookup ("room" : Str) = some (.int r)
  s : fs.lookup ("size" : Str) = some (.int sz)
  b : fs.lookup ("blocks" : Str) = some (.int bl)
  o : fs.lookup ("total" : Str) = some (.int to)
  k : fs.lookup ("sketches" : Str) = some (.ref L)
  no : ∀ g ∈ mthR, fs.lookup g = none
theorem RF.tally {fs : List (Str × V)} {ta r_ sz bl to L} (h : RF fs ta r_ sz bl to L) (x : Addr) : RF (putF ("tally" : Str) (.ref x) fs) x r_ sz bl to L := by
  refine ⟨by rw [putF_len0 h.t]; exact h.len, by rw [lookup_putF, if_pos rfl], ?_, ?_, ?_, ?_, ?_, fun g hg => by
    rw [lookup_putF, if_neg (fun z => by rw [z] at hg; revert hg; decide +kernel)]
    exact h.no g hg⟩
  · rw [lookup_putF, if_neg (by decide +kernel)]; exact h.r
  · rw [lookup_putF, if_neg (by decide +kernel)]; exact h.s
  · rw [lookup_putF, if_neg (by decide +kernel)]; exact h.b
  · rw [lookup_putF, if_neg (by decide +kernel)]; exact h.o
  · rw [lookup_putF, if_neg (by decide +kernel)]; exact h.k
theorem RF.total {fs : List (Str × V)} {ta r_ sz bl to L} (h : RF fs ta r_ sz bl to L) (x : Int) : RF (putF ("total" : Str) (.int x) fs) ta r_ sz bl x L := by
  refine ⟨by rw [putF_len0 h.o]; exact h.len, ?_, ?_, ?_, ?_, by rw [lookup_putF, if_pos rfl], ?_, fun g hg => by
    rw [lookup_putF, if_neg (fun z => by rw [z] at hg; revert hg; decide +kernel)]
    exact h.no g hg⟩
  · rw [lookup_putF, if_neg (by decide +kernel)]; exact h.t
  · rw [lookup_putF, if_neg (by decide +kernel)]; exact h.r
  · rw [lookup_putF, if_neg (by decide +kernel)]; exact h.s
  · rw [lookup_putF, if_neg (by decide +kernel)]; exact h.b
  · rw [lookup_putF, if_neg (by decide +kernel)]; exact h.k
theorem RF.sketches {fs : List (Str × V)} {ta r_ sz bl to L} (h : RF fs ta r_ sz bl to L) (x : Addr) : RF (putF ("sketches" : Str) (.ref x) fs) ta r_ sz bl to x := by
  refine ⟨by rw [putF_len0 h.k]; exact h.len, ?_, ?_, ?_, ?_, ?_, by rw [lookup_putF, if_pos rfl], fun g hg => by
    rw [lookup_putF, if_neg (fun z => by rw [z] at hg; revert hg; decide +kernel)]
    exact h.no g hg⟩
  · rw [lookup_putF, if_neg (by decide +kernel)]; exact h.t
  · rw [lookup_putF, if_neg (by decide +kernel)]; exact h.r
  · rw [lookup_putF, if_neg (by decide +kernel)]; exact h.s
  · rw [lookup_putF, if_neg (by decide +kernel)]; exact h.b
  · rw [lookup_putF, if_neg (by decide +kernel)]; exact h.o
/-- a ring on the heap: its parts, the tally with what was fed last, the kept sketches -/
structure RingAt (CR CT : Addr) (H : Hp) (t ta d L : Addr) (r sz bl to : Int) (x : Tl) (ys : List Tl) : Prop where
  ob : ∃ dx fs, H t = some (.ins CR dx fs) ∧ RF fs ta r sz bl to L
  tal : TalAt CT H ta d r x.m x.o x.c
  li : ∃ sks : List Addr, H L = some (.lst (sks.map V.ref)) ∧ Paired (fun s y => SkAt H s r y) sks ys
  ne : t ≠ ta
/-- all but three objects stay -/
def But3 (t ta d : Addr) (H H' : Hp) : Prop := ∀ b u, b ≠ t → b ≠ ta → b ≠ d → H b = some u → H' b = some u
section
variable {P : Program} {w : World} {K : PySem.W.Frag} {mg : Str → Option Value} {base : Heap}
/-! _is_within -/
def spIsWithin : Sp := fun vs H Q _ => ∃ i lo hi : Int, vs = [.int i, .int lo, .int hi] ∧ lo ≤ i ∧ i ≤ hi ∧ Q (.bl true) H
theorem ok_is_within (T : Blt mg) (dP_is_int : DnIsInt K mg) (d : DnIsWithin K mg) : FnOk P w K mg base CX0 2 d.f d.fd ["thing", "low", "high"] spIsWithin := by
  have GP_is_int : FnOk P w K mg base CX0 1 dP_is_int.f dP_is_int.fd ["thing"] spIsInt := ok_is_int T dP_is_int
  refine d.F.ok scP_within (fun vs H Q E h => ?_) (fun cdv A outer s H vs Q E hr h => ?_)
  · obtain ⟨i, lo, hi, rfl, _⟩ := h
    rfl
  · obtain ⟨i, lo, hi, rfl, h1, h2, q⟩ := h
    refine ⟨_, (pss_one (ps_ret (pe_and (pe_call GP_is_int (hr.mono (by omega)) (by rfl) dP_is_int.g dP_is_int.F.kp dP_is_int.b .nil pass0 (pa_cons (pv 0) pa_nil)) (pe_one (pe_chain op_le op_le (pv 1) (pv 0) (pv 2)))))), ?_⟩
    refine ⟨.int i, rfl, i, rfl, true, rfl, iteT ⟨.int lo, rfl, .int i, rfl, _, _, rfl, rfl, true, ?_, iteT ⟨.int hi, rfl, _, _, rfl, rfl, ?_⟩⟩⟩
    · exact congrArg V.bl (decide_eq_true h1)
    · show Q (V.bl (decide (i ≤ hi))) H
      rw [decide_eq_true h2]
      exact q
/-! Ring.many -/
def spRmany (CR CT : Addr) : Sp := fun vs H Q _ => ∃ (t ta d L : Addr) (r sz bl to : Int) (x : Tl) (ys : List Tl), vs = [.ref t] ∧ RingAt CR CT H t ta d L r sz bl to x ys ∧ Q (.int to) H
theorem ok_Rmany (R : Rng K mg) (CT : Addr) : FnOk P w K mg base CX0 1 R.fM R.dM ["self"] (spRmany R.C CT) := by
  refine R.FM.ok scRmany (fun vs H Q E h => ?_) (fun cdv A outer s H vs Q E hr h => ?_)
  · obtain ⟨t, ta, d, L, r, sz, bl, to, x, ys, rfl, _⟩ := h
    rfl
  · obtain ⟨t, ta, d, L, r, sz, bl, to, x, ys, rfl, ra, q⟩ := h
    refine ⟨_, (pss_one (ps_ret (pe_fld (pv 0) rfl))), ?_⟩
    obtain ⟨dx, fs, ht, rf⟩ := ra.ob
    exact ⟨.ref t, rfl, t, R.C, dx, fs, _, rfl, ht, R.cl, R.nO, rf.o, q⟩
/-! Ring.now -/
def spRnow (CR CT : Addr) : Sp := fun vs H Q _ => ∃ (t ta d L : Addr) (r sz bl to : Int) (x : Tl) (ys : List Tl), vs = [.ref t] ∧ RingAt CR CT H t ta d L r sz bl to x ys ∧ NdZ x.c ∧ x.c.length ≤ 1000 ∧
  ∀ H' s, Same H H' → H s = none → SkAt H' s r x → Q (.ref s) H'
theorem ok_Rnow (T : Blt mg) (L : Tal K mg) (R : Rng K mg) : FnOk P w K mg base CX0 2 R.fN R.dN ["self"] (spRnow R.C L.C) := by
  have GS : FnOk P w K mg base CX0 1 L.fS L.dS ["self"] (spTsketch L.C) := ok_Tsketch T L
  refine R.FN.ok scRnow (fun vs H Q E h => ?_) (fun cdv A outer s H vs Q E hr h => ?_)
  · obtain ⟨t, ta, d, L, r, sz, bl, to, x, ys, rfl, _⟩ := h
    rfl
  · obtain ⟨t, ta, d, l, r, sz, bl, to, x, ys, rfl, ra, nd, hl, q⟩ := h
    refine ⟨_, (pss_one (ps_ret (pe_meth0 (pe_fld (pv 0) rfl) L.cl L.mS GS (hr.mono (by omega)) L.bS .nil pass0))), ?_⟩
    obtain ⟨dx, fs, ht, rf⟩ := ra.ob
    obtain ⟨dx2, hta⟩ := ra.tal.ob
    refine ⟨.ref t, rfl, t, R.C, dx, fs, _, rfl, ht, R.cl, R.nT, rf.t, ?_⟩
    refine ⟨ta, dx2, _, rfl, hta, (by rfl), ta, d, r, x.m, x.o, x.c, rfl, ra.tal, nd, hl, fun H' s k zs ts s1 ns hs hk hp pm asc => ?_⟩
    exact q H' s s1 ns ⟨k, ts, hs, hk, by rw [← srtZ_of asc pm nd]; exact hp⟩
/-! Ring.__init__ -/
def spRinit (CR CT : Addr) : Sp := fun vs H Q _ => ∃ (t dx : Addr) (r sz bl : Int), vs = [.ref t, .int r, .int sz, .int bl] ∧ H t = some (.ins CR dx []) ∧ 1 ≤ r ∧ r ≤ 64 ∧ 1 ≤ sz ∧ sz ≤ 1000000 ∧ 1 ≤ bl ∧ bl ≤ 100 ∧
  ∀ H' ta d L, (∀ b u, b ≠ t → H b = some u → H' b = some u) → H ta = none → H d = none → H L = none → RingAt CR CT H' t ta d L r sz bl 0 tl0 [] → Q .non H'
theorem ok_Rinit (T : Blt mg) (cM : Cst mg "MOST_ROOM" (.int 64)) (cZ : Cst mg "MOST_SIZE" (.int 1000000)) (cB : Cst mg "MOST_BLOCKS" (.int 100)) (dP_is_int : DnIsInt K mg) (dP_is_room : DnIsRoom K mg) (dP_bare : DnBare K mg) (dP_is_within : DnIsWithin K mg) (L : Tal K mg) (R : Rng K mg) :
    FnOk P w K mg base CX0 4 R.fI R.dI ["self", "room", "size", "blocks"] (spRinit R.C L.C) := by
  have GP_bare : FnOk P w K mg base CX0 3 dP_bare.f dP_bare.fd ["room"] spBare := ok_bare T cM dP_is_int dP_is_room dP_bare
  have GP_is_within : FnOk P w K mg base CX0 2 dP_is_within.f dP_is_within.fd ["thing", "low", "high"] spIsWithin := ok_is_within T dP_is_int dP_is_within
  have GI : FnOk P w K mg base CX0 1 L.fI L.dI ["self", "sketch"] (spTinit K L.C) := ok_Tinit T L
  refine R.FI.ok scRinit (fun vs H Q E h => ?_) (fun cdv A outer s H vs Q E hr h => ?_)
  · obtain ⟨t, dx, r, sz, bl, rfl, _⟩ := h
    rfl
  · obtain ⟨t, dx, r, sz, bl, rfl, ht, hr1, hr64, hs1, hs2, hb1, hb2, q⟩ := h
    refine ⟨_, (pss_cons (ps_fld (pv 0) (pe_make L.mI GI (hr.mono (by omega)) (by rfl) L.g L.bI .nil pass0 (pa_cons (pe_call GP_bare (hr.mono (by omega)) (by rfl) dP_bare.g dP_bare.F.kp dP_bare.b .nil pass0 (pa_cons (pv 1) pa_nil)) pa_nil)) rfl)
    (pss_cons (ps_if (PW.pt (pw_or (pt_not (pt_val (pe_call GP_is_within (hr.mono (by omega)) (by rfl) dP_is_within.g dP_is_within.F.kp dP_is_within.b .nil pass0 (pa_cons (pv 2) (pa_cons pe_int (pa_cons (pe_glob rfl cZ.g cZ.r) pa_nil)))))) (pw_or1 (pt_not (pt_val (pe_call GP_is_within (hr.mono (by omega)) (by rfl) dP_is_within.g dP_is_within.F.kp dP_is_within.b .nil pass0 (pa_cons (pv 3) (pa_cons pe_int (pa_cons (pe_glob rfl cB.g cB.r) pa_nil)))))))))
      (pss_one ps_never)
      pss_nil)
    (pss_cons (ps_fld (pv 0) (pv 1) rfl)
    (pss_cons (ps_fld (pv 0) (pv 2) rfl)
    (pss_cons (ps_fld (pv 0) (pv 3) rfl)
    (pss_cons (ps_fld (pv 0) pe_int rfl)
    (pss_one (ps_fld (pv 0) (pe_lst pa_nil) rfl)))))))), ?_⟩
    refine ⟨.int r, rfl, r, rfl, hr1, hr64, fun H4 sk k s4 nsk hsk hk ta dx2 nt ndx hne => ?_⟩
    have s5 : Same H4 (upd (upd H4 dx2 (.own ta)) ta (.ins L.C dx2 [])) := Same.new (same_upd ndx) (by rw [upd_ne hne.symm]; exact nt)
    refine ⟨ta, dx2, sk, k, r, 0, 0, [], [], rfl, upd_same, .inl (.inl (s5 _ _ hsk)), hk.same s5, .nil, List.nodup_nil, fun H5 d5 kp5 nd5 ta5 => ⟨rfl, ?_⟩⟩
    have tta : t ≠ ta := ne_of_none (s4 _ _ ht) nt
    have ht5 : H5 t = some (.ins R.C dx []) := kp5 t _ tta (s5 _ _ (s4 _ _ ht))
    have nta : H ta = none := Same.gone s4 nt
    have nd0 : H d5 = none := Same.gone s4 (Same.gone s5 nd5)
    have td5 : t ≠ d5 := ne_of ht5 ta5.dc (by intro z; cases z)
    refine ⟨.ref t, rfl, t, R.C, dx, _, rfl, ht5, R.cl, R.nT, (by show 0 < 1000; decide), ?_⟩
    refine ⟨.int sz, rfl, sz, 1, 1000000, rfl, hs1, hs2, true, rfl, iteF ⟨.int bl, rfl, bl, 1, 100, rfl, hb1, hb2, true, rfl, iteF ?_⟩⟩
    generalize hf1 : putF ("tally" : Str) (V.ref ta) [] = f1
    have g1 : f1.length ≤ 1 := by rw [← hf1]; exact putF_len _ _ _
    refine ⟨.int r, rfl, .ref t, rfl, t, R.C, dx, _, rfl, upd_same, R.cl, R.nR, by omega, ?_⟩
    rw [upd_upd]
    generalize hf2 : putF ("room" : Str) (V.int r) f1 = f2
    have g2 : f2.length ≤ 2 := by
      have := putF_len ("room" : Str) (V.int r) f1
      rw [← hf2]
      omega
    refine ⟨.int sz, rfl, .ref t, rfl, t, R.C, dx, _, rfl, upd_same, R.cl, R.nS, by omega, ?_⟩
    rw [upd_upd]
    generalize hf3 : putF ("size" : Str) (V.int sz) f2 = f3
    have g3 : f3.length ≤ 3 := by
      have := putF_len ("size" : Str) (V.int sz) f2
      rw [← hf3]
      omega
    refine ⟨.int bl, rfl, .ref t, rfl, t, R.C, dx, _, rfl, upd_same, R.cl, R.nB, by omega, ?_⟩
    rw [upd_upd]
    generalize hf4 : putF ("blocks" : Str) (V.int bl) f3 = f4
    have g4 : f4.length ≤ 4 := by
      have := putF_len ("blocks" : Str) (V.int bl) f3
      rw [← hf4]
      omega
    refine ⟨.ref t, rfl, t, R.C, dx, _, rfl, upd_same, R.cl, R.nO, by omega, ?_⟩
    rw [upd_upd]
    generalize hf5 : putF ("total" : Str) (V.int 0) f4 = f5
    have g5 : f5.length ≤ 5 := by
      have := putF_len ("total" : Str) (V.int 0) f4
      rw [← hf5]
      omega
    refine ⟨(by show 0 ≤ sizeLine; decide), fun l nl => ?_⟩
    have tl : t ≠ l := ne_of_none upd_same nl
    have nl5 : H5 l = none := by rw [upd_ne tl.symm] at nl; exact nl
    refine ⟨.ref t, rfl, t, R.C, dx, _, rfl, by rw [upd_ne tl]; exact upd_same, R.cl, R.nK, by omega, ?_⟩
    have s05 : ∀ b u, b ≠ t → H b = some u → (upd (upd (upd H5 t (.ins R.C dx f5)) l (.lst [])) t (.ins R.C dx (putF ("sketches" : Str) (V.ref l) f5))) b = some u := fun b u n e => by
      have e5 : H5 b = some u := kp5 b u (ne_of_none e nta) (s5 _ _ (s4 _ _ e))
      rw [upd_ne n, upd_ne (ne_of_none e5 nl5), upd_ne n]
      exact e5
    have nl0 : H l = none := Same.gone (fun b u e => by
      by_cases hb : b = ta
      · subst hb
        rw [nta] at e
        cases e
      · exact kp5 b u hb (s5 _ _ (s4 _ _ e))) nl5
    have nlta : ta ≠ l := ne_of_none ta5.ob.choose_spec nl5
    have nld : d5 ≠ l := ne_of_none ta5.dc nl5
    refine q _ ta d5 l s05 nta nd0 nl0 ⟨⟨dx, _, upd_same, ?_⟩, ⟨?_, ?_⟩, ⟨[], by rw [upd_ne tl.symm]; exact upd_same, .nil⟩, tta⟩
    · refine ⟨?_, ?_, ?_, ?_, ?_, ?_, by rw [lookup_putF, if_pos rfl], fun g hg => ?_⟩
      · have := putF_len ("sketches" : Str) (V.ref l) f5
        omega
      · rw [lookup_putF, if_neg (by decide +kernel), ← hf5, lookup_putF, if_neg (by decide +kernel), ← hf4, lookup_putF, if_neg (by decide +kernel), ← hf3, lookup_putF, if_neg (by decide +kernel), ← hf2, lookup_putF, if_neg (by decide +kernel), ← hf1, lookup_putF, if_pos rfl]
      · rw [lookup_putF, if_neg (by decide +kernel), ← hf5, lookup_putF, if_neg (by decide +kernel), ← hf4, lookup_putF, if_neg (by decide +kernel), ← hf3, lookup_putF, if_neg (by decide +kernel), ← hf2, lookup_putF, if_pos rfl]
      · rw [lookup_putF, if_neg (by decide +kernel), ← hf5, lookup_putF, if_neg (by decide +kernel), ← hf4, lookup_putF, if_neg (by decide +kernel), ← hf3, lookup_putF, if_pos rfl]
      · rw [lookup_putF, if_neg (by decide +kernel), ← hf5, lookup_putF, if_neg (by decide +kernel), ← hf4, lookup_putF, if_pos rfl]
      · rw [lookup_putF, if_neg (by decide +kernel), ← hf5, lookup_putF, if_pos rfl]
      · rw [lookup_putF, if_neg (fun z => by rw [z] at hg; revert hg; decide +kernel), ← hf5, lookup_putF, if_neg (fun z => by rw [z] at hg; revert hg; decide +kernel), ← hf4, lookup_putF, if_neg (fun z => by rw [z] at hg; revert hg; decide +kernel), ← hf3, lookup_putF, if_neg (fun z => by rw [z] at hg; revert hg; decide +kernel), ← hf2, lookup_putF, if_neg (fun z => by rw [z] at hg; revert hg; decide +kernel), ← hf1, lookup_putF, if_neg (fun z => by rw [z] at hg; revert hg; decide +kernel)]
        rfl
    · obtain ⟨dy, e⟩ := ta5.ob
      exact ⟨dy, by rw [upd_ne tta.symm, upd_ne nlta, upd_ne tta.symm]; exact e⟩
    · rw [upd_ne td5.symm, upd_ne nld, upd_ne td5.symm]
      exact ta5.dc
end
end Kb



namespace Kb
open PySem PySem.Spec PyProof.Rows L2 SrtZ SrtO
theorem cut_neg {xs : List V} {b : Nat} (h : 1 ≤ b) : cutV xs (some (-(b : Int))) none = xs.drop (xs.length - b) := by
  unfold cutV
  have h2 : HT.sIx xs.length 0 (some (-(b : Int))) = xs.length - b := by
    show (if -(b : Int) < 0 then (-(b : Int) + (xs.length : Int)).toNat else min (-(b : Int)).toNat xs.length) = _
    rw [if_pos (by omega)]
    omega
  rw [h2, HT.sIx_none]
  exact List.take_of_length_le (by rw [List.length_drop]; exact Nat.le_refl _)
theorem cut_rest {xs : List V} {b : Nat} : cutV xs (some (b : Int)) none = xs.drop b := by
  unfold cutV
  rw [HT.sIx_nat, HT.sIx_none]
  by_cases h : b ≤ xs.length
  · rw [show min b xs.length = b by omega]
    exact List.take_of_length_le (by rw [List.length_drop]; exact Nat.le_refl _)
  · rw [show min b xs.length = xs.length by omega, List.drop_length, List.take_nil, List.drop_eq_nil_of_le (by omega)]
theorem paired_drop {α β : Type} {F : α → β → Prop} : ∀ {xs : List α} {ys : List β} (n : Nat), Paired F xs ys → Paired F (xs.drop n) (ys.drop n)
  | _, _, 0, h => h
  | _, _, _ + 1, .nil => .nil
  | _, _, n + 1, .cons _ t => paired_drop n t
theorem SkAt.but {H H' : Hp} {t ta d s : Addr} {r : Int} {x : Tl} (h : SkAt H s r x) (y : ∀ b u, b ≠ t → b ≠ ta → b ≠ d → H b = some u → H' b = some u) (h1 : ∃ C dx fs, H t = some (.ins C dx fs)) (h2 : ∃ C dx fs, H ta = some (.ins C dx fs)) (h3 : ∃ k, H d = some (.dK k)) : SkAt H' s r x := by
  obtain ⟨k, ts, a1, ⟨ob, a2, a2'⟩, a3⟩ := h
  obtain ⟨C1, e1, f1, h1⟩ := h1
  obtain ⟨C2, e2, f2, h2⟩ := h2
  obtain ⟨k3, h3⟩ := h3
  have go : ∀ {b : Addr} {u : HO}, H b = some u → (∀ C dx fs, u ≠ .ins C dx fs) → (∀ k, u ≠ .dK k) → H' b = some u := fun {b u} e n1 n2 => y b u (fun z => by
    subst z
    rw [e] at h1
    cases h1
    exact n1 _ _ _ rfl) (fun z => by
    subst z
    rw [e] at h2
    cases h2
    exact n1 _ _ _ rfl) (fun z => by
    subst z
    rw [e] at h3
    cases h3
    exact n2 _ rfl) e
  exact ⟨k, ts, go a1 (by intro _ _ _ z; cases z) (by intro _ z; cases z), ⟨ob, go a2 (by intro _ _ _ z; cases z) (by intro _ z; cases z), a2'⟩, paired_imp (fun t e h => go h (by intro _ _ _ z; cases z) (by intro _ z; cases z)) a3⟩
/-- a place that the others have not -/
def New3 (H : Hp) (ta d p : Addr) : Prop := p = ta ∨ p = d ∨ H p = none
theorem But3.gone {t ta d p : Addr} {H H' : Hp} (b : But3 t ta d H H') {u : HO} (ht : H' t = some u) (hp : H' p = none) : New3 H ta d p := by
  by_cases h1 : p = t
  · subst h1
    rw [ht] at hp
    cases hp
  · by_cases h2 : p = ta
    · exact .inl h2
    · by_cases h3 : p = d
      · exact .inr (.inl h3)
      · refine .inr (.inr ?_)
        cases h : H p with
        | none => rfl
        | some v =>
          rw [b p v h1 h2 h3 h] at hp
          cases hp
theorem But3.same {t ta d : Addr} {H H1 H2 : Hp} (b : But3 t ta d H H1) (s : Same H1 H2) : But3 t ta d H H2 := fun x u n1 n2 n3 e => s _ _ (b x u n1 n2 n3 e)
theorem But3.upT {t ta d : Addr} {H H1 : Hp} {v : HO} (b : But3 t ta d H H1) : But3 t ta d H (upd H1 t v) := fun x u n1 n2 n3 e => by
  rw [upd_ne n1]
  exact b x u n1 n2 n3 e
/-- a ring that was fed -/
def ringX (r sz to : Int) (n : Str) (x : Tl) : Tl := if (to + 1) % sz = 0 then tl0 else feedT r n 1 x
def ringY (r sz bl to : Int) (n : Str) (x : Tl) (ys : List Tl) : List Tl := if (to + 1) % sz = 0 then (ys ++ [feedT r n 1 x]).drop (ys.length + 1 - bl.toNat) else ys
section
variable {P : Program} {w : World} {K : PySem.W.Frag} {mg : Str → Option Value} {base : Heap}
/-! Ring.feed -/
def spRfeed (CR CT : Addr) : Sp := fun vs H Q _ => ∃ (t ta d l : Addr) (r sz bl to : Int) (x : Tl) (ys : List Tl) (n : Str), vs = [.ref t, .str n] ∧ RingAt CR CT H t ta d l r sz bl to x ys ∧ Nm n ∧ TlOk r x ∧ 1 ≤ r ∧ r ≤ 64 ∧ 1 ≤ sz ∧ sz ≤ 1000000 ∧ 1 ≤ bl ∧ bl ≤ 100 ∧ 0 ≤ to ∧ ys.length ≤ 100 ∧
  ∀ H' ta' d' l', But3 t ta d H H' → New3 H ta d ta' → New3 H ta d d' → (l' = l ∨ New3 H ta d l') → RingAt CR CT H' t ta' d' l' r sz bl (to + 1) (ringX r sz to n x) (ringY r sz bl to n x ys) → Q .non H'
theorem ok_Rfeed (T : Blt mg) (cM : Cst mg "MOST_ROOM" (.int 64)) (cL : Cst mg "LONGEST_NAME" (.int 8)) (dP_is_int : DnIsInt K mg) (dP_is_room : DnIsRoom K mg) (dP_is_name : DnIsName K mg) (dP_bare : DnBare K mg) (L : Tal K mg) (R : Rng K mg) :
    FnOk P w K mg base CX0 4 R.fF R.dF ["self", "name"] (spRfeed R.C L.C) := by
  have GP_bare : FnOk P w K mg base CX0 3 dP_bare.f dP_bare.fd ["room"] spBare := ok_bare T cM dP_is_int dP_is_room dP_bare
  have GP_is_name : FnOk P w K mg base CX0 1 dP_is_name.f dP_is_name.fd ["thing"] spIsName := ok_is_name T cL dP_is_name
  have GI : FnOk P w K mg base CX0 1 L.fI L.dI ["self", "sketch"] (spTinit K L.C) := ok_Tinit T L
  have GS : FnOk P w K mg base CX0 1 L.fS L.dS ["self"] (spTsketch L.C) := ok_Tsketch T L
  have GF : FnOk P w K mg base CX0 2 L.fF L.dF ["self", "name", "times"] (spTfeed L.C) := ok_Tfeed T L
  refine R.FF.ok scRfeed (fun vs H Q E h => ?_) (fun cdv A outer s H vs Q E hr h => ?_)
  · obtain ⟨t, ta, d, l, r, sz, bl, to, x, ys, n, rfl, _⟩ := h
    rfl
  · obtain ⟨t, ta, d, l, r, sz, bl, to, x, ys, n, rfl, ra, hn, ok, hr1, hr64, hs1, hs2, hb1, hb2, ht0, hy, q⟩ := h
    refine ⟨_, (pss_cons (ps_if (pt_not (pt_val (pe_call GP_is_name (hr.mono (by omega)) (by rfl) dP_is_name.g dP_is_name.F.kp dP_is_name.b .nil pass0 (pa_cons (pv 1) pa_nil))))
      (pss_one ps_never)
      pss_nil)
    (pss_cons (ps_expr (pe_meth (pe_fld (pv 0) rfl) L.cl L.mF GF (hr.mono (by omega)) L.bF .nil pass0 (pa_cons (pv 1) (pa_cons pe_int pa_nil))))
    (pss_cons (ps_fldaug (pv 0) pe_int in_add)
    (pss_one (ps_if (pt_cmpR op_eq (pe_op op_modB (pe_fld (pv 0) rfl) (pe_fld (pv 0) rfl)) pe_int (nomark _))
      (pss_cons (ps_fld (pv 0) (pe_slice sl_list (pe_op op_cat (pe_fld (pv 0) rfl) (pe_lst (pa_cons (pe_meth0 (pe_fld (pv 0) rfl) L.cl L.mS GS (hr.mono (by omega)) L.bS .nil pass0) pa_nil))) (po_some (pe_un un_neg (pe_fld (pv 0) rfl))) po_none) rfl)
      (pss_one (ps_fld (pv 0) (pe_make L.mI GI (hr.mono (by omega)) (by rfl) L.g L.bI .nil pass0 (pa_cons (pe_call GP_bare (hr.mono (by omega)) (by rfl) dP_bare.g dP_bare.F.kp dP_bare.b .nil pass0 (pa_cons (pe_fld (pv 0) rfl) pa_nil)) pa_nil)) rfl)))
      pss_nil))))), ?_⟩
    obtain ⟨dx, fs, ht, rf⟩ := ra.ob
    obtain ⟨dx2, hta⟩ := ra.tal.ob
    obtain ⟨sks, hl, hsk⟩ := ra.li
    have hd := ra.tal.dc
    have tta := ra.ne
    have td : t ≠ d := ne_of ht hd (by intro z; cases z)
    have lt : l ≠ t := ne_of hl ht (by intro z; cases z)
    have lta : l ≠ ta := ne_of hl hta (by intro z; cases z)
    have ld : l ≠ d := ne_of hl hd (by intro z; cases z)
    have lx := ok.len
    refine ⟨.str n, rfl, n, rfl, hn, fun H1 s1 => ⟨true, rfl, iteF ?_⟩⟩
    have ht1 := s1 _ _ ht
    have hta1 := s1 _ _ hta
    refine ⟨.ref t, rfl, t, R.C, dx, fs, _, rfl, ht1, R.cl, R.nT, rf.t, ta, dx2, _, rfl, hta1, (by rfl), .str n, rfl, ta, d, r, 1, n, x, rfl, ra.tal.same s1, ok.nd, by omega, hr1, fun H2 d2 bt2 hd2 ta2 => ?_⟩
    have okf := feedT_ok ok hr1 hn (c := 1) (by decide)
    have ht2 : H2 t = some (.ins R.C dx fs) := bt2 t _ tta td ht1
    have b02 : But3 t ta d H H2 := fun b u n1 n2 n3 e => bt2 b u n2 n3 (s1 _ _ e)
    have hd20 : d2 = d ∨ H d2 = none := hd2.imp id (Same.gone s1)
    have tnd2 : t ≠ d2 := ne_of ht2 ta2.dc (by intro z; cases z)
    -- the total
    refine ⟨.ref t, rfl, t, R.C, dx, fs, _, rfl, ht2, R.cl, R.nO, rf.o, to, 1, rfl, rfl, dx, fs, ht2, by have := rf.len; omega, ?_⟩
    have rf3 := rf.total (to + 1)
    have hl2 : H2 l = some (.lst (sks.map V.ref)) := b02 l _ lt lta ld hl
    have hsk2 : Paired (fun s y => SkAt H2 s r y) sks ys := paired_imp (fun s y h => h.but b02 ⟨_, _, _, ht⟩ ⟨_, _, _, hta⟩ ⟨_, hd⟩) hsk
    generalize putF ("total" : Str) (V.int (to + 1)) fs = fs3 at rf3 ⊢
    have b03 : But3 t ta d H (upd H2 t (.ins R.C dx fs3)) := b02.upT
    have ht3 : (upd H2 t (.ins R.C dx fs3)) t = some (.ins R.C dx fs3) := upd_same
    have hl3 : (upd H2 t (.ins R.C dx fs3)) l = some (.lst (sks.map V.ref)) := by rw [upd_ne lt]; exact hl2
    have ta3 : TalAt L.C (upd H2 t (.ins R.C dx fs3)) ta d2 r (feedT r n 1 x).m (feedT r n 1 x).o (feedT r n 1 x).c := by
      obtain ⟨⟨dy, e⟩, e2⟩ := ta2
      exact ⟨⟨dy, by rw [upd_ne tta.symm]; exact e⟩, by rw [upd_ne tnd2.symm]; exact e2⟩
    have nd2 : New3 H ta d d2 := by
      rcases hd20 with h | h
      · exact .inr (.inl h)
      · exact .inr (.inr h)
    generalize upd H2 t (.ins R.C dx fs3) = H3 at b03 ht3 hl3 ta3 ⊢
    obtain ⟨dx3, hta3⟩ := id ta3.ob
    refine ⟨.ref t, rfl, t, R.C, dx, fs3, _, rfl, ht3, R.cl, R.nO, rf3.o, .ref t, rfl, t, R.C, dx, fs3, _, rfl, ht3, R.cl, R.nS, rf3.s, _, _, rfl, rfl, by omega, fun m m0 m1 hm => ⟨rfl, _, rfl, ?_⟩⟩
    subst hm
    by_cases hz : (to + 1) % sz = 0
    · rw [show decide (V.int ((to + 1) % sz) = V.int 0) = true from decide_eq_true (by rw [hz])]
      have okl := okf.len
      refine iteT ⟨.ref t, rfl, t, R.C, dx, fs3, _, rfl, ht3, R.cl, R.nK, rf3.k, .ref t, rfl, t, R.C, dx, fs3, _, rfl, ht3, R.cl, R.nT, rf3.t, ta, dx3, _, rfl, hta3, (by rfl), ta, d2, r, _, _, _, rfl, ta3, okf.nd, by omega, fun H4 s k zs ts s4 ns hs hk hp pm asc => ⟨(by show 1 ≤ sizeLine; decide), fun b nb => ?_⟩⟩
      have sk4 : SkAt H4 s r (feedT r n 1 x) := ⟨k, ts, hs, hk, by rw [← srtZ_of asc pm okf.nd]; exact hp⟩
      have s5 : Same H4 (upd H4 b (.lst [.ref s])) := same_upd nb
      have hb5 : (upd H4 b (.lst [.ref s])) b = some (.lst [.ref s]) := upd_same
      generalize upd H4 b (.lst [.ref s]) = H5 at s5 hb5 ⊢
      have hl5 := s5 _ _ (s4 _ _ hl3)
      have hsl : sks.length = ys.length := Paired.length hsk
      refine ⟨l, b, _, _, rfl, rfl, hl5, hb5, by rw [List.length_map, hsl, sizeLine_eq]; show ys.length + 1 ≤ _; omega, fun p np => ?_⟩
      have e1 : sks.map V.ref ++ [V.ref s] = (sks ++ [s]).map V.ref := by
        rw [List.map_append]
        rfl
      rw [e1]
      have s6 : Same H5 (upd H5 p (.lst ((sks ++ [s]).map V.ref))) := same_upd np
      have hp6 : (upd H5 p (.lst ((sks ++ [s]).map V.ref))) p = some (.lst ((sks ++ [s]).map V.ref)) := upd_same
      generalize upd H5 p (.lst ((sks ++ [s]).map V.ref)) = H6 at s6 hp6 ⊢
      have s36 : Same H3 H6 := fun b u z => s6 _ _ (s5 _ _ (s4 _ _ z))
      obtain ⟨bn, hbn⟩ := Int.eq_ofNat_of_zero_le (show (0 : Int) ≤ bl by omega)
      refine ⟨.ref t, rfl, t, R.C, dx, fs3, _, rfl, s36 _ _ ht3, R.cl, R.nB, rf3.b, bl, rfl, -bl, rfl, p, _, rfl, sql hp6, fun p2 np2 => ?_⟩
      rw [hbn, cut_neg (by omega), List.length_map, List.length_append, List.length_singleton, ← List.map_drop]
      have s7 : Same H6 (upd H6 p2 (.lst (((sks ++ [s]).drop (sks.length + 1 - bn)).map V.ref))) := same_upd np2
      have hp7 : (upd H6 p2 (.lst (((sks ++ [s]).drop (sks.length + 1 - bn)).map V.ref))) p2 = some (.lst (((sks ++ [s]).drop (sks.length + 1 - bn)).map V.ref)) := upd_same
      generalize upd H6 p2 (.lst (((sks ++ [s]).drop (sks.length + 1 - bn)).map V.ref)) = H7 at s7 hp7 ⊢
      have s37 : Same H3 H7 := fun b u z => s7 _ _ (s36 _ _ z)
      have ht7 := s37 _ _ ht3
      have np23 : H3 p2 = none := Same.gone s36 np2
      have tp2 : t ≠ p2 := ne_of_none ht3 np23
      refine ⟨.ref t, rfl, t, R.C, dx, fs3, rfl, ht7, R.cl, R.nK, by have := rf3.len; omega, ?_⟩
      have rf4 := rf3.sketches p2
      generalize putF ("sketches" : Str) (V.ref p2) fs3 = fs4 at rf4 ⊢
      have ht8 : (upd H7 t (.ins R.C dx fs4)) t = some (.ins R.C dx fs4) := upd_same
      have b38 : ∀ b u, b ≠ t → H3 b = some u → (upd H7 t (.ins R.C dx fs4)) b = some u := fun b u hb e => by
        rw [upd_ne hb]
        exact s37 _ _ e
      have b48 : ∀ b u, b ≠ t → H4 b = some u → (upd H7 t (.ins R.C dx fs4)) b = some u := fun b u hb e => by
        rw [upd_ne hb]
        exact s7 _ _ (s6 _ _ (s5 _ _ e))
      have hp8 : (upd H7 t (.ins R.C dx fs4)) p2 = some (.lst (((sks ++ [s]).drop (sks.length + 1 - bn)).map V.ref)) := by rw [upd_ne tp2.symm]; exact hp7
      have b08 : But3 t ta d H (upd H7 t (.ins R.C dx fs4)) := (b03.same s37).upT
      generalize upd H7 t (.ins R.C dx fs4) = H8 at ht8 b38 b48 hp8 b08 ⊢
      -- a new tally
      refine ⟨.ref t, rfl, t, R.C, dx, fs4, _, rfl, ht8, R.cl, R.nR, rf4.r, r, rfl, hr1, hr64, fun H9 sk k9 s9 nsk hsk9 hk9 ta' dx9 nt ndx hne => ?_⟩
      have sA : Same H9 (upd (upd H9 dx9 (.own ta')) ta' (.ins L.C dx9 [])) := Same.new (same_upd ndx) (by rw [upd_ne hne.symm]; exact nt)
      refine ⟨ta', dx9, sk, k9, r, 0, 0, [], [], rfl, upd_same, .inl (.inl (sA _ _ hsk9)), hk9.same sA, .nil, List.nodup_nil, fun HB dB kpB ndB taB => ⟨rfl, ?_⟩⟩
      have s8B : Same H8 HB := fun b u e => kpB b u (ne_of_none (s9 _ _ e) nt) (sA _ _ (s9 _ _ e))
      have htB := s8B _ _ ht8
      have nt8 : H8 ta' = none := Same.gone s9 nt
      have ndB8 : H8 dB = none := Same.gone s9 (Same.gone sA ndB)
      have tta' : t ≠ ta' := ne_of_none ht8 nt8
      have tdB : t ≠ dB := ne_of_none ht8 ndB8
      refine ⟨.ref t, rfl, t, R.C, dx, fs4, rfl, htB, R.cl, R.nT, by have := rf4.len; omega, ?_⟩
      have rf5 := rf4.tally ta'
      generalize putF ("tally" : Str) (V.ref ta') fs4 = fs5 at rf5 ⊢
      have b0C : But3 t ta d H (upd HB t (.ins R.C dx fs5)) := (b08.same s8B).upT
      have eX : ringX r sz to n x = tl0 := if_pos hz
      have eY : ringY r sz bl to n x ys = (ys ++ [feedT r n 1 x]).drop (ys.length + 1 - bl.toNat) := if_pos hz
      rw [eX, eY] at q
      have hbt : bl.toNat = bn := by omega
      refine q _ ta' dB p2 b0C (b08.gone ht8 nt8) (b08.gone ht8 ndB8) (.inr (b03.gone ht3 np23)) ⟨⟨dx, fs5, upd_same, rf5⟩, ?_, ⟨(sks ++ [s]).drop (sks.length + 1 - bn), ?_, ?_⟩, tta'⟩
      · obtain ⟨⟨dy, e⟩, e2⟩ := taB
        exact ⟨⟨dy, by rw [upd_ne tta'.symm]; exact e⟩, by rw [upd_ne tdB.symm]; exact e2⟩
      · rw [upd_ne tp2.symm]
        exact s8B _ _ hp8
      · rw [hbt, hsl]
        refine paired_drop _ (paired_snoc (paired_imp (fun s y h => h.but b0C ⟨_, _, _, ht⟩ ⟨_, _, _, hta⟩ ⟨_, hd⟩) hsk) ?_)
        refine sk4.but (t := t) (ta := t) (d := d2) (fun b u n1 _ _ e => ?_) ⟨_, _, _, s4 _ _ ht3⟩ ⟨_, _, _, s4 _ _ ht3⟩ ?_
        · rw [upd_ne n1]
          exact s8B _ _ (b48 b u n1 e)
        · exact ⟨_, s4 _ _ ta3.dc⟩
    · rw [show decide (V.int ((to + 1) % sz) = V.int 0) = false from decide_eq_false (by intro z; injection z with z; exact hz z)]
      have eX : ringX r sz to n x = feedT r n 1 x := if_neg hz
      have eY : ringY r sz bl to n x ys = ys := if_neg hz
      rw [eX, eY] at q
      exact iteF (q H3 ta d2 l b03 (.inl rfl) nd2 (.inl rfl) ⟨⟨dx, fs3, ht3, rf3⟩, ta3, ⟨sks, hl3, paired_imp (fun s y h => h.but b03 ⟨_, _, _, ht⟩ ⟨_, _, _, hta⟩ ⟨_, hd⟩) hsk⟩, tta⟩)
end
end Kb



namespace Kb
open PySem PySem.Spec PyProof.Rows L2 SrtZ SrtO
theorem RingAt.same {CR CT : Addr} {H H' : Hp} {t ta d l : Addr} {r sz bl to : Int} {x : Tl} {ys : List Tl} (h : RingAt CR CT H t ta d l r sz bl to x ys) (s : Same H H') : RingAt CR CT H' t ta d l r sz bl to x ys := by
  obtain ⟨⟨dx, fs, h1, h2⟩, h3, ⟨sks, h4, h5⟩, h6⟩ := h
  exact ⟨⟨dx, fs, s _ _ h1, h2⟩, h3.same s, ⟨sks, s _ _ h4, paired_imp (fun a b h => h.same s) h5⟩, h6⟩
section
variable {P : Program} {w : World} {K : PySem.W.Frag} {mg : Str → Option Value} {base : Heap}
/-! Ring.last -/
def spRlast (CR CT : Addr) : Sp := fun vs H Q _ => ∃ (t ta d l : Addr) (r sz bl to : Int) (x : Tl) (ys : List Tl) (j : Nat), vs = [.ref t, .int (j : Int)] ∧ RingAt CR CT H t ta d l r sz bl to x ys ∧ (j : Int) ≤ bl ∧
  ∀ H' u (us : List Addr), Same H H' → H u = none → H' u = some (.tup (us.map V.ref)) → Paired (fun s y => SkAt H' s r y) us (ys.drop (ys.length - j)) → Q (.ref u) H'
theorem ok_Rlast (T : Blt mg) (nmax : mg "max" = none) (dP_is_int : DnIsInt K mg) (dP_is_within : DnIsWithin K mg) (R : Rng K mg) (CT : Addr) : FnOk P w K mg base CX0 3 R.fL R.dL ["self", "j"] (spRlast R.C CT) := by
  have GP_is_within : FnOk P w K mg base CX0 2 dP_is_within.f dP_is_within.fd ["thing", "low", "high"] spIsWithin := ok_is_within T dP_is_int dP_is_within
  refine R.FL.ok scRlast (fun vs H Q E h => ?_) (fun cdv A outer s H vs Q E hr h => ?_)
  · obtain ⟨t, ta, d, l, r, sz, bl, to, x, ys, j, rfl, _⟩ := h
    rfl
  · obtain ⟨t, ta, d, l, r, sz, bl, to, x, ys, j, rfl, ra, hj, q⟩ := h
    refine ⟨_, (pss_cons (ps_if (pt_not (pt_val (pe_call GP_is_within (hr.mono (by omega)) (by rfl) dP_is_within.g dP_is_within.F.kp dP_is_within.b .nil pass0 (pa_cons (pv 1) (pa_cons pe_int (pa_cons (pe_fld (pv 0) rfl) pa_nil))))))
      (pss_one ps_never)
      pss_nil)
    (pss_one (ps_ret (pe_callTy call_tuple_of (by rfl) T.n_tuple (by decide +kernel) (pa_cons (pe_slice sl_list (pe_fld (pv 0) rfl) (po_some (pe_callB (call_max2 rfl) (by rfl) nmax (by decide +kernel) (pa_cons pe_int (pa_cons (pe_op op_sub (pe_callB call_len_seq (by rfl) T.n_len (by decide +kernel) (pa_cons (pe_fld (pv 0) rfl) pa_nil)) (pv 1)) pa_nil)))) po_none) pa_nil))))), ?_⟩
    obtain ⟨dx, fs, ht, rf⟩ := ra.ob
    obtain ⟨sks, hl, hsk⟩ := ra.li
    have hsl : sks.length = ys.length := Paired.length hsk
    refine ⟨.int (j : Int), rfl, .ref t, rfl, t, R.C, dx, fs, _, rfl, ht, R.cl, R.nB, rf.b, j, 0, bl, rfl, by omega, hj, true, rfl, iteF ?_⟩
    refine ⟨.ref t, rfl, t, R.C, dx, fs, _, rfl, ht, R.cl, R.nK, rf.k, .ref t, rfl, t, R.C, dx, fs, _, rfl, ht, R.cl, R.nK, rf.k, l, _, rfl, .inl (sql hl), .int (j : Int), rfl, _, _, rfl, rfl, 0, _, rfl, ((ys.length - j : Nat) : Int), ?_, l, _, rfl, sql hl, fun p np => ?_⟩
    · rw [List.length_map, hsl]
      refine congrArg V.int ?_
      by_cases h : (ys.length : Int) - (j : Int) > 0
      · rw [if_pos h]
        omega
      · rw [if_neg h]
        omega
    rw [cut_rest, ← List.map_drop, ← hsl]
    have s1 : Same H (upd H p (.lst ((sks.drop (sks.length - j)).map V.ref))) := same_upd np
    have hp1 : (upd H p (.lst ((sks.drop (sks.length - j)).map V.ref))) p = some (.lst ((sks.drop (sks.length - j)).map V.ref)) := upd_same
    generalize upd H p (.lst ((sks.drop (sks.length - j)).map V.ref)) = H1 at s1 hp1 ⊢
    refine ⟨p, _, rfl, .inl ⟨sql hp1, fun u nu => ?_⟩⟩
    have s2 : Same H (upd H1 u (.tup ((sks.drop (sks.length - j)).map V.ref))) := Same.new s1 nu
    refine q _ u _ s2 (Same.gone s1 nu) upd_same ?_
    rw [← hsl]
    exact paired_drop _ (paired_imp (fun a b h => h.same s2) hsk)
/-! Ring.copy -/
end
end Kb


namespace Kb
open PySem PySem.Spec PyProof.Rows L2 SrtZ SrtO
abbrev snumber : Stmt := topS 55
theorem scnumber : FnScope ["_law_well_here", "_law_kind"] ["_law_well_here"] (defScope snumber) := ⟨rfl, rfl, rfl, by decide +kernel, rfl, by decide +kernel, by decide +kernel⟩
abbrev skept : Stmt := topS 73
theorem sckept : FnScope ["_law_well_here", "_law_names_here", "_law_room_here", "_law_small", "_law_kept_here", "_law_name_here"] ["_law_well_here", "_law_names_here", "_law_room_here", "_law_small"] (defScope skept) := ⟨rfl, rfl, rfl, by decide +kernel, rfl, by decide +kernel, by decide +kernel⟩
abbrev ssum : Stmt := topS 71
abbrev Nsum : List Str := ["_law_counts", "_law_pair"]
theorem scsum : FnScope ["_law_counts", "_law_pair"] ["_law_counts"] (defScope ssum) := ⟨rfl, rfl, rfl, by decide +kernel, rfl, by decide +kernel, by decide +kernel⟩
abbrev ssketch : Stmt := topS 74
theorem scsketch : FnScope ["_law_well_here", "_law_names_here", "_law_room_here", "_law_small", "_law_kept_here", "_law_off", "_law_least", "_law_most", "_law_lost"] ["_law_well_here", "_law_names_here", "_law_room_here", "_law_small"] (defScope ssketch) := ⟨rfl, rfl, rfl, by decide +kernel, rfl, by decide +kernel, by decide +kernel⟩
abbrev Dnnumber (K : PySem.W.Frag) (mg : Str → Option Value) := Dn K mg "_law_number" snumber ["_law_well_here"]
abbrev Dnkept (K : PySem.W.Frag) (mg : Str → Option Value) := Dn K mg "_law_kept" skept ["_law_well_here", "_law_names_here", "_law_room_here", "_law_small"]
abbrev Dnsum (K : PySem.W.Frag) (mg : Str → Option Value) := Dn K mg "_law_sum" ssum ["_law_counts"]
abbrev Dnsketch (K : PySem.W.Frag) (mg : Str → Option Value) := Dn K mg "_law_sketch" ssketch ["_law_well_here", "_law_names_here", "_law_room_here", "_law_small"]
theorem prt_exw {a c : Addr} {H H' : Hp} (x : Exw a H H') (w : Wl a c H) : ∀ {ts : List Addr} {kvs : Ct}, Paired (PrT H) ts kvs → Paired (PrT H') ts kvs
  | _, _, .nil => .nil
  | _, _, .cons h t => .cons (x.at w h (by intro _ z; cases z)) (prt_exw x w t)
theorem ptp_exw {a c k : Addr} {H H' : Hp} {xs : List V} (x : Exw a H H') (w : Wl a c H) (h : Ptp H k xs) : Ptp H' k xs := by
  obtain ⟨o, e, d⟩ := h
  exact ⟨o, x.at w e (by intro _ z; cases z), d⟩
section
variable {P : Program} {w : World} {K : PySem.W.Frag} {mg : Str → Option Value} {base : Heap}
/-! _law_number -/
def spNumber : Sp := fun vs H Q _ => ∃ (a c : Addr), vs = [.ref a] ∧ Wl a c H ∧ ∀ H' (r : Int), Exw a H H' → Wl a c H' → 0 ≤ r → r < 1000000000 → Q (.int r) H'
theorem ok_number (T : Blt mg) (dmixed : Dnmixed K mg) (dfilled : Dnfilled K mg) (ddraw : Dndraw K mg) (d : Dnnumber K mg) : FnOk P w K mg base CX0 4 d.f d.fd ["_law_well_here"] spNumber := by
  have Gdraw : FnOk P w K mg base CX0 3 ddraw.f ddraw.fd ["_law_well_here", "_law_many"] spDraw := ok_draw T dmixed dfilled ddraw
  refine d.F.ok scnumber (fun vs H Q E h => ?_) (fun cdv A outer s H vs Q E hr h => ?_)
  · obtain ⟨a, c, rfl, _⟩ := h
    rfl
  · obtain ⟨a, c, rfl, hw, q⟩ := h
    refine ⟨_, (pss_cons (ps_set (i := 1) scnumber.nd rfl (Or.inl rfl) (pe_call Gdraw (hr.mono (by omega)) (by rfl) ddraw.g ddraw.F.kp ddraw.b .nil pass0 (pa_cons (pv 0) (pa_cons pe_int pa_nil))))
    (pss_cons (ps_if (pt_cmpR op_eq (pv 1) pe_int (nomark _))
      (pss_one (ps_ret (pe_call Gdraw (hr.mono (by omega)) (by rfl) ddraw.g ddraw.F.kp ddraw.b .nil pass0 (pa_cons (pv 0) (pa_cons (pe_op op_pow pe_int pe_int) pa_nil)))))
      pss_nil)
    (pss_one (ps_ret (pe_call Gdraw (hr.mono (by omega)) (by rfl) ddraw.g ddraw.F.kp ddraw.b .nil pass0 (pa_cons (pv 0) (pa_cons (pe_ix ix_list (pe_lst (pa_cons pe_int (pa_cons pe_int (pa_cons (pe_op op_pow pe_int pe_int) pa_nil)))) (pv 1) (fun _ _ => rfl)) pa_nil))))))), ?_⟩
    refine ⟨.ref a, rfl, a, c, 4, rfl, hw, (by decide), (by decide), fun H1 k x1 w1 k0 k1 => ?_⟩
    refine ⟨.int k, rfl, rfl, _, rfl, ?_⟩
    by_cases h3 : k = 3
    · rw [show decide (V.int k = V.int 3) = true from decide_eq_true (by rw [h3])]
      refine iteT ⟨.ref a, rfl, _, _, rfl, rfl, ⟨by decide, by decide, by decide⟩, a, c, 1000000000, rfl, w1, by decide, by decide, fun H2 r x2 w2 r0 r1 => ?_⟩
      exact q H2 r (x1.trans x2) w2 r0 r1
    · rw [show decide (V.int k = V.int 3) = false from decide_eq_false (by intro z; injection z with z; exact h3 z)]
      refine iteF ⟨.ref a, rfl, _, _, rfl, rfl, ⟨by decide, by decide, by decide⟩, (by show 3 ≤ sizeLine; decide), fun l nl => ?_⟩
      have hl := w1.ne2 nl
      obtain ⟨kn, rfl⟩ := Int.eq_ofNat_of_zero_le k0
      have hk : kn < 3 := by omega
      obtain ⟨m, hm, m0, m1⟩ : ∃ m : Int, [V.int 3, V.int 40, V.int (10 ^ (6 : Int).toNat)][kn]? = some (.int m) ∧ 0 < m ∧ m ≤ 1000000 := by
        match kn, hk with
        | 0, _ => exact ⟨3, rfl, by decide, by decide⟩
        | 1, _ => exact ⟨40, rfl, by decide, by decide⟩
        | 2, _ => exact ⟨10 ^ (6 : Int).toNat, rfl, by decide, by decide⟩
        | n + 3, h => exact absurd h (by omega)
      have sl : Same H1 (upd H1 l (.lst [V.int 3, V.int 40, V.int (10 ^ (6 : Int).toNat)])) := same_upd nl
      refine ⟨.int (kn : Int), rfl, l, _, _, _, rfl, rfl, sql upd_same, atI_nat hm, a, c, m, rfl, w1.same sl, m0, (by omega), fun H2 r x2 w2 r0 r1 => ?_⟩
      exact q H2 r ((x1.same sl).trans x2) w2 r0 (by omega)
/-! _law_sum -/
def spSum (K : PySem.W.Frag) : Sp := fun vs H Q _ => ∃ (k : Addr) (kvs : Ct), vs = [.ref k] ∧ CtAt K H k kvs ∧ kvs.length ≤ 1000 ∧ ∀ H', Same H H' → Q (.int (sumC kvs)) H'
theorem ok_sum (T : Blt mg) (d : Dnsum K mg) : FnOk P w K mg base CX0 1 d.f d.fd ["_law_counts"] (spSum K) := by
  refine d.F.ok scsum (fun vs H Q E h => ?_) (fun cdv A outer s H vs Q E hr h => ?_)
  · obtain ⟨k, kvs, rfl, _⟩ := h
    rfl
  · obtain ⟨k, kvs, rfl, ⟨ts, hS, hp⟩, hl, q⟩ := h
    refine ⟨_, (pss_one (ps_ret (pe_callB (cr_sum rfl) (by rfl) T.n_sum (by decide +kernel) (pa_cons (pe_lc (own := [("_law_pair", 1)]) (g := gName 1) (tt := tYes) rfl scsum.nd (pi_tup (pv 0)) (blkOk_by (N := Nsum) (sc := defScope ssum) (by decide +kernel)) (fun _ _ _ _ _ => pg_name (i := 1) scsum.nd rfl (Or.inl rfl)) (fun _ _ _ _ _ => pts_nil) (fun _ _ _ _ _ => (pe_ix (r := rIxT K) ix_tup (pv 1) pe_int (fun _ _ => rfl)))) pa_nil)))), ?_⟩
    refine ⟨.ref k, rfl, k, rfl, ⟨_, hS⟩, fun D nD => lc_tup (xs := ts.map V.ref) (fun i H3 => Same H H3 ∧ H3 D = some (.lst ((kvs.take i).map fun e => V.int e.2))) ⟨same_upd nD, upd_same⟩ (fun i H3 _ h3 => seqT hS h3.1) (fun i x H3 hx h3 => ?_) (fun H3 h3 => ?_)⟩
    · obtain ⟨t, ht, rfl⟩ := map_at hx
      obtain ⟨e, he, hat⟩ := paired_at hp ht
      refine ⟨rfl, .ref t, rfl, t, _, _, _, rfl, rfl, seqT hat h3.1, atI_nat (j := 1) rfl, _, h3.2, ?_, fun b o z => ?_, ?_⟩
      · rw [List.length_map, List.length_take, sizeLine_eq]
        omega
      · rw [upd_ne (ne_of_none z nD)]
        exact h3.1 b o z
      · rw [upd_same, List.take_add_one, he, List.map_append]
        rfl
    · refine ⟨D, kvs.map (fun e : Str × Int => e.2), rfl, sql ?_, q H3 h3.1⟩
      rw [h3.2, List.length_map, Paired.length hp, List.take_length, List.map_map]
      rfl
/-! _law_kept, of small ones -/
def spKept : Sp := fun vs H Q _ => ∃ (a c l : Addr) (r : Int) (ys : List Str), vs = [.ref a, .ref l, .int r, .bl true] ∧ Wl a c H ∧ H l = some (.lst (ys.map V.str)) ∧ (ys.Pairwise fun a b => ltZ a b = true) ∧ (∀ y ∈ ys, Nm y) ∧ ys.length ≤ 1000 ∧ 0 ≤ r ∧ r ≤ 64 ∧
  ∀ H' k (ts : List Addr) (kvs : Ct), Exw a H H' → Wl a c H' → Ptp H' k (ts.map V.ref) → Paired (PrT H') ts kvs → Cts kvs → (kvs.length : Int) ≤ r → (∀ e ∈ kvs, e.2 ≤ 6) → Q (.ref k) H'
theorem ok_kept (T : Blt mg) (dmixed : Dnmixed K mg) (dfilled : Dnfilled K mg) (ddraw : Dndraw K mg) (dnumber : Dnnumber K mg) (d : Dnkept K mg) : FnOk P w K mg base CX0 5 d.f d.fd ["_law_well_here", "_law_names_here", "_law_room_here", "_law_small"] spKept := by
  have Gdraw : FnOk P w K mg base CX0 3 ddraw.f ddraw.fd ["_law_well_here", "_law_many"] spDraw := ok_draw T dmixed dfilled ddraw
  have Gnumber : FnOk P w K mg base CX0 4 dnumber.f dnumber.fd ["_law_well_here"] spNumber := ok_number T dmixed dfilled ddraw dnumber
  refine d.F.ok sckept (fun vs H Q E h => ?_) (fun cdv A outer s H vs Q E hr h => ?_)
  · obtain ⟨a, c, l, r, ys, rfl, _⟩ := h
    rfl
  · obtain ⟨a, c, l, r, ys, rfl, hw, hl, asc, nm, hyl, hr0, hr64, q⟩ := h
    refine ⟨_, (pss_cons (ps_set (i := 4) sckept.nd rfl (Or.inl rfl) (pe_lst pa_nil))
    (pss_cons (ps_for PassesOwn.never rfl (pi_list (pv 1)) (pg_name (i := 5) sckept.nd rfl (Or.inl rfl))
      (pss_one (ps_if (PW.pt (pw_and (pt_cmpR op_lt (pe_callB call_len_seq (by rfl) T.n_len (by decide +kernel) (pa_cons (pv 4) pa_nil)) (pv 2) (nomark _)) (pw_and1 (pt_cmpR op_gt (pe_call Gdraw (hr.mono (by omega)) (by rfl) ddraw.g ddraw.F.kp ddraw.b .nil pass0 (pa_cons (pv 0) (pa_cons pe_int pa_nil))) pe_int (nomark _)))))
        (pss_one (ps_expr (pe_bm PySem.F.plainAttrs_list PySem.F.slot_list_append PySem.F.type_list_append mt_append (pv 4) (pa_cons (pe_tup (pa_cons (pv 5) (pa_cons (pe_op op_add pe_int (pe_ix ix_list (pe_lst (pa_cons (pe_call Gdraw (hr.mono (by omega)) (by rfl) ddraw.g ddraw.F.kp ddraw.b .nil pass0 (pa_cons (pv 0) (pa_cons pe_int pa_nil))) (pa_cons (pe_call Gnumber (hr.mono (by omega)) (by rfl) dnumber.g dnumber.F.kp dnumber.b .nil pass0 (pa_cons (pv 0) pa_nil)) pa_nil))) (pe_callTy call_int1 (by rfl) T.n_int (by decide +kernel) (pa_cons (pe_not (pv 3)) pa_nil)) (fun _ _ => rfl))) pa_nil))) pa_nil))))
        pss_nil)))
    (pss_one (ps_ret (pe_callTy call_tupleF (by rfl) T.n_tuple (by decide +kernel) (pa_cons (pv 4) pa_nil)))))), ?_⟩
    refine ⟨(by show 0 ≤ sizeLine; decide), fun D nD => ?_⟩
    have Dw := hw.ne2 nD
    have lD : l ≠ D := ne_of_none hl nD
    refine ⟨.ref l, rfl, l, rfl, ⟨_, sql (by rw [upd_ne lD]; exact hl)⟩, for_list (xs := ys.map V.str) (fun i σ H3 => ∃ (y5 : Option V) (us : List Addr) (kvs : Ct), σ = [some (.ref a), some (.ref l), some (.int r), some (.bl true), some (.ref D), y5] ∧ Exw a H H3 ∧ Wl a c H3 ∧ H3 D = some (.lst (us.map V.ref)) ∧ Paired (PrT H3) us kvs ∧ (kvs.map (·.1)).Sublist (ys.take i) ∧ (∀ e ∈ kvs, 1 ≤ e.2 ∧ e.2 ≤ 6) ∧ (kvs.length : Int) ≤ r ∧ H3 l = some (.lst (ys.map V.str)))
      ⟨none, [], [], rfl, (Exw.refl a H).put nD, hw.same (same_upd nD), upd_same, .nil, List.Sublist.refl _, (fun _ h => nomatch h), hr0, by rw [upd_ne lD]; exact hl⟩ (fun i σ H3 _ ⟨_, _, _, _, _, _, _, _, _, _, _, h⟩ => sql h) ?_ ?_⟩
    · rintro i v σ H3 hi ⟨y5, us, kvs, rfl, x3, w3, hD, hp, hsub, hv, hkl, hl3⟩
      obtain ⟨y, hy, rfl⟩ := map_at hi
      have tk : ys.take (i + 1) = ys.take i ++ [y] := by rw [List.take_add_one, hy]; rfl
      have hul := Paired.length hp
      have skip : ∀ {H4 : Hp}, Exw a H3 H4 → Wl a c H4 → ∃ (y5 : Option V) (us : List Addr) (kvs : Ct), [some (V.ref a), some (.ref l), some (.int r), some (.bl true), some (.ref D), some (.str y)] = [some (.ref a), some (.ref l), some (.int r), some (.bl true), some (.ref D), y5] ∧ Exw a H H4 ∧ Wl a c H4 ∧ H4 D = some (.lst (us.map V.ref)) ∧ Paired (PrT H4) us kvs ∧ (kvs.map (·.1)).Sublist (ys.take (i + 1)) ∧ (∀ e ∈ kvs, 1 ≤ e.2 ∧ e.2 ≤ 6) ∧ (kvs.length : Int) ≤ r ∧ H4 l = some (.lst (ys.map V.str)) := fun {H4} x4 w4 =>
        ⟨_, us, kvs, rfl, x3.trans x4, w4, x4 _ _ Dw.1 hD, prt_exw x4 w3 hp, hsub.trans (by rw [tk]; exact List.sublist_append_left _ _), hv, hkl, x4.strs w3 hl3⟩
      refine ⟨.ref D, rfl, D, _, rfl, .inl (sql hD), .int r, rfl, _, _, rfl, rfl, _, rfl, ?_⟩
      refine ite2 (fun hlt => ?_) fun _ => skip (Exw.refl a H3) w3
      have hlt : ((us.map V.ref).length : Int) < r := of_decide_eq_true hlt
      rw [List.length_map, hul] at hlt
      refine ⟨.ref a, rfl, a, c, 4, rfl, w3, (by decide), (by decide), fun H4 k4 x4 w4 k40 k41 => ⟨_, _, rfl, rfl, _, rfl, ?_⟩⟩
      refine ite2 (fun _ => ?_) fun _ => skip x4 w4
      have hD4 := x4 _ _ Dw.1 hD
      refine ⟨.ref D, rfl, .inl ⟨rfl, _, sql hD4⟩, .str y, rfl, .ref a, rfl, a, c, 6, rfl, w4, (by decide), (by decide), fun H5 k5 x5 w5 k50 k51 => ?_⟩
      refine ⟨.ref a, rfl, a, c, rfl, w5, fun H6 k6 x6 w6 k60 k61 => ⟨(by show 2 ≤ sizeLine; decide), fun p np => ?_⟩⟩
      have pw := w6.ne2 np
      have s7 : Same H6 (upd H6 p (.lst [.int k5, .int k6])) := same_upd np
      have hp7 : (upd H6 p (.lst [.int k5, .int k6])) p = some (.lst [.int k5, .int k6]) := upd_same
      have x46 : Exw a H3 (upd H6 p (.lst [.int k5, .int k6])) := ((x4.trans x5).trans x6).same s7
      have w7 := w6.same s7
      generalize upd H6 p (.lst [.int k5, .int k6]) = H7 at s7 hp7 x46 w7 ⊢
      refine ⟨.bl true, rfl, true, rfl, .inr ⟨_, rfl, p, _, _, _, rfl, rfl, sql hp7, atI_nat (j := 0) rfl, _, _, rfl, rfl, (by show 2 ≤ sizeLine; decide), fun t nt => ?_⟩⟩
      dsimp only
      have hD7 := x46 _ _ Dw.1 hD
      have s8 : Same H7 (upd H7 t (.tup [.str y, .int (1 + k5)])) := same_upd nt
      have ht8 : (upd H7 t (.tup [.str y, .int (1 + k5)])) t = some (.tup [.str y, .int (1 + k5)]) := upd_same
      generalize upd H7 t (.tup [.str y, .int (1 + k5)]) = H8 at s8 ht8 ⊢
      have hD8 := s8 _ _ hD7
      have w8 := w7.same s8
      have hp8 : Paired (PrT H8) us kvs := paired_imp (fun t e h => s8 _ _ h) (prt_exw x46 w3 hp)
      refine ⟨D, _, _, rfl, rfl, hD8, by rw [List.length_map, hul, sizeLine_eq]; omega, ?_⟩
      have l8 := s8 _ _ (x46.strs w3 hl3)
      refine ⟨_, us ++ [t], kvs ++ [(y, 1 + k5)], rfl, ((x3.trans x46).same s8).put nD, w8.put Dw, by rw [upd_same, List.map_append]; rfl, ?_, ?_, fun e he => ?_, by rw [List.length_append]; push_cast; show (kvs.length : Int) + 1 ≤ r; omega, by rw [upd_ne lD]; exact l8⟩
      · have keep : ∀ {t : Addr} {e : Str × Int}, PrT H8 t e → PrT (upd H8 D (.lst (us.map V.ref ++ [.ref t]))) t e := fun {t e} h => by
          show upd H8 D _ t = _
          rw [upd_ne (ne_of h hD8 (by intro z; cases z))]
          exact h
        refine paired_snoc (paired_imp (fun t' e h => ?_) hp8) ?_
        · show upd H8 D _ t' = _
          rw [upd_ne (ne_of h hD8 (by intro z; cases z))]
          exact h
        · show upd H8 D _ t = _
          rw [upd_ne (ne_of ht8 hD8 (by intro z; cases z))]
          exact ht8
      · rw [List.map_append, tk]
        exact hsub.append (List.Sublist.refl _)
      · rcases List.mem_append.mp he with he | he
        · exact hv e he
        · rw [List.mem_singleton.mp he]
          dsimp only
          omega
    · rintro σ H3 ⟨y5, us, kvs, rfl, x3, w3, hD, hp, hsub, hv, hkl, hl3⟩
      rw [List.length_map, List.take_length] at hsub
      refine ⟨.ref D, rfl, D, _, rfl, sql hD, fun k o nk ho => ?_⟩
      have s4 : Same H3 (upd H3 k (.frz o (.tup (us.map V.ref)))) := same_upd nk
      refine q _ k us kvs (x3.same s4) (w3.same s4) ⟨o, upd_same, ho⟩ (paired_imp (fun t e h => s4 _ _ h) hp) ⟨fun e he => nm _ (hsub.subset (List.mem_map.mpr ⟨e, he, rfl⟩)), fun e he => (hv e he).1, ?_⟩ hkl fun e he => (hv e he).2
      have := asc.sublist hsub
      rw [List.pairwise_map] at this
      exact this
end
end Kb


namespace Kb
open PySem PySem.Spec PyProof.Rows L2 SrtZ SrtO
theorem srt_asc {kvs : Ct} (h : kvs.Pairwise fun a b => ltZ a.1 b.1 = true) : srtZ kvs = kvs := (srtZ_of h (List.Perm.refl _) (asc_nd h)).symm
theorem sumC_le : ∀ {kvs : Ct}, (∀ e ∈ kvs, 1 ≤ e.2 ∧ e.2 ≤ 6) → 0 ≤ sumC kvs ∧ sumC kvs ≤ 6 * (kvs.length : Int)
  | [], _ => ⟨Int.le_refl _, Int.le_refl _⟩
  | e :: kvs, h => by
    obtain ⟨a, b⟩ := sumC_le (kvs := kvs) fun f hf => h f (List.mem_cons_of_mem _ hf)
    obtain ⟨c, d⟩ := h e List.mem_cons_self
    unfold sumC at a b ⊢
    rw [List.map_cons, List.sum_cons, List.length_cons]
    omega
section
variable {P : Program} {w : World} {K : PySem.W.Frag} {mg : Str → Option Value} {base : Heap}
/-! _law_sketch, of small ones -/
def spSketchS : Sp := fun vs H Q _ => ∃ (a c l : Addr) (r : Int) (ys : List Str), vs = [.ref a, .ref l, .int r, .bl true] ∧ Wl a c H ∧ H l = some (.lst (ys.map V.str)) ∧ (ys.Pairwise fun a b => ltZ a b = true) ∧ (∀ y ∈ ys, Nm y) ∧ ys.length ≤ 1000 ∧ 1 ≤ r ∧ r ≤ 64 ∧
  ∀ H' s (m o : Int) (kvs : Ct), Exw a H H' → Wl a c H' → SkAt H' s r ⟨m, o, kvs⟩ → SkG r m o kvs → o ≤ 4 → (∀ e ∈ kvs, e.2 ≤ 6) → Q (.ref s) H'
theorem ok_sketchS (T : Blt mg) (dmixed : Dnmixed K mg) (dfilled : Dnfilled K mg) (ddraw : Dndraw K mg) (dnumber : Dnnumber K mg) (dkept : Dnkept K mg) (dsum : Dnsum K mg) (d : Dnsketch K mg) : FnOk P w K mg base CX0 6 d.f d.fd ["_law_well_here", "_law_names_here", "_law_room_here", "_law_small"] spSketchS := by
  have Gdraw : FnOk P w K mg base CX0 3 ddraw.f ddraw.fd ["_law_well_here", "_law_many"] spDraw := ok_draw T dmixed dfilled ddraw
  have Gkept : FnOk P w K mg base CX0 5 dkept.f dkept.fd ["_law_well_here", "_law_names_here", "_law_room_here", "_law_small"] spKept := ok_kept T dmixed dfilled ddraw dnumber dkept
  have Gsum : FnOk P w K mg base CX0 1 dsum.f dsum.fd ["_law_counts"] (spSum K) := ok_sum T dsum
  refine d.F.ok scsketch (fun vs H Q E h => ?_) (fun cdv A outer s H vs Q E hr h => ?_)
  · obtain ⟨a, c, l, r, ys, rfl, _⟩ := h
    rfl
  · obtain ⟨a, c, l, r, ys, rfl, hw, hl, asc, nm, hyl, hr1, hr64, q⟩ := h
    refine ⟨_, (pss_cons (ps_set (i := 4) scsketch.nd rfl (Or.inl rfl) (pe_call Gkept (hr.mono (by omega)) (by rfl) dkept.g dkept.F.kp dkept.b .nil pass0 (pa_cons (pv 0) (pa_cons (pv 1) (pa_cons (pv 2) (pa_cons (pv 3) pa_nil))))))
    (pss_cons (ps_set (i := 5) scsketch.nd rfl (Or.inl rfl) (pe_ix ix_list (pe_lst (pa_cons (pe_call Gdraw (hr.mono (by omega)) (by rfl) ddraw.g ddraw.F.kp ddraw.b .nil pass0 (pa_cons (pv 0) (pa_cons pe_int pa_nil))) (pa_cons (pe_call Gdraw (hr.mono (by omega)) (by rfl) ddraw.g ddraw.F.kp ddraw.b .nil pass0 (pa_cons (pv 0) (pa_cons (pe_op op_pow pe_int pe_int) pa_nil))) pa_nil))) (pe_callTy call_int1 (by rfl) T.n_int (by decide +kernel) (pa_cons (pe_and (pe_not (pv 3)) (pe_one (pe_cmpR op_eq (pe_call Gdraw (hr.mono (by omega)) (by rfl) ddraw.g ddraw.F.kp ddraw.b .nil pass0 (pa_cons (pv 0) (pa_cons pe_int pa_nil))) pe_int (nomark _)))) pa_nil)) (fun _ _ => rfl)))
    (pss_cons (ps_set (i := 6) scsketch.nd rfl (Or.inl rfl) (pe_op op_mul (pe_op op_add (pv 2) pe_int) (pv 5)))
    (pss_cons (ps_set (i := 7) scsketch.nd rfl (Or.inl rfl) (pe_op op_mul (pe_op op_mul pe_int (pv 2)) (pv 5)))
    (pss_cons (ps_set (i := 8) scsketch.nd rfl (Or.inl rfl) (pe_ix ix_list (pe_lst (pa_cons (pv 6) (pa_cons (pv 7) (pa_cons (pe_op op_add (pv 6) (pe_call Gdraw (hr.mono (by omega)) (by rfl) ddraw.g ddraw.F.kp ddraw.b .nil pass0 (pa_cons (pv 0) (pa_cons (pe_op op_add (pe_op op_sub (pv 7) (pv 6)) pe_int) pa_nil)))) pa_nil)))) (pe_call Gdraw (hr.mono (by omega)) (by rfl) ddraw.g ddraw.F.kp ddraw.b .nil pass0 (pa_cons (pv 0) (pa_cons pe_int pa_nil))) (fun _ _ => rfl)))
    (pss_one (ps_ret (pe_tup (pa_cons (pv 2) (pa_cons (pe_op op_add (pe_call Gsum (hr.mono (by omega)) (by rfl) dsum.g dsum.F.kp dsum.b .nil pass0 (pa_cons (pv 4) pa_nil)) (pv 8)) (pa_cons (pv 5) (pa_cons (pv 4) pa_nil)))))))))))), ?_⟩
    refine ⟨.ref a, rfl, .ref l, rfl, .int r, rfl, .bl true, rfl, a, c, l, r, ys, rfl, hw, hl, asc, nm, hyl, by omega, hr64, fun H1 k ts kvs x1 w1 hk hp cts hkl hv => ?_⟩
    refine ⟨.ref a, rfl, a, c, 5, rfl, w1, (by decide), (by decide), fun H2 o x2 w2 o0 o5 => ?_⟩
    refine ⟨.ref a, rfl, _, _, rfl, rfl, ⟨by decide, by decide, by decide⟩, a, c, 100000000, rfl, w2, by decide, by decide, fun H3 k3 x3 w3 k30 k31 => ⟨(by show 2 ≤ sizeLine; decide), fun p np => ?_⟩⟩
    have s4 : Same H3 (upd H3 p (.lst [.int o, .int k3])) := same_upd np
    have hp4 : (upd H3 p (.lst [.int o, .int k3])) p = some (.lst [.int o, .int k3]) := upd_same
    have w4 := w3.same s4
    have x14 : Exw a H1 (upd H3 p (.lst [.int o, .int k3])) := (x2.trans x3).same s4
    generalize upd H3 p (.lst [.int o, .int k3]) = H4 at s4 hp4 w4 x14 ⊢
    refine ⟨.bl true, rfl, true, rfl, false, rfl, iteF (.inr ⟨_, rfl, p, _, _, _, rfl, rfl, sql hp4, atI_nat (j := 0) rfl, ?_⟩)⟩
    refine ⟨.int r, rfl, _, _, rfl, rfl, .int o, rfl, _, _, rfl, rfl, cmulL (by omega) (by omega), ?_⟩
    dsimp only
    refine ⟨.int r, rfl, _, _, rfl, rfl, cmulL (by decide) (by decide), .int o, rfl, _, _, rfl, rfl, cmulL (by omega) (by omega), ?_⟩
    dsimp only
    have hm : (r + 1) * o ≤ 2 * r * o := Int.mul_le_mul_of_nonneg_right (by omega) o0
    have hm2 : 2 * r * o ≤ 128 * o := Int.mul_le_mul_of_nonneg_right (by omega) o0
    have hm0 : 0 ≤ (r + 1) * o := Int.mul_nonneg (by omega) o0
    refine ⟨.int ((r + 1) * o), rfl, .int (2 * r * o), rfl, .int ((r + 1) * o), rfl, .ref a, rfl, .int (2 * r * o), rfl, .int ((r + 1) * o), rfl, _, _, rfl, rfl, _, _, rfl, rfl, a, c, 2 * r * o - (r + 1) * o + 1, rfl, w4, by omega, by omega, fun H5 k5 x5 w5 k50 k51 => ⟨_, _, rfl, rfl, (by show 3 ≤ sizeLine; decide), fun p2 np2 => ?_⟩⟩
    dsimp only
    have p2w := w5.ne2 np2
    have s6 : Same H5 (upd H5 p2 (.lst [.int ((r + 1) * o), .int (2 * r * o), .int ((r + 1) * o + k5)])) := same_upd np2
    have hp6 : (upd H5 p2 (.lst [.int ((r + 1) * o), .int (2 * r * o), .int ((r + 1) * o + k5)])) p2 = some (.lst [.int ((r + 1) * o), .int (2 * r * o), .int ((r + 1) * o + k5)]) := upd_same
    have w6 := w5.same s6
    have x16 := (x14.trans x5).same s6
    generalize upd H5 p2 (.lst [.int ((r + 1) * o), .int (2 * r * o), .int ((r + 1) * o + k5)]) = H6 at s6 hp6 w6 x16 ⊢
    refine ⟨.ref a, rfl, a, c, 3, rfl, w6, (by decide), (by decide), fun H7 k7 x7 w7 k70 k71 => ?_⟩
    obtain ⟨kn, rfl⟩ := Int.eq_ofNat_of_zero_le k70
    have hkn : kn < 3 := by omega
    obtain ⟨lo, hat, l0, l1⟩ : ∃ lo : Int, [V.int ((r + 1) * o), V.int (2 * r * o), V.int ((r + 1) * o + k5)][kn]? = some (.int lo) ∧ (r + 1) * o ≤ lo ∧ lo ≤ 2 * r * o := by
      match kn, hkn with
      | 0, _ => exact ⟨_, rfl, by omega, by omega⟩
      | 1, _ => exact ⟨_, rfl, by omega, by omega⟩
      | 2, _ => exact ⟨_, rfl, by omega, by omega⟩
      | n + 3, h => exact absurd h (by omega)
    have hp7 := x7 _ _ p2w.1 hp6
    refine ⟨p2, _, _, _, rfl, rfl, sql hp7, atI_nat hat, ?_⟩
    have x17 := x16.trans x7
    have hk7 := ptp_exw x17 w1 hk
    have hpr7 := prt_exw x17 w1 hp
    have hkl' : kvs.length ≤ 64 := by omega
    refine ⟨.int r, rfl, .ref k, rfl, k, kvs, rfl, ⟨ts, hk7.seq, paired_imp (fun t e h => .inl (.inl h)) hpr7⟩, by omega, fun H8 s8 => ⟨.int lo, rfl, _, _, rfl, rfl, .int o, rfl, .ref k, rfl, (by show 4 ≤ sizeLine; decide), fun s ns => ?_⟩⟩
    dsimp only
    have x18 := x17.same s8
    have w8 := w7.same s8
    have s9 : Same H8 (upd H8 s (.tup [.int r, .int (sumC kvs + lo), .int o, .ref k])) := same_upd ns
    have hsc : 0 ≤ sumC kvs ∧ sumC kvs ≤ 6 * (kvs.length : Int) := sumC_le fun e he => ⟨cts.pos e he, hv e he⟩
    have s79 : Same H7 (upd H8 s (.tup [.int r, .int (sumC kvs + lo), .int o, .ref k])) := fun b u e => s9 _ _ (s8 _ _ e)
    refine q _ s (sumC kvs + lo) o kvs (x1.trans (x18.same s9)) (w8.same s9) ⟨k, ts, upd_same, hk7.same s79, ?_⟩ ⟨hr1, hr64, by omega, o0, cts, hkl, by omega, by omega, ?_⟩ (by omega) hv
    · dsimp only
      rw [srt_asc cts.asc]
      exact paired_imp (fun t e h => s79 _ _ h) hpr7
    · have : (2 : Int) ^ 100 = 1267650600228229401496703205376 := by decide +kernel
      omega
/-! _law_others -/
end
end Kb

namespace L2
open PySem PySem.Spec PyProof.Rows
/-! errors as values beside other data -/
/-- a value's type, errors too -/
def TyD (K : PySem.W.Frag) (H : Hp) (v : V) (t : Value) : Prop := TyX K H v t ∨ ∃ a C, v = .ref a ∧ t = .ref C ∧ H a = some (ExO (.ref C) a) ∧ ExcC K C
def rIsD (K : PySem.W.Frag) : List V → Hp → VK → Prop := fun xs H Q => ∃ (x c : V) (t u : Value) (b : Bool), xs = [x, c] ∧ ClsV c u ∧ TyD K H x t ∧ PySem.W.kitOne K t u = some b ∧ Q (.bl b) H
section
variable {X : Cx}
theorem call_isD {K : PySem.W.Frag} (hK : X.K = K) : CallR X (.builtin "isinstance") (rIsD K) := by
  subst hK
  intro pins s σ H xs us Q I r h
  obtain ⟨x, c, t, u, b, rfl, k, ty | ⟨a, C, rfl, rfl, ha, hC⟩, e, q⟩ := h
  · exact call_isi pins s σ H _ us Q I r ⟨x, c, t, u, b, rfl, k, ty, e, q⟩
  · obtain ⟨u1, u2, rfl, r1, r2⟩ := vals2 r
    have e2 := k.eq r2
    subst e2
    cases r1
    obtain ⟨⟨oe, vs, ho, hz, hd, _⟩, _, _⟩ := I.hok a _ ha
    have J : PySem.W.InstAt s.heap a oe C none := by
      obtain ⟨oc, od, oda, osl⟩ := oe
      obtain ⟨h1, h2⟩ := hz
      dsimp only at h1 h2 hd
      subst h1 h2 hd
      exact ⟨ho, rfl, rfl, trivial⟩
    exact PySem.W.kia_one (PySem.W.handS_kitx_exc hC.hg hC.hk hC.hs hC.hd hC.ha hC.hn hC.ht hC.hm) I.kIn J e (fun z => nomatch z) fun tk => ⟨.bl b, H, I.kept (t' := tk) fun _ _ z => z, rfl, q⟩
/-- C(), an own class of errors without own __init__, as a value -/
theorem pe_exc0 {C : Addr} {bmB : List Value} {B newId initId : String} {x : Str} {p pos : Pos} (F : ExcBaseFacts B newId initId bmB) (q : PySem.W.excIn X.K C bmB newId = true) (gC : X.mg x = some (.ref C)) (kC : PySem.W.keepIn X.K (.ref C) = true) (hg : Gl X x) (hdb : (x == ("__debug__" : Str)) = false := by decide) :
    PE X (.Call (.Name x p) [] [] pos) (fun σ H Q => ∀ a, H a = none → Q (.ref a) (upd H a (ExO (.ref C) a))) := by
  refine ⟨fun pins s σ H Q I h => ?_⟩
  refine wpAny_Call_Name_kw (ld_glob I hg gC ?_ hdb)
  refine PySem.W.callWith_K0 I.kIn kC ?_
  obtain ⟨bm, N, nm, qn, bs, hdct, sn, sub, ab, col, dd, k0, k1, k2, k3, k5, mN, hC, hN, hni, T⟩ := exc_obj I.kIn q
  refine wpAny_call_exc_subT F T hC hN hni (fun h' a hm => ?_) (Nat.zero_le _)
  have hn : H a = none := I.hok.gone hm.new
  obtain ⟨t, ht, _, _⟩ := hm.there
  exact ⟨.ref a, upd H a (ExO (.ref C) a), I.laidN hm.keeps hm.new hn (exO_ok ht ⟨rfl, rfl⟩ rfl rfl rfl (show 4 < 6 by decide)), rfl, h a hn⟩
/-- what a raising call wishes, where the store isn't told -/
def EL (n : Nat) (W : WX) : XK := fun c d H => ∀ σ : L2.St, σ.length = n → W c d σ H
theorem passEL {W : WX} {n : Nat} (hn : X.N.length = n) (tk : Takes X W) : Passes (L2.CX X.prog X.w) X (EL n W) := fun pins σ H s e s' I c => tk e s' (XE.of_call I (fun _ _ _ h => h σ (I.len.trans hn)) c)
end
end L2

/-! plain tuples: slices of them, their sums, turned round -/
namespace L2
open PySem PySem.Spec PyProof.Rows HT
section
variable {prog : Program} {w : World} {A : Around} {E : Value → Shared → Prop} {s : Shared}
theorem rev_places (n : Nat) : Builtin.Slice.slicePlaces ((n : Int) - 1) (-1) (-1) = n := by
  unfold Builtin.Slice.slicePlaces
  have h1 : ¬ ((-1 : Int) > 0) := by decide
  simp only [h1, if_false, show (- -1 : Int) = 1 by decide, Int.ediv_one]
  split <;> omega
theorem rev_adjust (n : Nat) : Builtin.Slice.sliceAdjust none none (-1) (n : Int) = ((n : Int) - 1, -1) := by
  unfold Builtin.Slice.sliceAdjust
  simp
theorem sliceApplied_rev {sl : Addr} {vs : Value} {n : Nat} {Q : Int × Int × Nat → Shared → Prop} (hs : s.heap.IsSliceOf sl .none .none vs) (ps : IsPart vs (some (-1)))
    (h : Q (((n : Int) - 1), -1, n) s) : wpAny (model prog w) A (Builtin.Slice.sliceApplied (.ref sl) (pure (n : Int))) Q E s := by
  obtain ⟨os, hos, hcs, hds⟩ := id hs
  unfold Builtin.Slice.sliceApplied Builtin.Slice.sliceFields
  refine wpAny_bind (wpAny_bind (wpAny_field hos hds (x := .none) rfl (wpAny_bind (wpAny_field hos hds (x := .none) rfl (wpAny_bind (wpAny_field hos hds (x := vs) rfl (wpAny_pure ?_)))))))
  refine wpAny_bind (slicePart_ ps ?_)
  show wpAny _ _ (if ((-1 : Int) == 0) = true then _ else _) _ _ s
  rw [if_neg (by decide)]
  refine wpAny_bind (slicePart_none (wpAny_bind (slicePart_none (wpAny_bind (wpAny_pure ?_)))))
  show wpAny _ _ (match Builtin.Slice.sliceAdjust none none (-1) (n : Int) with | (lo, hi) => pure (lo, (-1 : Int), Builtin.Slice.slicePlaces lo hi (-1))) _ _ s
  rw [rev_adjust]
  show wpAny _ _ (pure (((n : Int) - 1), (-1 : Int), Builtin.Slice.slicePlaces ((n : Int) - 1) (-1) (-1))) _ _ s
  rw [rev_places]
  exact wpAny_pure h
theorem fm_congr {α β : Type} {f g : α → Option β} : ∀ {l : List α}, (∀ x ∈ l, f x = g x) → l.filterMap f = l.filterMap g
  | [], _ => rfl
  | x :: l, h => by
    rw [List.filterMap_cons, List.filterMap_cons, h x List.mem_cons_self, fm_congr (l := l) fun y hy => h y (List.mem_cons_of_mem _ hy)]
theorem same_fresh {H : Hp} {p : Addr} {u : HO} (h : H p = none) : Same H (upd H p u) := fun b o e => by
  rw [upd_ne (ne_of_none e h)]
  exact e
theorem rev_pick (xs : Array Value) : ((List.range xs.size).filterMap fun (m : Nat) => xs[(((xs.size : Nat) : Int) - 1 + (m : Int) * (-1)).toNat]?).toArray = xs.toList.reverse.toArray := by
  have e1 : ((List.range xs.size).filterMap fun (m : Nat) => xs[(((xs.size : Nat) : Int) - 1 + (m : Int) * (-1)).toNat]?) = (List.range xs.size).filterMap fun (m : Nat) => xs[xs.size - 1 - m]? := by
    refine fm_congr fun m hm => ?_
    have := List.mem_range.mp hm
    rw [show (((xs.size : Nat) : Int) - 1 + (m : Int) * (-1)).toNat = xs.size - 1 - m by omega]
  rw [e1]
  have e2 : ((List.range xs.size).filterMap fun (m : Nat) => xs[xs.size - 1 - m]?) = ((List.range xs.size).map fun k => xs.size - 1 - k).filterMap (xs[·]?) := by
    rw [List.filterMap_map]
    rfl
  rw [e2, PySem.W.krv_range, List.filterMap_reverse, PySem.W.krv_all]
/-- t[::-1] makes a new tuple: the slice is never the whole, for its step is -1 -/
theorem getItem_tuple_rev {t sl : Addr} {its : Array Value} {step : Value} {Q : Value → Shared → Prop} (isT : IsTup s.heap t its) (isSl : s.heap.IsSliceOf sl .none .none step) (minus : IsPart step (some (-1)))
    (q : Q (.ref s.heap.objs.size) { s with heap := s.heap.push { cls := .type "tuple", data := .seq its.toList.reverse.toArray } }) (small : its.size ≤ sizeLine) : wpAny (model prog w) A (getItem (.ref t) (.ref sl)) Q E s := by
  have fits : sizeOk (.seq its.toList.reverse.toArray) := by
    show its.toList.reverse.toArray.size ≤ _
    simpa using small
  have tySl : s.TypeIs (.ref sl) "slice" := let ⟨o, g, c, _⟩ := isSl; ⟨o, g, c⟩
  have notWhole : (((((its.size : Nat) : Int) - 1) == 0 && (-1 : Int) == 1) && its.size == its.size) = false := by simp
  unfold getItem
  try with_reducible refine wpAny_holding ?_
  try refine wpAny_bind (wpAny_pure ?_)
  refine wpAny_bind (wpAny_sequenceKey isT.typeIs (by decide) (wpAny_bind (wpAny_callSpecial?_slot (name := Str.ofString "__getitem__") isT.typeIs PyProof.Rows.slot_tuple_getitem (wpAny_call_entry PyProof.Rows.slot_tuple_getitem isT.typeIs entry_tuple_getitem ?_ (args_tuple_getitem _ _)))))
  show wpAny _ _ (Builtin.Tuple.tupleItemsOf (.ref t) >>= _) _ _ s
  refine wpAny_bind (tupleItemsOf_ isT (wpAny_bind (wpAny_typeOf tySl ?_)))
  rw [if_pos (by decide)]
  refine wpAny_bind (sliceApplied_rev isSl minus ?_)
  show wpAny _ _ (if ((((its.size : Nat) : Int) - 1) == 0 && (-1 : Int) == 1 && its.size == its.size) = true then _ else _) _ _ s
  rw [notWhole, if_neg (by decide), rev_pick]
  first
    | exact wpAny_bind (m := Builtin.Tuple.tupleExact _) (wpAny_newObj_type (wpAny_pure ⟨_, rfl, wpAny_pure q⟩) fits)
    | exact wpAny_bind (wpAny_bind (m := Builtin.Tuple.tupleExact _) (wpAny_newObj_type (wpAny_pure (wpAny_pure ⟨_, rfl, wpAny_pure q⟩)) fits))
    | exact wpAny_bind (wpAny_bind (m := Builtin.Tuple.tupleExact _) (wpAny_newObj_type (wpAny_pure ⟨_, rfl, wpAny_pure q⟩) fits))
end
section
variable {X : Cx}
/-- t[::-1], a plain tuple -/
def tRevP (K : PySem.W.Frag) (te : TE) : TE := fun σ H Q => te σ H fun x H1 => ∃ a xs, x = .ref a ∧ SqT K H1 a xs ∧ ∀ p H', Same H1 H' → Ptp H' p xs.reverse → Q (.ref p) H'
theorem pe_revP {e : Expr} {te : TE} {k : Nat} {p1 p2 p3 pos : Pos} (he : PE X e te) : PE X (.Subscript e (.Slice none none (some (.UnaryOp .USub (.Constant (.int 1) k p1) p2)) p3) pos) (tRevP X.K te) := by
  refine ⟨fun pins s σ H Q I h => ?_⟩
  refine Subscript_ (thn (he.run pins s σ H _ I h) fun v s1 ⟨x, H1, I1, r1, q1⟩ => ?_)
  obtain ⟨a, xs, ex, hx, q⟩ := q1
  subst ex
  cases r1
  have hst : PO X (some (.UnaryOp .USub (.Constant (.int 1) k p1) p2)) (tPart (tUn (rU fun i => .int (-i)) (tC (.int 1)))) := po_some (pe_un un_neg pe_int)
  refine wpAny_Slice (thn (po_none.run pins s1 σ H1 (fun o H2 => o = none ∧ H2 = H1) I1 ⟨rfl, rfl⟩) fun vl s2 ⟨l, H2, I2, pl, el, e2⟩ => ?_)
  subst el e2
  refine thn (po_none.run pins s2 σ H2 (fun o H3 => o = none ∧ H3 = H2) I2 ⟨rfl, rfl⟩) fun vu s3 ⟨u, H3, I3, pu, eu, e3⟩ => ?_
  subst eu e3
  refine thn (hst.run pins s3 σ H3 (fun o H4 => o = some (-1) ∧ H4 = H3) I3 ⟨1, rfl, -1, rfl, rfl, rfl⟩) fun vs s4 ⟨o, H4, I4, ps, eo, e4⟩ => ?_
  subst eo e4
  cases pl
  cases pu
  have I5 : Inv X pins σ H4 { s4 with heap := s4.heap.push { cls := .type "slice", data := .fields #[.none, .none, vs] } } := I4.kept (t' := s4.toks) fun b ob q => Heap.get?_push_of_some _ q
  obtain ⟨its, r, ht, hz⟩ := I5.tuple hx
  have hlen := r.length
  show wpAny (model X.prog X.w) X.A (subscriptTail e (.Slice none none (some (.UnaryOp .USub (.Constant (.int 1) k p1) p2)) p3) (.ref a) (.ref s4.heap.objs.size)) (EP X pins σ Q) X.xe { s4 with heap := s4.heap.push { cls := .type "slice", data := .fields #[.none, .none, vs] } }
  refine tail_any (ops := [.ref a, .ref s4.heap.objs.size]) ht.typeIs (PyProof.Rows.slot_tuple_getitem.lookup) ?_ (by with_unfolding_all rfl)
  refine getItem_tuple_rev ht (Heap.IsSliceOf.new _ .none .none vs) ps ?_ (by rw [List.size_toArray]; omega)
  have hf := I5.hok.fresh (Nat.le_refl _)
  refine ⟨.ref _, _, I5.laid (t' := s4.toks) (o := .frz { cls := .type "tuple", data := .seq its.reverse.toArray } (.tup xs.reverse)) (fun b ob q => Heap.get?_push_of_some _ q) (Nat.le_refl _) ?_, rfl, q _ _ (same_fresh hf) ⟨_, upd_same, rfl⟩⟩
  exact ⟨Heap.get?_push_size _ rfl, by rw [List.length_reverse]; exact hz, _, r.reverse, ⟨_, Heap.get?_push_size _ rfl, rfl, _, rfl⟩⟩
/-- t[lo:hi], t a plain tuple: a plain tuple -/
def rSlP (K : PySem.W.Frag) : V → Option Int → Option Int → Hp → VK → Prop := fun x lo hi H Q => ∃ a xs, x = .ref a ∧ Ptp H a xs ∧ ∀ p H', Same H H' → Ptp H' p (cutV xs lo hi) → Q (.ref p) H'
theorem cutV_whole {xs : List V} {lo hi : Option Int} (h : HT.sIx xs.length 0 lo = 0 ∧ HT.sIx xs.length xs.length hi = xs.length) : cutV xs lo hi = xs := by
  unfold cutV
  rw [h.1, h.2, List.drop_zero, Nat.sub_zero, List.take_length]
theorem sl_tupP : SlR X (rSlP X.K) := by
  intro pins s σ H x v vl vu lo hi sl Q I rx hs pl pu h
  obtain ⟨a, xs, rfl, hx, q⟩ := h
  by_cases hw : HT.sIx xs.length 0 lo = 0 ∧ HT.sIx xs.length xs.length hi = xs.length
  · exact sl_tupA pins s σ H _ v vl vu lo hi sl Q I rx hs pl pu ⟨a, xs, rfl, hx.seq, fun _ => q a H (Same.refl H) (by rw [cutV_whole hw]; exact hx), fun n => absurd hw n⟩
  · cases rx
    obtain ⟨its, r, ht, hz⟩ := I.tuple hx.seq
    have hlen : its.toArray.size = xs.length := by rw [List.size_toArray]; exact r.length.symm
    refine ⟨"tuple", _, PyProof.Rows.slot_tuple_getitem.lookup, ht.typeIs, ?_⟩
    refine HT.getItem_tuple_cut ht hs pl pu (by rw [hlen]; exact hw) ?_ (by rw [hlen]; exact hz)
    rw [hlen]
    have hf := I.hok.fresh (Nat.le_refl _)
    refine ⟨.ref s.heap.objs.size, _, I.laid (t' := s.toks) (o := .frz { cls := .type "tuple", data := .seq ((its.drop (HT.sIx xs.length 0 lo)).take (HT.sIx xs.length xs.length hi - HT.sIx xs.length 0 lo)).toArray } (.tup (cutV xs lo hi))) (fun b ob q => Heap.get?_push_of_some _ q) (Nat.le_refl _) ?_, rfl, q _ _ (same_fresh hf) ⟨_, upd_same, rfl⟩⟩
    exact ⟨Heap.get?_push_size _ rfl, Nat.le_trans (cutV_length xs lo hi) hz, _, (r.drop (HT.sIx xs.length 0 lo)).take (HT.sIx xs.length xs.length hi - HT.sIx xs.length 0 lo), ⟨_, Heap.get?_push_size _ rfl, rfl, _, rfl⟩⟩
/-- t + u, plain tuples: a plain tuple -/
def rCatP (K : PySem.W.Frag) : R2 := fun x y H Q => ∃ a b xs ys, x = .ref a ∧ y = .ref b ∧ Ptp H a xs ∧ Ptp H b ys ∧ xs.length + ys.length ≤ sizeLine ∧ ∀ p H', Same H H' → Ptp H' p (xs ++ ys) → Q (.ref p) H'
theorem op_catP : OpR X (binaryOp .Add) (rCatP X.K) := by
  intro pins s σ H x y v u Q I rx ry h
  obtain ⟨a, b, xs, ys, rfl, rfl, ha, hb, hz, q⟩ := h
  by_cases hx : xs = []
  · subst hx
    exact op_catA pins s σ H _ _ v u Q I rx ry ⟨a, b, [], ys, rfl, rfl, ha.seq, hb.seq, hz, fun _ => q b H (Same.refl H) hb, fun n => absurd rfl n, fun n => absurd rfl n⟩
  · cases rx
    cases ry
    obtain ⟨its, r1, p1, _⟩ := I.tuple ha.seq
    obtain ⟨its2, r2, p2, _⟩ := I.tuple hb.seq
    refine HT.cat_tup p1 p2 (fun z => hx (r1.nil_iff.mp z)) (fun z => ⟨.ref a, H, I, rfl, q a H (Same.refl H) (by rw [r2.nil_iff.mp z, List.append_nil]; exact ha)⟩) (fun z => ?_) (by rw [← r1.length, ← r2.length]; exact hz)
    have hf := I.hok.fresh (Nat.le_refl _)
    refine ⟨.ref s.heap.objs.size, _, I.laid (t' := s.toks) (o := .frz { cls := .type "tuple", data := .seq (its ++ its2).toArray } (.tup (xs ++ ys))) (fun b ob q => Heap.get?_push_of_some _ q) (Nat.le_refl _) ?_, rfl, q _ _ (same_fresh hf) ⟨_, upd_same, rfl⟩⟩
    exact ⟨Heap.get?_push_size _ rfl, by rw [List.length_append]; exact hz, _, r1.append r2, ⟨_, Heap.get?_push_size _ rfl, rfl, _, rfl⟩⟩
end
end L2

namespace Kb
open PySem PySem.Spec PyProof.Rows L2 SrtZ SrtO
/-! anything -/
inductive Dat where
  | non
  | bl (b : Bool)
  | int (i : Int)
  | str (z : Str)
  | odd
  | tup (xs : List Dat)
/-- what its kinds say of an own class of errors -/
structure XcT (K : PySem.W.Frag) (C : Addr) : Prop where
  isC : ExcC K C
  kI : PySem.W.kitOne K (.ref C) (.type "int") = some false
  kB : PySem.W.kitOne K (.ref C) (.type "bool") = some false
  kS : PySem.W.kitOne K (.ref C) (.type "str") = some false
  kT : PySem.W.kitOne K (.ref C) (.type "tuple") = some false
/-- a list, a dict, an error -/
def OdA (K : PySem.W.Frag) (H : Hp) (a : Addr) : Prop := (∃ xs, SqL K H a xs) ∨ (∃ k, H a = some (.dK k)) ∨ ∃ C, XcT K C ∧ H a = some (ExO (.ref C) a)
def LfAt (K : PySem.W.Frag) (B L : Nat) (H : Hp) (v : V) : Dat → Prop
  | .non => v = .non
  | .bl b => v = .bl b
  | .int i => v = .int i ∧ i.natAbs ≤ B
  | .str z => v = .str z ∧ z.length ≤ L
  | .odd => ∃ a, v = .ref a ∧ OdA K H a
  | .tup _ => False
def DatAt (K : PySem.W.Frag) (B L : Nat) : Nat → Hp → V → Dat → Prop
  | 0, H, v, d => LfAt K B L H v d
  | n + 1, H, v, d => LfAt K B L H v d ∨ ∃ a xs ds, v = .ref a ∧ d = .tup ds ∧ Ptp H a xs ∧ xs.length ≤ L ∧ Paired (DatAt K B L n H) xs ds
/-- what keeps anything -/
structure DKeep (K : PySem.W.Frag) (H H' : Hp) : Prop where
  t : ∀ a xs, Ptp H a xs → Ptp H' a xs
  o : ∀ a, OdA K H a → OdA K H' a
theorem DKeep.refl {K : PySem.W.Frag} (H : Hp) : DKeep K H H := ⟨fun _ _ h => h, fun _ h => h⟩
theorem DKeep.trans {K : PySem.W.Frag} {H H1 H2 : Hp} (x : DKeep K H H1) (y : DKeep K H1 H2) : DKeep K H H2 := ⟨fun a xs h => y.t a xs (x.t a xs h), fun a h => y.o a (x.o a h)⟩
theorem dk_same {K : PySem.W.Frag} {H H' : Hp} (s : Same H H') : DKeep K H H' := ⟨fun a xs h => h.same s, fun a h => by
  rcases h with ⟨xs, (h | ⟨o, h⟩) | h⟩ | ⟨k, h⟩ | ⟨C, c, h⟩
  · exact .inl ⟨xs, .inl (.inl (s _ _ h))⟩
  · exact .inl ⟨xs, .inl (.inr ⟨o, s _ _ h⟩)⟩
  · exact .inl ⟨xs, .inr h⟩
  · exact .inr (.inl ⟨k, s _ _ h⟩)
  · exact .inr (.inr ⟨C, c, s _ _ h⟩)⟩
theorem dk_exw {K : PySem.W.Frag} {a c : Addr} {H H' : Hp} (x : Exw a H H') (w : Wl a c H) (w' : Wl a c H') : DKeep K H H' := ⟨fun b xs h => ptp_exw x w h, fun b h => by
  by_cases hb : b = a
  · subst hb
    obtain ⟨_, ns, t, u, z, e, _⟩ := w'
    exact .inl ⟨_, sql e⟩
  · rcases h with ⟨xs, (h | ⟨o, h⟩) | h⟩ | ⟨k, h⟩ | ⟨C, c, h⟩
    · exact .inl ⟨xs, .inl (.inl (x b _ hb h))⟩
    · exact .inl ⟨xs, .inl (.inr ⟨o, x b _ hb h⟩)⟩
    · exact .inl ⟨xs, .inr h⟩
    · exact .inr (.inl ⟨k, x b _ hb h⟩)
    · exact .inr (.inr ⟨C, c, x b _ hb h⟩)⟩
/-- a list is stored anew -/
theorem dk_put {K : PySem.W.Frag} {p : Addr} {H : Hp} {xs ys : List V} (h : H p = some (.lst xs)) : DKeep K H (upd H p (.lst ys)) := ⟨fun b zs ⟨o, e, d⟩ => ⟨o, by rw [upd_ne (ne_of e h (by intro z; cases z))]; exact e, d⟩, fun b hb => by
  by_cases e : b = p
  · subst e
    exact .inl ⟨ys, sql upd_same⟩
  · rcases hb with ⟨xs, (h | ⟨o, h⟩) | h⟩ | ⟨k, h⟩ | ⟨C, c, h⟩
    · exact .inl ⟨xs, .inl (.inl (by rw [upd_ne e]; exact h))⟩
    · exact .inl ⟨xs, .inl (.inr ⟨o, by rw [upd_ne e]; exact h⟩)⟩
    · exact .inl ⟨xs, .inr h⟩
    · exact .inr (.inl ⟨k, by rw [upd_ne e]; exact h⟩)
    · exact .inr (.inr ⟨C, c, by rw [upd_ne e]; exact h⟩)⟩
theorem LfAt.keep {K : PySem.W.Frag} {B L : Nat} {H H' : Hp} (k : DKeep K H H') {v : V} : ∀ {d : Dat}, LfAt K B L H v d → LfAt K B L H' v d
  | .non, h => h
  | .bl _, h => h
  | .int _, h => h
  | .str _, h => h
  | .odd, ⟨a, e, h⟩ => ⟨a, e, k.o a h⟩
  | .tup _, h => h.elim
theorem DatAt.keep {K : PySem.W.Frag} {B L : Nat} {H H' : Hp} (k : DKeep K H H') : ∀ {n : Nat} {v : V} {d : Dat}, DatAt K B L n H v d → DatAt K B L n H' v d
  | 0, _, _, h => LfAt.keep k h
  | n + 1, v, d, h => by
    rcases h with h | ⟨a, xs, ds, e1, e2, h1, h2, h3⟩
    · exact .inl (LfAt.keep k h)
    · exact .inr ⟨a, xs, ds, e1, e2, k.t a xs h1, h2, paired_imp (fun _ _ h => DatAt.keep k h) h3⟩
theorem DatAt.same {K : PySem.W.Frag} {B L n : Nat} {H H' : Hp} {v : V} {d : Dat} (h : DatAt K B L n H v d) (s : Same H H') : DatAt K B L n H' v d := h.keep (dk_same s)
theorem LfAt.wide {K : PySem.W.Frag} {B L B' L' : Nat} {H : Hp} (hB : B ≤ B') (hL : L ≤ L') {v : V} : ∀ {d : Dat}, LfAt K B L H v d → LfAt K B' L' H v d
  | .non, h => h
  | .bl _, h => h
  | .int _, h => ⟨h.1, Nat.le_trans h.2 hB⟩
  | .str _, h => ⟨h.1, Nat.le_trans h.2 hL⟩
  | .odd, h => h
  | .tup _, h => h.elim
theorem DatAt.wide {K : PySem.W.Frag} {B L B' L' : Nat} {H : Hp} (hB : B ≤ B') (hL : L ≤ L') : ∀ {n m : Nat} {v : V} {d : Dat}, n ≤ m → DatAt K B L n H v d → DatAt K B' L' m H v d
  | 0, 0, _, _, _, h => LfAt.wide hB hL h
  | 0, m + 1, _, _, _, h => .inl (LfAt.wide hB hL h)
  | n + 1, 0, _, _, hm, _ => absurd hm (by omega)
  | n + 1, m + 1, v, d, hm, h => by
    rcases h with h | ⟨a, xs, ds, e1, e2, h1, h2, h3⟩
    · exact .inl (LfAt.wide hB hL h)
    · exact .inr ⟨a, xs, ds, e1, e2, h1, Nat.le_trans h2 hL, paired_imp (fun _ _ h => DatAt.wide hB hL (by omega) h) h3⟩
theorem DatAt.leaf {K : PySem.W.Frag} {B L : Nat} {H : Hp} {v : V} {d : Dat} (h : LfAt K B L H v d) : ∀ {n : Nat}, DatAt K B L n H v d
  | 0 => h
  | _ + 1 => .inl h
def isI : Dat → Bool
  | .int _ => true
  | .bl _ => true
  | _ => false
def isBd : Dat → Bool
  | .bl _ => true
  | _ => false
def isS : Dat → Bool
  | .str _ => true
  | _ => false
def isT : Dat → Bool
  | .tup _ => true
  | _ => false
def isN : Dat → Bool
  | .non => true
  | _ => false
theorem DatAt.cases {K : PySem.W.Frag} {B L n : Nat} {H : Hp} {v : V} {d : Dat} (h : DatAt K B L n H v d) : LfAt K B L H v d ∨ ∃ m a xs ds, n = m + 1 ∧ v = .ref a ∧ d = .tup ds ∧ Ptp H a xs ∧ xs.length ≤ L ∧ Paired (DatAt K B L m H) xs ds := by
  cases n with
  | zero => exact .inl h
  | succ n =>
    rcases h with h | ⟨a, xs, ds, e1, e2, h1, h2, h3⟩
    · exact .inl h
    · exact .inr ⟨n, a, xs, ds, rfl, e1, e2, h1, h2, h3⟩
theorem sqL_ty {K : PySem.W.Frag} {H : Hp} {a : Addr} {xs : List V} (h : SqL K H a xs) : TyX K H (.ref a) (.type "list") := by
  rcases h with (h | ⟨o, h⟩) | ⟨o, its, n, e, c, _⟩
  · exact .base (.lst h)
  · exact .base (.frz h)
  · exact .kList e c
/-- the kinds of anything -/
theorem DatAt.ty {K : PySem.W.Frag} {B L n : Nat} {H : Hp} {v : V} {d : Dat} (h : DatAt K B L n H v d) : ∃ t, TyD K H v t ∧ PySem.W.kitOne K t (.type "int") = some (isI d) ∧ PySem.W.kitOne K t (.type "bool") = some (isBd d) ∧ PySem.W.kitOne K t (.type "str") = some (isS d) ∧ PySem.W.kitOne K t (.type "tuple") = some (isT d) := by
  rcases h.cases with h | ⟨m, a, xs, ds, rfl, rfl, rfl, h1, h2, h3⟩
  · cases d with
    | non =>
      cases (show v = .non from h)
      exact ⟨.type "NoneType", .inl (.base .non), kit_ty (show kitB "NoneType" "int" = some false by decide +kernel), kit_ty (show kitB "NoneType" "bool" = some false by decide +kernel), kit_ty (show kitB "NoneType" "str" = some false by decide +kernel), kit_ty (show kitB "NoneType" "tuple" = some false by decide +kernel)⟩
    | bl b =>
      cases (show v = .bl b from h)
      exact ⟨.type "bool", .inl (.base (.bl b)), kit_ty (show kitB "bool" "int" = some true by decide +kernel), kit_ty (show kitB "bool" "bool" = some true by decide +kernel), kit_ty (show kitB "bool" "str" = some false by decide +kernel), kit_ty (show kitB "bool" "tuple" = some false by decide +kernel)⟩
    | int i =>
      cases h.1
      exact ⟨.type "int", .inl (.base (.int i)), kit_ty (show kitB "int" "int" = some true by decide +kernel), kit_ty (show kitB "int" "bool" = some false by decide +kernel), kit_ty (show kitB "int" "str" = some false by decide +kernel), kit_ty (show kitB "int" "tuple" = some false by decide +kernel)⟩
    | str z =>
      cases h.1
      exact ⟨.type "str", .inl (.base (.str z)), kit_ty (show kitB "str" "int" = some false by decide +kernel), kit_ty (show kitB "str" "bool" = some false by decide +kernel), kit_ty (show kitB "str" "str" = some true by decide +kernel), kit_ty (show kitB "str" "tuple" = some false by decide +kernel)⟩
    | odd =>
      obtain ⟨a, rfl, ⟨xs, h⟩ | ⟨k, h⟩ | ⟨C, c, h⟩⟩ := h
      · exact ⟨.type "list", .inl (sqL_ty h), kit_ty (show kitB "list" "int" = some false by decide +kernel), kit_ty (show kitB "list" "bool" = some false by decide +kernel), kit_ty (show kitB "list" "str" = some false by decide +kernel), kit_ty (show kitB "list" "tuple" = some false by decide +kernel)⟩
      · exact ⟨.type "dict", .inl (.base (.dK h)), kit_ty (show kitB "dict" "int" = some false by decide +kernel), kit_ty (show kitB "dict" "bool" = some false by decide +kernel), kit_ty (show kitB "dict" "str" = some false by decide +kernel), kit_ty (show kitB "dict" "tuple" = some false by decide +kernel)⟩
      · exact ⟨.ref C, .inr ⟨a, C, rfl, rfl, h, c.isC⟩, c.kI, c.kB, c.kS, c.kT⟩
    | tup _ => exact h.elim
  · exact ⟨.type "tuple", .inl (tyT (K := K) h1.seq), kit_ty (show kitB "tuple" "int" = some false by decide +kernel), kit_ty (show kitB "tuple" "bool" = some false by decide +kernel), kit_ty (show kitB "tuple" "str" = some false by decide +kernel), kit_ty (show kitB "tuple" "tuple" = some true by decide +kernel)⟩
/-- anything, as the judges meet it -/
def DtAt (K : PySem.W.Frag) (H : Hp) (v : V) (d : Dat) : Prop := ∃ n, DatAt K (2 ^ 90) 5000 n H v d
theorem DtAt.keep {K : PySem.W.Frag} {H H' : Hp} {v : V} {d : Dat} (h : DtAt K H v d) (k : DKeep K H H') : DtAt K H' v d := let ⟨n, h⟩ := h; ⟨n, h.keep k⟩
theorem DtAt.same {K : PySem.W.Frag} {H H' : Hp} {v : V} {d : Dat} (h : DtAt K H v d) (s : Same H H') : DtAt K H' v d := h.keep (dk_same s)
theorem DtAt.ty {K : PySem.W.Frag} {H : Hp} {v : V} {d : Dat} (h : DtAt K H v d) : ∃ t, TyD K H v t ∧ PySem.W.kitOne K t (.type "int") = some (isI d) ∧ PySem.W.kitOne K t (.type "bool") = some (isBd d) ∧ PySem.W.kitOne K t (.type "str") = some (isS d) ∧ PySem.W.kitOne K t (.type "tuple") = some (isT d) := let ⟨n, h⟩ := h; h.ty
theorem DtAt.tup {K : PySem.W.Frag} {H : Hp} {v : V} {ds : List Dat} (h : DtAt K H v (.tup ds)) : ∃ a xs, v = .ref a ∧ Ptp H a xs ∧ xs.length ≤ 5000 ∧ Paired (DtAt K H) xs ds := by
  obtain ⟨n, h⟩ := h
  rcases h.cases with h | ⟨m, a, xs, ds, rfl, rfl, e, h1, h2, h3⟩
  · exact h.elim
  · cases e
    exact ⟨a, xs, rfl, h1, h2, paired_imp (fun _ _ h => ⟨m, h⟩) h3⟩
theorem DtAt.int {K : PySem.W.Frag} {H : Hp} {v : V} {i : Int} (h : DtAt K H v (.int i)) : v = .int i ∧ i.natAbs ≤ 2 ^ 90 := by
  obtain ⟨n, h⟩ := h
  rcases h.cases with h | ⟨m, a, xs, ds, rfl, rfl, e, h1, h2, h3⟩
  · exact h
  · cases e
theorem DtAt.str {K : PySem.W.Frag} {H : Hp} {v : V} {z : Str} (h : DtAt K H v (.str z)) : v = .str z ∧ z.length ≤ 5000 := by
  obtain ⟨n, h⟩ := h
  rcases h.cases with h | ⟨m, a, xs, ds, rfl, rfl, e, h1, h2, h3⟩
  · exact h
  · cases e
/-! the judges -/
def intD : Dat → Option Int
  | .int i => some i
  | _ => none
def geI (d : Dat) : Int := (intD d).getD 0
def isRB : Option Int → Bool
  | some i => decide (1 ≤ i) && decide (i ≤ 64)
  | none => false
def isNB : Option Int → Bool
  | some i => decide (0 ≤ i)
  | none => false
def isPB : Option Int → Bool
  | some i => decide (1 ≤ i)
  | none => false
def nmB (z : Str) : Bool := decide (1 ≤ z.length) && (decide (z.length ≤ 8) && (cs z).all nmC)
theorem nmB_nm {z : Str} : nmB z = true ↔ Nm z := by
  unfold nmB
  rw [Bool.and_eq_true, Bool.and_eq_true, decide_eq_true_eq, decide_eq_true_eq, List.all_eq_true]
  exact ⟨fun ⟨a, b, c⟩ => ⟨a, b, c⟩, fun ⟨a, b, c⟩ => ⟨a, b, c⟩⟩
def nameD : Dat → Bool
  | .str z => nmB z
  | _ => false
def cntB : Dat → Bool
  | .tup [d1, d2] => nameD d1 && isPB (intD d2)
  | _ => false
def nmOf : Dat → Str
  | .tup (.str z :: _) => z
  | _ => Str.ofString ""
def ctsB : Str → List Dat → Bool
  | _, [] => true
  | la, d :: ds => cntB d && (ltZ la (nmOf d) && ctsB (nmOf d) ds)
def ctD : Dat → Bool
  | .tup ks => ctsB (Str.ofString "") ks
  | _ => false
def lenD : Dat → Nat
  | .tup ks => ks.length
  | _ => 0
def kvO : Dat → Str × Int
  | .tup [.str z, .int i] => (z, i)
  | _ => (Str.ofString "", 0)
def kvD : Dat → Ct
  | .tup ks => ks.map kvO
  | _ => []
def skD : Dat → Bool
  | .tup [d1, d2, d3, d4] => isRB (intD d1) && (isNB (intD d2) && (isNB (intD d3) && (ctD d4 && (decide ((lenD d4 : Int) ≤ geI d1) && (decide ((geI d1 + 1) * geI d3 ≤ geI d2 - sumC (kvD d4)) && decide (geI d2 - sumC (kvD d4) ≤ 2 * geI d1 * geI d3))))))
  | _ => false
theorem cntB_is {d : Dat} (h : cntB d = true) : ∃ z i, d = .tup [.str z, .int i] ∧ Nm z ∧ 1 ≤ i := by
  match d, h with
  | .tup [d1, d2], h =>
    have h : (nameD d1 && isPB (intD d2)) = true := h
    rw [Bool.and_eq_true] at h
    obtain ⟨h1, h2⟩ := h
    cases d1 with
    | str z =>
      cases d2 with
      | int i => exact ⟨z, i, rfl, nmB_nm.mp h1, of_decide_eq_true h2⟩
      | _ => cases h2
    | _ => cases h1
theorem ctsB_cts : ∀ {ks : List Dat} {la : Str}, ctsB la ks = true → Cts (ks.map kvO) ∧ (∀ e ∈ ks.map kvO, ltZ la e.1 = true) ∧ ∀ d ∈ ks, cntB d = true
  | [], _, _ => ⟨⟨fun _ h => (nomatch h), fun _ h => (nomatch h), .nil⟩, fun _ h => (nomatch h), fun _ h => (nomatch h)⟩
  | d :: ds, la, h => by
    have h : (cntB d && (ltZ la (nmOf d) && ctsB (nmOf d) ds)) = true := h
    rw [Bool.and_eq_true, Bool.and_eq_true] at h
    obtain ⟨h1, h2, h3⟩ := h
    obtain ⟨c, l, al⟩ := ctsB_cts h3
    obtain ⟨z, i, rfl, hz, hi⟩ := cntB_is h1
    have h2 : ltZ la z = true := h2
    have l : ∀ e ∈ ds.map kvO, ltZ z e.1 = true := l
    refine ⟨⟨fun e he => ?_, fun e he => ?_, List.Pairwise.cons (fun e he => l e he) c.asc⟩, fun e he => ?_, fun d hd => ?_⟩
    · rcases List.mem_cons.mp he with rfl | he
      · exact hz
      · exact c.nm e he
    · rcases List.mem_cons.mp he with rfl | he
      · exact hi
      · exact c.pos e he
    · rcases List.mem_cons.mp he with rfl | he
      · exact h2
      · exact ltZ_trans h2 (l e he)
    · rcases List.mem_cons.mp hd with rfl | hd
      · exact h1
      · exact al d hd
/-- counts that are right, where they stand -/
theorem pr_of {K : PySem.W.Frag} {H : Hp} {v : V} {d : Dat} (h : DtAt K H v d) (c : cntB d = true) : ∃ t, v = .ref t ∧ PrAt K H t (kvO d) := by
  obtain ⟨z, i, rfl, hz, hi⟩ := cntB_is c
  obtain ⟨a, xs, rfl, h1, h2, h3⟩ := h.tup
  refine ⟨a, rfl, ?_⟩
  cases h3 with
  | cons e1 h3 =>
    cases h3 with
    | cons e2 h3 =>
      cases h3
      obtain ⟨rfl, _⟩ := e1.str
      obtain ⟨rfl, _⟩ := e2.int
      exact h1.seq
theorem prs_of {K : PySem.W.Frag} {H : Hp} : ∀ {xs : List V} {ks : List Dat}, Paired (DtAt K H) xs ks → (∀ d ∈ ks, cntB d = true) → ∃ ts : List Addr, xs = ts.map V.ref ∧ Paired (PrAt K H) ts (ks.map kvO)
  | _, _, .nil, _ => ⟨[], rfl, .nil⟩
  | _, _, .cons h t, c => by
    obtain ⟨a, rfl, ha⟩ := pr_of h (c _ List.mem_cons_self)
    obtain ⟨ts, rfl, hts⟩ := prs_of t fun d hd => c d (List.mem_cons_of_mem _ hd)
    exact ⟨a :: ts, rfl, .cons ha hts⟩
/-- a right sketch, where it stands -/
theorem sk_of {K : PySem.W.Frag} {H : Hp} {v : V} {d : Dat} (h : DtAt K H v d) (c : skD d = true) : ∃ (s : Addr) (x : Sk), v = .ref s ∧ SkX K H s x ∧ SkV x := by
  match d, h, c with
  | .tup [d1, d2, d3, d4], h, c =>
    have c : (isRB (intD d1) && (isNB (intD d2) && (isNB (intD d3) && (ctD d4 && (decide ((lenD d4 : Int) ≤ geI d1) && (decide ((geI d1 + 1) * geI d3 ≤ geI d2 - sumC (kvD d4)) && decide (geI d2 - sumC (kvD d4) ≤ 2 * geI d1 * geI d3))))))) = true := c
    simp only [Bool.and_eq_true, decide_eq_true_eq] at c
    obtain ⟨c1, c2, c3, c4, c5, c6, c7⟩ := c
    obtain ⟨a, xs, rfl, h1, h2, h3⟩ := h.tup
    cases h3 with | cons e1 h3 =>
    cases h3 with | cons e2 h3 =>
    cases h3 with | cons e3 h3 =>
    cases h3 with | cons e4 h3 =>
    cases h3
    cases d1 with
    | int r =>
      cases d2 with
      | int m =>
        cases d3 with
        | int o =>
          cases d4 with
          | tup ks =>
            obtain ⟨rfl, b1⟩ := e1.int
            obtain ⟨rfl, b2⟩ := e2.int
            obtain ⟨rfl, b3⟩ := e3.int
            obtain ⟨k, ys, rfl, g1, g2, g3⟩ := e4.tup
            obtain ⟨cc, _, al⟩ := ctsB_cts (show ctsB (Str.ofString "") ks = true from c4)
            obtain ⟨ts, rfl, hts⟩ := prs_of g3 al
            have c1 : (decide (1 ≤ r) && decide (r ≤ 64)) = true := c1
            rw [Bool.and_eq_true, decide_eq_true_eq, decide_eq_true_eq] at c1
            have c2 : 0 ≤ m := of_decide_eq_true c2
            have c3 : 0 ≤ o := of_decide_eq_true c3
            have c5 : (ks.length : Int) ≤ r := c5
            refine ⟨a, ⟨r, m, o, ks.map kvO⟩, rfl, ⟨k, ts, h1.seq, g1, hts⟩, ⟨c1.1, c1.2, c2, c3, cc, by rw [List.length_map]; exact c5, c6, c7, ?_⟩⟩
            have : (2 : Int) ^ 100 = 1267650600228229401496703205376 := by decide +kernel
            show m < 2 ^ 100
            omega
          | _ => cases c4
        | _ => cases c3
      | _ => cases c2
    | _ => cases c1
end Kb

namespace Kb
open PySem PySem.Spec PyProof.Rows L2 SrtZ SrtO
section
variable {P : Program} {w : World} {K : PySem.W.Frag} {mg : Str → Option Value} {base : Heap}
/-! is_int .. is_room, of anything -/
def spIsIntD (K : PySem.W.Frag) : Sp := fun vs H Q _ => ∃ (v : V) (d : Dat), vs = [v] ∧ DtAt K H v d ∧ Q (.bl (intD d).isSome) H
theorem ok_is_intD (T : Blt mg) (d : DnIsInt K mg) : FnOk P w K mg base CX0 1 d.f d.fd ["thing"] (spIsIntD K) := by
  refine d.F.ok scP_is_int (fun vs H Q E h => ?_) (fun cdv A outer s H vs Q E hr h => ?_)
  · obtain ⟨v, n, rfl, _⟩ := h
    rfl
  · obtain ⟨v, x, rfl, hx, q⟩ := h
    refine ⟨_, (pss_one (ps_ret (pe_and (pe_callB (call_isD (K := K) rfl) (by rfl) T.n_isinstance (by decide +kernel) (pa_cons (pv 0) (pa_cons (pe_bltn (v := .ty "int") (by rfl) T.n_int (by decide +kernel) rfl) pa_nil))) (pe_one (pe_not (pe_callB (call_isD (K := K) rfl) (by rfl) T.n_isinstance (by decide +kernel) (pa_cons (pv 0) (pa_cons (pe_bltn (v := .ty "bool") (by rfl) T.n_bool (by decide +kernel) rfl) pa_nil)))))))), ?_⟩
    obtain ⟨t, ty, kI, kB, kS, kT⟩ := hx.ty
    refine ⟨v, rfl, v, _, t, _, isI x, rfl, .ty "int", ty, kI, isI x, rfl, ?_⟩
    cases x with
    | int i => exact iteT ⟨_, rfl, _, _, t, _, false, rfl, .ty "bool", ty, kB, false, rfl, q⟩
    | bl b => exact iteT ⟨_, rfl, _, _, t, _, true, rfl, .ty "bool", ty, kB, true, rfl, q⟩
    | _ => exact iteF q
def spIsNumberD (K : PySem.W.Frag) : Sp := fun vs H Q _ => ∃ (v : V) (d : Dat), vs = [v] ∧ DtAt K H v d ∧ Q (.bl (isNB (intD d))) H
theorem ok_is_numberD (T : Blt mg) (dP_is_int : DnIsInt K mg) (d : DnIsNumber K mg) : FnOk P w K mg base CX0 2 d.f d.fd ["thing"] (spIsNumberD K) := by
  have GP_is_int : FnOk P w K mg base CX0 1 dP_is_int.f dP_is_int.fd ["thing"] (spIsIntD K) := ok_is_intD T dP_is_int
  refine d.F.ok scP_is_number (fun vs H Q E h => ?_) (fun cdv A outer s H vs Q E hr h => ?_)
  · obtain ⟨v, n, rfl, _⟩ := h
    rfl
  · obtain ⟨v, x, rfl, hx, q⟩ := h
    refine ⟨_, (pss_one (ps_ret (pe_and (pe_call GP_is_int (hr.mono (by omega)) (by rfl) dP_is_int.g dP_is_int.F.kp dP_is_int.b .nil pass0 (pa_cons (pv 0) pa_nil)) (pe_one (pe_cmpR op_ge (pv 0) pe_int (nomark _)))))), ?_⟩
    refine ⟨v, rfl, v, x, rfl, hx, (intD x).isSome, rfl, ?_⟩
    cases x with
    | int i =>
      obtain ⟨rfl, _⟩ := hx.int
      exact iteT ⟨.int i, rfl, _, _, rfl, rfl, q⟩
    | _ => exact iteF q
def spIsRoomD (K : PySem.W.Frag) : Sp := fun vs H Q _ => ∃ (v : V) (d : Dat), vs = [v] ∧ DtAt K H v d ∧ Q (.bl (isRB (intD d))) H
theorem ok_is_roomD (T : Blt mg) (cM : Cst mg "MOST_ROOM" (.int 64)) (dP_is_int : DnIsInt K mg) (d : DnIsRoom K mg) : FnOk P w K mg base CX0 2 d.f d.fd ["thing"] (spIsRoomD K) := by
  have GP_is_int : FnOk P w K mg base CX0 1 dP_is_int.f dP_is_int.fd ["thing"] (spIsIntD K) := ok_is_intD T dP_is_int
  refine d.F.ok scP_is_room (fun vs H Q E h => ?_) (fun cdv A outer s H vs Q E hr h => ?_)
  · obtain ⟨v, n, rfl, _⟩ := h
    rfl
  · obtain ⟨v, x, rfl, hx, q⟩ := h
    refine ⟨_, (pss_one (ps_ret (pe_and (pe_call GP_is_int (hr.mono (by omega)) (by rfl) dP_is_int.g dP_is_int.F.kp dP_is_int.b .nil pass0 (pa_cons (pv 0) pa_nil)) (pe_one (pe_chain op_le op_le pe_int (pv 0) (pe_glob rfl cM.g cM.r)))))), ?_⟩
    refine ⟨v, rfl, v, x, rfl, hx, (intD x).isSome, rfl, ?_⟩
    cases x with
    | int i =>
      obtain ⟨rfl, _⟩ := hx.int
      have q : Q (.bl (decide (1 ≤ i) && decide (i ≤ 64))) H := q
      refine iteT ⟨.int i, rfl, _, _, rfl, rfl, decide (1 ≤ i), rfl, ite2 (fun e => ⟨_, _, rfl, rfl, ?_⟩) (fun e => ?_)⟩
      · rw [e, Bool.true_and] at q
        exact q
      · rw [show decide (1 ≤ i) = false from by simpa using e, Bool.false_and] at q
        exact q
    | _ => exact iteF q
/-! is_name, of anything -/
def spIsNameD (K : PySem.W.Frag) : Sp := fun vs H Q _ => ∃ (v : V) (d : Dat), vs = [v] ∧ DtAt K H v d ∧ ∀ H', Same H H' → Q (.bl (nameD d)) H'
theorem ok_is_nameD (T : Blt mg) (cL : Cst mg "LONGEST_NAME" (.int 8)) (d : DnIsName K mg) : FnOk P w K mg base CX0 1 d.f d.fd ["thing"] (spIsNameD K) := by
  refine d.F.ok scP_is_name (fun vs H Q E h => ?_) (fun cdv A outer s H vs Q E hr h => ?_)
  · obtain ⟨v, n, rfl, _⟩ := h
    rfl
  · obtain ⟨v, x, rfl, hx, q⟩ := h
    refine ⟨_, (pss_cons (ps_if (PW.pt (pw_or (pt_not (pt_val (pe_callB (call_isD (K := K) rfl) (by rfl) T.n_isinstance (by decide +kernel) (pa_cons (pv 0) (pa_cons (pe_bltn (v := .ty "str") (by rfl) T.n_str (by decide +kernel) rfl) pa_nil))))) (pw_or1 (pt_not (pt_chain op_le op_le pe_int (pe_callB call_len_str (by rfl) T.n_len (by decide +kernel) (pa_cons (pv 0) pa_nil)) (pe_glob rfl cL.g cL.r))))))
      (pss_one (ps_ret pe_bl))
      pss_nil)
    (pss_one (ps_ret (pe_callB (cr_all rfl) (by rfl) T.n_all (by decide +kernel) (pa_cons (pe_lc (own := [("letter", 1)]) (g := gName 1) (tt := tYes) rfl scP_is_name.nd (pi_str (pv 0)) (blkOk_by (N := NP_is_name) (sc := defScope sP_is_name) (by decide +kernel)) (fun _ _ _ _ _ => pg_name (i := 1) scP_is_name.nd rfl (Or.inl rfl)) (fun _ _ _ _ _ => pts_nil) (fun _ _ _ _ _ => (pe_chain op_le_str op_le_str pe_str (pv 1) pe_str))) pa_nil))))), ?_⟩
    obtain ⟨t, ty, kI, kB, kS, kT⟩ := hx.ty
    refine ⟨v, rfl, v, _, t, _, isS x, rfl, .ty "str", ty, kS, isS x, rfl, ?_⟩
    cases x with
    | str z =>
      obtain ⟨rfl, hz⟩ := hx.str
      have q : ∀ H', Same H H' → Q (.bl (decide (1 ≤ z.length) && (decide (z.length ≤ 8) && (cs z).all nmC))) H' := q
      refine iteF ⟨.str z, rfl, z, rfl, (by rw [sizeLine_eq]; omega), _, _, rfl, rfl, ?_⟩
      by_cases h1 : 1 ≤ z.length
      · rw [decide_eq_true h1, Bool.true_and] at q
        refine ⟨true, congrArg V.bl (decide_eq_true (by omega)), iteT ⟨_, _, rfl, rfl, ?_⟩⟩
        by_cases h8 : z.length ≤ 8
        · rw [decide_eq_true h8, Bool.true_and] at q
          refine ⟨true, congrArg V.bl (decide_eq_true (by omega)), iteF ⟨.str z, rfl, z, rfl, fun D nD => ?_⟩⟩
          refine lc_it walk_str (fun i H3 => Same H H3 ∧ H3 D = some (.lst (((cs z).take i).map fun c => V.bl (nmC c)))) ⟨same_upd nD, upd_same⟩ (fun _ _ _ _ => trivial) (fun i x H3 H4 hi h3 y => ?_) (fun H3 h3 => ?_)
          · obtain ⟨rfl, c, hc, rfl⟩ := y
            have hc2 : (cs z)[i]? = some c := by
              rw [← hc]
              simp [cs]
            have fin : ∃ xs, H4 D = some (.lst xs) ∧ xs.length + 1 ≤ sizeLine ∧ (Same H (upd H4 D (.lst (xs ++ [V.bl (nmC c)]))) ∧ (upd H4 D (.lst (xs ++ [V.bl (nmC c)]))) D = some (.lst (((cs z).take (i + 1)).map fun c => V.bl (nmC c)))) := by
              refine ⟨_, h3.2, ?_, fun b o e => ?_, ?_⟩
              · rw [List.length_map, List.length_take, sizeLine_eq]
                have := cs_len z
                omega
              · rw [upd_ne (ne_of_none e nD)]
                exact h3.1 b o e
              · rw [upd_same, List.take_add_one, hc2, List.map_append]
                rfl
            have e1 : (!decide ((cs ⟨#[c]⟩) < (Str.ofString "a").cps.toList)) = !decide (c < 97) := by
              rw [show (Str.ofString "a").cps.toList = [97] by decide +kernel]
              show (!decide ([c] < [97])) = _
              rw [lt_one]
            have e2 : (!decide ((Str.ofString "z").cps.toList < cs ⟨#[c]⟩)) = !decide (122 < c) := by
              rw [show (Str.ofString "z").cps.toList = [122] by decide +kernel]
              show (!decide ([122] < [c])) = _
              rw [lt_one]
            refine ⟨rfl, .str ⟨#[c]⟩, rfl, _, _, rfl, rfl, !decide (c < 97), congrArg V.bl e1, ite2 (fun ea => ⟨_, _, rfl, rfl, ?_⟩) (fun ea => ?_)⟩
            · have en : nmC c = !decide (122 < c) := by
                unfold nmC
                rw [ea, Bool.true_and]
              rw [en] at fin
              show ∃ xs, _
              rw [show (!decide ((Str.ofString "z").cps.toList < ([c] : List Nat))) = !decide (122 < c) from e2]
              exact fin
            · have en : nmC c = false := by
                unfold nmC
                rw [show (!decide (c < 97)) = false by simpa using ea, Bool.false_and]
              rw [en] at fin
              exact fin
          · refine ⟨D, (cs z).map nmC, rfl, sql ?_, ?_⟩
            · rw [h3.2, List.map_map]
              rw [List.take_of_length_le (by
                show (cs z).length ≤ z.cps.size
                simp [cs])]
              rfl
            · rw [show ((cs z).map nmC).all id = (cs z).all nmC by rw [List.all_map]; rfl]
              exact q H3 h3.1
        · rw [decide_eq_false h8, Bool.false_and] at q
          exact ⟨false, congrArg V.bl (decide_eq_false (by omega)), iteT (q H (Same.refl H))⟩
      · rw [decide_eq_false h1, Bool.false_and] at q
        exact ⟨false, congrArg V.bl (decide_eq_false (by omega)), iteF ⟨false, rfl, iteT (q H (Same.refl H))⟩⟩
    | _ => exact iteT (iteT (q H (Same.refl H)))
end
end Kb

namespace Kb
open PySem PySem.Spec PyProof.Rows L2 SrtZ SrtO
section
variable {P : Program} {w : World} {K : PySem.W.Frag} {mg : Str → Option Value} {base : Heap}
/-! _is_counted, are_counts -/
def spIsCountedD (K : PySem.W.Frag) : Sp := fun vs H Q _ => ∃ (v : V) (d : Dat), vs = [v] ∧ DtAt K H v d ∧ ∀ H', Same H H' → Q (.bl (cntB d)) H'
theorem ok_is_countedD (T : Blt mg) (cL : Cst mg "LONGEST_NAME" (.int 8)) (dP_is_int : DnIsInt K mg) (dP_is_name : DnIsName K mg) (d : DnIsCounted K mg) : FnOk P w K mg base CX0 2 d.f d.fd ["pair"] (spIsCountedD K) := by
  have GP_is_int : FnOk P w K mg base CX0 1 dP_is_int.f dP_is_int.fd ["thing"] (spIsIntD K) := ok_is_intD T dP_is_int
  have GP_is_name : FnOk P w K mg base CX0 1 dP_is_name.f dP_is_name.fd ["thing"] (spIsNameD K) := ok_is_nameD T cL dP_is_name
  refine d.F.ok scP_is_counted (fun vs H Q E h => ?_) (fun cdv A outer s H vs Q E hr h => ?_)
  · obtain ⟨v, n, rfl, _⟩ := h
    rfl
  · obtain ⟨v, x, rfl, hx, q⟩ := h
    refine ⟨_, (pss_cons (ps_if (PW.pt (pw_or (pt_not (pt_val (pe_callB (call_isD (K := K) rfl) (by rfl) T.n_isinstance (by decide +kernel) (pa_cons (pv 0) (pa_cons (pe_bltn (v := .ty "tuple") (by rfl) T.n_tuple (by decide +kernel) rfl) pa_nil))))) (pw_or1 (pt_cmpR op_ne (pe_callB call_len_seq (by rfl) T.n_len (by decide +kernel) (pa_cons (pv 0) pa_nil)) pe_int (nomark _)))))
      (pss_one (ps_ret pe_bl))
      pss_nil)
    (pss_one (ps_ret (pe_and (pe_call GP_is_name (hr.mono (by omega)) (by rfl) dP_is_name.g dP_is_name.F.kp dP_is_name.b .nil pass0 (pa_cons (pe_ix ix_tup (pv 0) pe_int (fun _ _ => rfl)) pa_nil)) (pe_and (pe_call GP_is_int (hr.mono (by omega)) (by rfl) dP_is_int.g dP_is_int.F.kp dP_is_int.b .nil pass0 (pa_cons (pe_ix ix_tup (pv 0) pe_int (fun _ _ => rfl)) pa_nil)) (pe_one (pe_cmpR op_ge (pe_ix ix_tup (pv 0) pe_int (fun _ _ => rfl)) pe_int (nomark _)))))))), ?_⟩
    obtain ⟨t, ty, kI, kB, kS, kT⟩ := hx.ty
    refine ⟨v, rfl, v, _, t, _, isT x, rfl, .ty "tuple", ty, kT, isT x, rfl, ?_⟩
    cases x with
    | tup ds =>
      obtain ⟨a, xs, rfl, h1, h2, h3⟩ := hx.tup
      have hl := Paired.length h3
      refine iteF ⟨.ref a, rfl, a, _, rfl, .inr h1.seq, rfl, ?_⟩
      have long : ds.length ≠ 2 → cntB (.tup ds) = false := fun hn => by
        match ds, hn with
        | [], _ => rfl
        | [_], _ => rfl
        | [_, _], h => exact absurd rfl h
        | _ :: _ :: _ :: _, _ => rfl
      by_cases h2l : ds.length = 2
      · have hx2 : ((xs.length : Nat) : Int) = 2 := by omega
        refine ⟨false, congrArg V.bl (by rw [hx2]; rfl), iteF ?_⟩
        obtain ⟨d1, d2, rfl⟩ : ∃ d1 d2, ds = [d1, d2] := match ds, h2l with | [d1, d2], _ => ⟨d1, d2, rfl⟩
        obtain ⟨x1, x2, rfl⟩ : ∃ x1 x2, xs = [x1, x2] := match xs, hl with | [x1, x2], _ => ⟨x1, x2, rfl⟩
        have e1 : DtAt K H x1 d1 := by cases h3 with | cons e _ => exact e
        have e2 : DtAt K H x2 d2 := by cases h3 with | cons _ h => cases h with | cons e _ => exact e
        have q : ∀ H', Same H H' → Q (.bl (nameD d1 && isPB (intD d2))) H' := q
        refine ⟨.ref a, rfl, a, _, _, _, rfl, rfl, h1.seq, atI_nat (j := 0) rfl, x1, d1, rfl, e1, fun H1 s1 => ⟨nameD d1, rfl, ?_⟩⟩
        have h1' := h1.same s1
        cases c1 : nameD d1 with
        | false =>
          rw [c1, Bool.false_and] at q
          exact iteF (q H1 s1)
        | true =>
          rw [c1, Bool.true_and] at q
          refine iteT ⟨.ref a, rfl, a, _, _, _, rfl, rfl, h1'.seq, atI_nat (j := 1) rfl, x2, d2, rfl, e2.same s1, (intD d2).isSome, rfl, ?_⟩
          cases d2 with
          | int i =>
            obtain ⟨rfl, _⟩ := e2.int
            exact iteT ⟨.ref a, rfl, a, _, _, _, rfl, rfl, h1'.seq, atI_nat (j := 1) rfl, _, _, rfl, rfl, q H1 s1⟩
          | _ => exact iteF (q H1 s1)
      · rw [long h2l] at q
        refine ⟨true, congrArg V.bl ?_, iteT (q H (Same.refl H))⟩
        rw [decide_eq_false (by
          intro z
          injection z with z
          omega)]
        rfl
    | _ => exact iteT (iteT (q H (Same.refl H)))
def spAreCountsD (K : PySem.W.Frag) : Sp := fun vs H Q _ => ∃ (v : V) (d : Dat), vs = [v] ∧ DtAt K H v d ∧ ∀ H', Same H H' → Q (.bl (ctD d)) H'
theorem ok_are_countsD (T : Blt mg) (cL : Cst mg "LONGEST_NAME" (.int 8)) (dP_is_int : DnIsInt K mg) (dP_is_name : DnIsName K mg) (dP_is_counted : DnIsCounted K mg) (d : DnAreCounts K mg) : FnOk P w K mg base CX0 3 d.f d.fd ["thing"] (spAreCountsD K) := by
  have GP_is_counted : FnOk P w K mg base CX0 2 dP_is_counted.f dP_is_counted.fd ["pair"] (spIsCountedD K) := ok_is_countedD T cL dP_is_int dP_is_name dP_is_counted
  refine d.F.ok scP_are_counts (fun vs H Q E h => ?_) (fun cdv A outer s H vs Q E hr h => ?_)
  · obtain ⟨v, n, rfl, _⟩ := h
    rfl
  · obtain ⟨v, x, rfl, hx, q⟩ := h
    refine ⟨_, (pss_cons (ps_if (pt_not (pt_val (pe_callB (call_isD (K := K) rfl) (by rfl) T.n_isinstance (by decide +kernel) (pa_cons (pv 0) (pa_cons (pe_bltn (v := .ty "tuple") (by rfl) T.n_tuple (by decide +kernel) rfl) pa_nil)))))
      (pss_one (ps_ret pe_bl))
      pss_nil)
    (pss_cons (ps_set (i := 1) scP_are_counts.nd rfl (Or.inl rfl) pe_str)
    (pss_cons (ps_for PassesOwn.never rfl (pi_tup (pv 0)) (pg_name (i := 2) scP_are_counts.nd rfl (Or.inl rfl))
      (pss_cons (ps_if (PW.pt (pw_or (pt_not (pt_val (pe_call GP_is_counted (hr.mono (by omega)) (by rfl) dP_is_counted.g dP_is_counted.F.kp dP_is_counted.b .nil pass0 (pa_cons (pv 2) pa_nil)))) (pw_or1 (pt_cmpR op_le_str (pe_ix ix_tup (pv 2) pe_int (fun _ _ => rfl)) (pv 1) (nomark _)))))
        (pss_one (ps_ret pe_bl))
        pss_nil)
      (pss_one (ps_set (i := 1) scP_are_counts.nd rfl (Or.inl rfl) (pe_ix ix_tup (pv 2) pe_int (fun _ _ => rfl))))))
    (pss_one (ps_ret pe_bl))))), ?_⟩
    obtain ⟨t, ty, kI, kB, kS, kT⟩ := hx.ty
    refine ⟨v, rfl, v, _, t, _, isT x, rfl, .ty "tuple", ty, kT, isT x, rfl, ?_⟩
    cases x with
    | tup ds =>
      obtain ⟨a, xs, rfl, h1, h2, h3⟩ := hx.tup
      have hl := Paired.length h3
      have q : ∀ H', Same H H' → Q (.bl (ctsB (Str.ofString "") ds)) H' := q
      refine iteF ⟨.ref a, rfl, a, rfl, ⟨_, h1.seq⟩, for_tup (xs := xs) (fun i σ H3 => ∃ (la : Str) (x : Option V), σ = [some (.ref a), some (.str la), x] ∧ Same H H3 ∧ ctsB (Str.ofString "") ds = ctsB la (ds.drop i))
        ⟨Str.ofString "", none, rfl, Same.refl H, rfl⟩ (fun i σ H3 _ ⟨_, _, _, s3, _⟩ => (h1.same s3).seq) ?_ ?_⟩
      · rintro i v σ H3 hi ⟨la, x, rfl, s3, ee⟩
        obtain ⟨e, he, hat⟩ := paired_at h3 hi
        have hde : ds.drop i = e :: ds.drop (i + 1) := by
          obtain ⟨hlt, hg⟩ := List.getElem?_eq_some_iff.mp he
          rw [List.drop_eq_getElem_cons hlt, hg]
        rw [hde] at ee
        have ee : ctsB (Str.ofString "") ds = (cntB e && (ltZ la (nmOf e) && ctsB (nmOf e) (ds.drop (i + 1)))) := ee
        have hat3 := hat.same s3
        refine ⟨v, rfl, v, e, rfl, hat3, fun H4 s4 => ⟨cntB e, rfl, ?_⟩⟩
        have s04 := Same.trans s3 s4
        cases ce : cntB e with
        | false =>
          rw [ce, Bool.false_and] at ee
          rw [ee] at q
          exact iteT (iteT (q H4 s04))
        | true =>
          rw [ce, Bool.true_and] at ee
          obtain ⟨z, n, rfl, hz, hn⟩ := cntB_is ce
          obtain ⟨p, ys, rfl, g1, g2, g3⟩ := (hat3.same s4).tup
          have ee : ctsB (Str.ofString "") ds = (ltZ la z && ctsB z (ds.drop (i + 1))) := ee
          have iz : ys[0]? = some (.str z) := by
            cases g3 with
            | cons k _ =>
              obtain ⟨rfl, _⟩ := k.str
              rfl
          refine iteF ⟨.ref p, rfl, p, _, _, _, rfl, rfl, g1.seq, atI_nat (j := 0) iz, .str la, rfl, _, _, rfl, rfl, !ltZ la z, rfl, ?_⟩
          cases cl : ltZ la z with
          | false =>
            rw [cl, Bool.false_and] at ee
            rw [ee] at q
            exact iteT (q H4 s04)
          | true =>
            rw [cl, Bool.true_and] at ee
            exact iteF ⟨.ref p, rfl, p, _, _, _, rfl, rfl, g1.seq, atI_nat (j := 0) iz, z, some (.ref p), rfl, s04, ee⟩
      · rintro σ H3 ⟨la, x, rfl, s3, ee⟩
        rw [hl, List.drop_length] at ee
        have ee : ctsB (Str.ofString "") ds = true := ee
        rw [ee] at q
        exact q H3 s3
    | _ => exact iteT (q H (Same.refl H))
end
end Kb

namespace Kb
open PySem PySem.Spec PyProof.Rows L2 SrtZ SrtO
section
variable {P : Program} {w : World} {K : PySem.W.Frag} {mg : Str → Option Value} {base : Heap}
theorem skD_long {ds : List Dat} (h : ds.length ≠ 4) : skD (.tup ds) = false := by
  match ds, h with
  | [], _ => rfl
  | [_], _ => rfl
  | [_, _], _ => rfl
  | [_, _, _], _ => rfl
  | [_, _, _, _], h => exact absurd rfl h
  | _ :: _ :: _ :: _ :: _ :: _, _ => rfl
theorem four {α : Type} {xs : List α} (h : xs.length = 4) : ∃ a b c d, xs = [a, b, c, d] := match xs, h with | [a, b, c, d], _ => ⟨a, b, c, d, rfl⟩
theorem paired4 {α β : Type} {F : α → β → Prop} {a b c d : α} {e f g h : β} (p : Paired F [a, b, c, d] [e, f, g, h]) : F a e ∧ F b f ∧ F c g ∧ F d h := by
  cases p with | cons h1 p =>
  cases p with | cons h2 p =>
  cases p with | cons h3 p =>
  cases p with | cons h4 p =>
  exact ⟨h1, h2, h3, h4⟩
/-- counts that are right, as they stand -/
theorem ct_of {H : Hp} {v : V} {d : Dat} (h : DtAt K H v d) (c : ctD d = true) : ∃ k, v = .ref k ∧ CtAt K H k (kvD d) ∧ Cts (kvD d) ∧ (kvD d).length = lenD d := by
  cases d with
  | tup ks =>
    obtain ⟨k, ys, rfl, g1, g2, g3⟩ := h.tup
    obtain ⟨cc, _, al⟩ := ctsB_cts (show ctsB (Str.ofString "") ks = true from c)
    obtain ⟨ts, rfl, hts⟩ := prs_of g3 al
    exact ⟨k, rfl, ⟨ts, g1.seq, hts⟩, cc, by
      show (ks.map kvO).length = ks.length
      rw [List.length_map]⟩
  | _ => cases c
theorem isRB_is {d : Dat} (h : isRB (intD d) = true) : ∃ r, d = .int r ∧ 1 ≤ r ∧ r ≤ 64 := by
  cases d with
  | int r =>
    have h : (decide (1 ≤ r) && decide (r ≤ 64)) = true := h
    rw [Bool.and_eq_true, decide_eq_true_eq, decide_eq_true_eq] at h
    exact ⟨r, rfl, h.1, h.2⟩
  | _ => cases h
theorem isNB_is {d : Dat} (h : isNB (intD d) = true) : ∃ r, d = .int r ∧ 0 ≤ r := by
  cases d with
  | int r => exact ⟨r, rfl, of_decide_eq_true h⟩
  | _ => cases h
/-! is_sketch, of anything -/
def spIsSketchD (K : PySem.W.Frag) : Sp := fun vs H Q _ => ∃ (v : V) (d : Dat), vs = [v] ∧ DtAt K H v d ∧ ∀ H', Same H H' → Q (.bl (skD d)) H'
theorem ok_is_sketchD (T : Blt mg) (cM : Cst mg "MOST_ROOM" (.int 64)) (cL : Cst mg "LONGEST_NAME" (.int 8)) (dP_is_int : DnIsInt K mg) (dP_is_number : DnIsNumber K mg) (dP_is_room : DnIsRoom K mg) (dP_is_name : DnIsName K mg) (dP_is_counted : DnIsCounted K mg) (dP_are_counts : DnAreCounts K mg)
    (dP_lost_of : DnLostOf K mg) (d : DnIsSketch K mg) : FnOk P w K mg base CX0 4 d.f d.fd ["thing"] (spIsSketchD K) := by
  have GP_is_room : FnOk P w K mg base CX0 2 dP_is_room.f dP_is_room.fd ["thing"] (spIsRoomD K) := ok_is_roomD T cM dP_is_int dP_is_room
  have GP_is_number : FnOk P w K mg base CX0 2 dP_is_number.f dP_is_number.fd ["thing"] (spIsNumberD K) := ok_is_numberD T dP_is_int dP_is_number
  have GP_are_counts : FnOk P w K mg base CX0 3 dP_are_counts.f dP_are_counts.fd ["thing"] (spAreCountsD K) := ok_are_countsD T cL dP_is_int dP_is_name dP_is_counted dP_are_counts
  have GP_lost_of : FnOk P w K mg base CX0 1 dP_lost_of.f dP_lost_of.fd ["sketch"] (spLostOf K) := ok_lost_of T dP_lost_of
  refine d.F.ok scP_is_sketch (fun vs H Q E h => ?_) (fun cdv A outer s H vs Q E hr h => ?_)
  · obtain ⟨v, n, rfl, _⟩ := h
    rfl
  · obtain ⟨v, x, rfl, hx, q⟩ := h
    refine ⟨_, (pss_cons (ps_if (PW.pt (pw_or (pt_not (pt_val (pe_callB (call_isD (K := K) rfl) (by rfl) T.n_isinstance (by decide +kernel) (pa_cons (pv 0) (pa_cons (pe_bltn (v := .ty "tuple") (by rfl) T.n_tuple (by decide +kernel) rfl) pa_nil))))) (pw_or1 (pt_cmpR op_ne (pe_callB call_len_seq (by rfl) T.n_len (by decide +kernel) (pa_cons (pv 0) pa_nil)) pe_int (nomark _)))))
      (pss_one (ps_ret pe_bl))
      pss_nil)
    (pss_cons (ps_asg (pv 0) (pg_tup (by rfl) (pgs_cons (pg_name (i := 1) scP_is_sketch.nd rfl (Or.inl rfl)) (pgs_cons (pg_name (i := 2) scP_is_sketch.nd rfl (Or.inl rfl)) (pgs_cons (pg_name (i := 3) scP_is_sketch.nd rfl (Or.inl rfl)) (pgs_cons (pg_name (i := 4) scP_is_sketch.nd rfl (Or.inl rfl)) pgs_nil))))))
    (pss_cons (ps_if (PW.pt (pw_or (pt_not (pt_val (pe_call GP_is_room (hr.mono (by omega)) (by rfl) dP_is_room.g dP_is_room.F.kp dP_is_room.b .nil pass0 (pa_cons (pv 1) pa_nil)))) (pw_or (pt_not (pt_val (pe_call GP_is_number (hr.mono (by omega)) (by rfl) dP_is_number.g dP_is_number.F.kp dP_is_number.b .nil pass0 (pa_cons (pv 2) pa_nil)))) (pw_or1 (pt_not (pt_val (pe_call GP_is_number (hr.mono (by omega)) (by rfl) dP_is_number.g dP_is_number.F.kp dP_is_number.b .nil pass0 (pa_cons (pv 3) pa_nil))))))))
      (pss_one (ps_ret pe_bl))
      pss_nil)
    (pss_cons (ps_if (PW.pt (pw_or (pt_not (pt_val (pe_call GP_are_counts (hr.mono (by omega)) (by rfl) dP_are_counts.g dP_are_counts.F.kp dP_are_counts.b .nil pass0 (pa_cons (pv 4) pa_nil)))) (pw_or1 (pt_cmpR op_gt (pe_callB call_len_seq (by rfl) T.n_len (by decide +kernel) (pa_cons (pv 4) pa_nil)) (pv 1) (nomark _)))))
      (pss_one (ps_ret pe_bl))
      pss_nil)
    (pss_one (ps_ret (pe_chain op_le op_le (pe_op op_mul (pe_op op_add (pv 1) pe_int) (pv 3)) (pe_call GP_lost_of (hr.mono (by omega)) (by rfl) dP_lost_of.g dP_lost_of.F.kp dP_lost_of.b .nil pass0 (pa_cons (pv 0) pa_nil)) (pe_op op_mul (pe_op op_mul pe_int (pv 1)) (pv 3))))))))), ?_⟩
    obtain ⟨t, ty, kI, kB, kS, kT⟩ := hx.ty
    refine ⟨v, rfl, v, _, t, _, isT x, rfl, .ty "tuple", ty, kT, isT x, rfl, ?_⟩
    cases x with
    | tup ds =>
      obtain ⟨a, xs, rfl, h1, h2, h3⟩ := hx.tup
      have hl := Paired.length h3
      refine iteF ⟨.ref a, rfl, a, _, rfl, .inr h1.seq, rfl, ?_⟩
      by_cases h2l : ds.length = 4
      · obtain ⟨d1, d2, d3, d4, rfl⟩ := four h2l
        obtain ⟨x1, x2, x3, x4, rfl⟩ := four (hl.trans h2l)
        obtain ⟨e1, e2, e3, e4⟩ := paired4 h3
        refine ⟨false, rfl, iteF ?_⟩
        refine ⟨.ref a, rfl, a, _, rfl, h1.seq, rfl, _, _, rfl, _, _, rfl, _, _, rfl, _, _, rfl, rfl, ?_⟩
        have q : ∀ H', Same H H' → Q (.bl (isRB (intD d1) && (isNB (intD d2) && (isNB (intD d3) && (ctD d4 && (decide ((lenD d4 : Int) ≤ geI d1) && (decide ((geI d1 + 1) * geI d3 ≤ geI d2 - sumC (kvD d4)) && decide (geI d2 - sumC (kvD d4) ≤ 2 * geI d1 * geI d3)))))))) H' := q
        refine ⟨x1, rfl, x1, d1, rfl, e1, isRB (intD d1), rfl, ?_⟩
        cases eR : isRB (intD d1) with
        | false =>
          rw [eR, Bool.false_and] at q
          exact iteT (iteT (q H (Same.refl H)))
        | true =>
          rw [eR, Bool.true_and] at q
          refine iteF ⟨x2, rfl, x2, d2, rfl, e2, isNB (intD d2), rfl, ?_⟩
          cases eM : isNB (intD d2) with
          | false =>
            rw [eM, Bool.false_and] at q
            exact iteT (iteT (q H (Same.refl H)))
          | true =>
            rw [eM, Bool.true_and] at q
            refine iteF ⟨x3, rfl, x3, d3, rfl, e3, isNB (intD d3), rfl, ?_⟩
            cases eO : isNB (intD d3) with
            | false =>
              rw [eO, Bool.false_and] at q
              exact iteT (q H (Same.refl H))
            | true =>
              rw [eO, Bool.true_and] at q
              refine iteF ⟨x4, rfl, x4, d4, rfl, e4, fun H1 s1 => ⟨ctD d4, rfl, ?_⟩⟩
              cases eC : ctD d4 with
              | false =>
                rw [eC, Bool.false_and] at q
                exact iteT (iteT (q H1 s1))
              | true =>
                rw [eC, Bool.true_and] at q
                obtain ⟨k, rfl, hk, cc, hlen⟩ := ct_of e4 eC
                obtain ⟨r, rfl, r1, r64⟩ := isRB_is eR
                obtain ⟨m, rfl, m0⟩ := isNB_is eM
                obtain ⟨o, rfl, o0⟩ := isNB_is eO
                obtain ⟨rfl, _⟩ := e1.int
                obtain ⟨rfl, _⟩ := e2.int
                obtain ⟨rfl, _⟩ := e3.int
                generalize hkv : kvD d4 = kvs at hk cc hlen q
                rw [← hlen] at q
                have q : ∀ H', Same H H' → Q (.bl (decide ((kvs.length : Int) ≤ r) && (decide ((r + 1) * o ≤ m - sumC kvs) && decide (m - sumC kvs ≤ 2 * r * o)))) H' := q
                obtain ⟨ts, hS, hp⟩ := hk.same s1
                have el : (ts.map V.ref).length = kvs.length := by rw [List.length_map, Paired.length hp]
                refine iteF ⟨.ref k, rfl, k, _, rfl, .inr hS, .int r, rfl, _, _, rfl, rfl, _, rfl, ?_⟩
                rw [el]
                by_cases eL : (kvs.length : Int) ≤ r
                · rw [show decide ((kvs.length : Int) > r) = false from decide_eq_false (by omega)]
                  rw [decide_eq_true eL, Bool.true_and] at q
                  refine iteF ?_
                  refine ⟨.int r, rfl, _, _, rfl, rfl, .int o, rfl, _, _, rfl, rfl, cmulL (by omega) (by omega), .ref a, rfl, a, k, r, m, o, kvs, rfl, (h1.same s1).seq, ⟨ts, hS, hp⟩, by omega, fun H2 s2 => ⟨_, _, rfl, rfl, _, rfl, ?_⟩⟩
                  by_cases e1 : (r + 1) * o ≤ m - sumC kvs
                  · rw [decide_eq_true e1] at q ⊢
                    rw [Bool.true_and] at q
                    refine iteT ⟨.int r, rfl, _, _, rfl, rfl, cmulL (by decide) (by decide), .int o, rfl, _, _, rfl, rfl, cmulL (by omega) (by omega), _, _, rfl, rfl, ?_⟩
                    exact q H2 fun b o z => s2 b o (s1 b o z)
                  · rw [decide_eq_false e1] at q ⊢
                    rw [Bool.false_and] at q
                    exact iteF (q H2 fun b o z => s2 b o (s1 b o z))
                · rw [show decide ((kvs.length : Int) > r) = true from decide_eq_true (by omega)]
                  rw [decide_eq_false eL, Bool.false_and] at q
                  exact iteT (q H1 s1)
      · rw [skD_long h2l] at q
        refine ⟨true, congrArg V.bl ?_, iteT (q H (Same.refl H))⟩
        rw [decide_eq_false (by
          intro z
          injection z with z
          omega)]
        rfl
    | _ => exact iteT (iteT (q H (Same.refl H)))
end
end Kb

namespace Kb
open PySem PySem.Spec PyProof.Rows L2 SrtZ SrtO
abbrev scount : Stmt := topS 66
theorem sccount : FnScope ["_law_thing"] ["_law_thing"] (defScope scount) := ⟨rfl, rfl, rfl, by decide +kernel, rfl, by decide +kernel, by decide +kernel⟩
abbrev Dncount (K : PySem.W.Frag) (mg : Str → Option Value) := Dn K mg "_law_count" scount ["_law_thing"]
abbrev slong : Stmt := topS 67
theorem sclong : FnScope ["_law_thing", "_law_many"] ["_law_thing", "_law_many"] (defScope slong) := ⟨rfl, rfl, rfl, by decide +kernel, rfl, by decide +kernel, by decide +kernel⟩
abbrev Dnlong (K : PySem.W.Frag) (mg : Str → Option Value) := Dn K mg "_law_long" slong ["_law_thing", "_law_many"]
abbrev sname_fits : Stmt := topS 68
abbrev Nname_fits : List Str := ["_law_thing", "_law_sign"]
theorem scname_fits : FnScope ["_law_thing", "_law_sign"] ["_law_thing"] (defScope sname_fits) := ⟨rfl, rfl, rfl, by decide +kernel, rfl, by decide +kernel, by decide +kernel⟩
abbrev Dnname_fits (K : PySem.W.Frag) (mg : Str → Option Value) := Dn K mg "_law_name_fits" sname_fits ["_law_thing"]
abbrev spair_fits : Stmt := topS 69
theorem scpair_fits : FnScope ["_law_thing"] ["_law_thing"] (defScope spair_fits) := ⟨rfl, rfl, rfl, by decide +kernel, rfl, by decide +kernel, by decide +kernel⟩
abbrev Dnpair_fits (K : PySem.W.Frag) (mg : Str → Option Value) := Dn K mg "_law_pair_fits" spair_fits ["_law_thing"]
theorem abc_mem (c : Nat) : decide (c ∈ (Str.ofString "abcdefghijklmnopqrstuvwxyz").cps.toList) = nmC c := by
  rw [show (Str.ofString "abcdefghijklmnopqrstuvwxyz").cps.toList = (List.range 26).map (97 + ·) by decide +kernel]
  unfold nmC
  by_cases h1 : c < 97
  · rw [decide_eq_true h1]
    refine decide_eq_false fun h => ?_
    obtain ⟨i, _, hi⟩ := List.mem_map.mp h
    omega
  · rw [decide_eq_false h1]
    by_cases h2 : 122 < c
    · rw [decide_eq_true h2]
      refine decide_eq_false fun h => ?_
      obtain ⟨i, h3, hi⟩ := List.mem_map.mp h
      have := List.mem_range.mp h3
      omega
    · rw [decide_eq_false h2]
      refine decide_eq_true (List.mem_map.mpr ⟨c - 97, List.mem_range.mpr (by omega), by omega⟩)
def lgB (n : Int) : Dat → Bool
  | .tup ds => decide ((ds.length : Int) = n)
  | _ => false
section
variable {P : Program} {w : World} {K : PySem.W.Frag} {mg : Str → Option Value} {base : Heap}
def spCountD (K : PySem.W.Frag) : Sp := fun vs H Q _ => ∃ (v : V) (d : Dat), vs = [v] ∧ DtAt K H v d ∧ Q (.bl (isNB (intD d))) H
theorem ok_countD (T : Blt mg) (d : Dncount K mg) : FnOk P w K mg base CX0 1 d.f d.fd ["_law_thing"] (spCountD K) := by
  refine d.F.ok sccount (fun vs H Q E h => ?_) (fun cdv A outer s H vs Q E hr h => ?_)
  · obtain ⟨v, n, rfl, _⟩ := h
    rfl
  · obtain ⟨v, x, rfl, hx, q⟩ := h
    refine ⟨_, (pss_one (ps_ret (pe_and (pe_callB (call_isD (K := K) rfl) (by rfl) T.n_isinstance (by decide +kernel) (pa_cons (pv 0) (pa_cons (pe_bltn (v := .ty "int") (by rfl) T.n_int (by decide +kernel) rfl) pa_nil))) (pe_and (pe_not (pe_callB (call_isD (K := K) rfl) (by rfl) T.n_isinstance (by decide +kernel) (pa_cons (pv 0) (pa_cons (pe_bltn (v := .ty "bool") (by rfl) T.n_bool (by decide +kernel) rfl) pa_nil)))) (pe_one (pe_cmpR op_ge (pv 0) pe_int (nomark _))))))), ?_⟩
    obtain ⟨t, ty, kI, kB, kS, kT⟩ := hx.ty
    refine ⟨v, rfl, v, _, t, _, isI x, rfl, .ty "int", ty, kI, isI x, rfl, ?_⟩
    cases x with
    | int i =>
      obtain ⟨rfl, _⟩ := hx.int
      exact iteT ⟨_, rfl, _, _, t, _, false, rfl, .ty "bool", ty, kB, false, rfl, true, rfl, iteT ⟨.int i, rfl, _, _, rfl, rfl, q⟩⟩
    | bl b => exact iteT ⟨_, rfl, _, _, t, _, true, rfl, .ty "bool", ty, kB, true, rfl, false, rfl, iteF q⟩
    | _ => exact iteF q
def spLongD (K : PySem.W.Frag) : Sp := fun vs H Q _ => ∃ (v : V) (d : Dat) (n : Int), vs = [v, .int n] ∧ DtAt K H v d ∧ Q (.bl (lgB n d)) H
theorem ok_longD (T : Blt mg) (d : Dnlong K mg) : FnOk P w K mg base CX0 1 d.f d.fd ["_law_thing", "_law_many"] (spLongD K) := by
  refine d.F.ok sclong (fun vs H Q E h => ?_) (fun cdv A outer s H vs Q E hr h => ?_)
  · obtain ⟨v, x, n, rfl, _⟩ := h
    rfl
  · obtain ⟨v, x, n, rfl, hx, q⟩ := h
    refine ⟨_, (pss_one (ps_ret (pe_and (pe_callB (call_isD (K := K) rfl) (by rfl) T.n_isinstance (by decide +kernel) (pa_cons (pv 0) (pa_cons (pe_bltn (v := .ty "tuple") (by rfl) T.n_tuple (by decide +kernel) rfl) pa_nil))) (pe_one (pe_cmpR op_eq (pe_callB call_len_seq (by rfl) T.n_len (by decide +kernel) (pa_cons (pv 0) pa_nil)) (pv 1) (nomark _)))))), ?_⟩
    obtain ⟨t, ty, kI, kB, kS, kT⟩ := hx.ty
    refine ⟨v, rfl, v, _, t, _, isT x, rfl, .ty "tuple", ty, kT, isT x, rfl, ?_⟩
    cases x with
    | tup ds =>
      obtain ⟨a, xs, rfl, h1, h2, h3⟩ := hx.tup
      have hl := Paired.length h3
      refine iteT ⟨.ref a, rfl, a, _, rfl, .inr h1.seq, .int n, rfl, rfl, ?_⟩
      have q : Q (.bl (decide ((ds.length : Int) = n))) H := q
      rw [← hl] at q
      by_cases e : (xs.length : Int) = n
      · rw [decide_eq_true e] at q
        rw [show decide (V.int (xs.length : Int) = V.int n) = true from decide_eq_true (by rw [e])]
        exact q
      · rw [decide_eq_false e] at q
        rw [show decide (V.int (xs.length : Int) = V.int n) = false from decide_eq_false (by intro z; injection z with z; exact e z)]
        exact q
    | _ => exact iteF q
def spNameFitsD (K : PySem.W.Frag) : Sp := fun vs H Q _ => ∃ (v : V) (d : Dat), vs = [v] ∧ DtAt K H v d ∧ ∀ H', Same H H' → Q (.bl (nameD d)) H'
theorem ok_name_fitsD (T : Blt mg) (d : Dnname_fits K mg) : FnOk P w K mg base CX0 1 d.f d.fd ["_law_thing"] (spNameFitsD K) := by
  refine d.F.ok scname_fits (fun vs H Q E h => ?_) (fun cdv A outer s H vs Q E hr h => ?_)
  · obtain ⟨v, n, rfl, _⟩ := h
    rfl
  · obtain ⟨v, x, rfl, hx, q⟩ := h
    refine ⟨_, (pss_cons (ps_if (PW.pt (pw_or (pt_not (pt_val (pe_callB (call_isD (K := K) rfl) (by rfl) T.n_isinstance (by decide +kernel) (pa_cons (pv 0) (pa_cons (pe_bltn (v := .ty "str") (by rfl) T.n_str (by decide +kernel) rfl) pa_nil))))) (pw_or (pt_cmpR op_lt (pe_callB call_len_str (by rfl) T.n_len (by decide +kernel) (pa_cons (pv 0) pa_nil)) pe_int (nomark _)) (pw_or1 (pt_cmpR op_gt (pe_callB call_len_str (by rfl) T.n_len (by decide +kernel) (pa_cons (pv 0) pa_nil)) pe_int (nomark _))))))
      (pss_one (ps_ret pe_bl))
      pss_nil)
    (pss_one (ps_ret (pe_callB (cr_all rfl) (by rfl) T.n_all (by decide +kernel) (pa_cons (pe_lc (own := [("_law_sign", 1)]) (g := gName 1) (tt := tYes) rfl scname_fits.nd (pi_str (pv 0)) (blkOk_by (N := Nname_fits) (sc := defScope sname_fits) (by decide +kernel)) (fun _ _ _ _ _ => pg_name (i := 1) scname_fits.nd rfl (Or.inl rfl)) (fun _ _ _ _ _ => pts_nil) (fun _ _ _ _ _ => (pe_cmpR op_in_sign (pv 1) pe_str rfl))) pa_nil))))), ?_⟩
    obtain ⟨t, ty, kI, kB, kS, kT⟩ := hx.ty
    refine ⟨v, rfl, v, _, t, _, isS x, rfl, .ty "str", ty, kS, isS x, rfl, ?_⟩
    cases x with
    | str z =>
      obtain ⟨rfl, hz⟩ := hx.str
      have q : ∀ H', Same H H' → Q (.bl (decide (1 ≤ z.length) && (decide (z.length ≤ 8) && (cs z).all nmC))) H' := q
      refine iteF ⟨.str z, rfl, z, rfl, (by rw [sizeLine_eq]; omega), _, _, rfl, rfl, ?_⟩
      by_cases h1 : 1 ≤ z.length
      · rw [decide_eq_true h1, Bool.true_and] at q
        refine ⟨false, congrArg V.bl (decide_eq_false (by omega)), iteF ⟨.str z, rfl, z, rfl, (by rw [sizeLine_eq]; omega), _, _, rfl, rfl, ?_⟩⟩
        by_cases h8 : z.length ≤ 8
        · rw [decide_eq_true h8, Bool.true_and] at q
          refine ⟨false, congrArg V.bl (decide_eq_false (by omega)), iteF ⟨.str z, rfl, z, rfl, fun D nD => ?_⟩⟩
          refine lc_it walk_str (fun i H3 => Same H H3 ∧ H3 D = some (.lst (((cs z).take i).map fun c => V.bl (nmC c)))) ⟨same_upd nD, upd_same⟩ (fun _ _ _ _ => trivial) (fun i x H3 H4 hi h3 y => ?_) (fun H3 h3 => ?_)
          · obtain ⟨rfl, c, hc, rfl⟩ := y
            have hc2 : (cs z)[i]? = some c := by
              rw [← hc]
              simp [cs]
            refine ⟨rfl, .str ⟨#[c]⟩, rfl, c, _, rfl, rfl, ?_⟩
            rw [abc_mem]
            refine ⟨_, h3.2, ?_, fun b o e => ?_, ?_⟩
            · rw [List.length_map, List.length_take, sizeLine_eq]
              have := cs_len z
              omega
            · rw [upd_ne (ne_of_none e nD)]
              exact h3.1 b o e
            · rw [upd_same, List.take_add_one, hc2, List.map_append]
              rfl
          · refine ⟨D, (cs z).map nmC, rfl, sql ?_, ?_⟩
            · rw [h3.2, List.map_map]
              rw [List.take_of_length_le (by
                show (cs z).length ≤ z.cps.size
                simp [cs])]
              rfl
            · rw [show ((cs z).map nmC).all id = (cs z).all nmC by rw [List.all_map]; rfl]
              exact q H3 h3.1
        · rw [decide_eq_false h8, Bool.false_and] at q
          exact ⟨true, congrArg V.bl (decide_eq_true (by omega)), iteT (q H (Same.refl H))⟩
      · rw [decide_eq_false h1, Bool.false_and] at q
        exact ⟨true, congrArg V.bl (decide_eq_true (by omega)), iteT (iteT (q H (Same.refl H)))⟩
    | _ => exact iteT (iteT (q H (Same.refl H)))
def spPairFitsD (K : PySem.W.Frag) : Sp := fun vs H Q _ => ∃ (v : V) (d : Dat), vs = [v] ∧ DtAt K H v d ∧ ∀ H', Same H H' → Q (.bl (cntB d)) H'
theorem ok_pair_fitsD (T : Blt mg) (dcount : Dncount K mg) (dlong : Dnlong K mg) (dname_fits : Dnname_fits K mg) (d : Dnpair_fits K mg) : FnOk P w K mg base CX0 2 d.f d.fd ["_law_thing"] (spPairFitsD K) := by
  have Gcount : FnOk P w K mg base CX0 1 dcount.f dcount.fd ["_law_thing"] (spCountD K) := ok_countD T dcount
  have Glong : FnOk P w K mg base CX0 1 dlong.f dlong.fd ["_law_thing", "_law_many"] (spLongD K) := ok_longD T dlong
  have Gname_fits : FnOk P w K mg base CX0 1 dname_fits.f dname_fits.fd ["_law_thing"] (spNameFitsD K) := ok_name_fitsD T dname_fits
  refine d.F.ok scpair_fits (fun vs H Q E h => ?_) (fun cdv A outer s H vs Q E hr h => ?_)
  · obtain ⟨v, n, rfl, _⟩ := h
    rfl
  · obtain ⟨v, x, rfl, hx, q⟩ := h
    refine ⟨_, (pss_one (ps_ret (pe_and (pe_call Glong (hr.mono (by omega)) (by rfl) dlong.g dlong.F.kp dlong.b .nil pass0 (pa_cons (pv 0) (pa_cons pe_int pa_nil))) (pe_and (pe_call Gname_fits (hr.mono (by omega)) (by rfl) dname_fits.g dname_fits.F.kp dname_fits.b .nil pass0 (pa_cons (pe_ix ix_tup (pv 0) pe_int (fun _ _ => rfl)) pa_nil)) (pe_and (pe_call Gcount (hr.mono (by omega)) (by rfl) dcount.g dcount.F.kp dcount.b .nil pass0 (pa_cons (pe_ix ix_tup (pv 0) pe_int (fun _ _ => rfl)) pa_nil)) (pe_one (pe_cmpR op_ge (pe_ix ix_tup (pv 0) pe_int (fun _ _ => rfl)) pe_int (nomark _)))))))), ?_⟩
    refine ⟨v, rfl, v, x, 2, rfl, hx, lgB 2 x, rfl, ?_⟩
    cases x with
    | tup ds =>
      obtain ⟨a, xs, rfl, h1, h2, h3⟩ := hx.tup
      have hl := Paired.length h3
      have long : ds.length ≠ 2 → cntB (.tup ds) = false := fun hn => by
        match ds, hn with
        | [], _ => rfl
        | [_], _ => rfl
        | [_, _], h => exact absurd rfl h
        | _ :: _ :: _ :: _, _ => rfl
      by_cases h2l : ds.length = 2
      · rw [show lgB 2 (.tup ds) = true from decide_eq_true (by omega)]
        obtain ⟨d1, d2, rfl⟩ : ∃ d1 d2, ds = [d1, d2] := match ds, h2l with | [d1, d2], _ => ⟨d1, d2, rfl⟩
        obtain ⟨x1, x2, rfl⟩ : ∃ x1 x2, xs = [x1, x2] := match xs, hl with | [x1, x2], _ => ⟨x1, x2, rfl⟩
        have e1 : DtAt K H x1 d1 := by cases h3 with | cons e _ => exact e
        have e2 : DtAt K H x2 d2 := by cases h3 with | cons _ h => cases h with | cons e _ => exact e
        have q : ∀ H', Same H H' → Q (.bl (nameD d1 && isPB (intD d2))) H' := q
        refine iteT ⟨.ref a, rfl, a, _, _, _, rfl, rfl, h1.seq, atI_nat (j := 0) rfl, x1, d1, rfl, e1, fun H1 s1 => ⟨nameD d1, rfl, ?_⟩⟩
        have h1' := h1.same s1
        cases c1 : nameD d1 with
        | false =>
          rw [c1, Bool.false_and] at q
          exact iteF (q H1 s1)
        | true =>
          rw [c1, Bool.true_and] at q
          refine iteT ⟨.ref a, rfl, a, _, _, _, rfl, rfl, h1'.seq, atI_nat (j := 1) rfl, x2, d2, rfl, e2.same s1, isNB (intD d2), rfl, ?_⟩
          cases d2 with
          | int i =>
            obtain ⟨rfl, _⟩ := e2.int
            have q : Q (.bl (decide (1 ≤ i))) H1 := q H1 s1
            show (if decide (0 ≤ i) = true then _ else _)
            by_cases h0 : 0 ≤ i
            · rw [decide_eq_true h0]
              exact iteT ⟨.ref a, rfl, a, _, _, _, rfl, rfl, h1'.seq, atI_nat (j := 1) rfl, _, _, rfl, rfl, q⟩
            · rw [decide_eq_false h0]
              rw [decide_eq_false (by omega : ¬ 1 ≤ i)] at q
              exact iteF q
          | _ => exact iteF (q H1 s1)
      · rw [long h2l] at q
        rw [show lgB 2 (.tup ds) = false from decide_eq_false (by omega)]
        exact iteF (q H (Same.refl H))
    | _ => exact iteF (q H (Same.refl H))
end
end Kb

namespace Kb
open PySem PySem.Spec PyProof.Rows L2 SrtZ SrtO
abbrev scounts_fit : Stmt := topS 70
abbrev Ncounts_fit : List Str := ["_law_thing", "_law_k", "_law_one"]
theorem sccounts_fit : FnScope ["_law_thing", "_law_k", "_law_one"] ["_law_thing"] (defScope scounts_fit) := ⟨rfl, rfl, rfl, by decide +kernel, rfl, by decide +kernel, by decide +kernel⟩
abbrev Dncounts_fit (K : PySem.W.Frag) (mg : Str → Option Value) := Dn K mg "_law_counts_fit" scounts_fit ["_law_thing"]
abbrev ssketch_fits : Stmt := topS 72
theorem scsketch_fits : FnScope ["_law_thing", "_law_room_here", "_law_lost"] ["_law_thing"] (defScope ssketch_fits) := ⟨rfl, rfl, rfl, by decide +kernel, rfl, by decide +kernel, by decide +kernel⟩
abbrev Dnsketch_fits (K : PySem.W.Frag) (mg : Str → Option Value) := Dn K mg "_law_sketch_fits" ssketch_fits ["_law_thing"]
def chainR (ns : List Str) : Bool := (List.range (ns.length - 1)).all fun k => ltZ (ns.getD k (Str.ofString "")) (ns.getD (k + 1) (Str.ofString ""))
theorem chainR_cons (a b : Str) (r : List Str) : chainR (a :: b :: r) = (ltZ a b && chainR (b :: r)) := by
  unfold chainR
  rw [show (a :: b :: r).length - 1 = r.length + 1 from rfl, show (b :: r).length - 1 = r.length from rfl, List.range_succ_eq_map, List.all_cons, List.all_map]
  rfl
theorem cts_eq : ∀ (ks : List Dat) (la : Str), ctsB la ks = (ks.all cntB && chainR (la :: ks.map nmOf))
  | [], la => rfl
  | d :: ds, la => by
    show (cntB d && (ltZ la (nmOf d) && ctsB (nmOf d) ds)) = _
    rw [cts_eq ds (nmOf d), List.map_cons, chainR_cons, List.all_cons]
    cases cntB d <;> cases ltZ la (nmOf d) <;> cases ds.all cntB <;> rfl
theorem cts_eq0 (ks : List Dat) : ctsB (Str.ofString "") ks = (ks.all cntB && chainR (ks.map nmOf)) := by
  rw [cts_eq]
  cases ks with
  | nil => rfl
  | cons d ds =>
    rw [List.map_cons, chainR_cons, List.all_cons]
    cases hc : cntB d with
    | false => rfl
    | true =>
      obtain ⟨z, i, rfl, hz, _⟩ := cntB_is hc
      have : ltZ (Str.ofString "") z = true := by
        have h1 := hz.pos
        show decide _ = true
        rw [show (Str.ofString "").cps.toList = [] by decide +kernel]
        refine decide_eq_true ?_
        cases hz : z.cps.toList with
        | nil =>
          have : z.length = 0 := by rw [← cs_len]; unfold cs; rw [hz]; rfl
          omega
        | cons c r => exact List.nil_lt_cons c r
      rw [show nmOf (.tup [.str z, .int i]) = z from rfl, this, Bool.true_and, Bool.true_and]
theorem nm_at {K : PySem.W.Frag} {H : Hp} {v : V} {d : Dat} (h : DtAt K H v d) (c : cntB d = true) : ∃ p ys, v = .ref p ∧ Ptp H p ys ∧ ys[0]? = some (.str (nmOf d)) := by
  obtain ⟨z, i, rfl, hz, _⟩ := cntB_is c
  obtain ⟨p, ys, rfl, g1, g2, g3⟩ := h.tup
  refine ⟨p, ys, rfl, g1, ?_⟩
  cases g3 with
  | cons k _ =>
    obtain ⟨rfl, _⟩ := k.str
    rfl
theorem atI_cast {xs : List V} {n : Nat} {j : Int} {v : V} (e : j = (n : Int)) (h : xs[n]? = some v) : atI xs j = some v := by
  subst e
  exact atI_nat h
theorem isPB_cnt {i : Int} (h : 1 ≤ i) : isPB (some i) = true := decide_eq_true h
section
variable {P : Program} {w : World} {K : PySem.W.Frag} {mg : Str → Option Value} {base : Heap}
def spCountsFitD (K : PySem.W.Frag) : Sp := fun vs H Q _ => ∃ (v : V) (d : Dat), vs = [v] ∧ DtAt K H v d ∧ ∀ H', Same H H' → Q (.bl (ctD d)) H'
theorem ok_counts_fitD (T : Blt mg) (dcount : Dncount K mg) (dlong : Dnlong K mg) (dname_fits : Dnname_fits K mg) (dpair_fits : Dnpair_fits K mg) (d : Dncounts_fit K mg) : FnOk P w K mg base CX0 3 d.f d.fd ["_law_thing"] (spCountsFitD K) := by
  have Gpair_fits : FnOk P w K mg base CX0 2 dpair_fits.f dpair_fits.fd ["_law_thing"] (spPairFitsD K) := ok_pair_fitsD T dcount dlong dname_fits dpair_fits
  refine d.F.ok sccounts_fit (fun vs H Q E h => ?_) (fun cdv A outer s H vs Q E hr h => ?_)
  · obtain ⟨v, n, rfl, _⟩ := h
    rfl
  · obtain ⟨v, x, rfl, hx, q⟩ := h
    refine ⟨_, (pss_cons (ps_if (PW.pt (pw_or (pt_not (pt_val (pe_callB (call_isD (K := K) rfl) (by rfl) T.n_isinstance (by decide +kernel) (pa_cons (pv 0) (pa_cons (pe_bltn (v := .ty "tuple") (by rfl) T.n_tuple (by decide +kernel) rfl) pa_nil))))) (pw_or1 (pt_not (pt_val (pe_callB (cr_all rfl) (by rfl) T.n_all (by decide +kernel) (pa_cons (pe_lc (own := [("_law_one", 2)]) (g := gName 2) (tt := tYes) rfl sccounts_fit.nd (pi_tup (pv 0)) (blkOk_by (N := Ncounts_fit) (sc := defScope scounts_fit) (by decide +kernel)) (fun _ _ _ _ _ => pg_name (i := 2) sccounts_fit.nd rfl (Or.inl rfl)) (fun _ _ _ _ _ => pts_nil) (fun _ _ _ _ _ => (pe_call Gpair_fits (hr.mono (by omega)) (by rfl) dpair_fits.g dpair_fits.F.kp dpair_fits.b .nil pass0 (pa_cons (pv 2) pa_nil)))) pa_nil)))))))
      (pss_one (ps_ret pe_bl))
      pss_nil)
    (pss_one (ps_ret (pe_callB (cr_all rfl) (by rfl) T.n_all (by decide +kernel) (pa_cons (pe_lc (own := [("_law_k", 1)]) (g := gName 1) (tt := tYes) rfl sccounts_fit.nd (pi_range1 (by rfl) T.n_range (pa_cons (pe_op op_sub (pe_callB call_len_seq (by rfl) T.n_len (by decide +kernel) (pa_cons (pv 0) pa_nil)) pe_int) pa_nil)) (blkOk_by (N := Ncounts_fit) (sc := defScope scounts_fit) (by decide +kernel)) (fun _ _ _ _ _ => pg_name (i := 1) sccounts_fit.nd rfl (Or.inl rfl)) (fun _ _ _ _ _ => pts_nil) (fun _ _ _ _ _ => (pe_cmpR op_lt_str (pe_ix (r := rIxT K) ix_tup (pe_ix (r := rIxT K) ix_tup (pv 0) (pv 1) (fun _ _ => rfl)) pe_int (fun _ _ => rfl)) (pe_ix (r := rIxT K) ix_tup (pe_ix (r := rIxT K) ix_tup (pv 0) (pe_op op_add (pv 1) pe_int) (fun _ _ => rfl)) pe_int (fun _ _ => rfl)) (nomark _)))) pa_nil))))), ?_⟩
    obtain ⟨t, ty, kI, kB, kS, kT⟩ := hx.ty
    refine ⟨v, rfl, v, _, t, _, isT x, rfl, .ty "tuple", ty, kT, isT x, rfl, ?_⟩
    cases x with
    | tup ds =>
      obtain ⟨a, xs, rfl, h1, h2, h3⟩ := hx.tup
      have hl := Paired.length h3
      have q : ∀ H', Same H H' → Q (.bl (ctsB (Str.ofString "") ds)) H' := q
      rw [cts_eq0] at q
      refine iteF ⟨.ref a, rfl, a, rfl, ⟨_, h1.seq⟩, fun D nD => lc_tup (xs := xs) (fun i H3 => Same H H3 ∧ H3 D = some (.lst ((ds.take i).map fun d => V.bl (cntB d)))) ⟨same_upd nD, upd_same⟩ (fun i H3 _ h3 => (h1.same h3.1).seq) (fun i x H3 hx h4 => ?_) (fun H3 h4 => ?_)⟩
      · obtain ⟨e, he, hat⟩ := paired_at h3 hx
        refine ⟨rfl, x, rfl, x, e, rfl, hat.same h4.1, fun H4 s4 => ⟨_, s4 _ _ h4.2, ?_, fun b o z => ?_, ?_⟩⟩
        · rw [List.length_map, List.length_take, sizeLine_eq]
          omega
        · rw [upd_ne (ne_of_none z nD)]
          exact s4 b o (h4.1 b o z)
        · rw [upd_same, List.take_add_one, he, List.map_append]
          rfl
      · refine ⟨D, ds.map cntB, rfl, sql (by rw [h4.2, hl, List.take_length, List.map_map]; rfl), (ds.map cntB).all id, rfl, ?_⟩
        rw [show (ds.map cntB).all id = ds.all cntB by rw [List.all_map]; rfl]
        cases hall : ds.all cntB with
        | false =>
          rw [hall, Bool.false_and] at q
          exact iteT (q H3 h4.1)
        | true =>
          rw [hall, Bool.true_and] at q
          have al := List.all_eq_true.mp hall
          refine iteF ⟨.ref a, rfl, a, _, rfl, .inr (h1.same h4.1).seq, _, _, rfl, rfl, (xs.length : Int) - 1, rfl, by omega, by omega, fun D2 nD2 => ?_⟩
          refine lc_range (lo := 0) (n := ((xs.length : Int) - 1).toNat) (fun i H5 => Same H3 H5 ∧ H5 D2 = some (.lst ((List.range i).map fun k => V.bl (ltZ ((ds.map nmOf).getD k (Str.ofString "")) ((ds.map nmOf).getD (k + 1) (Str.ofString "")))))) ⟨same_upd nD2, upd_same⟩ (fun i H5 hi h5 => ?_) (fun H5 h5 => ?_)
          · have s05 : Same H H5 := Same.trans h4.1 h5.1
            have hi1 : i + 1 < xs.length := by omega
            obtain ⟨x1, hx1⟩ : ∃ x1, xs[i]? = some x1 := ⟨xs[i], List.getElem?_eq_getElem (by omega)⟩
            obtain ⟨x2, hx2⟩ : ∃ x2, xs[i + 1]? = some x2 := ⟨xs[i + 1], List.getElem?_eq_getElem (by omega)⟩
            obtain ⟨e1, he1, hat1⟩ := paired_at h3 hx1
            obtain ⟨e2, he2, hat2⟩ := paired_at h3 hx2
            obtain ⟨p1, ys1, rfl, g1, i1⟩ := nm_at (hat1.same s05) (al _ (List.mem_of_getElem? he1))
            obtain ⟨p2, ys2, rfl, g2, i2⟩ := nm_at (hat2.same s05) (al _ (List.mem_of_getElem? he2))
            have n1 : (ds.map nmOf).getD i (Str.ofString "") = nmOf e1 := by rw [List.getD_eq_getElem?_getD, List.getElem?_map, he1]; rfl
            have n2 : (ds.map nmOf).getD (i + 1) (Str.ofString "") = nmOf e2 := by rw [List.getD_eq_getElem?_getD, List.getElem?_map, he2]; rfl
            refine ⟨rfl, .ref a, rfl, .int (0 + (i : Int)), rfl, a, _, _, _, rfl, rfl, (h1.same s05).seq, atI_cast (n := i) (by omega) hx1, p1, _, _, _, rfl, rfl, g1.seq, atI_nat (j := 0) i1, .ref a, rfl, .int (0 + (i : Int)), rfl, _, _, rfl, rfl, a, _, _, _, rfl, rfl, (h1.same s05).seq, atI_cast (n := i + 1) (by push_cast; omega) hx2, p2, _, _, _, rfl, rfl, g2.seq, atI_nat (j := 0) i2, _, _, rfl, rfl, _, h5.2, ?_, ?_, ?_⟩
            · rw [List.length_map, List.length_range, sizeLine_eq]
              omega
            · exact Same.put h5.1 nD2
            · rw [upd_same, List.range_succ, List.map_append]
              show some (HO.lst (_ ++ [V.bl (ltZ (nmOf e1) (nmOf e2))])) = some (HO.lst (_ ++ [V.bl (ltZ ((ds.map nmOf).getD i (Str.ofString "")) ((ds.map nmOf).getD (i + 1) (Str.ofString "")))]))
              rw [n1, n2]
          · refine ⟨D2, (List.range ((xs.length : Int) - 1).toNat).map fun k => ltZ ((ds.map nmOf).getD k (Str.ofString "")) ((ds.map nmOf).getD (k + 1) (Str.ofString "")), rfl, sql (by rw [h5.2, List.map_map]; rfl), ?_⟩
            rw [show (((List.range ((xs.length : Int) - 1).toNat).map fun k => ltZ ((ds.map nmOf).getD k (Str.ofString "")) ((ds.map nmOf).getD (k + 1) (Str.ofString ""))).all id) = chainR (ds.map nmOf) by
              rw [List.all_map]
              unfold chainR
              rw [List.length_map, show ((xs.length : Int) - 1).toNat = ds.length - 1 by omega]
              rfl]
            exact q H5 (Same.trans h4.1 h5.1)
    | _ => exact iteT (iteT (q H (Same.refl H)))
/-! _law_sketch_fits, of anything -/
def spSketchFitsD (K : PySem.W.Frag) : Sp := fun vs H Q _ => ∃ (v : V) (d : Dat), vs = [v] ∧ DtAt K H v d ∧ ∀ H', Same H H' → Q (.bl (skD d)) H'
theorem ok_sketch_fitsD (T : Blt mg) (dcount : Dncount K mg) (dlong : Dnlong K mg) (dname_fits : Dnname_fits K mg) (dpair_fits : Dnpair_fits K mg) (dcounts_fit : Dncounts_fit K mg) (dsum : Dnsum K mg) (d : Dnsketch_fits K mg) : FnOk P w K mg base CX0 4 d.f d.fd ["_law_thing"] (spSketchFitsD K) := by
  have Gcount : FnOk P w K mg base CX0 1 dcount.f dcount.fd ["_law_thing"] (spCountD K) := ok_countD T dcount
  have Glong : FnOk P w K mg base CX0 1 dlong.f dlong.fd ["_law_thing", "_law_many"] (spLongD K) := ok_longD T dlong
  have Gcounts_fit : FnOk P w K mg base CX0 3 dcounts_fit.f dcounts_fit.fd ["_law_thing"] (spCountsFitD K) := ok_counts_fitD T dcount dlong dname_fits dpair_fits dcounts_fit
  have Gsum : FnOk P w K mg base CX0 1 dsum.f dsum.fd ["_law_counts"] (spSum K) := ok_sum T dsum
  refine d.F.ok scsketch_fits (fun vs H Q E h => ?_) (fun cdv A outer s H vs Q E hr h => ?_)
  · obtain ⟨v, n, rfl, _⟩ := h
    rfl
  · obtain ⟨v, x, rfl, hx, q⟩ := h
    refine ⟨_, (pss_cons (ps_if (PW.pt (pw_or (pt_not (pt_val (pe_call Glong (hr.mono (by omega)) (by rfl) dlong.g dlong.F.kp dlong.b .nil pass0 (pa_cons (pv 0) (pa_cons pe_int pa_nil))))) (pw_or (pt_not (pt_val (pe_call Gcount (hr.mono (by omega)) (by rfl) dcount.g dcount.F.kp dcount.b .nil pass0 (pa_cons (pe_ix ix_tup (pv 0) pe_int (fun _ _ => rfl)) pa_nil)))) (pw_or (pt_not (pt_val (pe_call Gcount (hr.mono (by omega)) (by rfl) dcount.g dcount.F.kp dcount.b .nil pass0 (pa_cons (pe_ix ix_tup (pv 0) pe_int (fun _ _ => rfl)) pa_nil)))) (pw_or1 (pt_not (pt_val (pe_call Gcount (hr.mono (by omega)) (by rfl) dcount.g dcount.F.kp dcount.b .nil pass0 (pa_cons (pe_ix ix_tup (pv 0) pe_int (fun _ _ => rfl)) pa_nil)))))))))
      (pss_one (ps_ret pe_bl))
      pss_nil)
    (pss_cons (ps_set (i := 1) scsketch_fits.nd rfl (Or.inl rfl) (pe_ix ix_tup (pv 0) pe_int (fun _ _ => rfl)))
    (pss_cons (ps_if (PW.pt (pw_or (pt_cmpR op_lt (pv 1) pe_int (nomark _)) (pw_or (pt_cmpR op_gt (pv 1) pe_int (nomark _)) (pw_or (pt_not (pt_val (pe_call Gcounts_fit (hr.mono (by omega)) (by rfl) dcounts_fit.g dcounts_fit.F.kp dcounts_fit.b .nil pass0 (pa_cons (pe_ix ix_tup (pv 0) pe_int (fun _ _ => rfl)) pa_nil)))) (pw_or1 (pt_cmpR op_gt (pe_callB call_len_seq (by rfl) T.n_len (by decide +kernel) (pa_cons (pe_ix ix_tup (pv 0) pe_int (fun _ _ => rfl)) pa_nil)) (pv 1) (nomark _)))))))
      (pss_one (ps_ret pe_bl))
      pss_nil)
    (pss_cons (ps_set (i := 2) scsketch_fits.nd rfl (Or.inl rfl) (pe_op op_sub (pe_ix ix_tup (pv 0) pe_int (fun _ _ => rfl)) (pe_call Gsum (hr.mono (by omega)) (by rfl) dsum.g dsum.F.kp dsum.b .nil pass0 (pa_cons (pe_ix ix_tup (pv 0) pe_int (fun _ _ => rfl)) pa_nil))))
    (pss_one (ps_ret (pe_and (pe_cmpR op_le (pe_op op_mul (pe_op op_add (pv 1) pe_int) (pe_ix ix_tup (pv 0) pe_int (fun _ _ => rfl))) (pv 2) (nomark _)) (pe_one (pe_cmpR op_le (pv 2) (pe_op op_mul (pe_op op_mul pe_int (pv 1)) (pe_ix ix_tup (pv 0) pe_int (fun _ _ => rfl))) (nomark _)))))))))), ?_⟩
    refine ⟨v, rfl, v, x, 4, rfl, hx, lgB 4 x, rfl, ?_⟩
    cases x with
    | tup ds =>
      obtain ⟨a, xs, rfl, h1, h2, h3⟩ := hx.tup
      have hl := Paired.length h3
      by_cases h2l : ds.length = 4
      · rw [show lgB 4 (.tup ds) = true from decide_eq_true (by omega)]
        obtain ⟨d1, d2, d3, d4, rfl⟩ := four h2l
        obtain ⟨x1, x2, x3, x4, rfl⟩ := four (hl.trans h2l)
        obtain ⟨e1, e2, e3, e4⟩ := paired4 h3
        have q : ∀ H', Same H H' → Q (.bl (isRB (intD d1) && (isNB (intD d2) && (isNB (intD d3) && (ctD d4 && (decide ((lenD d4 : Int) ≤ geI d1) && (decide ((geI d1 + 1) * geI d3 ≤ geI d2 - sumC (kvD d4)) && decide (geI d2 - sumC (kvD d4) ≤ 2 * geI d1 * geI d3)))))))) H' := q
        refine iteF ⟨.ref a, rfl, a, _, _, _, rfl, rfl, h1.seq, atI_nat (j := 0) rfl, x1, d1, rfl, e1, isNB (intD d1), rfl, ?_⟩
        cases eN : isNB (intD d1) with
        | false =>
          have eR : isRB (intD d1) = false := by
            cases hd : isRB (intD d1) with
            | false => rfl
            | true =>
              obtain ⟨r, rfl, r1, _⟩ := isRB_is hd
              have eN : decide (0 ≤ r) = false := eN
              exact absurd (show 0 ≤ r by omega) (of_decide_eq_false eN)
          rw [eR, Bool.false_and] at q
          exact iteT (iteT (q H (Same.refl H)))
        | true =>
          refine iteF ⟨.ref a, rfl, a, _, _, _, rfl, rfl, h1.seq, atI_nat (j := 1) rfl, x2, d2, rfl, e2, isNB (intD d2), rfl, ?_⟩
          cases eM : isNB (intD d2) with
          | false =>
            rw [eM, Bool.false_and, Bool.and_false] at q
            exact iteT (iteT (q H (Same.refl H)))
          | true =>
            rw [eM, Bool.true_and] at q
            refine iteF ⟨.ref a, rfl, a, _, _, _, rfl, rfl, h1.seq, atI_nat (j := 2) rfl, x3, d3, rfl, e3, isNB (intD d3), rfl, ?_⟩
            cases eO : isNB (intD d3) with
            | false =>
              rw [eO, Bool.false_and, Bool.and_false] at q
              exact iteT (q H (Same.refl H))
            | true =>
              rw [eO, Bool.true_and] at q
              obtain ⟨r, rfl, r0⟩ := isNB_is eN
              obtain ⟨m, rfl, m0⟩ := isNB_is eM
              obtain ⟨o, rfl, o0⟩ := isNB_is eO
              obtain ⟨rfl, _⟩ := e1.int
              obtain ⟨rfl, _⟩ := e2.int
              obtain ⟨rfl, _⟩ := e3.int
              refine iteF ⟨.ref a, rfl, a, _, _, _, rfl, rfl, h1.seq, atI_nat (j := 0) rfl, .int r, rfl, _, _, rfl, rfl, ?_⟩
              have q : ∀ H', Same H H' → Q (.bl ((decide (1 ≤ r) && decide (r ≤ 64)) && (ctD d4 && (decide ((lenD d4 : Int) ≤ r) && (decide ((r + 1) * o ≤ m - sumC (kvD d4)) && decide (m - sumC (kvD d4) ≤ 2 * r * o)))))) H' := q
              by_cases r1 : 1 ≤ r
              · rw [decide_eq_true r1, Bool.true_and] at q
                refine ⟨false, congrArg V.bl (decide_eq_false (by omega)), iteF ⟨.int r, rfl, _, _, rfl, rfl, ?_⟩⟩
                by_cases r64 : r ≤ 64
                · rw [decide_eq_true r64, Bool.true_and] at q
                  refine ⟨false, congrArg V.bl (decide_eq_false (by omega)), iteF ⟨.ref a, rfl, a, _, _, _, rfl, rfl, h1.seq, atI_nat (j := 3) rfl, x4, d4, rfl, e4, fun H1 s1 => ⟨ctD d4, rfl, ?_⟩⟩⟩
                  cases eC : ctD d4 with
                  | false =>
                    rw [eC, Bool.false_and] at q
                    exact iteT (iteT (q H1 s1))
                  | true =>
                    rw [eC, Bool.true_and] at q
                    obtain ⟨k, rfl, hk, cc, hlen⟩ := ct_of e4 eC
                    generalize hkv : kvD d4 = kvs at hk cc hlen q
                    rw [← hlen] at q
                    obtain ⟨ts, hS, hp⟩ := hk.same s1
                    have el : (ts.map V.ref).length = kvs.length := by rw [List.length_map, Paired.length hp]
                    have h1' := (h1.same s1).seq (K := K)
                    refine iteF ⟨.ref a, rfl, a, _, _, _, rfl, rfl, h1', atI_nat (j := 3) rfl, k, _, rfl, .inr hS, .int r, rfl, _, _, rfl, rfl, ?_⟩
                    rw [el]
                    by_cases eL : (kvs.length : Int) ≤ r
                    · rw [decide_eq_true eL, Bool.true_and] at q
                      refine ⟨false, congrArg V.bl (decide_eq_false (by omega)), iteF ?_⟩
                      refine ⟨.ref a, rfl, a, _, _, _, rfl, rfl, h1', atI_nat (j := 1) rfl, .ref a, rfl, a, _, _, _, rfl, rfl, h1', atI_nat (j := 3) rfl, k, kvs, rfl, ⟨ts, hS, hp⟩, by omega, fun H2 s2 => ⟨_, _, rfl, rfl, ?_⟩⟩
                      have h2' := ((h1.same s1).same s2).seq (K := K)
                      refine ⟨.int r, rfl, _, _, rfl, rfl, .ref a, rfl, a, _, _, _, rfl, rfl, h2', atI_nat (j := 2) rfl, _, _, rfl, rfl, cmulL (by omega) (by omega), .int (m - sumC kvs), rfl, _, _, rfl, rfl, ?_⟩
                      by_cases e1 : (r + 1) * o ≤ m - sumC kvs
                      · rw [decide_eq_true e1] at q
                        rw [Bool.true_and] at q
                        refine ⟨true, congrArg V.bl (decide_eq_true e1), iteT ⟨.int (m - sumC kvs), rfl, .int r, rfl, _, _, rfl, rfl, cmulL (by decide) (by decide), .ref a, rfl, a, _, _, _, rfl, rfl, h2', atI_nat (j := 2) rfl, _, _, rfl, rfl, cmulL (by omega) (by omega), _, _, rfl, rfl, ?_⟩⟩
                        exact q H2 fun b o z => s2 b o (s1 b o z)
                      · rw [decide_eq_false e1] at q
                        rw [Bool.false_and] at q
                        refine ⟨false, congrArg V.bl (decide_eq_false e1), iteF ?_⟩
                        exact q H2 fun b o z => s2 b o (s1 b o z)
                    · rw [decide_eq_false eL, Bool.false_and] at q
                      exact ⟨true, congrArg V.bl (decide_eq_true (by omega)), iteT (q H1 s1)⟩
                · rw [decide_eq_false r64, Bool.false_and] at q
                  exact ⟨true, congrArg V.bl (decide_eq_true (by omega)), iteT (iteT (q H (Same.refl H)))⟩
              · rw [decide_eq_false r1, Bool.false_and, Bool.false_and] at q
                exact ⟨true, congrArg V.bl (decide_eq_true (by omega)), iteT (iteT (q H (Same.refl H)))⟩
      · rw [skD_long h2l] at q
        rw [show lgB 4 (.tup ds) = false from decide_eq_false (by omega)]
        exact iteT (iteT (q H (Same.refl H)))
    | _ => exact iteT (iteT (q H (Same.refl H)))
end
end Kb

namespace Kb
open PySem PySem.Spec PyProof.Rows L2 SrtZ SrtO
abbrev ssigns : Stmt := topS 56
theorem scsigns : FnScope ["_law_signs_here"] [] (defScope ssigns) := ⟨rfl, rfl, rfl, by decide +kernel, rfl, by decide +kernel, by decide +kernel⟩
abbrev Dnsigns (K : PySem.W.Frag) (mg : Str → Option Value) := Dn K mg "_law_signs" ssigns []
abbrev sstring : Stmt := topS 57
abbrev Nstring : List Str := ["_law_well_here", "_law_many", "_law_signs_here", "_law_k"]
theorem scstring : FnScope ["_law_well_here", "_law_many", "_law_signs_here", "_law_k"] ["_law_well_here", "_law_many"] (defScope sstring) := ⟨rfl, rfl, rfl, by decide +kernel, rfl, by decide +kernel, by decide +kernel⟩
abbrev Dnstring (K : PySem.W.Frag) (mg : Str → Option Value) := Dn K mg "_law_string" sstring ["_law_well_here", "_law_many"]
abbrev sany : Stmt := topS 60
abbrev Nany : List Str := ["_law_well_here", "_law_deep", "_law_kind", "_law_items", "_law_k"]
theorem scany : FnScope ["_law_well_here", "_law_deep", "_law_kind", "_law_items", "_law_k"] ["_law_well_here", "_law_deep"] (defScope sany) := ⟨rfl, rfl, rfl, by decide +kernel, rfl, by decide +kernel, by decide +kernel⟩
abbrev Dnany (K : PySem.W.Frag) (mg : Str → Option Value) := Dn K mg "_law_any" sany ["_law_well_here", "_law_deep"]
section
variable {X : Cx} {pos : Pos} {x : Str} {p : Pos}
/-- C(), C an own class of errors without own __init__ -/
theorem pmk_bare {C : Addr} {bmB : List Value} {B newId initId : String} (F : ExcBaseFacts B newId initId bmB) (isExc : PySem.W.excIn X.K C bmB newId = true) (at_ : X.mg x = some (.ref C)) (kept : PySem.W.keepIn X.K (.ref C) = true) (may : Raises X (.ref C)) (gl : Gl X x)
    (nodebug : (x == ("__debug__" : Str)) = false := by decide) : PMk X (.Call (.Name x p) [] [] pos) (fun _ H Q => Q (.ref C) none H) := by
  intro pins s σ H Q I h
  refine wpAny_Call_Name_kw (ld_glob I gl at_ ?_ nodebug)
  refine PySem.W.callWith_K0 I.kIn kept ?_
  obtain ⟨_, _, _, _, _, _, _, _, _, _, _, _, _, _, _, _, _, isC, names, noInit, tail⟩ := exc_obj I.kIn isExc
  exact wpAny_call_exc_subT F tail isC names noInit (fun h' e' made => mk_of I made may h (I.hok.gone made.new)) (Nat.zero_le _)
end
/-- an own class of errors -/
structure TxE (K : PySem.W.Frag) (mg : Str → Option Value) (nm : Str) where
  C : Addr
  gC : mg nm = some (.ref C)
  exc : PySem.W.excIn K C [.type "ValueError", .type "Exception", .type "BaseException", .type "object"] "ValueError.__new__" = true
  kp : PySem.W.keepIn K (.ref C) = true
  sub : PySem.W.subIn K (.ref C) (.type "BaseException") = some true
  ty : PySem.W.typeIn K (.ref C) = some (.type "type")
  isC : ExcC K C
theorem DatAt.lint {K : PySem.W.Frag} {B L n : Nat} {H : Hp} {i : Int} (h : i.natAbs ≤ B) : DatAt K B L n H (.int i) (.int i) := .leaf (show LfAt K B L H (.int i) (.int i) from ⟨rfl, h⟩)
theorem DatAt.lstr {K : PySem.W.Frag} {B L n : Nat} {H : Hp} {z : Str} (h : z.length ≤ L) : DatAt K B L n H (.str z) (.str z) := .leaf (show LfAt K B L H (.str z) (.str z) from ⟨rfl, h⟩)
theorem DatAt.lbl {K : PySem.W.Frag} {B L n : Nat} {H : Hp} {b : Bool} : DatAt K B L n H (.bl b) (.bl b) := .leaf (show LfAt K B L H (.bl b) (.bl b) from rfl)
theorem DatAt.lnon {K : PySem.W.Frag} {B L n : Nat} {H : Hp} : DatAt K B L n H .non .non := .leaf (show LfAt K B L H .non .non from rfl)
theorem DatAt.lodd {K : PySem.W.Frag} {B L n : Nat} {H : Hp} {a : Addr} (h : OdA K H a) : DatAt K B L n H (.ref a) .odd := .leaf (show LfAt K B L H (.ref a) .odd from ⟨a, rfl, h⟩)
theorem DatAt.ltup {K : PySem.W.Frag} {B L n : Nat} {H : Hp} {a : Addr} {xs : List V} {ds : List Dat} (h1 : Ptp H a xs) (h2 : xs.length ≤ L) (h3 : Paired (DatAt K B L n H) xs ds) : DatAt K B L (n + 1) H (.ref a) (.tup ds) := .inr ⟨a, xs, ds, rfl, rfl, h1, h2, h3⟩
def sgn : Str := Str.ofString " !\"#$&'()*+,-./0123456789:;<=>?@ABCDEFGHIJKLMNOPQRSTUVWXYZ[\\]^_`" ++ Str.ofString "abcdefghijklmnopqrstuvwxyz{|}~"
theorem sgn_len : sgn.cps.toList.length = 94 := by decide +kernel
theorem dint (a b : Int) : decide (V.int a = V.int b) = decide (a = b) := by
  by_cases h : a = b
  · rw [decide_eq_true h, decide_eq_true (congrArg V.int h)]
  · rw [decide_eq_false h, decide_eq_false (fun z => h (by injection z))]
theorem sapp_len (a b : Str) : (a ++ b).length = a.length + b.length := by
  show (a.cps ++ b.cps).size = _
  rw [Array.size_append]
  rfl
section
variable {P : Program} {w : World} {K : PySem.W.Frag} {mg : Str → Option Value} {base : Heap}
def spSigns : Sp := fun vs H Q _ => vs = [] ∧ Q (.str sgn) H
theorem ok_signs (T : Blt mg) (d : Dnsigns K mg) : FnOk P w K mg base CX0 1 d.f d.fd [] spSigns := by
  refine d.F.ok scsigns (fun vs H Q E h => ?_) (fun cdv A outer s H vs Q E hr h => ?_)
  · obtain ⟨rfl, _⟩ := h
    rfl
  · obtain ⟨rfl, q⟩ := h
    refine ⟨_, (pss_cons (ps_set (i := 0) scsigns.nd rfl (Or.inl rfl) pe_str)
    (pss_one (ps_ret (pe_op op_add_str (pv 0) pe_str)))), ?_⟩
    exact ⟨_, rfl, _, _, rfl, rfl, (by decide +kernel), q⟩
def spString : Sp := fun vs H Q _ => ∃ (a c : Addr) (m : Nat), vs = [.ref a, .int (m : Int)] ∧ Wl a c H ∧ m ≤ 1000 ∧ ∀ H' z, Exw a H H' → Wl a c H' → z.length = m → Q (.str z) H'
theorem ok_string (T : Blt mg) (dmixed : Dnmixed K mg) (dfilled : Dnfilled K mg) (ddraw : Dndraw K mg) (dsigns : Dnsigns K mg) (d : Dnstring K mg) : FnOk P w K mg base CX0 4 d.f d.fd ["_law_well_here", "_law_many"] spString := by
  have Gdraw : FnOk P w K mg base CX0 3 ddraw.f ddraw.fd ["_law_well_here", "_law_many"] spDraw := ok_draw T dmixed dfilled ddraw
  have Gsigns : FnOk P w K mg base CX0 1 dsigns.f dsigns.fd [] spSigns := ok_signs T dsigns
  refine d.F.ok scstring (fun vs H Q E h => ?_) (fun cdv A outer s H vs Q E hr h => ?_)
  · obtain ⟨a, c, m, rfl, _⟩ := h
    rfl
  · obtain ⟨a, c, m, rfl, hw, hm, q⟩ := h
    refine ⟨_, (pss_cons (ps_asg (pe_call0 Gsigns (hr.mono (by omega)) (by rfl) dsigns.g dsigns.F.kp dsigns.b .nil pass0) (pg_name (i := 2) scstring.nd rfl (Or.inr rfl)))
    (pss_one (ps_ret (pe_join pe_str (pe_lc (own := [("_law_k", 3)]) (g := gName 3) (tt := tYes) rfl scstring.nd (pi_range1 (by rfl) T.n_range (pa_cons (pv 1) pa_nil)) (blkOk_by (N := Nstring) (sc := defScope sstring) (by decide +kernel)) (fun _ _ _ _ _ => pg_name (i := 3) scstring.nd rfl (Or.inl rfl)) (fun _ _ _ _ _ => pts_nil) (fun _ _ _ _ _ => (pe_ix ix_str (pv 2) (pe_call Gdraw (hr.mono (by omega)) (by rfl) ddraw.g ddraw.F.kp ddraw.b .nil pass0 (pa_cons (pv 0) (pa_cons pe_int pa_nil))) (fun _ _ => rfl)))))))), ?_⟩
    refine ⟨rfl, ⟨_, rfl⟩, .int (m : Int), rfl, (m : Int), rfl, (by omega), (by omega), fun D nD => ?_⟩
    rw [Int.toNat_natCast]
    have hD := hw.ne2 nD
    refine lc_range (lo := 0) (n := m) (fun i H8 => Exw a H H8 ∧ Wl a c H8 ∧ ∃ l : List Nat, H8 D = some (.lst (l.map fun c => V.str (S [c]))) ∧ l.length = i) ⟨(Exw.refl a H).put nD, hw.same (same_upd nD), [], upd_same, rfl⟩ (fun i H8 hi h8 => ?_) (fun H8 h8 => ?_)
    · obtain ⟨x8, p8, l, hD8, hl⟩ := h8
      refine ⟨rfl, _, rfl, .ref a, rfl, a, c, 94, rfl, p8, (by decide), (by decide), fun H9 c' x9 p9 c0 c26 => ?_⟩
      obtain ⟨c', rfl⟩ := Int.eq_ofNat_of_zero_le c0
      have hc26 : c' < sgn.cps.toList.length := by rw [sgn_len]; omega
      refine ⟨_, _, _, rfl, rfl, (by decide +kernel), atI_nat (List.getElem?_eq_getElem hc26), _, x9 D _ hD.1 hD8, ?_, (x8.trans x9).put nD, p9.put hD, l ++ [sgn.cps.toList[c']], ?_, ?_⟩
      · rw [List.length_map, hl, sizeLine_eq]
        omega
      · rw [upd_same, List.map_append]
        rfl
      · rw [List.length_append, hl]
        rfl
    obtain ⟨x8, p8, l, hD8, hl⟩ := h8
    have ej : Txt.join (Str.ofString "") (l.map fun c => S [c]) = S l := join_signs l
    refine ⟨_, D, l.map fun c => S [c], rfl, rfl, .inl (sql (by rw [hD8, List.map_map]; rfl)), ?_, ?_⟩
    · rw [List.map_map, List.length_map, signs_len]
      show l.length + l.length * 0 ≤ 16777216
      omega
    · rw [ej]
      exact q H8 _ x8 p8 (by rw [S_len]; exact hl)
/-! _law_any -/
def spAny (K : PySem.W.Frag) (n : Nat) : Sp := fun vs H Q _ => ∃ (a c : Addr), vs = [.ref a, .int (n : Int)] ∧ Wl a c H ∧ ∀ H' v d, Exw a H H' → Wl a c H' → DatAt K (2 ^ 31) 20 n H' v d → Q v H'
def spAny' (K : PySem.W.Frag) : Nat → Sp
  | 0 => fun _ _ _ _ => False
  | n + 1 => spAny K n
theorem ok_any' (T : Blt mg) (N : TxE K mg "NoTree") (NX : XcT K N.C) (dmixed : Dnmixed K mg) (dfilled : Dnfilled K mg) (ddraw : Dndraw K mg) (dnumber : Dnnumber K mg) (dsigns : Dnsigns K mg) (dstring : Dnstring K mg) (dname : Dnname K mg) (dany : Dnany K mg) (n : Nat) (Gany : FnOk P w K mg base CX0 (n + 4) dany.f dany.fd ["_law_well_here", "_law_deep"] (spAny' K n)) : FnOk P w K mg base CX0 (n + 5) dany.f dany.fd ["_law_well_here", "_law_deep"] (spAny K n) := by
  have Gdraw : FnOk P w K mg base CX0 3 ddraw.f ddraw.fd ["_law_well_here", "_law_many"] spDraw := ok_draw T dmixed dfilled ddraw
  have Gnumber : FnOk P w K mg base CX0 4 dnumber.f dnumber.fd ["_law_well_here"] spNumber := ok_number T dmixed dfilled ddraw dnumber
  have Gstring : FnOk P w K mg base CX0 4 dstring.f dstring.fd ["_law_well_here", "_law_many"] spString := ok_string T dmixed dfilled ddraw dsigns dstring
  have Gname : FnOk P w K mg base CX0 4 dname.f dname.fd ["_law_well_here"] spName := ok_name T dmixed dfilled ddraw dname
  refine dany.F.ok scany (fun vs H Q E h => ?_) (fun cdv A outer s H vs Q E hr h => ?_)
  · obtain ⟨a, c, rfl, _⟩ := h
    rfl
  · obtain ⟨a, c, rfl, hw, q⟩ := h
    refine ⟨_, (pss_cons (ps_set (i := 2) scany.nd rfl (Or.inl rfl) (pe_call Gdraw (hr.mono (by omega)) (by rfl) ddraw.g ddraw.F.kp ddraw.b .nil pass0 (pa_cons (pv 0) (pa_cons pe_int pa_nil))))
    (C8.pss_cut (ps_if (pt_cmpR op_eq (pv 1) pe_int (nomark _))
      (pss_one (ps_set (i := 2) scany.nd rfl (Or.inl rfl) (pe_op op_modB (pe_callTy call_int1 (by rfl) T.n_int (by decide +kernel) (pa_cons (pv 2) pa_nil)) pe_int)))
      pss_nil)
    (pss_cons (ps_if (pt_cmpR op_eq (pv 2) pe_int (nomark _))
      (pss_one (ps_ret (pe_op op_sub (pe_call Gdraw (hr.mono (by omega)) (by rfl) ddraw.g ddraw.F.kp ddraw.b .nil pass0 (pa_cons (pv 0) (pa_cons pe_int pa_nil))) pe_int)))
      pss_nil)
    (pss_cons (ps_if (pt_cmpR op_eq (pv 2) pe_int (nomark _))
      (pss_one (ps_ret (pe_op op_sub (pe_un un_neg pe_int) (pe_call Gnumber (hr.mono (by omega)) (by rfl) dnumber.g dnumber.F.kp dnumber.b .nil pass0 (pa_cons (pv 0) pa_nil)))))
      pss_nil)
    (pss_cons (ps_if (pt_cmpR op_eq (pv 2) pe_int (nomark _))
      (pss_one (ps_ret (pe_cmpR op_eq (pe_call Gdraw (hr.mono (by omega)) (by rfl) ddraw.g ddraw.F.kp ddraw.b .nil pass0 (pa_cons (pv 0) (pa_cons pe_int pa_nil))) pe_int (nomark _))))
      pss_nil)
    (pss_cons (ps_if (pt_cmpR op_eq (pv 2) pe_int (nomark _))
      (pss_one (ps_ret pe_non))
      pss_nil)
    (pss_cons (ps_if (pt_cmpR op_eq (pv 2) pe_int (nomark _))
      (pss_one (ps_ret (pe_call Gstring (hr.mono (by omega)) (by rfl) dstring.g dstring.F.kp dstring.b .nil pass0 (pa_cons (pv 0) (pa_cons (pe_call Gdraw (hr.mono (by omega)) (by rfl) ddraw.g ddraw.F.kp ddraw.b .nil pass0 (pa_cons (pv 0) (pa_cons pe_int pa_nil))) pa_nil)))))
      pss_nil)
    (pss_cons (ps_if (pt_cmpR op_eq (pv 2) pe_int (nomark _))
      (pss_one (ps_ret (pe_op op_add_str (pe_call Gname (hr.mono (by omega)) (by rfl) dname.g dname.F.kp dname.b .nil pass0 (pa_cons (pv 0) pa_nil)) (pe_ix ix_list (pe_lst (pa_cons pe_str (pa_cons pe_str (pa_cons pe_str (pa_cons pe_str pa_nil))))) (pe_call Gdraw (hr.mono (by omega)) (by rfl) ddraw.g ddraw.F.kp ddraw.b .nil pass0 (pa_cons (pv 0) (pa_cons pe_int pa_nil))) (fun _ _ => rfl)))))
      pss_nil)
    (pss_cons (ps_setLc (i := 3) (own := [("_law_k", 4)]) (g := gName 4) (tt := tYes) rfl scany.nd rfl rfl (sw_true rfl rfl rfl (by decide +kernel)) (pi_range1 (by rfl) T.n_range (pa_cons (pe_call Gdraw (hr.mono (by omega)) (by rfl) ddraw.g ddraw.F.kp ddraw.b .nil pass0 (pa_cons (pv 0) (pa_cons pe_int pa_nil))) pa_nil)) (blkOk_by (N := Nany) (sc := defScope sany) (by decide +kernel)) (fun _ _ _ _ _ => pg_name (i := 4) scany.nd rfl (Or.inl rfl)) (fun _ _ _ _ _ => pts_nil) (fun _ _ _ _ _ => (pe_call Gany (hr.mono (by omega)) (by rfl) dany.g dany.F.kp dany.b .nil pass0 (pa_cons (pv 0) (pa_cons (pe_op op_sub (pv 1) pe_int) pa_nil)))))
    (pss_cons (ps_if (pt_cmpR op_le (pv 2) pe_int (nomark _))
      (pss_one (ps_ret (pe_callTy call_tupleF (by rfl) T.n_tuple (by decide +kernel) (pa_cons (pv 3) pa_nil))))
      pss_nil)
    (pss_cons (ps_if (pt_cmpR op_eq (pv 2) pe_int (nomark _))
      (pss_one (ps_ret (pv 3)))
      pss_nil)
    (pss_cons (ps_if (pt_cmpR op_eq (pv 2) pe_int (nomark _))
      (pss_one (ps_ret (pe_disp (pps_cons pe_str (pv 3) (pps_cons pe_int pe_non pps_nil)) rfl rfl (by simp) (by decide))))
      pss_nil)
    (pss_one (ps_ret (pe_exc0 PySem.F.excBase_ValueError N.exc N.gC N.kp rfl))))))))))))))), ?_⟩
    refine ⟨.ref a, rfl, a, c, 12, rfl, hw, (by decide), (by decide), fun H1 k x1 w1 k0 k1 => ?_⟩
    obtain ⟨kn, rfl⟩ := Int.eq_ofNat_of_zero_le k0
    refine ⟨fun σ H3 => ∃ k : Nat, k < 12 ∧ (n = 0 → k < 6) ∧ σ = [some (.ref a), some (.int (n : Int)), some (.int (k : Int)), none, none] ∧ Exw a H H3 ∧ Wl a c H3, ?_, ?_⟩
    · refine ⟨.int (n : Int), rfl, rfl, decide ((n : Int) = 0), congrArg V.bl (dint _ _), ?_⟩
      by_cases hn : (n : Int) = 0
      · rw [decide_eq_true hn]
        refine iteT ⟨.int (kn : Int), rfl, .inl ⟨_, rfl, _, _, rfl, rfl, by decide, fun m m0 m1 hm => ?_⟩⟩
        obtain ⟨m, rfl⟩ := Int.eq_ofNat_of_zero_le m0
        exact ⟨m, by omega, fun _ => by omega, rfl, x1, w1⟩
      · rw [decide_eq_false hn]
        exact iteF ⟨kn, by omega, fun h => absurd h (by omega), rfl, x1, w1⟩
    · rintro σ H3 ⟨k, k12, k6, rfl, x3, w3⟩
      have tst : ∀ (m : Int), decide (V.int (k : Int) = V.int m) = decide ((k : Int) = m) := fun m => dint _ _
      refine ⟨.int (k : Int), rfl, rfl, _, congrArg V.bl (tst 0), ?_⟩
      by_cases h0 : (k : Int) = 0
      · rw [decide_eq_true h0]
        refine iteT ⟨.ref a, rfl, a, c, 120, rfl, w3, by decide, by decide, fun H4 r x4 w4 r0 r1 => ⟨_, _, rfl, rfl, ?_⟩⟩
        exact q H4 _ (.int (r - 20)) (x3.trans x4) w4 (.lint (by omega))
      rw [decide_eq_false h0]
      refine iteF ⟨.int (k : Int), rfl, rfl, _, congrArg V.bl (tst 1), ?_⟩
      by_cases h1 : (k : Int) = 1
      · rw [decide_eq_true h1]
        refine iteT ⟨1, rfl, .ref a, rfl, a, c, rfl, w3, fun H4 r x4 w4 r0 r1 => ⟨_, _, rfl, rfl, ?_⟩⟩
        exact q H4 _ (.int (-1 - r)) (x3.trans x4) w4 (.lint (by omega))
      rw [decide_eq_false h1]
      refine iteF ⟨.int (k : Int), rfl, rfl, _, congrArg V.bl (tst 2), ?_⟩
      by_cases h2 : (k : Int) = 2
      · rw [decide_eq_true h2]
        refine iteT ⟨.ref a, rfl, a, c, 2, rfl, w3, by decide, by decide, fun H4 r x4 w4 r0 r1 => ⟨rfl, ?_⟩⟩
        exact q H4 _ (.bl _) (x3.trans x4) w4 .lbl
      rw [decide_eq_false h2]
      refine iteF ⟨.int (k : Int), rfl, rfl, _, congrArg V.bl (tst 3), ?_⟩
      by_cases h3 : (k : Int) = 3
      · rw [decide_eq_true h3]
        exact iteT (q H3 _ .non x3 w3 .lnon)
      rw [decide_eq_false h3]
      refine iteF ⟨.int (k : Int), rfl, rfl, _, congrArg V.bl (tst 4), ?_⟩
      by_cases h4 : (k : Int) = 4
      · rw [decide_eq_true h4]
        refine iteT ⟨.ref a, rfl, .ref a, rfl, a, c, 11, rfl, w3, by decide, by decide, fun H4 r x4 w4 r0 r1 => ?_⟩
        obtain ⟨r, rfl⟩ := Int.eq_ofNat_of_zero_le r0
        refine ⟨a, c, r, rfl, w4, by omega, fun H5 z x5 w5 hz => ?_⟩
        exact q H5 _ (.str z) ((x3.trans x4).trans x5) w5 (.lstr (by omega))
      rw [decide_eq_false h4]
      refine iteF ⟨.int (k : Int), rfl, rfl, _, congrArg V.bl (tst 5), ?_⟩
      by_cases h5 : (k : Int) = 5
      · rw [decide_eq_true h5]
        refine iteT ⟨.ref a, rfl, a, c, rfl, w3, fun H4 z x4 w4 hz => ⟨(by show 4 ≤ sizeLine; decide), fun l nl => ?_⟩⟩
        have sl := same_upd (o := .lst [.str (Str.ofString ""), .str (Str.ofString "\n"), .str (Str.ofString "A"), .str (Str.ofString "0")]) nl
        have hl : (upd H4 l (.lst [.str (Str.ofString ""), .str (Str.ofString "\n"), .str (Str.ofString "A"), .str (Str.ofString "0")])) l = some (.lst [.str (Str.ofString ""), .str (Str.ofString "\n"), .str (Str.ofString "A"), .str (Str.ofString "0")]) := upd_same
        have la := w4.ne2 nl
        generalize upd H4 l (.lst [.str (Str.ofString ""), .str (Str.ofString "\n"), .str (Str.ofString "A"), .str (Str.ofString "0")]) = H5 at sl hl ⊢
        refine ⟨.ref a, rfl, a, c, 4, rfl, w4.same sl, by decide, by decide, fun H6 r x6 w6 r0 r1 => ?_⟩
        obtain ⟨r, rfl⟩ := Int.eq_ofNat_of_zero_le r0
        obtain ⟨y, hy, yl⟩ : ∃ y : Str, ([.str (Str.ofString ""), .str (Str.ofString "\n"), .str (Str.ofString "A"), .str (Str.ofString "0")] : List V)[r]? = some (.str y) ∧ y.length ≤ 1 := by
          match r, (show r < 4 by omega) with
          | 0, _ => exact ⟨_, rfl, by decide +kernel⟩
          | 1, _ => exact ⟨_, rfl, by decide +kernel⟩
          | 2, _ => exact ⟨_, rfl, by decide +kernel⟩
          | 3, _ => exact ⟨_, rfl, by decide +kernel⟩
          | n + 4, h => exact absurd h (by omega)
        have zl := hz.len
        refine ⟨l, _, _, _, rfl, rfl, sql (x6 _ _ la.1 hl), atI_nat hy, _, _, rfl, rfl, (by rw [sizeLine_eq]; omega), ?_⟩
        exact q H6 _ (.str (z ++ y)) (((x3.trans x4).same sl).trans x6) w6 (.lstr (by rw [sapp_len]; omega))
      rw [decide_eq_false h5]
      -- items
      obtain ⟨m, rfl⟩ : ∃ m, n = m + 1 := ⟨n - 1, by have : n ≠ 0 := fun h => by have := k6 h; omega
                                                     omega⟩
      refine iteF ⟨.ref a, rfl, a, c, 4, rfl, w3, by decide, by decide, fun H4 r x4 w4 r0 r1 => ?_⟩
      obtain ⟨r, rfl⟩ := Int.eq_ofNat_of_zero_le r0
      refine ⟨(r : Int), rfl, by omega, by omega, fun D nD => ?_⟩
      rw [Int.toNat_natCast]
      have hD := w4.ne2 nD
      have x04 := x3.trans x4
      refine lc_range (lo := 0) (n := r) (fun i H8 => Exw a H4 H8 ∧ Wl a c H8 ∧ ∃ (vs : List V) (ds : List Dat), H8 D = some (.lst vs) ∧ Paired (DatAt K (2 ^ 31) 20 m H8) vs ds ∧ vs.length = i) ⟨(Exw.refl a H4).put nD, w4.same (same_upd nD), [], [], upd_same, .nil, rfl⟩ (fun i H8 hi h8 => ?_) (fun H8 h8 => ?_)
      · obtain ⟨x8, p8, vs, ds, hD8, hp, hl⟩ := h8
        refine ⟨rfl, .ref a, rfl, .int ((m + 1 : Nat) : Int), rfl, _, _, rfl, rfl, a, c, ?_, p8, fun H9 v d x9 w9 hd => ?_⟩
        · show [V.ref a, V.int (((m + 1 : Nat) : Int) - 1)] = _
          rw [show ((m + 1 : Nat) : Int) - 1 = (m : Int) by push_cast; omega]
        · have hD9 := x9 D _ hD.1 hD8
          have kk : DKeep K H8 (upd H9 D (.lst (vs ++ [v]))) := (dk_exw x9 p8 w9).trans (dk_put hD9)
          refine ⟨vs, hD9, by rw [hl, sizeLine_eq]; omega, (x8.trans x9).put nD, w9.put hD, vs ++ [v], ds ++ [d], upd_same, paired_snoc (paired_imp (fun _ _ h => h.keep kk) hp) (hd.keep (dk_put hD9)), by rw [List.length_append, hl]; rfl⟩
      obtain ⟨x8, p8, vs, ds, hD8, hp, hl⟩ := h8
      have x08 := x04.trans x8
      refine ⟨.int (k : Int), rfl, _, _, rfl, rfl, decide ((k : Int) ≤ 8), rfl, ?_⟩
      by_cases h8 : (k : Int) ≤ 8
      · rw [decide_eq_true h8]
        refine iteT ⟨.ref D, rfl, D, vs, rfl, sql hD8, fun p o np ho => ?_⟩
        have sp := same_upd (o := .frz o (.tup vs)) np
        exact q _ _ (.tup ds) (x08.same sp) (p8.same sp) (.ltup ⟨o, upd_same, ho⟩ (by omega) (paired_imp (fun _ _ h => h.same sp) hp))
      rw [decide_eq_false h8]
      refine iteF ⟨.int (k : Int), rfl, rfl, _, congrArg V.bl (tst 9), ?_⟩
      by_cases h9 : (k : Int) = 9
      · rw [decide_eq_true h9]
        exact iteT ⟨.ref D, rfl, q H8 _ .odd x08 p8 (.lodd (.inl ⟨vs, sql hD8⟩))⟩
      rw [decide_eq_false h9]
      refine iteF ⟨.int (k : Int), rfl, rfl, _, congrArg V.bl (tst 10), ?_⟩
      by_cases h10 : (k : Int) = 10
      · rw [decide_eq_true h10]
        refine iteT fun p np => ?_
        have sp := same_upd (o := .dK []) np
        refine ⟨.ref D, rfl, upd_same, [(.inr (Str.ofString "a"), .ref D), (.inl 1, .non)], rfl, (by show 2 ≤ 15; decide), ?_⟩
        have sp2 : Same H8 (upd (upd H8 p (.dK [])) p (.dK (mergeK [] [(.inr (Str.ofString "a"), .ref D), (.inl 1, .non)]))) := Same.put sp np
        exact q _ _ .odd (x08.same sp2) (p8.same sp2) (.lodd (.inr (.inl ⟨_, upd_same⟩)))
      rw [decide_eq_false h10]
      refine iteF fun p np => ?_
      have sp := same_upd (o := ExO (.ref N.C) p) np
      exact q _ _ .odd (x08.same sp) (p8.same sp) (.lodd (.inr (.inr ⟨N.C, NX, upd_same⟩)))
theorem ok_any (T : Blt mg) (N : TxE K mg "NoTree") (NX : XcT K N.C) (dmixed : Dnmixed K mg) (dfilled : Dnfilled K mg) (ddraw : Dndraw K mg) (dnumber : Dnnumber K mg) (dsigns : Dnsigns K mg) (dstring : Dnstring K mg) (dname : Dnname K mg) (dany : Dnany K mg) : ∀ n : Nat, FnOk P w K mg base CX0 (n + 4) dany.f dany.fd ["_law_well_here", "_law_deep"] (spAny' K n)
  | 0 => dany.F.ok scany (fun _ _ _ _ h => h.elim) (fun _ _ _ _ _ _ _ _ _ h => h.elim)
  | n + 1 => ok_any' T N NX dmixed dfilled ddraw dnumber dsigns dstring dname dany n (ok_any T N NX dmixed dfilled ddraw dnumber dsigns dstring dname dany n)
end
end Kb

namespace Kb
open PySem PySem.Spec PyProof.Rows L2 SrtZ SrtO
abbrev snodes : Stmt := topS 61
abbrev Nnodes : List Str := ["_law_thing", "_law_item"]
theorem scnodes : FnScope ["_law_thing", "_law_item"] ["_law_thing"] (defScope snodes) := ⟨rfl, rfl, rfl, by decide +kernel, rfl, by decide +kernel, by decide +kernel⟩
abbrev Dnnodes (K : PySem.W.Frag) (mg : Str → Option Value) := Dn K mg "_law_nodes" snodes ["_law_thing"]
abbrev schanged : Stmt := topS 62
theorem scchanged : FnScope ["_law_thing", "_law_well_here", "_law_kind", "_law_turned"] ["_law_thing", "_law_well_here"] (defScope schanged) := ⟨rfl, rfl, rfl, by decide +kernel, rfl, by decide +kernel, by decide +kernel⟩
abbrev Dnchanged (K : PySem.W.Frag) (mg : Str → Option Value) := Dn K mg "_law_changed" schanged ["_law_thing", "_law_well_here"]
mutual
def nod : Dat → Nat
  | .tup xs => 1 + nodL xs
  | _ => 1
def nodL : List Dat → Nat
  | [] => 0
  | x :: xs => nod x + nodL xs
end
theorem nodL_sum : ∀ ds : List Dat, (ds.map fun d => ((nod d : Nat) : Int)).sum = ((nodL ds : Nat) : Int)
  | [] => by unfold nodL; rfl
  | d :: ds => by
    rw [List.map_cons, List.sum_cons, nodL_sum ds, show nodL (d :: ds) = nod d + nodL ds by rw [nodL]]
    push_cast
    rfl
theorem nod_tup (ds : List Dat) : nod (.tup ds) = 1 + nodL ds := by unfold nod; rfl
theorem paired_take {α β : Type} {F : α → β → Prop} : ∀ {xs : List α} {ys : List β} (n : Nat), Paired F xs ys → Paired F (xs.take n) (ys.take n)
  | _, _, 0, _ => .nil
  | _, _, _ + 1, .nil => .nil
  | _, _, n + 1, .cons h t => .cons h (paired_take n t)
theorem paired_app {α β : Type} {F : α → β → Prop} : ∀ {xs xs' : List α} {ys ys' : List β}, Paired F xs ys → Paired F xs' ys' → Paired F (xs ++ xs') (ys ++ ys')
  | _, _, _, _, .nil, k => k
  | _, _, _, _, .cons h t, k => .cons h (paired_app t k)
theorem pick {α β : Type} {F : α → β → Prop} {xs : List α} {ys : List β} {j : Nat} (p : Paired F xs ys) (h : j < xs.length) : ∃ x y, xs[j]? = some x ∧ F x y := by
  have e := List.getElem?_eq_getElem h
  obtain ⟨y, _, hy⟩ := paired_at p e
  exact ⟨_, y, e, hy⟩
/-- a plain tuple of anything -/
def Tq (K : PySem.W.Frag) (B L n m : Nat) (H : Hp) (a : Addr) : Prop := ∃ (xs : List V) (ds : List Dat), Ptp H a xs ∧ xs.length ≤ m ∧ Paired (DatAt K B L n H) xs ds
theorem Tq.keep {K : PySem.W.Frag} {B L n m : Nat} {H H' : Hp} {a : Addr} (h : Tq K B L n m H a) (k : DKeep K H H') : Tq K B L n m H' a := by
  obtain ⟨xs, ds, h1, h2, h3⟩ := h
  exact ⟨xs, ds, k.t a xs h1, h2, paired_imp (fun _ _ h => h.keep k) h3⟩
theorem Tq.same {K : PySem.W.Frag} {B L n m : Nat} {H H' : Hp} {a : Addr} (h : Tq K B L n m H a) (s : Same H H') : Tq K B L n m H' a := h.keep (dk_same s)
theorem Tq.dat {K : PySem.W.Frag} {B L B' L' n m : Nat} {H : Hp} {a : Addr} (h : Tq K B L n m H a) (hB : B ≤ B') (hL : L ≤ L') (hm : m ≤ L') : ∃ d, DatAt K B' L' (n + 1) H (.ref a) d := by
  obtain ⟨xs, ds, h1, h2, h3⟩ := h
  exact ⟨.tup ds, .ltup h1 (by omega) (paired_imp (fun _ _ h => h.wide hB hL (Nat.le_refl _)) h3)⟩
theorem tq_sl {K : PySem.W.Frag} {B L n m : Nat} {H : Hp} {Q : VK} {t : Addr} {lo hi : Option Int} (h : Tq K B L n m H t) (q : ∀ p H', Same H H' → Tq K B L n m H' p → Q (.ref p) H') : rSlP K (.ref t) lo hi H Q := by
  obtain ⟨xs, ds, h1, h2, h3⟩ := h
  refine ⟨t, xs, rfl, h1, fun p H' s hp => q p H' s ⟨cutV xs lo hi, (ds.drop (HT.sIx xs.length 0 lo)).take (HT.sIx xs.length xs.length hi - HT.sIx xs.length 0 lo), hp, Nat.le_trans (cutV_length _ _ _) h2, ?_⟩⟩
  exact paired_take _ (paired_drop _ (paired_imp (fun _ _ h => h.same s) h3))
theorem tq_sln {K : PySem.W.Frag} {B L n m : Nat} {σ : L2.St} {H : Hp} {Q : VK} {t : Addr} {lo : Option Int} (h : Tq K B L n m H t) (q : ∀ p H', Same H H' → Tq K B L n m H' p → Q (.ref p) H') : tNoPart σ H fun u H3 => rSlP K (.ref t) lo u H3 Q := tq_sl h q
theorem tq_cat {K : PySem.W.Frag} {B L n m1 m2 : Nat} {H : Hp} {Q : VK} {a b : Addr} (h : Tq K B L n m1 H a) (g : Tq K B L n m2 H b) (hm : m1 + m2 ≤ 1000000) (q : ∀ p H', Same H H' → Tq K B L n (m1 + m2) H' p → Q (.ref p) H') : rCatP K (.ref a) (.ref b) H Q := by
  obtain ⟨xs, ds, h1, h2, h3⟩ := h
  obtain ⟨ys, es, g1, g2, g3⟩ := g
  refine ⟨a, b, xs, ys, rfl, rfl, h1, g1, by rw [sizeLine_eq]; omega, fun p H' s hp => q p H' s ⟨_, _, hp, by rw [List.length_append]; omega, paired_app (paired_imp (fun _ _ h => h.same s) h3) (paired_imp (fun _ _ h => h.same s) g3)⟩⟩
theorem tq_one {K : PySem.W.Frag} {B L n : Nat} {H : Hp} {v : V} {d : Dat} {p : Addr} {o : Obj} (h : DatAt K B L n H v d) (np : H p = none) (ho : o.dict = none) : Tq K B L n 1 (upd H p (.frz o (.tup [v]))) p :=
  ⟨[v], [d], ⟨o, upd_same, ho⟩, Nat.le_refl _, .cons (h.same (same_upd np)) .nil⟩
theorem p7 {K : PySem.W.Frag} {B L n : Nat} {H : Hp} {a b c d e f g : V} {a' b' c' d' e' f' g' : Dat} (h1 : DatAt K B L n H a a') (h2 : DatAt K B L n H b b') (h3 : DatAt K B L n H c c') (h4 : DatAt K B L n H d d') (h5 : DatAt K B L n H e e') (h6 : DatAt K B L n H f f') (h7 : DatAt K B L n H g g') : Paired (DatAt K B L n H) [a, b, c, d, e, f, g] [a', b', c', d', e', f', g'] :=
  .cons h1 (.cons h2 (.cons h3 (.cons h4 (.cons h5 (.cons h6 (.cons h7 .nil))))))
section
variable {P : Program} {w : World} {K : PySem.W.Frag} {mg : Str → Option Value} {base : Heap}
/-! _law_nodes -/
def spNodes (K : PySem.W.Frag) (n : Nat) : Sp := fun vs H Q _ => ∃ (v : V) (d : Dat) (B L : Nat), vs = [v] ∧ DatAt K B L n H v d ∧ L ≤ 1000000 ∧ ∀ H', Same H H' → Q (.int (nod d : Nat)) H'
def spNodes' (K : PySem.W.Frag) : Nat → Sp
  | 0 => fun _ _ _ _ => False
  | n + 1 => spNodes K n
theorem ok_nodes' (T : Blt mg) (dnodes : Dnnodes K mg) (n : Nat) (Gnodes : FnOk P w K mg base CX0 (n + 1) dnodes.f dnodes.fd ["_law_thing"] (spNodes' K n)) : FnOk P w K mg base CX0 (n + 2) dnodes.f dnodes.fd ["_law_thing"] (spNodes K n) := by
  refine dnodes.F.ok scnodes (fun vs H Q E h => ?_) (fun cdv A outer s H vs Q E hr h => ?_)
  · obtain ⟨v, d, B, L, rfl, _⟩ := h
    rfl
  · obtain ⟨v, d, B, L, rfl, hd, hL, q⟩ := h
    refine ⟨_, (pss_cons (ps_if (pt_val (pe_callB (call_isD (K := K) rfl) (by rfl) T.n_isinstance (by decide +kernel) (pa_cons (pv 0) (pa_cons (pe_bltn (v := .ty "tuple") (by rfl) T.n_tuple (by decide +kernel) rfl) pa_nil))))
      (pss_one (ps_ret (pe_op op_add pe_int (pe_callB (cr_sum rfl) (by rfl) T.n_sum (by decide +kernel) (pa_cons (pe_lc (own := [("_law_item", 1)]) (g := gName 1) (tt := tYes) rfl scnodes.nd (pi_tup (pv 0)) (blkOk_by (N := Nnodes) (sc := defScope snodes) (by decide +kernel)) (fun _ _ _ _ _ => pg_name (i := 1) scnodes.nd rfl (Or.inl rfl)) (fun _ _ _ _ _ => pts_nil) (fun _ _ _ _ _ => (pe_call Gnodes (hr.mono (by omega)) (by rfl) dnodes.g dnodes.F.kp dnodes.b .nil pass0 (pa_cons (pv 1) pa_nil)))) pa_nil)))))
      pss_nil)
    (pss_one (ps_ret pe_int))), ?_⟩
    obtain ⟨t, ty, kI, kB, kS, kT⟩ := hd.ty
    refine ⟨v, rfl, v, _, t, _, isT d, rfl, .ty "tuple", ty, kT, isT d, rfl, ?_⟩
    rcases hd.cases with h | ⟨m, a, xs, ds, rfl, rfl, rfl, h1, h2, h3⟩
    · have e1 : isT d = false := by cases d <;> first | rfl | exact h.elim
      have e2 : nod d = 1 := by cases d <;> first | (unfold nod; rfl) | exact h.elim
      rw [e1]
      refine iteF ?_
      have := q H (Same.refl H)
      rw [e2] at this
      exact this
    · have hl := Paired.length h3
      refine iteT ⟨.ref a, rfl, a, rfl, ⟨_, h1.seq⟩, fun D nD => lc_tup (xs := xs) (fun i H3 => Same H H3 ∧ H3 D = some (.lst ((ds.take i).map fun d => V.int (nod d : Nat)))) ⟨same_upd nD, upd_same⟩ (fun i H3 _ h3 => (h1.same h3.1).seq) (fun i x H3 hx h4 => ?_) (fun H3 h4 => ?_)⟩
      · obtain ⟨e, he, hat⟩ := paired_at h3 hx
        refine ⟨rfl, x, rfl, x, e, B, L, rfl, hat.same h4.1, hL, fun H4 s4 => ⟨_, s4 _ _ h4.2, ?_, fun b o z => ?_, ?_⟩⟩
        · rw [List.length_map, List.length_take, sizeLine_eq]
          omega
        · rw [upd_ne (ne_of_none z nD)]
          exact s4 b o (h4.1 b o z)
        · rw [upd_same, List.take_add_one, he, List.map_append]
          rfl
      · refine ⟨D, ds.map (fun d => ((nod d : Nat) : Int)), rfl, sql (by rw [h4.2, hl, List.take_length, List.map_map]; rfl), _, _, rfl, rfl, ?_⟩
        rw [nodL_sum]
        have := q H3 h4.1
        rw [nod_tup] at this
        show Q (V.int ((1 : Int) + ((nodL ds : Nat) : Int))) H3
        rw [show (1 : Int) + ((nodL ds : Nat) : Int) = ((1 + nodL ds : Nat) : Int) by push_cast; rfl]
        exact this
theorem ok_nodes (T : Blt mg) (dnodes : Dnnodes K mg) : ∀ n : Nat, FnOk P w K mg base CX0 (n + 1) dnodes.f dnodes.fd ["_law_thing"] (spNodes' K n)
  | 0 => dnodes.F.ok scnodes (fun _ _ _ _ h => h.elim) (fun _ _ _ _ _ _ _ _ _ h => h.elim)
  | n + 1 => ok_nodes' T dnodes n (ok_nodes T dnodes n)
/-! _law_changed -/
def spChanged (K : PySem.W.Frag) : Sp := fun vs H Q _ => ∃ (a c : Addr) (v : V) (d : Dat) (B L n : Nat), vs = [v, .ref a] ∧ Wl a c H ∧ DatAt K B L n H v d ∧ 2 ^ 31 ≤ B ∧ 20 ≤ L ∧ L ≤ 100000 ∧ ∀ H' v' d', Exw a H H' → Wl a c H' → DatAt K (B + 1) (3 * L + 1) (n + 1) H' v' d' → Q v' H'
theorem ok_changed (T : Blt mg) (N : TxE K mg "NoTree") (NX : XcT K N.C) (dmixed : Dnmixed K mg) (dfilled : Dnfilled K mg) (ddraw : Dndraw K mg) (dnumber : Dnnumber K mg) (dsigns : Dnsigns K mg) (dstring : Dnstring K mg) (dname : Dnname K mg) (dany : Dnany K mg) (d : Dnchanged K mg) : FnOk P w K mg base CX0 7 d.f d.fd ["_law_thing", "_law_well_here"] (spChanged K) := by
  have Gdraw : FnOk P w K mg base CX0 3 ddraw.f ddraw.fd ["_law_well_here", "_law_many"] spDraw := ok_draw T dmixed dfilled ddraw
  have Gany : FnOk P w K mg base CX0 6 dany.f dany.fd ["_law_well_here", "_law_deep"] (spAny K 1) := ok_any T N NX dmixed dfilled ddraw dnumber dsigns dstring dname dany 2
  refine d.F.ok scchanged (fun vs H Q E h => ?_) (fun cdv A outer s H vs Q E hr h => ?_)
  · obtain ⟨a, c, v, d, B, L, n, rfl, _⟩ := h
    rfl
  · obtain ⟨a, c, v, x, B, L, n, rfl, hw, hx, hB, hL0, hL, q⟩ := h
    refine ⟨_, (pss_cons (ps_set (i := 2) scchanged.nd rfl (Or.inl rfl) (pe_call Gdraw (hr.mono (by omega)) (by rfl) ddraw.g ddraw.F.kp ddraw.b .nil pass0 (pa_cons (pv 1) (pa_cons pe_int pa_nil))))
    (pss_cons (ps_if (pt_cmpR op_eq (pv 2) pe_int (nomark _))
      (pss_one (ps_ret (pe_call Gany (hr.mono (by omega)) (by rfl) dany.g dany.F.kp dany.b .nil pass0 (pa_cons (pv 1) (pa_cons pe_int pa_nil)))))
      pss_nil)
    (pss_cons (ps_if (PW.pt (pw_or (pt_val (pe_callB (call_isD (K := K) rfl) (by rfl) T.n_isinstance (by decide +kernel) (pa_cons (pv 0) (pa_cons (pe_bltn (v := .ty "bool") (by rfl) T.n_bool (by decide +kernel) rfl) pa_nil)))) (pw_or1 (pt_cmpR op_isN (pv 0) pe_non (nomark _)))))
      (pss_one (ps_ret (pe_ix ix_list (pe_lst (pa_cons pe_int (pa_cons pe_int (pa_cons (pe_tupF pa_nil) (pa_cons pe_str (pa_cons (pe_tupF (pa_cons pe_int (pa_cons pe_int pa_nil))) (pa_cons (pe_lst pa_nil) (pa_cons (pe_tupF (pa_cons pe_non pa_nil)) pa_nil)))))))) (pe_op op_sub (pv 2) pe_int) (fun _ _ => rfl))))
      pss_nil)
    (pss_cons (ps_if (pt_val (pe_callB (call_isD (K := K) rfl) (by rfl) T.n_isinstance (by decide +kernel) (pa_cons (pv 0) (pa_cons (pe_bltn (v := .ty "int") (by rfl) T.n_int (by decide +kernel) rfl) pa_nil))))
      (pss_one (ps_ret (pe_ix ix_list (pe_lst (pa_cons (pe_op op_add (pv 0) pe_int) (pa_cons (pe_op op_sub (pv 0) pe_int) (pa_cons (pe_un un_neg (pv 0)) (pa_cons (pe_cmpR op_ge (pv 0) pe_int (nomark _)) (pa_cons pe_int (pa_cons pe_non (pa_cons (pe_tupF (pa_cons (pv 0) pa_nil)) pa_nil)))))))) (pe_op op_sub (pv 2) pe_int) (fun _ _ => rfl))))
      pss_nil)
    (pss_cons (ps_if (pt_val (pe_callB (call_isD (K := K) rfl) (by rfl) T.n_isinstance (by decide +kernel) (pa_cons (pv 0) (pa_cons (pe_bltn (v := .ty "str") (by rfl) T.n_str (by decide +kernel) rfl) pa_nil))))
      (pss_one (ps_ret (pe_ix ix_list (pe_lst (pa_cons (pe_op op_add_str (pv 0) pe_str) (pa_cons (pe_slice sl_str (pv 0) (po_some pe_int) po_none) (pa_cons (pe_upper (pv 0)) (pa_cons (pe_op op_add_str pe_str (pv 0)) (pa_cons pe_str (pa_cons (pe_op op_add_str (pv 0) pe_str) (pa_cons (pe_lst (pa_cons (pv 0) pa_nil)) pa_nil)))))))) (pe_op op_sub (pv 2) pe_int) (fun _ _ => rfl))))
      pss_nil)
    (pss_cons (ps_if (pt_val (pe_callB (call_isD (K := K) rfl) (by rfl) T.n_isinstance (by decide +kernel) (pa_cons (pv 0) (pa_cons (pe_bltn (v := .ty "tuple") (by rfl) T.n_tuple (by decide +kernel) rfl) pa_nil))))
      (pss_cons (ps_set (i := 3) scchanged.nd rfl (Or.inl rfl) (pe_lst (pa_cons (pe_slice sl_tupP (pv 0) (po_some pe_int) po_none) (pa_cons (pe_slice sl_tupP (pv 0) po_none (po_some (pe_un un_neg pe_int))) (pa_cons (pe_op op_catP (pe_slice sl_tupP (pv 0) (po_some pe_int) po_none) (pe_slice sl_tupP (pv 0) po_none (po_some pe_int))) (pa_cons (pe_op op_catP (pe_slice sl_tupP (pv 0) po_none (po_some pe_int)) (pv 0)) (pa_cons (pe_op op_catP (pv 0) (pe_tupF (pa_cons pe_non pa_nil))) (pa_cons (pe_callTy call_list_of (by rfl) T.n_list (by decide +kernel) (pa_cons (pv 0) pa_nil)) (pa_cons pe_non pa_nil)))))))))
      (pss_one (ps_ret (pe_ix ix_list (pv 3) (pe_op op_sub (pv 2) pe_int) (fun _ _ => rfl)))))
      pss_nil)
    (pss_one (ps_ret (pv 0))))))))), ?_⟩
    refine ⟨.ref a, rfl, a, c, 8, rfl, hw, (by decide), (by decide), fun H1 k x1 w1 k0 k1 => ?_⟩
    obtain ⟨kn, rfl⟩ := Int.eq_ofNat_of_zero_le k0
    refine ⟨.int (kn : Int), rfl, rfl, _, congrArg V.bl (dint _ _), ?_⟩
    by_cases h0 : (kn : Int) = 0
    · rw [decide_eq_true h0]
      refine iteT ⟨.ref a, rfl, a, c, rfl, w1, fun H2 v2 d2 x2 w2 hd => ?_⟩
      exact q H2 v2 d2 (x1.trans x2) w2 (hd.wide (by omega) (by omega) (by omega))
    rw [decide_eq_false h0]
    obtain ⟨j, hj7, hj⟩ : ∃ j : Nat, j < 7 ∧ (kn : Int) - 1 = (j : Int) := ⟨kn - 1, by omega, by omega⟩
    have hx1 := hx.keep (dk_exw x1 hw w1)
    clear hx
    obtain ⟨t, ty, kI, kB, kS, kT⟩ := hx1.ty
    have fin : ∀ {H2 : Hp} {v2 : V} {d2 : Dat}, Same H1 H2 → DatAt K (B + 1) (3 * L + 1) (n + 1) H2 v2 d2 → Q v2 H2 := fun {H2 v2 d2} s h => q H2 v2 d2 (x1.same s) (w1.same s) h
    refine iteF ⟨v, rfl, v, _, t, _, isBd x, rfl, .ty "bool", ty, kB, isBd x, rfl, ?_⟩
    cases x with
    | bl b =>
      refine iteT (iteT ?_)
      refine ⟨(by show 0 ≤ sizeLine; decide), fun t1 o1 n1 ho1 => ⟨(by show 2 ≤ sizeLine; decide), fun t2 o2 n2 ho2 => ⟨(by show 0 ≤ sizeLine; decide), fun l1 nl1 => ⟨(by show 1 ≤ sizeLine; decide), fun t3 o3 n3 ho3 => ⟨(by show 7 ≤ sizeLine; decide), fun p np => ?_⟩⟩⟩⟩⟩
      have s1 := same_upd (o := .frz o1 (.tup [])) n1
      have k1 : Ptp (upd H1 t1 (.frz o1 (.tup []))) t1 [] := ⟨o1, upd_same, ho1⟩
      generalize upd H1 t1 (.frz o1 (.tup [])) = HA at s1 k1 n2 nl1 n3 np ⊢
      have s2 := same_upd (o := .frz o2 (.tup [.int 0, .int 0])) n2
      have k2 : Ptp (upd HA t2 (.frz o2 (.tup [.int 0, .int 0]))) t2 [.int 0, .int 0] := ⟨o2, upd_same, ho2⟩
      generalize upd HA t2 (.frz o2 (.tup [.int 0, .int 0])) = HB at s2 k2 nl1 n3 np ⊢
      have s3 := same_upd (o := .lst []) nl1
      have k3 : (upd HB l1 (.lst [])) l1 = some (.lst []) := upd_same
      generalize upd HB l1 (.lst []) = HC at s3 k3 n3 np ⊢
      have s4 := same_upd (o := .frz o3 (.tup [.non])) n3
      have k4 : Ptp (upd HC t3 (.frz o3 (.tup [.non]))) t3 [.non] := ⟨o3, upd_same, ho3⟩
      generalize upd HC t3 (.frz o3 (.tup [.non])) = HD at s4 k4 np ⊢
      have s5 := same_upd (o := .lst [.int 0, .int 1, .ref t1, .str (Str.ofString ""), .ref t2, .ref l1, .ref t3]) np
      have g1 := p7 (K := K) (B := B + 1) (L := 3 * L + 1) (n := n + 1) (H := upd HD p (.lst [.int 0, .int 1, .ref t1, .str (Str.ofString ""), .ref t2, .ref l1, .ref t3])) (a := .int 0) (b := .int 1) (d := .str (Str.ofString "")) (.lint (by omega)) (.lint (by omega)) (.ltup ((((k1.same s2).same s3).same s4).same s5) (Nat.zero_le _) .nil) (.lstr (by rw [show (Str.ofString "").length = 0 by decide +kernel]; omega)) (.ltup (((k2.same s3).same s4).same s5) (by show 2 ≤ _; omega) (.cons (.lint (by omega)) (.cons (.lint (by omega)) .nil))) (.lodd (.inl ⟨[], sql (s5 _ _ (s4 _ _ k3))⟩)) (.ltup (k4.same s5) (by show 1 ≤ _; omega) (.cons .lnon .nil))
      obtain ⟨v2, d2, hv, hd⟩ := pick g1 (j := j) hj7
      exact ⟨.int (kn : Int), rfl, _, _, rfl, rfl, p, _, _, _, rfl, rfl, sql upd_same, atI_cast (n := j) hj hv, fin (Same.trans (Same.trans (Same.trans (Same.trans s1 s2) s3) s4) s5) hd⟩
    | non =>
      cases (show v = .non from by rcases hx1.cases with h | ⟨m, a, xs, ds, _, _, e, _⟩; exact h; cases e)
      refine iteF ⟨.non, rfl, rfl, true, rfl, iteT ?_⟩
      refine ⟨(by show 0 ≤ sizeLine; decide), fun t1 o1 n1 ho1 => ⟨(by show 2 ≤ sizeLine; decide), fun t2 o2 n2 ho2 => ⟨(by show 0 ≤ sizeLine; decide), fun l1 nl1 => ⟨(by show 1 ≤ sizeLine; decide), fun t3 o3 n3 ho3 => ⟨(by show 7 ≤ sizeLine; decide), fun p np => ?_⟩⟩⟩⟩⟩
      have s1 := same_upd (o := .frz o1 (.tup [])) n1
      have k1 : Ptp (upd H1 t1 (.frz o1 (.tup []))) t1 [] := ⟨o1, upd_same, ho1⟩
      generalize upd H1 t1 (.frz o1 (.tup [])) = HA at s1 k1 n2 nl1 n3 np ⊢
      have s2 := same_upd (o := .frz o2 (.tup [.int 0, .int 0])) n2
      have k2 : Ptp (upd HA t2 (.frz o2 (.tup [.int 0, .int 0]))) t2 [.int 0, .int 0] := ⟨o2, upd_same, ho2⟩
      generalize upd HA t2 (.frz o2 (.tup [.int 0, .int 0])) = HB at s2 k2 nl1 n3 np ⊢
      have s3 := same_upd (o := .lst []) nl1
      have k3 : (upd HB l1 (.lst [])) l1 = some (.lst []) := upd_same
      generalize upd HB l1 (.lst []) = HC at s3 k3 n3 np ⊢
      have s4 := same_upd (o := .frz o3 (.tup [.non])) n3
      have k4 : Ptp (upd HC t3 (.frz o3 (.tup [.non]))) t3 [.non] := ⟨o3, upd_same, ho3⟩
      generalize upd HC t3 (.frz o3 (.tup [.non])) = HD at s4 k4 np ⊢
      have s5 := same_upd (o := .lst [.int 0, .int 1, .ref t1, .str (Str.ofString ""), .ref t2, .ref l1, .ref t3]) np
      have g1 := p7 (K := K) (B := B + 1) (L := 3 * L + 1) (n := n + 1) (H := upd HD p (.lst [.int 0, .int 1, .ref t1, .str (Str.ofString ""), .ref t2, .ref l1, .ref t3])) (a := .int 0) (b := .int 1) (d := .str (Str.ofString "")) (.lint (by omega)) (.lint (by omega)) (.ltup ((((k1.same s2).same s3).same s4).same s5) (Nat.zero_le _) .nil) (.lstr (by rw [show (Str.ofString "").length = 0 by decide +kernel]; omega)) (.ltup (((k2.same s3).same s4).same s5) (by show 2 ≤ _; omega) (.cons (.lint (by omega)) (.cons (.lint (by omega)) .nil))) (.lodd (.inl ⟨[], sql (s5 _ _ (s4 _ _ k3))⟩)) (.ltup (k4.same s5) (by show 1 ≤ _; omega) (.cons .lnon .nil))
      obtain ⟨v2, d2, hv, hd⟩ := pick g1 (j := j) hj7
      exact ⟨.int (kn : Int), rfl, _, _, rfl, rfl, p, _, _, _, rfl, rfl, sql upd_same, atI_cast (n := j) hj hv, fin (Same.trans (Same.trans (Same.trans (Same.trans s1 s2) s3) s4) s5) hd⟩
    | int i =>
      obtain ⟨rfl, hi⟩ : v = .int i ∧ i.natAbs ≤ B := by rcases hx1.cases with h | ⟨m, a, xs, ds, _, _, e, _⟩; exact h; cases e
      refine iteF ⟨.int i, rfl, rfl, false, rfl, iteF ⟨.int i, rfl, .int i, _, t, _, true, rfl, .ty "int", ty, kI, true, rfl, iteT ?_⟩⟩
      refine ⟨.int i, rfl, _, _, rfl, rfl, .int i, rfl, _, _, rfl, rfl, .int i, rfl, i, rfl, .int i, rfl, _, _, rfl, rfl, .int i, rfl, (by show 1 ≤ sizeLine; decide), fun t3 o3 n3 ho3 => ⟨(by show 7 ≤ sizeLine; decide), fun p np => ?_⟩⟩
      have s4 := same_upd (o := .frz o3 (.tup [.int i])) n3
      have k4 : Ptp (upd H1 t3 (.frz o3 (.tup [.int i]))) t3 [.int i] := ⟨o3, upd_same, ho3⟩
      generalize upd H1 t3 (.frz o3 (.tup [.int i])) = HD at s4 k4 np ⊢
      have s5 := same_upd (o := .lst [.int (i + 1), .int (i - 1), .int (-i), .bl (decide (1 ≤ i)), .int 0, .non, .ref t3]) np
      have g1 := p7 (K := K) (B := B + 1) (L := 3 * L + 1) (n := n + 1) (H := upd HD p (.lst [.int (i + 1), .int (i - 1), .int (-i), .bl (decide (1 ≤ i)), .int 0, .non, .ref t3])) (a := .int (i + 1)) (b := .int (i - 1)) (c := .int (-i)) (d := .bl (decide (1 ≤ i))) (e := .int 0) (f := .non) (.lint (by omega)) (.lint (by omega)) (.lint (by omega)) .lbl (.lint (by omega)) .lnon (.ltup (k4.same s5) (by show 1 ≤ _; omega) (.cons (.lint (by omega)) .nil))
      obtain ⟨v2, d2, hv, hd⟩ := pick g1 (j := j) hj7
      exact ⟨.int (kn : Int), rfl, _, _, rfl, rfl, p, _, _, _, rfl, rfl, sql upd_same, atI_cast (n := j) hj hv, fin (Same.trans s4 s5) hd⟩
    | str z =>
      obtain ⟨rfl, hz⟩ : v = .str z ∧ z.length ≤ L := by rcases hx1.cases with h | ⟨m, a, xs, ds, _, _, e, _⟩; exact h; cases e
      refine iteF ⟨.str z, rfl, rfl, false, rfl, iteF ⟨.str z, rfl, .str z, _, t, _, false, rfl, .ty "int", ty, kI, false, rfl, iteF ⟨.str z, rfl, .str z, _, t, _, true, rfl, .ty "str", ty, kS, true, rfl, iteT ?_⟩⟩⟩
      have la : (Str.ofString "a").length = 1 := by decide +kernel
      have lb : (Str.ofString " ").length = 1 := by decide +kernel
      have ln : (Str.ofString "\n").length = 1 := by decide +kernel
      refine ⟨.str z, rfl, _, _, rfl, rfl, (by rw [la, sizeLine_eq]; omega), .str z, rfl, 1, rfl, z, rfl, (by rw [sizeLine_eq]; omega), .str z, rfl, ⟨z, rfl⟩, z, rfl, rfl, (by omega), .str z, rfl, _, _, rfl, rfl, (by rw [lb, sizeLine_eq]; omega), .str z, rfl, _, _, rfl, rfl, (by rw [ln, sizeLine_eq]; omega), .str z, rfl, (by show 1 ≤ sizeLine; decide), fun l1 nl1 => ⟨(by show 7 ≤ sizeLine; decide), fun p np => ?_⟩⟩
      have s4 := same_upd (o := .lst [.str z]) nl1
      have k4 : (upd H1 l1 (.lst [.str z])) l1 = some (.lst [.str z]) := upd_same
      generalize upd H1 l1 (.lst [.str z]) = HD at s4 k4 np ⊢
      have s5 := same_upd (o := .lst [.str (z ++ Str.ofString "a"), .str (cutS z (some 1) none), .str (Txt.upper z), .str (Str.ofString " " ++ z), .str (Str.ofString ""), .str (z ++ Str.ofString "\n"), .ref l1]) np
      have lu := len_upper z
      have lc := cutS_length z (some 1) none
      have g1 := p7 (K := K) (B := B + 1) (L := 3 * L + 1) (n := n + 1) (H := upd HD p (.lst [.str (z ++ Str.ofString "a"), .str (cutS z (some 1) none), .str (Txt.upper z), .str (Str.ofString " " ++ z), .str (Str.ofString ""), .str (z ++ Str.ofString "\n"), .ref l1])) (a := .str (z ++ Str.ofString "a")) (b := .str (cutS z (some 1) none)) (c := .str (Txt.upper z)) (d := .str (Str.ofString " " ++ z)) (e := .str (Str.ofString "")) (f := .str (z ++ Str.ofString "\n")) (.lstr (by rw [sapp_len]; omega)) (.lstr (by omega)) (.lstr (by omega)) (.lstr (by rw [sapp_len]; omega)) (.lstr (by rw [show (Str.ofString "").length = 0 by decide +kernel]; omega)) (.lstr (by rw [sapp_len]; omega)) (.lodd (.inl ⟨[.str z], sql (s5 _ _ k4)⟩))
      obtain ⟨v2, d2, hv, hd⟩ := pick g1 (j := j) hj7
      exact ⟨.int (kn : Int), rfl, _, _, rfl, rfl, p, _, _, _, rfl, rfl, sql upd_same, atI_cast (n := j) hj hv, fin (Same.trans s4 s5) hd⟩
    | tup ds =>
      obtain ⟨m, b, xs, rfl, rfl, h1, h2, h3⟩ : ∃ m b xs, n = m + 1 ∧ v = .ref b ∧ Ptp H1 b xs ∧ xs.length ≤ L ∧ Paired (DatAt K B L m H1) xs ds := by
        rcases hx1.cases with h | ⟨m, a, xs, ds, e1, e2, e, h1, h2, h3⟩
        · exact h.elim
        · cases e
          exact ⟨m, a, xs, e1, e2, h1, h2, h3⟩
      have ht : Tq K B L m L H1 b := ⟨xs, ds, h1, h2, h3⟩
      refine iteF ⟨.ref b, rfl, rfl, false, rfl, iteF ⟨.ref b, rfl, .ref b, _, t, _, false, rfl, .ty "int", ty, kI, false, rfl, iteF ⟨.ref b, rfl, .ref b, _, t, _, false, rfl, .ty "str", ty, kS, false, rfl, iteF ⟨.ref b, rfl, .ref b, _, t, _, true, rfl, .ty "tuple", ty, kT, true, rfl, iteT ?_⟩⟩⟩⟩
      refine ⟨.ref b, rfl, 1, rfl, tq_sln ht fun p1 H2 s2 g1 => ?_⟩
      have ht2 := ht.same s2
      refine ⟨.ref b, rfl, 1, rfl, -1, rfl, tq_sl ht2 fun p2 H3 s3 g2 => ?_⟩
      have ht3 := ht2.same s3
      have g1 := g1.same s3
      refine ⟨.ref b, rfl, 1, rfl, tq_sln ht3 fun q3 H4 s4 f3 => ?_⟩
      have ht4 := ht3.same s4
      refine ⟨.ref b, rfl, 1, rfl, tq_sl ht4 fun q4 H5 s5 f4 => tq_cat (f3.same s5) f4 (by omega) fun p3 H6 s6 g3 => ?_⟩
      have s36 := Same.trans (Same.trans s4 s5) s6
      have ht6 := ht3.same s36
      have g1 := g1.same s36
      have g2 := g2.same s36
      clear f3 f4 ht4 ht3 ht2
      refine ⟨.ref b, rfl, 1, rfl, tq_sl ht6 fun q5 H7 s7 f5 => ⟨.ref b, rfl, tq_cat f5 (ht6.same s7) (by omega) fun p4 H8 s8 g4 => ?_⟩⟩
      have s68 := Same.trans s7 s8
      have ht8 := ht6.same s68
      have g1 := g1.same s68
      have g2 := g2.same s68
      have g3 := g3.same s68
      clear f5 ht6
      refine ⟨.ref b, rfl, (by show 1 ≤ sizeLine; decide), fun t5 o5 n5 ho5 => tq_cat (ht8.same (same_upd n5)) (tq_one (d := .non) .lnon n5 ho5) (by omega) fun p5 H9 s9 g5 => ?_⟩
      have s89 := Same.trans (same_upd n5) s9
      have s19 : Same H1 H9 := Same.trans (Same.trans (Same.trans (Same.trans s2 s3) s36) s68) s89
      have g1 := g1.same s89
      have g2 := g2.same s89
      have g3 := g3.same s89
      have g4 := g4.same s89
      refine ⟨.ref b, rfl, b, _, rfl, .inr (h1.same s19).seq, fun l nl => ⟨(by show 7 ≤ sizeLine; decide), fun p np => ?_⟩⟩
      have sl := same_upd (o := .lst xs) nl
      have hl : (upd H9 l (.lst xs)) l = some (.lst xs) := upd_same
      generalize upd H9 l (.lst xs) = HA at sl hl np ⊢
      have sp := same_upd (o := .lst [.ref p1, .ref p2, .ref p3, .ref p4, .ref p5, .ref l, .non]) np
      have s9B := Same.trans sl sp
      obtain ⟨e1, k1⟩ := (g1.same s9B).dat (B' := B + 1) (L' := 3 * L + 1) (by omega) (by omega) (by omega)
      obtain ⟨e2, k2⟩ := (g2.same s9B).dat (B' := B + 1) (L' := 3 * L + 1) (by omega) (by omega) (by omega)
      obtain ⟨e3, k3⟩ := (g3.same s9B).dat (B' := B + 1) (L' := 3 * L + 1) (by omega) (by omega) (by omega)
      obtain ⟨e4, k4⟩ := (g4.same s9B).dat (B' := B + 1) (L' := 3 * L + 1) (by omega) (by omega) (by omega)
      obtain ⟨e5, k5⟩ := (g5.same s9B).dat (B' := B + 1) (L' := 3 * L + 1) (by omega) (by omega) (by omega)
      have k6 : DatAt K (B + 1) (3 * L + 1) (m + 1) (upd HA p (.lst [.ref p1, .ref p2, .ref p3, .ref p4, .ref p5, .ref l, .non])) (.ref l) .odd := .lodd (.inl ⟨xs, sql (sp _ _ hl)⟩)
      have g : Paired (DatAt K (B + 1) (3 * L + 1) (m + 1) (upd HA p (.lst [.ref p1, .ref p2, .ref p3, .ref p4, .ref p5, .ref l, .non]))) [.ref p1, .ref p2, .ref p3, .ref p4, .ref p5, .ref l, .non] [e1, e2, e3, e4, e5, .odd, .non] := .cons k1 (.cons k2 (.cons k3 (.cons k4 (.cons k5 (.cons k6 (.cons .lnon .nil))))))
      obtain ⟨v2, d2, hv, hd⟩ := pick g (j := j) hj7
      exact ⟨.ref p, rfl, .int (kn : Int), rfl, _, _, rfl, rfl, p, _, _, _, rfl, rfl, sql upd_same, atI_cast (n := j) hj hv, fin (Same.trans s19 s9B) (hd.wide (Nat.le_refl _) (Nat.le_refl _) (by omega))⟩
    | odd =>
      obtain ⟨b, rfl, hb⟩ : ∃ b, v = .ref b ∧ OdA K H1 b := by rcases hx1.cases with h | ⟨m, a, xs, ds, _, _, e, _⟩; exact h; cases e
      exact iteF ⟨.ref b, rfl, rfl, false, rfl, iteF ⟨.ref b, rfl, .ref b, _, t, _, false, rfl, .ty "int", ty, kI, false, rfl, iteF ⟨.ref b, rfl, .ref b, _, t, _, false, rfl, .ty "str", ty, kS, false, rfl, iteF ⟨.ref b, rfl, .ref b, _, t, _, false, rfl, .ty "tuple", ty, kT, false, rfl, iteF ⟨.ref b, rfl, fin (d2 := .odd) (Same.refl H1) (.lodd hb)⟩⟩⟩⟩⟩
end
end Kb

namespace Kb
open PySem PySem.Spec PyProof.Rows L2 SrtZ SrtO
abbrev sspoilt : Stmt := topS 63
theorem scspoilt : FnScope ["_law_thing", "_law_at", "_law_well_here", "_law_k", "_law_size"] ["_law_thing", "_law_at", "_law_well_here"] (defScope sspoilt) := ⟨rfl, rfl, rfl, by decide +kernel, rfl, by decide +kernel, by decide +kernel⟩
abbrev Dnspoilt (K : PySem.W.Frag) (mg : Str → Option Value) := Dn K mg "_law_spoilt" sspoilt ["_law_thing", "_law_at", "_law_well_here"]
theorem Tq.wide {K : PySem.W.Frag} {B L n m B' L' n' : Nat} {H : Hp} {a : Addr} (h : Tq K B L n m H a) (hB : B ≤ B') (hL : L ≤ L') (hn : n ≤ n') : Tq K B' L' n' m H a := by
  obtain ⟨xs, ds, h1, h2, h3⟩ := h
  exact ⟨xs, ds, h1, h2, paired_imp (fun _ _ h => h.wide hB hL hn) h3⟩
theorem nod_pos (d : Dat) : 1 ≤ nod d := by
  cases d with
  | tup xs => rw [nod_tup]; omega
  | _ => unfold nod; exact Nat.le_refl _
section
variable {P : Program} {w : World} {K : PySem.W.Frag} {mg : Str → Option Value} {base : Heap}
def spSpoilt (K : PySem.W.Frag) (n : Nat) : Sp := fun vs H Q _ => ∃ (a c : Addr) (v : V) (d : Dat) (at_ B L : Nat), vs = [v, .int (at_ : Int), .ref a] ∧ Wl a c H ∧ DatAt K B L n H v d ∧ at_ < nod d ∧ 2 ^ 31 ≤ B ∧ 20 ≤ L ∧ L ≤ 100000 ∧ ∀ H' v' d', Exw a H H' → Wl a c H' → DatAt K (B + 1) (3 * L + 1) (n + 1) H' v' d' → Q v' H'
def spSpoilt' (K : PySem.W.Frag) : Nat → Sp
  | 0 => fun _ _ _ _ => False
  | n + 1 => spSpoilt K n
theorem ok_spoilt' (T : Blt mg) (N : TxE K mg "NoTree") (NX : XcT K N.C) (dmixed : Dnmixed K mg) (dfilled : Dnfilled K mg) (ddraw : Dndraw K mg) (dnumber : Dnnumber K mg) (dsigns : Dnsigns K mg) (dstring : Dnstring K mg) (dname : Dnname K mg) (dany : Dnany K mg) (dnodes : Dnnodes K mg) (dchanged : Dnchanged K mg) (dspoilt : Dnspoilt K mg) (n : Nat) (Gspoilt : FnOk P w K mg base CX0 (n + 7) dspoilt.f dspoilt.fd ["_law_thing", "_law_at", "_law_well_here"] (spSpoilt' K n)) : FnOk P w K mg base CX0 (n + 8) dspoilt.f dspoilt.fd ["_law_thing", "_law_at", "_law_well_here"] (spSpoilt K n) := by
  have Gchanged : FnOk P w K mg base CX0 7 dchanged.f dchanged.fd ["_law_thing", "_law_well_here"] (spChanged K) := ok_changed T N NX dmixed dfilled ddraw dnumber dsigns dstring dname dany dchanged
  have Gnodes : FnOk P w K mg base CX0 (n + 1) dnodes.f dnodes.fd ["_law_thing"] (spNodes' K n) := ok_nodes T dnodes n
  refine dspoilt.F.ok scspoilt (fun vs H Q E h => ?_) (fun cdv A outer s H vs Q E hr h => ?_)
  · obtain ⟨a, c, v, d, t, B, L, rfl, _⟩ := h
    rfl
  · obtain ⟨a, c, v, d, at0, B, L, rfl, hw, hx, hat, hB, hL0, hL, q⟩ := h
    refine ⟨_, (pss_cons (ps_if (pt_cmpR op_eq (pv 1) pe_int (nomark _))
      (pss_one (ps_ret (pe_call Gchanged (hr.mono (by omega)) (by rfl) dchanged.g dchanged.F.kp dchanged.b .nil pass0 (pa_cons (pv 0) (pa_cons (pv 2) pa_nil)))))
      pss_nil)
    (pss_cons (ps_set (i := 1) scspoilt.nd rfl (Or.inl rfl) (pe_op op_sub (pv 1) pe_int))
    (pss_cons (ps_for PassesOwn.never rfl (pi_range1 (by rfl) T.n_range (pa_cons (pe_callB call_len_seq (by rfl) T.n_len (by decide +kernel) (pa_cons (pv 0) pa_nil)) pa_nil)) (pg_name (i := 3) scspoilt.nd rfl (Or.inl rfl))
      (pss_cons (ps_set (i := 4) scspoilt.nd rfl (Or.inl rfl) (pe_call Gnodes (hr.mono (by omega)) (by rfl) dnodes.g dnodes.F.kp dnodes.b .nil pass0 (pa_cons (pe_ix ix_tup (pv 0) (pv 3) (fun _ _ => rfl)) pa_nil)))
      (pss_cons (ps_if (pt_cmpR op_lt (pv 1) (pv 4) (nomark _))
        (pss_one (ps_ret (pe_op op_catP (pe_op op_catP (pe_slice sl_tupP (pv 0) po_none (po_some (pv 3))) (pe_tupF (pa_cons (pe_call Gspoilt (hr.mono (by omega)) (by rfl) dspoilt.g dspoilt.F.kp dspoilt.b .nil pass0 (pa_cons (pe_ix ix_tup (pv 0) (pv 3) (fun _ _ => rfl)) (pa_cons (pv 1) (pa_cons (pv 2) pa_nil)))) pa_nil))) (pe_slice sl_tupP (pv 0) (po_some (pe_op op_add (pv 3) pe_int)) po_none))))
        pss_nil)
      (pss_one (ps_set (i := 1) scspoilt.nd rfl (Or.inl rfl) (pe_op op_sub (pv 1) (pv 4)))))))
    (pss_one (ps_ret (pv 0)))))), ?_⟩
    refine ⟨.int (at0 : Int), rfl, rfl, _, congrArg V.bl (dint _ _), ?_⟩
    by_cases h0 : (at0 : Int) = 0
    · rw [decide_eq_true h0]
      exact iteT ⟨v, rfl, .ref a, rfl, a, c, v, d, B, L, n, rfl, hw, hx, hB, hL0, hL, q⟩
    rw [decide_eq_false h0]
    rcases hx.cases with h | ⟨m, b, xs, ds, rfl, rfl, rfl, h1, h2, h3⟩
    · have e2 : nod d = 1 := by cases d <;> first | (unfold nod; rfl) | exact h.elim
      omega
    rw [nod_tup] at hat
    have hl := Paired.length h3
    have ht : Tq K (B + 1) (3 * L + 1) (m + 1) L H b := Tq.wide ⟨xs, ds, h1, h2, h3⟩ (Nat.le_succ _) (by omega) (Nat.le_succ _)
    refine iteF ⟨.int (at0 : Int), rfl, _, _, rfl, rfl, .ref b, rfl, b, _, rfl, .inr h1.seq, (xs.length : Int), rfl, by omega, by omega, ?_⟩
    rw [Int.toNat_natCast]
    refine for_range (lo := 0) (n := xs.length) (fun i σ H3 => ∃ (at1 : Nat) (y3 y4 : Option V), σ = [some (.ref b), some (.int (at1 : Int)), some (.ref a), y3, y4] ∧ Same H H3 ∧ at1 < nodL (ds.drop i)) ⟨at0 - 1, none, none, ?_, Same.refl H, by rw [List.drop_zero]; omega⟩ (fun i σ H3 hi h3' => ?_) (fun σ H3 h3' => ?_)
    · show [some (V.ref b), some (V.int ((at0 : Int) - 1)), some (V.ref a), none, none] = _
      rw [show (at0 : Int) - 1 = ((at0 - 1 : Nat) : Int) by omega]
    · obtain ⟨at1, y3, y4, rfl, s3, lt⟩ := h3'
      obtain ⟨x, hx1⟩ : ∃ x1, xs[i]? = some x1 := ⟨xs[i], List.getElem?_eq_getElem (by omega)⟩
      obtain ⟨e, he, hate⟩ := paired_at h3 hx1
      have hde : ds.drop i = e :: ds.drop (i + 1) := by
        obtain ⟨hlt, hg⟩ := List.getElem?_eq_some_iff.mp he
        rw [List.drop_eq_getElem_cons hlt, hg]
      rw [hde, show nodL (e :: ds.drop (i + 1)) = nod e + nodL (ds.drop (i + 1)) by rw [nodL]] at lt
      refine ⟨.ref b, rfl, .int (0 + (i : Int)), rfl, b, _, _, _, rfl, rfl, (h1.same s3).seq, atI_cast (n := i) (by omega) hx1, x, e, B, L, rfl, hate.same s3, by omega, fun H4 s4 => ?_⟩
      have s04 := Same.trans s3 s4
      refine ⟨.int (at1 : Int), rfl, .int ((nod e : Nat) : Int), rfl, _, _, rfl, rfl, decide ((at1 : Int) < ((nod e : Nat) : Int)), rfl, ?_⟩
      by_cases hlt : (at1 : Int) < ((nod e : Nat) : Int)
      · rw [decide_eq_true hlt]
        refine iteT ⟨.ref b, rfl, .int (0 + (i : Int)), rfl, _, rfl, tq_sl (ht.same s04) fun p1 H5 s5 g1 => ?_⟩
        have s05 := Same.trans s04 s5
        refine ⟨.ref b, rfl, .int (0 + (i : Int)), rfl, b, _, _, _, rfl, rfl, (h1.same s05).seq, atI_cast (n := i) (by omega) hx1, .int (at1 : Int), rfl, .ref a, rfl, a, c, x, e, at1, B, L, rfl, hw.same s05, hate.same s05, by omega, hB, hL0, hL, fun H6 v' d' x6 w6 hd => ⟨(by show 1 ≤ sizeLine; decide), fun t o nt ho => ?_⟩⟩
        have k6 := dk_exw (K := K) x6 (hw.same s05) w6
        refine tq_cat ((g1.keep k6).same (same_upd nt)) (tq_one hd nt ho) (by omega) fun p2 H7 s7 g2 => ?_
        have s67 := Same.trans (same_upd nt) s7
        have k07 : DKeep K H H7 := ((dk_same s05).trans k6).trans (dk_same s67)
        refine ⟨.ref b, rfl, .int (0 + (i : Int)), rfl, _, _, rfl, rfl, _, rfl, tq_sln (ht.keep k07) fun p3 H8 s8 g3 => tq_cat (g2.same s8) g3 (by omega) fun p4 H9 s9 g4 => ?_⟩
        obtain ⟨d', hd'⟩ := g4.dat (Nat.le_refl _) (Nat.le_refl _) (by omega)
        exact q H9 _ d' ((((Same.exw s05).trans x6).same s67).same (Same.trans s8 s9)) (w6.same (Same.trans s67 (Same.trans s8 s9))) hd'
      · rw [decide_eq_false hlt]
        refine iteF ⟨.int (at1 : Int), rfl, .int ((nod e : Nat) : Int), rfl, _, _, rfl, rfl, at1 - nod e, some (.int (0 + (i : Int))), some (.int ((nod e : Nat) : Int)), ?_, s04, by omega⟩
        show [some (V.ref b), some (V.int ((at1 : Int) - ((nod e : Nat) : Int))), some (V.ref a), some (V.int (0 + (i : Int))), some (V.int ((nod e : Nat) : Int))] = _
        rw [show (at1 : Int) - ((nod e : Nat) : Int) = ((at1 - nod e : Nat) : Int) by omega]
    · obtain ⟨at1, y3, y4, rfl, s3, lt⟩ := h3'
      rw [hl, List.drop_length, show nodL [] = 0 by rw [nodL]] at lt
      omega
theorem ok_spoilt (T : Blt mg) (N : TxE K mg "NoTree") (NX : XcT K N.C) (dmixed : Dnmixed K mg) (dfilled : Dnfilled K mg) (ddraw : Dndraw K mg) (dnumber : Dnnumber K mg) (dsigns : Dnsigns K mg) (dstring : Dnstring K mg) (dname : Dnname K mg) (dany : Dnany K mg) (dnodes : Dnnodes K mg) (dchanged : Dnchanged K mg) (dspoilt : Dnspoilt K mg) : ∀ n : Nat, FnOk P w K mg base CX0 (n + 7) dspoilt.f dspoilt.fd ["_law_thing", "_law_at", "_law_well_here"] (spSpoilt' K n)
  | 0 => dspoilt.F.ok scspoilt (fun _ _ _ _ h => h.elim) (fun _ _ _ _ _ _ _ _ _ h => h.elim)
  | n + 1 => ok_spoilt' T N NX dmixed dfilled ddraw dnumber dsigns dstring dname dany dnodes dchanged dspoilt n (ok_spoilt T N NX dmixed dfilled ddraw dnumber dsigns dstring dname dany dnodes dchanged dspoilt n)
end
end Kb

namespace Kb
open PySem PySem.Spec PyProof.Rows L2 SrtZ SrtO
def wiB (lo hi : Int) : Option Int → Bool
  | some i => decide (lo ≤ i) && decide (i ≤ hi)
  | none => false
def arB : Dat → Bool
  | .tup ds => decide (ds.length ≤ 100) && ds.all skD
  | _ => false
section
variable {P : Program} {w : World} {K : PySem.W.Frag} {mg : Str → Option Value} {base : Heap}
def spBareR (K : PySem.W.Frag) (C : Addr) : Sp := fun vs H Q E => ∃ (v : V) (d : Dat), vs = [v] ∧ DtAt K H v d ∧ isRB (intD d) = false ∧ E (.ref C) none H
theorem ok_bareR (T : Blt mg) (R : TxE K mg "NoRoom") (cM : Cst mg "MOST_ROOM" (.int 64)) (dP_is_int : DnIsInt K mg) (dP_is_room : DnIsRoom K mg) (d : DnBare K mg) : FnOk P w K mg base (L2.CX P w) 3 d.f d.fd ["room"] (spBareR K R.C) := by
  have GP_is_room : FnOk P w K mg base CX0 2 dP_is_room.f dP_is_room.fd ["thing"] (spIsRoomD K) := ok_is_roomD T cM dP_is_int dP_is_room
  refine d.F.okX scP_bare (fun vs H Q E h => ?_) (fun cdv A outer s H vs Q E hr h => ?_)
  · obtain ⟨v, x, rfl, _⟩ := h
    rfl
  · obtain ⟨v, x, rfl, hx, hb, e⟩ := h
    refine ⟨_, (pss_cons (ps_if (pt_not (pt_val (pe_call GP_is_room (hr.mono (by omega)) (by rfl) dP_is_room.g dP_is_room.F.kp dP_is_room.b .nil pass0 (pa_cons (pv 0) pa_nil))))
      (pss_one (ps_raise rfl (takes_of rfl rfl rfl rfl) (pmk_bare PySem.F.excBase_ValueError R.exc R.gC R.kp (raises_own R.sub R.ty) rfl)))
      pss_nil)
    pss_never), ?_⟩
    refine ⟨v, rfl, v, x, rfl, hx, isRB (intD x), rfl, ?_⟩
    rw [hb]
    exact iteT e
def spIsWithinD (K : PySem.W.Frag) : Sp := fun vs H Q _ => ∃ (v : V) (d : Dat) (lo hi : Int), vs = [v, .int lo, .int hi] ∧ DtAt K H v d ∧ Q (.bl (wiB lo hi (intD d))) H
theorem ok_is_withinD (T : Blt mg) (dP_is_int : DnIsInt K mg) (d : DnIsWithin K mg) : FnOk P w K mg base CX0 2 d.f d.fd ["thing", "low", "high"] (spIsWithinD K) := by
  have GP_is_int : FnOk P w K mg base CX0 1 dP_is_int.f dP_is_int.fd ["thing"] (spIsIntD K) := ok_is_intD T dP_is_int
  refine d.F.ok scP_within (fun vs H Q E h => ?_) (fun cdv A outer s H vs Q E hr h => ?_)
  · obtain ⟨v, x, lo, hi, rfl, _⟩ := h
    rfl
  · obtain ⟨v, x, lo, hi, rfl, hx, q⟩ := h
    refine ⟨_, (pss_one (ps_ret (pe_and (pe_call GP_is_int (hr.mono (by omega)) (by rfl) dP_is_int.g dP_is_int.F.kp dP_is_int.b .nil pass0 (pa_cons (pv 0) pa_nil)) (pe_one (pe_chain op_le op_le (pv 1) (pv 0) (pv 2)))))), ?_⟩
    refine ⟨v, rfl, v, x, rfl, hx, (intD x).isSome, rfl, ?_⟩
    cases x with
    | int i =>
      obtain ⟨rfl, _⟩ := hx.int
      have q : Q (.bl (decide (lo ≤ i) && decide (i ≤ hi))) H := q
      refine iteT ⟨.int lo, rfl, .int i, rfl, _, _, rfl, rfl, decide (lo ≤ i), rfl, ite2 (fun e => ⟨.int hi, rfl, _, _, rfl, rfl, ?_⟩) (fun e => ?_)⟩
      · rw [e, Bool.true_and] at q
        exact q
      · rw [show decide (lo ≤ i) = false from by simpa using e, Bool.false_and] at q
        exact q
    | _ => exact iteF q
/-! Ring.__init__, of what is none -/
def spRinitR1 (K : PySem.W.Frag) (CR C : Addr) : Sp := fun vs H Q E => ∃ (t dx : Addr) (v1 v2 v3 : V) (d1 : Dat), vs = [.ref t, v1, v2, v3] ∧ H t = some (.ins CR dx []) ∧ DtAt K H v1 d1 ∧ isRB (intD d1) = false ∧ E (.ref C) none H
theorem ok_RinitR1 (T : Blt mg) (R : TxE K mg "NoRoom") (cM : Cst mg "MOST_ROOM" (.int 64)) (dP_is_int : DnIsInt K mg) (dP_is_room : DnIsRoom K mg) (dP_bare : DnBare K mg) (L : Tal K mg) (Ri : Rng K mg) :
    FnOk P w K mg base (L2.CX P w) 4 Ri.fI Ri.dI ["self", "room", "size", "blocks"] (spRinitR1 K Ri.C R.C) := by
  have GP_bareR : FnOk P w K mg base (L2.CX P w) 3 dP_bare.f dP_bare.fd ["room"] (spBareR K R.C) := ok_bareR T R cM dP_is_int dP_is_room dP_bare
  have GI : FnOk P w K mg base CX0 1 L.fI L.dI ["self", "sketch"] (spTinit K L.C) := ok_Tinit T L
  refine Ri.FI.okX scRinit (fun vs H Q E h => ?_) (fun cdv A outer s H vs Q E hr h => ?_)
  · obtain ⟨t, dx, v1, v2, v3, d1, rfl, _⟩ := h
    rfl
  · obtain ⟨t, dx, v1, v2, v3, d1, rfl, ht, h1, hb, e⟩ := h
    refine ⟨_, (pss_cons (ps_fld (pv 0) (pe_make L.mI GI (hr.mono (by omega)) (by rfl) L.g L.bI .nil pass0 (pa_cons (pe_callS GP_bareR (hr.mono (by omega)) (by rfl) dP_bare.g dP_bare.F.kp dP_bare.b (fun σ => passAt (takes_of rfl rfl rfl rfl) σ) (pa_cons (pv 1) pa_nil)) pa_nil)) rfl)
    pss_never), ?_⟩
    exact ⟨v1, rfl, v1, d1, rfl, h1, hb, e⟩
def spRinitR2 (K : PySem.W.Frag) (CR C : Addr) : Sp := fun vs H Q E => ∃ (t dx : Addr) (r : Int) (v2 v3 : V) (d2 d3 : Dat), vs = [.ref t, .int r, v2, v3] ∧ H t = some (.ins CR dx []) ∧ 1 ≤ r ∧ r ≤ 64 ∧ DtAt K H v2 d2 ∧ DtAt K H v3 d3 ∧ (wiB 1 1000000 (intD d2) && wiB 1 100 (intD d3)) = false ∧ ∀ H', (∀ b u, b ≠ t → H b = some u → H' b = some u) → E (.ref C) none H'
theorem ok_RinitR2 (T : Blt mg) (Nu : TxE K mg "NoNumber") (cM : Cst mg "MOST_ROOM" (.int 64)) (cZ : Cst mg "MOST_SIZE" (.int 1000000)) (cB : Cst mg "MOST_BLOCKS" (.int 100)) (dP_is_int : DnIsInt K mg) (dP_is_room : DnIsRoom K mg) (dP_bare : DnBare K mg) (dP_is_within : DnIsWithin K mg) (L : Tal K mg) (Ri : Rng K mg) :
    FnOk P w K mg base (L2.CX P w) 4 Ri.fI Ri.dI ["self", "room", "size", "blocks"] (spRinitR2 K Ri.C Nu.C) := by
  have GP_bare : FnOk P w K mg base CX0 3 dP_bare.f dP_bare.fd ["room"] spBare := ok_bare T cM dP_is_int dP_is_room dP_bare
  have GP_is_within : FnOk P w K mg base CX0 2 dP_is_within.f dP_is_within.fd ["thing", "low", "high"] (spIsWithinD K) := ok_is_withinD T dP_is_int dP_is_within
  have GI : FnOk P w K mg base CX0 1 L.fI L.dI ["self", "sketch"] (spTinit K L.C) := ok_Tinit T L
  refine Ri.FI.okX scRinit (fun vs H Q E h => ?_) (fun cdv A outer s H vs Q E hr h => ?_)
  · obtain ⟨t, dx, r, v2, v3, d2, d3, rfl, _⟩ := h
    rfl
  · obtain ⟨t, dx, r, v2, v3, d2, d3, rfl, ht, hr1, hr64, h2, h3, hb, e⟩ := h
    refine ⟨_, (pss_cons (ps_fld (pv 0) (pe_make L.mI GI (hr.mono (by omega)) (by rfl) L.g L.bI .nil pass0 (pa_cons (pe_call GP_bare (hr.mono (by omega)) (by rfl) dP_bare.g dP_bare.F.kp dP_bare.b .nil pass0 (pa_cons (pv 1) pa_nil)) pa_nil)) rfl)
    (pss_cons (ps_if (PW.pt (pw_or (pt_not (pt_val (pe_call GP_is_within (hr.mono (by omega)) (by rfl) dP_is_within.g dP_is_within.F.kp dP_is_within.b .nil pass0 (pa_cons (pv 2) (pa_cons pe_int (pa_cons (pe_glob rfl cZ.g cZ.r) pa_nil)))))) (pw_or1 (pt_not (pt_val (pe_call GP_is_within (hr.mono (by omega)) (by rfl) dP_is_within.g dP_is_within.F.kp dP_is_within.b .nil pass0 (pa_cons (pv 3) (pa_cons pe_int (pa_cons (pe_glob rfl cB.g cB.r) pa_nil)))))))))
      (pss_one (ps_raise rfl (takes_of rfl rfl rfl rfl) (pmk_bare PySem.F.excBase_ValueError Nu.exc Nu.gC Nu.kp (raises_own Nu.sub Nu.ty) rfl)))
      pss_nil)
    pss_never)), ?_⟩
    refine ⟨.int r, rfl, r, rfl, hr1, hr64, fun H4 sk k s4 nsk hsk hk ta dx2 nt ndx hne => ?_⟩
    have s5 : Same H4 (upd (upd H4 dx2 (.own ta)) ta (.ins L.C dx2 [])) := Same.new (same_upd ndx) (by rw [upd_ne hne.symm]; exact nt)
    refine ⟨ta, dx2, sk, k, r, 0, 0, [], [], rfl, upd_same, .inl (.inl (s5 _ _ (hsk))), hk.same s5, .nil, List.nodup_nil, fun H5 d5 kp5 nd5 ta5 => ⟨rfl, ?_⟩⟩
    have tta : t ≠ ta := ne_of_none (s4 _ _ ht) nt
    have ht5 : H5 t = some (.ins Ri.C dx []) := kp5 t _ tta (s5 _ _ (s4 _ _ ht))
    have nta : H ta = none := Same.gone s4 nt
    refine ⟨.ref t, rfl, t, Ri.C, dx, _, rfl, ht5, Ri.cl, Ri.nT, (by show 0 < 1000; decide), ?_⟩
    have s06 : ∀ b u, b ≠ t → H b = some u → (upd H5 t (.ins Ri.C dx (putF ("tally" : Str) (V.ref ta) []))) b = some u := fun b u n e => by
      rw [upd_ne n]
      exact kp5 b u (ne_of_none e nta) (s5 _ _ (s4 _ _ e))
    have kk : DKeep K H (upd H5 t (.ins Ri.C dx (putF ("tally" : Str) (V.ref ta) []))) := ⟨fun b zs ⟨o, e, d⟩ => ⟨o, s06 _ _ (ne_of e ht (by intro z; cases z)) e, d⟩, fun b hb => by
      rcases hb with ⟨xs, (h | ⟨o, h⟩) | h⟩ | ⟨k, h⟩ | ⟨C, c, h⟩
      · exact .inl ⟨xs, .inl (.inl (s06 _ _ (ne_of h ht (by intro z; cases z)) h))⟩
      · exact .inl ⟨xs, .inl (.inr ⟨o, s06 _ _ (ne_of h ht (by intro z; cases z)) h⟩)⟩
      · exact .inl ⟨xs, .inr h⟩
      · exact .inr (.inl ⟨k, s06 _ _ (ne_of h ht (by intro z; cases z)) h⟩)
      · exact .inr (.inr ⟨C, c, s06 _ _ (ne_of h ht (by intro z; cases z)) h⟩)⟩
    have ee := e _ s06
    generalize upd H5 t (.ins Ri.C dx (putF ("tally" : Str) (V.ref ta) [])) = H6 at kk ee ⊢
    refine ⟨v2, rfl, v2, d2, 1, 1000000, rfl, h2.keep kk, wiB 1 1000000 (intD d2), rfl, ?_⟩
    cases hw2 : wiB 1 1000000 (intD d2) with
    | false => exact iteT (iteT ee)
    | true =>
      rw [hw2, Bool.true_and] at hb
      refine iteF ⟨v3, rfl, v3, d3, 1, 100, rfl, h3.keep kk, wiB 1 100 (intD d3), rfl, ?_⟩
      rw [hb]
      exact iteT ee
/-! Ring.feed, Ring.last, of what is none -/
def spRfeedR (K : PySem.W.Frag) (C : Addr) : Sp := fun vs H Q E => ∃ (t : Addr) (v : V) (d : Dat), vs = [.ref t, v] ∧ DtAt K H v d ∧ nameD d = false ∧ ∀ H', Same H H' → E (.ref C) none H'
theorem ok_RfeedR (T : Blt mg) (Na : TxE K mg "NoName") (cL : Cst mg "LONGEST_NAME" (.int 8)) (dP_is_name : DnIsName K mg) (Ri : Rng K mg) : FnOk P w K mg base (L2.CX P w) 4 Ri.fF Ri.dF ["self", "name"] (spRfeedR K Na.C) := by
  have GP_is_name : FnOk P w K mg base CX0 1 dP_is_name.f dP_is_name.fd ["thing"] (spIsNameD K) := ok_is_nameD T cL dP_is_name
  refine Ri.FF.okX scRfeed (fun vs H Q E h => ?_) (fun cdv A outer s H vs Q E hr h => ?_)
  · obtain ⟨t, v, d, rfl, _⟩ := h
    rfl
  · obtain ⟨t, v, d, rfl, hd, hb, e⟩ := h
    refine ⟨_, (pss_cons (ps_if (pt_not (pt_val (pe_call GP_is_name (hr.mono (by omega)) (by rfl) dP_is_name.g dP_is_name.F.kp dP_is_name.b .nil pass0 (pa_cons (pv 1) pa_nil))))
      (pss_one (ps_raise rfl (takes_of rfl rfl rfl rfl) (pmk_bare PySem.F.excBase_ValueError Na.exc Na.gC Na.kp (raises_own Na.sub Na.ty) rfl)))
      pss_nil)
    pss_never), ?_⟩
    refine ⟨v, rfl, v, d, rfl, hd, fun H1 s1 => ⟨nameD d, rfl, ?_⟩⟩
    rw [hb]
    exact iteT (e H1 s1)
def spRlastR (K : PySem.W.Frag) (CR CT C : Addr) : Sp := fun vs H Q E => ∃ (t ta d l : Addr) (r sz bl to : Int) (x : Tl) (ys : List Tl) (v : V) (e : Dat), vs = [.ref t, v] ∧ RingAt CR CT H t ta d l r sz bl to x ys ∧ DtAt K H v e ∧ wiB 0 bl (intD e) = false ∧ E (.ref C) none H
theorem ok_RlastR (T : Blt mg) (Nu : TxE K mg "NoNumber") (dP_is_int : DnIsInt K mg) (dP_is_within : DnIsWithin K mg) (Ri : Rng K mg) (CT : Addr) : FnOk P w K mg base (L2.CX P w) 3 Ri.fL Ri.dL ["self", "j"] (spRlastR K Ri.C CT Nu.C) := by
  have GP_is_within : FnOk P w K mg base CX0 2 dP_is_within.f dP_is_within.fd ["thing", "low", "high"] (spIsWithinD K) := ok_is_withinD T dP_is_int dP_is_within
  refine Ri.FL.okX scRlast (fun vs H Q E h => ?_) (fun cdv A outer s H vs Q E hr h => ?_)
  · obtain ⟨t, ta, d, l, r, sz, bl, to, x, ys, v, e, rfl, _⟩ := h
    rfl
  · obtain ⟨t, ta, d, l, r, sz, bl, to, x, ys, v, e, rfl, ra, he, hb, ee⟩ := h
    refine ⟨_, (pss_cons (ps_if (pt_not (pt_val (pe_call GP_is_within (hr.mono (by omega)) (by rfl) dP_is_within.g dP_is_within.F.kp dP_is_within.b .nil pass0 (pa_cons (pv 1) (pa_cons pe_int (pa_cons (pe_fld (pv 0) rfl) pa_nil))))))
      (pss_one (ps_raise rfl (takes_of rfl rfl rfl rfl) (pmk_bare PySem.F.excBase_ValueError Nu.exc Nu.gC Nu.kp (raises_own Nu.sub Nu.ty) rfl)))
      pss_nil)
    pss_never), ?_⟩
    obtain ⟨dx, fs, ht, rf⟩ := ra.ob
    refine ⟨v, rfl, .ref t, rfl, t, Ri.C, dx, fs, _, rfl, ht, Ri.cl, Ri.nB, rf.b, v, e, 0, bl, rfl, he, wiB 0 bl (intD e), rfl, ?_⟩
    rw [hb]
    exact iteT ee
/-! sum_ends, of what is none -/
def spAreSketchesD (K : PySem.W.Frag) : Sp := fun vs H Q _ => ∃ (v : V) (d : Dat), vs = [v] ∧ DtAt K H v d ∧ ∀ H', Same H H' → Q (.bl (arB d)) H'
theorem ok_are_sketchesD (D : DefsE K mg) (cK : Cst mg "MOST_SKETCHES" (.int 100)) (d : DnAreSketches K mg) : FnOk P w K mg base CX0 5 d.f d.fd ["thing"] (spAreSketchesD K) := by
  obtain ⟨T, cM, cL, dP_is_int, dP_is_number, dP_is_room, dP_is_name, dP_is_counted, dP_are_counts, dP_lost_of, dP_is_sketch, dP_asked, dP_parted, dP_filled, dP_plans_of, dP_is_question, dP_worth, dP_need_both, dP_named, dP_ends⟩ := D
  have GP_is_sketch : FnOk P w K mg base CX0 4 dP_is_sketch.f dP_is_sketch.fd ["thing"] (spIsSketchD K) := ok_is_sketchD T cM cL dP_is_int dP_is_number dP_is_room dP_is_name dP_is_counted dP_are_counts dP_lost_of dP_is_sketch
  refine d.F.ok scP_are_sketches (fun vs H Q E h => ?_) (fun cdv A outer s H vs Q E hr h => ?_)
  · obtain ⟨v, x, rfl, _⟩ := h
    rfl
  · obtain ⟨v, x, rfl, hx, q⟩ := h
    refine ⟨_, (pss_cons (ps_if (PW.pt (pw_or (pt_not (pt_val (pe_callB (call_isD (K := K) rfl) (by rfl) T.n_isinstance (by decide +kernel) (pa_cons (pv 0) (pa_cons (pe_bltn (v := .ty "tuple") (by rfl) T.n_tuple (by decide +kernel) rfl) pa_nil))))) (pw_or1 (pt_cmpR op_gt (pe_callB call_len_seq (by rfl) T.n_len (by decide +kernel) (pa_cons (pv 0) pa_nil)) (pe_glob rfl cK.g cK.r) (nomark _)))))
      (pss_one (ps_ret pe_bl))
      pss_nil)
    (pss_one (ps_ret (pe_callB (cr_all rfl) (by rfl) T.n_all (by decide +kernel) (pa_cons (pe_lc (own := [("sketch", 1)]) (g := gName 1) (tt := tYes) rfl scP_are_sketches.nd (pi_tup (pv 0)) (blkOk_by (N := NP_are_sketches) (sc := defScope sP_are_sketches) (by decide +kernel)) (fun _ _ _ _ _ => pg_name (i := 1) scP_are_sketches.nd rfl (Or.inl rfl)) (fun _ _ _ _ _ => pts_nil) (fun _ _ _ _ _ => (pe_call GP_is_sketch (hr.mono (by omega)) (by rfl) dP_is_sketch.g dP_is_sketch.F.kp dP_is_sketch.b .nil pass0 (pa_cons (pv 1) pa_nil)))) pa_nil))))), ?_⟩
    obtain ⟨t, ty, kI, kB, kS, kT⟩ := hx.ty
    refine ⟨v, rfl, v, _, t, _, isT x, rfl, .ty "tuple", ty, kT, isT x, rfl, ?_⟩
    cases x with
    | tup ds =>
      obtain ⟨a, xs, rfl, h1, h2, h3⟩ := hx.tup
      have hl := Paired.length h3
      have q : ∀ H', Same H H' → Q (.bl (decide (ds.length ≤ 100) && ds.all skD)) H' := q
      refine iteF ⟨.ref a, rfl, a, _, rfl, .inr h1.seq, _, _, rfl, rfl, ?_⟩
      by_cases h100 : ds.length ≤ 100
      · rw [decide_eq_true h100, Bool.true_and] at q
        refine ⟨false, congrArg V.bl (decide_eq_false (by omega)), iteF ⟨.ref a, rfl, a, rfl, ⟨_, h1.seq⟩, fun D nD => lc_tup (xs := xs) (fun i H3 => Same H H3 ∧ H3 D = some (.lst ((ds.take i).map fun d => V.bl (skD d)))) ⟨same_upd nD, upd_same⟩ (fun i H3 _ h3 => (h1.same h3.1).seq) (fun i x H3 hx h4 => ?_) (fun H3 h4 => ?_)⟩⟩
        · obtain ⟨e, he, hat⟩ := paired_at h3 hx
          refine ⟨rfl, x, rfl, x, e, rfl, hat.same h4.1, fun H4 s4 => ⟨_, s4 _ _ h4.2, ?_, fun b o z => ?_, ?_⟩⟩
          · rw [List.length_map, List.length_take, sizeLine_eq]
            omega
          · rw [upd_ne (ne_of_none z nD)]
            exact s4 b o (h4.1 b o z)
          · rw [upd_same, List.take_add_one, he, List.map_append]
            rfl
        · refine ⟨D, ds.map skD, rfl, sql (by rw [h4.2, hl, List.take_length, List.map_map]; rfl), ?_⟩
          rw [show (ds.map skD).all id = ds.all skD by rw [List.all_map]; rfl]
          exact q H3 h4.1
      · rw [decide_eq_false h100, Bool.false_and] at q
        exact ⟨true, congrArg V.bl (decide_eq_true (by omega)), iteT (q H (Same.refl H))⟩
    | _ => exact iteT (iteT (q H (Same.refl H)))
def spSumEndsR (K : PySem.W.Frag) (CS CN : Addr) : Sp := fun vs H Q E => ∃ (v vn : V) (d dn : Dat), vs = [v, vn] ∧ DtAt K H v d ∧ DtAt K H vn dn ∧ (arB d && nameD dn) = false ∧ (arB d = false → ∀ H', Same H H' → E (.ref CS) none H') ∧ (arB d = true → ∀ H', Same H H' → E (.ref CN) none H')
theorem ok_sum_endsR (D : DefsE K mg) (Ss : TxE K mg "NoSketches") (Na : TxE K mg "NoName") (cK : Cst mg "MOST_SKETCHES" (.int 100)) (dP_are_sketches : DnAreSketches K mg) (d : DnSumEnds K mg) : FnOk P w K mg base (L2.CX P w) 7 d.f d.fd ["sketches", "name"] (spSumEndsR K Ss.C Na.C) := by
  have GP_are_sketches : FnOk P w K mg base CX0 5 dP_are_sketches.f dP_are_sketches.fd ["thing"] (spAreSketchesD K) := ok_are_sketchesD D cK dP_are_sketches
  obtain ⟨T, cM, cL, dP_is_int, dP_is_number, dP_is_room, dP_is_name, dP_is_counted, dP_are_counts, dP_lost_of, dP_is_sketch, dP_asked, dP_parted, dP_filled, dP_plans_of, dP_is_question, dP_worth, dP_need_both, dP_named, dP_ends⟩ := D
  have GP_is_name : FnOk P w K mg base CX0 1 dP_is_name.f dP_is_name.fd ["thing"] (spIsNameD K) := ok_is_nameD T cL dP_is_name
  refine d.F.okX scP_sum_ends (fun vs H Q E h => ?_) (fun cdv A outer s H vs Q E hr h => ?_)
  · obtain ⟨v, vn, x, xn, rfl, _⟩ := h
    rfl
  · obtain ⟨v, vn, x, xn, rfl, hx, hn, hb, e1, e2⟩ := h
    refine ⟨_, (pss_cons (ps_if (pt_not (pt_val (pe_call GP_are_sketches (hr.mono (by omega)) (by rfl) dP_are_sketches.g dP_are_sketches.F.kp dP_are_sketches.b .nil pass0 (pa_cons (pv 0) pa_nil))))
      (pss_one (ps_raise rfl (takes_of rfl rfl rfl rfl) (pmk_bare PySem.F.excBase_ValueError Ss.exc Ss.gC Ss.kp (raises_own Ss.sub Ss.ty) rfl)))
      pss_nil)
    (pss_cons (ps_if (pt_not (pt_val (pe_call GP_is_name (hr.mono (by omega)) (by rfl) dP_is_name.g dP_is_name.F.kp dP_is_name.b .nil pass0 (pa_cons (pv 1) pa_nil))))
      (pss_one (ps_raise rfl (takes_of rfl rfl rfl rfl) (pmk_bare PySem.F.excBase_ValueError Na.exc Na.gC Na.kp (raises_own Na.sub Na.ty) rfl)))
      pss_nil)
    pss_never)), ?_⟩
    refine ⟨v, rfl, v, x, rfl, hx, fun H1 s1 => ⟨arB x, rfl, ?_⟩⟩
    cases ha : arB x with
    | false => exact iteT (e1 ha H1 s1)
    | true =>
      rw [ha, Bool.true_and] at hb
      refine iteF ⟨vn, rfl, vn, xn, rfl, hn.same s1, fun H2 s2 => ⟨nameD xn, rfl, ?_⟩⟩
      rw [hb]
      exact iteT (e2 ha H2 (Same.trans s1 s2))
end
end Kb

namespace Kb
open PySem PySem.Spec PyProof.Rows L2 SrtZ SrtO
abbrev spart : Stmt := topS 76
theorem scpart : FnScope ["_law_well_here", "_law_good", "_law_most", "_law_bad", "_law_kind"] ["_law_well_here", "_law_good", "_law_most"] (defScope spart) := ⟨rfl, rfl, rfl, by decide +kernel, rfl, by decide +kernel, by decide +kernel⟩
abbrev Dnpart (K : PySem.W.Frag) (mg : Str → Option Value) := Dn K mg "_law_part" spart ["_law_well_here", "_law_good", "_law_most"]
abbrev sis_part : Stmt := topS 77
theorem scis_part : FnScope ["_law_thing", "_law_most"] ["_law_thing", "_law_most"] (defScope sis_part) := ⟨rfl, rfl, rfl, by decide +kernel, rfl, by decide +kernel, by decide +kernel⟩
abbrev Dnis_part (K : PySem.W.Frag) (mg : Str → Option Value) := Dn K mg "_law_is_part" sis_part ["_law_thing", "_law_most"]
abbrev smade : Stmt := topS 78
theorem scmade : FnScope ["_law_room_here", "_law_size", "_law_blocks", "_law_told"] ["_law_room_here", "_law_size", "_law_blocks"] (defScope smade) := ⟨rfl, rfl, rfl, by decide +kernel, rfl, by decide +kernel, by decide +kernel⟩
abbrev Dnmade (K : PySem.W.Frag) (mg : Str → Option Value) := Dn K mg "_law_made" smade ["_law_room_here", "_law_size", "_law_blocks"]
abbrev smade_due : Stmt := topS 79
theorem scmade_due : FnScope ["_law_room_here", "_law_size", "_law_blocks"] ["_law_room_here", "_law_size", "_law_blocks"] (defScope smade_due) := ⟨rfl, rfl, rfl, by decide +kernel, rfl, by decide +kernel, by decide +kernel⟩
abbrev Dnmade_due (K : PySem.W.Frag) (mg : Str → Option Value) := Dn K mg "_law_made_due" smade_due ["_law_room_here", "_law_size", "_law_blocks"]
abbrev sasked : Stmt := topS 80
theorem scasked : FnScope ["_law_ring", "_law_word", "_law_thing", "_law_told"] ["_law_ring", "_law_word", "_law_thing"] (defScope sasked) := ⟨rfl, rfl, rfl, by decide +kernel, rfl, by decide +kernel, by decide +kernel⟩
abbrev Dnasked (K : PySem.W.Frag) (mg : Str → Option Value) := Dn K mg "_law_asked" sasked ["_law_ring", "_law_word", "_law_thing"]
abbrev ssum_told : Stmt := topS 81
theorem scsum_told : FnScope ["_law_sketches", "_law_name_here", "_law_told"] ["_law_sketches", "_law_name_here"] (defScope ssum_told) := ⟨rfl, rfl, rfl, by decide +kernel, rfl, by decide +kernel, by decide +kernel⟩
abbrev Dnsum_told (K : PySem.W.Frag) (mg : Str → Option Value) := Dn K mg "_law_sum_told" ssum_told ["_law_sketches", "_law_name_here"]
abbrev sstands : Stmt := topS 82
theorem scstands : FnScope ["_law_ring", "_law_blocks"] ["_law_ring", "_law_blocks"] (defScope sstands) := ⟨rfl, rfl, rfl, by decide +kernel, rfl, by decide +kernel, by decide +kernel⟩
abbrev Dnstands (K : PySem.W.Frag) (mg : Str → Option Value) := Dn K mg "_law_stands" sstands ["_law_ring", "_law_blocks"]
/-- the classes of errors that the law names -/
structure ErX (K : PySem.W.Frag) (mg : Str → Option Value) where
  R : TxE K mg "NoRoom"
  Nu : TxE K mg "NoNumber"
  Na : TxE K mg "NoName"
  Ss : TxE K mg "NoSketches"
  KE : Addr
  gKE : mg "KnownError" = some (.ref KE)
  xRR : PySem.W.exmOne K (.ref R.C) (.ref R.C) = some true
  xNR : PySem.W.exmOne K (.ref Nu.C) (.ref R.C) = some false
  xNN : PySem.W.exmOne K (.ref Nu.C) (.ref Nu.C) = some true
  xAA : PySem.W.exmOne K (.ref Na.C) (.ref Na.C) = some true
  xNA : PySem.W.exmOne K (.ref Nu.C) (.ref Na.C) = some false
  xSS : PySem.W.exmOne K (.ref Ss.C) (.ref Ss.C) = some true
  xAS : PySem.W.exmOne K (.ref Na.C) (.ref Ss.C) = some false
def dueS (d1 d2 d3 : Dat) : Str := if isRB (intD d1) = false then Str.ofString "room" else if (wiB 1 1000000 (intD d2) && wiB 1 100 (intD d3)) = false then Str.ofString "number" else Str.ofString "let"
def sumS (d dn : Dat) : Str := if arB d = false then Str.ofString "sketches" else if nameD dn = false then Str.ofString "name" else Str.ofString "let"
theorem wi_is {lo hi : Int} {d : Dat} (h : wiB lo hi (intD d) = true) : ∃ i, d = .int i ∧ lo ≤ i ∧ i ≤ hi := by
  cases d with
  | int i =>
    have h : (decide (lo ≤ i) && decide (i ≤ hi)) = true := h
    rw [Bool.and_eq_true, decide_eq_true_eq, decide_eq_true_eq] at h
    exact ⟨i, rfl, h.1, h.2⟩
  | _ => cases h
theorem nameD_is {d : Dat} (h : nameD d = true) : ∃ z, d = .str z ∧ Nm z := by
  cases d with
  | str z => exact ⟨z, rfl, nmB_nm.mp h⟩
  | _ => cases h
theorem sks_of {K : PySem.W.Frag} {H : Hp} : ∀ {xs : List V} {ds : List Dat}, Paired (DtAt K H) xs ds → (∀ d ∈ ds, skD d = true) → ∃ (ss : List Addr) (ys : List Sk), xs = ss.map V.ref ∧ Paired (SkX K H) ss ys ∧ (∀ y ∈ ys, SkV y) ∧ ys.length = ds.length
  | _, _, .nil, _ => ⟨[], [], rfl, .nil, fun _ h => (nomatch h), rfl⟩
  | _, _, .cons h t, c => by
    obtain ⟨s, y, rfl, h1, h2⟩ := sk_of h (c _ List.mem_cons_self)
    obtain ⟨ss, ys, rfl, h3, h4, h5⟩ := sks_of t fun d hd => c d (List.mem_cons_of_mem _ hd)
    refine ⟨s :: ss, y :: ys, rfl, .cons h1 h3, fun z hz => ?_, by rw [List.length_cons, List.length_cons, h5]⟩
    rcases List.mem_cons.mp hz with rfl | hz
    · exact h2
    · exact h4 z hz
theorem eqv_sks {K : PySem.W.Frag} {H : Hp} {u v : Addr} {us ws : List Addr} {r : Int} {ys : List Tl} (h1 : SqT K H u (us.map V.ref)) (h2 : SqT K H v (ws.map V.ref)) (p1 : Paired (fun s y => SkAt H s r y) us ys) (p2 : Paired (fun s y => SkAt H s r y) ws ys) (hl : ys.length ≤ 1000) (hc : ∀ y ∈ ys, y.c.length ≤ 1000) : Eqv K 4 H (.ref u) (.ref v) :=
  .inr ⟨u, v, _, _, rfl, rfl, h1, h2, (by rw [List.length_map, List.length_map, Paired.length p1, Paired.length p2]), (by rw [List.length_map, Paired.length p1]; exact hl), fun i a b ha hb => by
    obtain ⟨s, hs, rfl⟩ := map_at ha
    obtain ⟨s2, hs2, rfl⟩ := map_at hb
    obtain ⟨y, hy, k1⟩ := paired_at p1 hs
    obtain ⟨y2, hy2, k2⟩ := paired_at p2 hs2
    rw [hy] at hy2
    cases hy2
    exact eqv_sk k1 k2 (hc y (List.mem_of_getElem? hy))⟩
section
variable {P : Program} {w : World} {K : PySem.W.Frag} {mg : Str → Option Value} {base : Heap}
theorem fn_or {CX : CXT} {k : Nat} {f : Addr} {fd : FuncData} {ps : List Str} {s1 s2 : Sp} (F1 : FnOk P w K mg base CX k f fd ps s1) (F2 : FnOk P w K mg base CX k f fd ps s2) : FnOk P w K mg base CX k f fd ps (fun vs H Q E => s1 vs H Q E ∨ s2 vs H Q E) :=
  ⟨fun vs H Q E h => h.elim (F1.len vs H Q E) (F2.len vs H Q E), fun A outer s H args us vs Q E hr e0 hb r h => h.elim (F1.run A outer s H args us vs Q E hr e0 hb r) (F2.run A outer s H args us vs Q E hr e0 hb r)⟩
/-- what raises nothing, among what may raise -/
theorem fn_lift {CX : CXT} {k : Nat} {f : Addr} {fd : FuncData} {ps : List Str} {s1 : Sp} (F1 : FnOk P w K mg base CX0 k f fd ps s1) : FnOk P w K mg base CX k f fd ps s1 :=
  ⟨F1.len, fun A outer s H args us vs Q E hr e0 hb r h => codeAny_mono (F1.run A outer s H args us vs Q E hr e0 hb r h) fun r s' hq => by
    cases r with
    | error e => exact hq.elim
    | ok fl => cases fl <;> exact hq⟩
/-! _law_part, _law_is_part, _law_made_due -/
def spPart (K : PySem.W.Frag) : Sp := fun vs H Q _ => ∃ (a c : Addr) (g m : Int), vs = [.ref a, .int g, .int m] ∧ Wl a c H ∧ 0 ≤ g ∧ g ≤ 1000000 ∧ 0 ≤ m ∧ m ≤ 1000000 ∧ ∀ H' v d, Exw a H H' → Wl a c H' → DtAt K H' v d → Q v H'
theorem ok_part (T : Blt mg) (dmixed : Dnmixed K mg) (dfilled : Dnfilled K mg) (ddraw : Dndraw K mg) (d : Dnpart K mg) : FnOk P w K mg base CX0 4 d.f d.fd ["_law_well_here", "_law_good", "_law_most"] (spPart K) := by
  have Gdraw : FnOk P w K mg base CX0 3 ddraw.f ddraw.fd ["_law_well_here", "_law_many"] spDraw := ok_draw T dmixed dfilled ddraw
  refine d.F.ok scpart (fun vs H Q E h => ?_) (fun cdv A outer s H vs Q E hr h => ?_)
  · obtain ⟨a, c, g, m, rfl, _⟩ := h
    rfl
  · obtain ⟨a, c, g, m, rfl, hw, g0, g1, m0, m1, q⟩ := h
    refine ⟨_, (pss_cons (ps_set (i := 3) scpart.nd rfl (Or.inl rfl) (pe_ix ix_list (pe_lst (pa_cons pe_int (pa_cons (pe_un un_neg pe_int) (pa_cons (pe_op op_add (pv 2) pe_int) (pa_cons pe_bl (pa_cons pe_non (pa_cons pe_str (pa_cons (pe_tupF (pa_cons pe_int pa_nil)) (pa_cons (pe_lst (pa_cons pe_int pa_nil)) pa_nil))))))))) (pe_call Gdraw (hr.mono (by omega)) (by rfl) ddraw.g ddraw.F.kp ddraw.b .nil pass0 (pa_cons (pv 0) (pa_cons pe_int pa_nil))) (fun _ _ => rfl)))
    (pss_cons (ps_set (i := 4) scpart.nd rfl (Or.inl rfl) (pe_call Gdraw (hr.mono (by omega)) (by rfl) ddraw.g ddraw.F.kp ddraw.b .nil pass0 (pa_cons (pv 0) (pa_cons pe_int pa_nil))))
    (pss_one (ps_ret (pe_ix ix_list (pe_lst (pa_cons (pv 1) (pa_cons (pv 1) (pa_cons (pv 3) pa_nil)))) (pv 4) (fun _ _ => rfl)))))), ?_⟩
    refine ⟨1, rfl, .int m, rfl, _, _, rfl, rfl, (by show 1 ≤ sizeLine; decide), fun t o nt ho => ⟨(by show 1 ≤ sizeLine; decide), fun l nl => ⟨(by show 8 ≤ sizeLine; decide), fun p np => ?_⟩⟩⟩
    have s1 := same_upd (o := .frz o (.tup [.int 1])) nt
    have k1 : Ptp (upd H t (.frz o (.tup [.int 1]))) t [.int 1] := ⟨o, upd_same, ho⟩
    generalize upd H t (.frz o (.tup [.int 1])) = H1 at s1 k1 nl np ⊢
    have s2 := same_upd (o := .lst [.int 1]) nl
    have k2 : (upd H1 l (.lst [.int 1])) l = some (.lst [.int 1]) := upd_same
    generalize upd H1 l (.lst [.int 1]) = H2 at s2 k2 np ⊢
    have k3 : (upd H2 p (.lst [.int 0, .int (-1), .int (m + 1), .bl true, .non, .str (Str.ofString "1"), .ref t, .ref l])) p = some (.lst [.int 0, .int (-1), .int (m + 1), .bl true, .non, .str (Str.ofString "1"), .ref t, .ref l]) := upd_same
    have s3 := same_upd (o := .lst [.int 0, .int (-1), .int (m + 1), .bl true, .non, .str (Str.ofString "1"), .ref t, .ref l]) np
    have hp3 : Paired (DatAt K (2 ^ 90) 5000 1 (upd H2 p (.lst [.int 0, .int (-1), .int (m + 1), .bl true, .non, .str (Str.ofString "1"), .ref t, .ref l]))) [.int 0, .int (-1), .int (m + 1), .bl true, .non, .str (Str.ofString "1"), .ref t, .ref l] [.int 0, .int (-1), .int (m + 1), .bl true, .non, .str (Str.ofString "1"), .tup [.int 1], .odd] :=
      .cons (.lint (by decide)) (.cons (.lint (by decide)) (.cons (.lint (by omega)) (.cons .lbl (.cons .lnon (.cons (.lstr (by rw [show (Str.ofString "1").length = 1 by decide +kernel]; decide)) (.cons (.ltup ((k1.same s2).same s3) (by show 1 ≤ 5000; decide) (.cons (.lint (by decide)) .nil)) (.cons (.lodd (.inl ⟨[.int 1], sql (s3 _ _ k2)⟩)) .nil)))))))
    have s03 := Same.trans (Same.trans s1 s2) s3
    have hpw := (hw.same (Same.trans s1 s2)).ne2 np
    generalize upd H2 p (.lst [.int 0, .int (-1), .int (m + 1), .bl true, .non, .str (Str.ofString "1"), .ref t, .ref l]) = H3 at s3 k3 hp3 s03 ⊢
    refine ⟨.ref a, rfl, a, c, 8, rfl, hw.same s03, (by decide), (by decide), fun H4 k x4 w4 k0 k1' => ?_⟩
    obtain ⟨kn, rfl⟩ := Int.eq_ofNat_of_zero_le k0
    obtain ⟨v, dv, hv, hd⟩ := pick hp3 (j := kn) (by show kn < 8; omega)
    have k34 := dk_exw (K := K) x4 (hw.same s03) w4
    have hd4 := hd.keep k34
    refine ⟨p, _, _, _, rfl, rfl, sql (x4 _ _ hpw.1 k3), atI_nat hv, ?_⟩
    refine ⟨.ref a, rfl, a, c, 3, rfl, w4, (by decide), (by decide), fun H5 k x5 w5 k0 k1' => ?_⟩
    obtain ⟨kn2, rfl⟩ := Int.eq_ofNat_of_zero_le k0
    have hd5 := hd4.keep (dk_exw (K := K) x5 w4 w5)
    have x05 := ((Same.exw (a := a) s03).trans x4).trans x5
    refine ⟨.int g, rfl, .int g, rfl, v, rfl, (by show 3 ≤ sizeLine; decide), fun p2 np2 => ?_⟩
    have s6 := same_upd (o := .lst [.int g, .int g, v]) np2
    have hp6 : Paired (DatAt K (2 ^ 90) 5000 1 (upd H5 p2 (.lst [.int g, .int g, v]))) [.int g, .int g, v] [.int g, .int g, dv] := .cons (.lint (by omega)) (.cons (.lint (by omega)) (.cons (hd5.same s6) .nil))
    obtain ⟨v2, d2, hv2, hd2⟩ := pick hp6 (j := kn2) (by show kn2 < 3; omega)
    exact ⟨.int (kn2 : Int), rfl, p2, _, _, _, rfl, rfl, sql upd_same, atI_nat hv2, q _ v2 d2 (x05.same s6) (w5.same s6) ⟨1, hd2⟩⟩
def spIsPart (K : PySem.W.Frag) : Sp := fun vs H Q _ => ∃ (v : V) (d : Dat) (m : Int), vs = [v, .int m] ∧ DtAt K H v d ∧ Q (.bl (wiB 1 m (intD d))) H
theorem ok_is_part (T : Blt mg) (dcount : Dncount K mg) (d : Dnis_part K mg) : FnOk P w K mg base CX0 2 d.f d.fd ["_law_thing", "_law_most"] (spIsPart K) := by
  have Gcount : FnOk P w K mg base CX0 1 dcount.f dcount.fd ["_law_thing"] (spCountD K) := ok_countD T dcount
  refine d.F.ok scis_part (fun vs H Q E h => ?_) (fun cdv A outer s H vs Q E hr h => ?_)
  · obtain ⟨v, x, m, rfl, _⟩ := h
    rfl
  · obtain ⟨v, x, m, rfl, hx, q⟩ := h
    refine ⟨_, (pss_one (ps_ret (pe_and (pe_call Gcount (hr.mono (by omega)) (by rfl) dcount.g dcount.F.kp dcount.b .nil pass0 (pa_cons (pv 0) pa_nil)) (pe_and (pe_cmpR op_le pe_int (pv 0) (nomark _)) (pe_one (pe_cmpR op_le (pv 0) (pv 1) (nomark _))))))), ?_⟩
    refine ⟨v, rfl, v, x, rfl, hx, isNB (intD x), rfl, ?_⟩
    cases x with
    | int i =>
      obtain ⟨rfl, _⟩ := hx.int
      have q : Q (.bl (decide (1 ≤ i) && decide (i ≤ m))) H := q
      show (if decide (0 ≤ i) = true then _ else _)
      by_cases h0 : 0 ≤ i
      · rw [decide_eq_true h0]
        refine iteT ⟨.int i, rfl, _, _, rfl, rfl, decide (1 ≤ i), rfl, ite2 (fun e => ⟨.int i, rfl, .int m, rfl, _, _, rfl, rfl, ?_⟩) (fun e => ?_)⟩
        · rw [e, Bool.true_and] at q
          exact q
        · have e : decide (1 ≤ i) = false := by simpa using e
          rw [e, Bool.false_and] at q
          exact q
      · rw [decide_eq_false h0]
        rw [decide_eq_false (by omega : ¬ 1 ≤ i), Bool.false_and] at q
        exact iteF q
    | _ => exact iteF q
def spMadeDue (K : PySem.W.Frag) : Sp := fun vs H Q _ => ∃ (v1 v2 v3 : V) (d1 d2 d3 : Dat), vs = [v1, v2, v3] ∧ DtAt K H v1 d1 ∧ DtAt K H v2 d2 ∧ DtAt K H v3 d3 ∧ Q (.str (dueS d1 d2 d3)) H
theorem ok_made_due (T : Blt mg) (dcount : Dncount K mg) (dis_part : Dnis_part K mg) (d : Dnmade_due K mg) : FnOk P w K mg base CX0 3 d.f d.fd ["_law_room_here", "_law_size", "_law_blocks"] (spMadeDue K) := by
  have Gis_part : FnOk P w K mg base CX0 2 dis_part.f dis_part.fd ["_law_thing", "_law_most"] (spIsPart K) := ok_is_part T dcount dis_part
  refine d.F.ok scmade_due (fun vs H Q E h => ?_) (fun cdv A outer s H vs Q E hr h => ?_)
  · obtain ⟨v1, v2, v3, d1, d2, d3, rfl, _⟩ := h
    rfl
  · obtain ⟨v1, v2, v3, d1, d2, d3, rfl, h1, h2, h3, q⟩ := h
    refine ⟨_, (pss_cons (ps_if (pt_not (pt_val (pe_call Gis_part (hr.mono (by omega)) (by rfl) dis_part.g dis_part.F.kp dis_part.b .nil pass0 (pa_cons (pv 0) (pa_cons pe_int pa_nil)))))
      (pss_one (ps_ret pe_str))
      pss_nil)
    (pss_cons (ps_if (PW.pt (pw_or (pt_not (pt_val (pe_call Gis_part (hr.mono (by omega)) (by rfl) dis_part.g dis_part.F.kp dis_part.b .nil pass0 (pa_cons (pv 1) (pa_cons (pe_op op_pow pe_int pe_int) pa_nil))))) (pw_or1 (pt_not (pt_val (pe_call Gis_part (hr.mono (by omega)) (by rfl) dis_part.g dis_part.F.kp dis_part.b .nil pass0 (pa_cons (pv 2) (pa_cons pe_int pa_nil))))))))
      (pss_one (ps_ret pe_str))
      pss_nil)
    (pss_one (ps_ret pe_str)))), ?_⟩
    unfold dueS at q
    have er : wiB 1 64 (intD d1) = isRB (intD d1) := by cases d1 <;> rfl
    refine ⟨v1, rfl, v1, d1, 64, rfl, h1, wiB 1 64 (intD d1), rfl, ?_⟩
    rw [er]
    cases e1 : isRB (intD d1) with
    | false =>
      rw [e1, if_pos rfl] at q
      exact iteT q
    | true =>
      rw [e1, if_neg Bool.noConfusion] at q
      refine iteF ⟨v2, rfl, _, _, rfl, rfl, ⟨by decide, by decide, by decide⟩, v2, d2, 1000000, rfl, h2, wiB 1 1000000 (intD d2), rfl, ?_⟩
      cases e2 : wiB 1 1000000 (intD d2) with
      | false =>
        rw [e2, Bool.false_and, if_pos rfl] at q
        exact iteT (iteT q)
      | true =>
        rw [e2, Bool.true_and] at q
        refine iteF ⟨v3, rfl, v3, d3, 100, rfl, h3, wiB 1 100 (intD d3), rfl, ?_⟩
        cases e3 : wiB 1 100 (intD d3) with
        | false =>
          rw [e3, if_pos rfl] at q
          exact iteT q
        | true =>
          rw [e3, if_neg Bool.noConfusion] at q
          exact iteF q
/-! _law_made -/
def spMade (K : PySem.W.Frag) : Sp := fun vs H Q _ => ∃ (v1 v2 v3 : V) (d1 d2 d3 : Dat), vs = [v1, v2, v3] ∧ DtAt K H v1 d1 ∧ DtAt K H v2 d2 ∧ DtAt K H v3 d3 ∧ ∀ H', Same H H' → Q (.str (dueS d1 d2 d3)) H'
theorem ok_made (T : Blt mg) (F : ErX K mg) (cM : Cst mg "MOST_ROOM" (.int 64)) (cZ : Cst mg "MOST_SIZE" (.int 1000000)) (cB : Cst mg "MOST_BLOCKS" (.int 100)) (dP_is_int : DnIsInt K mg) (dP_is_room : DnIsRoom K mg) (dP_bare : DnBare K mg) (dP_is_within : DnIsWithin K mg) (L : Tal K mg) (Ri : Rng K mg) (d : Dnmade K mg) : FnOk P w K mg base CX0 6 d.f d.fd ["_law_room_here", "_law_size", "_law_blocks"] (spMade K) := by
  have GI : FnOk P w K mg base (L2.CX P w) 4 Ri.fI Ri.dI ["self", "room", "size", "blocks"] (fun vs H Q E => spRinit Ri.C L.C vs H Q E ∨ (spRinitR1 K Ri.C F.R.C vs H Q E ∨ spRinitR2 K Ri.C F.Nu.C vs H Q E)) := fn_or (fn_lift (ok_Rinit T cM cZ cB dP_is_int dP_is_room dP_bare dP_is_within L Ri)) (fn_or (ok_RinitR1 T F.R cM dP_is_int dP_is_room dP_bare L Ri) (ok_RinitR2 T F.Nu cM cZ cB dP_is_int dP_is_room dP_bare dP_is_within L Ri))
  refine d.F.ok scmade (fun vs H Q E h => ?_) (fun cdv A outer s H vs Q E hr h => ?_)
  · obtain ⟨v1, v2, v3, d1, d2, d3, rfl, _⟩ := h
    rfl
  · obtain ⟨v1, v2, v3, d1, d2, d3, rfl, h1, h2, h3, q⟩ := h
    refine ⟨_, (pss_cons (ps_set (i := 3) scmade.nd rfl (Or.inl rfl) pe_str)
    (pss_cons (ps_try_many rfl rfl takes0 (fun W pn xe tk pa => pss_one (ps_expr (by exact (pe_make Ri.mI GI (hr.mono (by omega)) (by rfl) Ri.g Ri.bI .nil (passEL (n := 4) rfl tk) (by exact (pa_cons (pv 0) (pa_cons (pv 1) (pa_cons (pv 2) pa_nil)))))))) (.cons ⟨rfl, by decide, Or.inl F.R.gC⟩ (fun a oe cls d pn hz hf => pss_one (ps_set (i := 3) scmade.nd rfl (Or.inl rfl) pe_str)) (.cons ⟨rfl, by decide, Or.inl F.Nu.gC⟩ (fun a oe cls d pn hz hf => pss_one (ps_set (i := 3) scmade.nd rfl (Or.inl rfl) pe_str)) (.cons ⟨rfl, by decide, Or.inl F.gKE⟩ (fun a oe cls d pn hz hf => pss_one (ps_set (i := 3) scmade.nd rfl (Or.inl rfl) pe_str)) .nil))))
    (pss_one (ps_ret (pv 3))))), ?_⟩
    have four' : ∀ {σ : L2.St}, σ.length = 4 → ∃ x0 x1 x2 x3, σ = [x0, x1, x2, x3] := fun {σ} h => four h
    refine ⟨v1, rfl, v2, rfl, v3, rfl, fun t dx nt ndx hne => ?_⟩
    have sI : Same H (upd (upd H dx (.own t)) t (.ins Ri.C dx [])) := Same.new (same_upd ndx) (by rw [upd_ne hne.symm]; exact nt)
    unfold dueS at q
    cases e1 : isRB (intD d1) with
    | false =>
      rw [e1, if_pos rfl] at q
      refine .inr (.inl ⟨t, dx, v1, v2, v3, d1, rfl, upd_same, h1.same sI, e1, fun σ hσ => ?_⟩)
      obtain ⟨x0, x1, x2, x3, rfl⟩ := four' hσ
      exact ⟨true, F.xRR, fun _ a na => ⟨_, rfl, q _ sI⟩, fun h => nomatch h⟩
    | true =>
      rw [e1, if_neg Bool.noConfusion] at q
      obtain ⟨r, rfl, r1, r64⟩ := isRB_is e1
      obtain ⟨rfl, _⟩ := h1.int
      cases e2 : wiB 1 1000000 (intD d2) && wiB 1 100 (intD d3) with
      | false =>
        rw [e2, if_pos rfl] at q
        refine .inr (.inr ⟨t, dx, r, v2, v3, d2, d3, rfl, upd_same, r1, r64, h2.same sI, h3.same sI, e2, fun H' k σ hσ => ?_⟩)
        obtain ⟨x0, x1, x2, x3, rfl⟩ := four' hσ
        have sK : Same H H' := fun b u e => k b u (ne_of_none e nt) (sI _ _ e)
        exact ⟨false, F.xNR, fun h => (nomatch h), fun _ => ⟨true, F.xNN, fun _ a na => ⟨_, rfl, q _ sK⟩, fun h => nomatch h⟩⟩
      | true =>
        rw [e2, if_neg Bool.noConfusion] at q
        rw [Bool.and_eq_true] at e2
        obtain ⟨sz, rfl, s1, s2⟩ := wi_is e2.1
        obtain ⟨bl, rfl, b1, b2⟩ := wi_is e2.2
        obtain ⟨rfl, _⟩ := h2.int
        obtain ⟨rfl, _⟩ := h3.int
        refine .inl ⟨t, dx, r, sz, bl, rfl, upd_same, r1, r64, s1, s2, b1, b2, fun H' ta d L k nta nd nL ra => ⟨rfl, ?_⟩⟩
        exact ⟨_, rfl, q _ fun b u e => k b u (ne_of_none e nt) (sI _ _ e)⟩
/-! _law_asked -/
def spAskedR (K : PySem.W.Frag) (CR CT : Addr) : Sp := fun vs H Q E =>
  (∃ (t dx : Addr) (fs : List (Str × V)) (v : V) (e : Dat), vs = [.ref t, .str (Str.ofString "feed"), v] ∧ H t = some (.ins CR dx fs) ∧ fs.lookup ("feed" : Str) = none ∧ DtAt K H v e ∧ nameD e = false ∧ ∀ H', Same H H' → Q (.str (Str.ofString "name")) H') ∨
  (∃ (t ta d l : Addr) (r sz bl to : Int) (x : Tl) (ys : List Tl) (v : V) (e : Dat), vs = [.ref t, .str (Str.ofString "last"), v] ∧ RingAt CR CT H t ta d l r sz bl to x ys ∧ DtAt K H v e ∧ wiB 0 bl (intD e) = false ∧ Q (.str (Str.ofString "number")) H) ∨
  (∃ (t ta d l : Addr) (r sz bl to : Int) (x : Tl) (ys : List Tl) (j : Nat), vs = [.ref t, .str (Str.ofString "last"), .int (j : Int)] ∧ RingAt CR CT H t ta d l r sz bl to x ys ∧ (j : Int) ≤ bl ∧ ∀ H', Same H H' → Q (.str (Str.ofString "let")) H') ∨
  (∃ (t ta d l : Addr) (r sz bl to : Int) (x : Tl) (ys : List Tl) (n : Str), vs = [.ref t, .str (Str.ofString "feed"), .str n] ∧ RingAt CR CT H t ta d l r sz bl to x ys ∧ Nm n ∧ TlOk r x ∧ 1 ≤ r ∧ r ≤ 64 ∧ 1 ≤ sz ∧ sz ≤ 1000000 ∧ 1 ≤ bl ∧ bl ≤ 100 ∧ 0 ≤ to ∧ ys.length ≤ 100 ∧
    ∀ H' ta' d' l', But3 t ta d H H' → New3 H ta d ta' → New3 H ta d d' → (l' = l ∨ New3 H ta d l') → RingAt CR CT H' t ta' d' l' r sz bl (to + 1) (ringX r sz to n x) (ringY r sz bl to n x ys) → Q (.str (Str.ofString "let")) H')
theorem ok_askedR (T : Blt mg) (F : ErX K mg) (nmax : mg "max" = none) (cM : Cst mg "MOST_ROOM" (.int 64)) (cL : Cst mg "LONGEST_NAME" (.int 8)) (dP_is_int : DnIsInt K mg) (dP_is_room : DnIsRoom K mg) (dP_is_name : DnIsName K mg) (dP_bare : DnBare K mg) (dP_is_within : DnIsWithin K mg) (L : Tal K mg) (Ri : Rng K mg) (d : Dnasked K mg) : FnOk P w K mg base CX0 5 d.f d.fd ["_law_ring", "_law_word", "_law_thing"] (spAskedR K Ri.C L.C) := by
  have GF : FnOk P w K mg base (L2.CX P w) 4 Ri.fF Ri.dF ["self", "name"] (fun vs H Q E => spRfeed Ri.C L.C vs H Q E ∨ spRfeedR K F.Na.C vs H Q E) := fn_or (fn_lift (ok_Rfeed T cM cL dP_is_int dP_is_room dP_is_name dP_bare L Ri)) (ok_RfeedR T F.Na cL dP_is_name Ri)
  have GL : FnOk P w K mg base (L2.CX P w) 3 Ri.fL Ri.dL ["self", "j"] (fun vs H Q E => spRlast Ri.C L.C vs H Q E ∨ spRlastR K Ri.C L.C F.Nu.C vs H Q E) := fn_or (fn_lift (ok_Rlast T nmax dP_is_int dP_is_within Ri L.C)) (ok_RlastR T F.Nu dP_is_int dP_is_within Ri L.C)
  have ff : decide (V.str (Str.ofString "feed") = V.str (Str.ofString "feed")) = true := decide_eq_true rfl
  have lf : decide (V.str (Str.ofString "last") = V.str (Str.ofString "feed")) = false := by decide +kernel
  refine d.F.ok scasked (fun vs H Q E h => ?_) (fun cdv A outer s H vs Q E hr h => ?_)
  · rcases h with ⟨_, _, _, _, _, rfl, _⟩ | ⟨_, _, _, _, _, _, _, _, _, _, _, _, rfl, _⟩ | ⟨_, _, _, _, _, _, _, _, _, _, _, rfl, _⟩ | ⟨_, _, _, _, _, _, _, _, _, _, _, rfl, _⟩
    all_goals rfl
  · have four' : ∀ {σ : L2.St}, σ.length = 4 → ∃ x0 x1 x2 x3, σ = [x0, x1, x2, x3] := fun {σ} h => four h
    refine ⟨_, (pss_cons (ps_set (i := 3) scasked.nd rfl (Or.inl rfl) pe_str)
    (pss_cons (ps_try_many rfl rfl takes0 (fun W pn xe tk pa => pss_one (ps_if (pt_cmpR op_eq (pv 1) pe_str (nomark _)) (pss_one (ps_expr (by exact (pe_meth (pv 0) Ri.cl Ri.mF GF (hr.mono (by omega)) Ri.bF .nil (passEL (n := 4) rfl tk) (by exact (pa_cons (pv 2) pa_nil)))))) (pss_one (ps_expr (by exact (pe_meth (pv 0) Ri.cl Ri.mL GL (hr.mono (by omega)) Ri.bL .nil (passEL (n := 4) rfl tk) (by exact (pa_cons (pv 2) pa_nil)))))))) (.cons ⟨rfl, by decide, Or.inl F.Na.gC⟩ (fun a oe cls d pn hz hf => pss_one (ps_set (i := 3) scasked.nd rfl (Or.inl rfl) pe_str)) (.cons ⟨rfl, by decide, Or.inl F.Nu.gC⟩ (fun a oe cls d pn hz hf => pss_one (ps_set (i := 3) scasked.nd rfl (Or.inl rfl) pe_str)) (.cons ⟨rfl, by decide, Or.inl F.gKE⟩ (fun a oe cls d pn hz hf => pss_one (ps_set (i := 3) scasked.nd rfl (Or.inl rfl) pe_str)) .nil))))
    (pss_one (ps_ret (pv 3))))), ?_⟩
    rcases h with ⟨t, dx, fs, v, e, rfl, ht, hlo, hv, hb, q⟩ | ⟨t, ta, d, l, r, sz, bl, to, x, ys, v, e, rfl, ra, hv, hb, q⟩ | ⟨t, ta, d, l, r, sz, bl, to, x, ys, j, rfl, ra, hj, q⟩ | ⟨t, ta, d, l, r, sz, bl, to, x, ys, n, rfl, ra, hn, ok, r1, r64, s1, s2, b1, b2, t0, hy, q⟩
    · refine ⟨_, rfl, rfl, true, congrArg V.bl ff, iteT ⟨.ref t, rfl, t, dx, fs, rfl, ht, hlo, v, rfl, .inr ⟨t, v, e, rfl, hv, hb, fun H' s' σ hσ => ?_⟩⟩⟩
      obtain ⟨x0, x1, x2, x3, rfl⟩ := four' hσ
      exact ⟨true, F.xAA, fun _ a na => ⟨_, rfl, q _ s'⟩, fun h => nomatch h⟩
    · obtain ⟨dx, fs, ht, rf⟩ := id ra.ob
      refine ⟨_, rfl, rfl, false, congrArg V.bl lf, iteF ⟨.ref t, rfl, t, dx, fs, rfl, ht, rf.no _ (by decide +kernel), v, rfl, .inr ⟨t, ta, d, l, r, sz, bl, to, x, ys, v, e, rfl, ra, hv, hb, fun σ hσ => ?_⟩⟩⟩
      obtain ⟨x0, x1, x2, x3, rfl⟩ := four' hσ
      exact ⟨false, F.xNA, fun h => (nomatch h), fun _ => ⟨true, F.xNN, fun _ a na => ⟨_, rfl, q⟩, fun h => nomatch h⟩⟩
    · obtain ⟨dx, fs, ht, rf⟩ := id ra.ob
      exact ⟨_, rfl, rfl, false, congrArg V.bl lf, iteF ⟨.ref t, rfl, t, dx, fs, rfl, ht, rf.no _ (by decide +kernel), .int (j : Int), rfl, .inl ⟨t, ta, d, l, r, sz, bl, to, x, ys, j, rfl, ra, hj, fun H' u us s' _ _ _ => ⟨_, rfl, q H' s'⟩⟩⟩⟩
    · obtain ⟨dx, fs, ht, rf⟩ := id ra.ob
      exact ⟨_, rfl, rfl, true, congrArg V.bl ff, iteT ⟨.ref t, rfl, t, dx, fs, rfl, ht, rf.no _ (by decide +kernel), .str n, rfl, .inl ⟨t, ta, d, l, r, sz, bl, to, x, ys, n, rfl, ra, hn, ok, r1, r64, s1, s2, b1, b2, t0, hy, fun H' ta' d' l' k1 k2 k3 k4 k5 => ⟨_, rfl, q H' ta' d' l' k1 k2 k3 k4 k5⟩⟩⟩⟩
/-! _law_sum_told -/
def spSumTold (K : PySem.W.Frag) : Sp := fun vs H Q _ => ∃ (v vn : V) (x xn : Dat), vs = [v, vn] ∧ DtAt K H v x ∧ DtAt K H vn xn ∧ ∀ H', Same H H' → Q (.str (sumS x xn)) H'
theorem ok_sum_told (D : DefsE K mg) (F : ErX K mg) (cK : Cst mg "MOST_SKETCHES" (.int 100)) (dP_are_sketches : DnAreSketches K mg) (dP_sum_ends : DnSumEnds K mg) (d : Dnsum_told K mg) : FnOk P w K mg base CX0 8 d.f d.fd ["_law_sketches", "_law_name_here"] (spSumTold K) := by
  have GS : FnOk P w K mg base (L2.CX P w) 7 dP_sum_ends.f dP_sum_ends.fd ["sketches", "name"] (fun vs H Q E => spSumEnds K vs H Q E ∨ spSumEndsR K F.Ss.C F.Na.C vs H Q E) := fn_or (fn_lift (ok_sum_ends D cK dP_are_sketches dP_sum_ends)) (ok_sum_endsR D F.Ss F.Na cK dP_are_sketches dP_sum_ends)
  refine d.F.ok scsum_told (fun vs H Q E h => ?_) (fun cdv A outer s H vs Q E hr h => ?_)
  · obtain ⟨v, vn, x, xn, rfl, _⟩ := h
    rfl
  · obtain ⟨v, vn, x, xn, rfl, hx, hn, q⟩ := h
    have three' : ∀ {σ : L2.St}, σ.length = 3 → ∃ x0 x1 x2, σ = [x0, x1, x2] := fun {σ} h => match σ, h with | [a, b, c], _ => ⟨a, b, c, rfl⟩
    refine ⟨_, (pss_cons (ps_set (i := 2) scsum_told.nd rfl (Or.inl rfl) pe_str)
    (pss_cons (ps_try_many rfl rfl takes0 (fun W pn xe tk pa => pss_one (ps_expr (by exact (pe_call GS (hr.mono (by omega)) rfl dP_sum_ends.g dP_sum_ends.F.kp dP_sum_ends.b .nil (passEL (n := 3) rfl tk) (by exact (pa_cons (pv 0) (pa_cons (pv 1) pa_nil))))))) (.cons ⟨rfl, by decide, Or.inl F.Ss.gC⟩ (fun a oe cls d pn hz hf => pss_one (ps_set (i := 2) scsum_told.nd rfl (Or.inl rfl) pe_str)) (.cons ⟨rfl, by decide, Or.inl F.Na.gC⟩ (fun a oe cls d pn hz hf => pss_one (ps_set (i := 2) scsum_told.nd rfl (Or.inl rfl) pe_str)) (.cons ⟨rfl, by decide, Or.inl F.gKE⟩ (fun a oe cls d pn hz hf => pss_one (ps_set (i := 2) scsum_told.nd rfl (Or.inl rfl) pe_str)) .nil))))
    (pss_one (ps_ret (pv 2))))), ?_⟩
    refine ⟨v, rfl, vn, rfl, ?_⟩
    unfold sumS at q
    cases e1 : arB x with
    | false =>
      rw [e1, if_pos rfl] at q
      refine .inr ⟨v, vn, x, xn, rfl, hx, hn, by rw [e1]; rfl, fun _ H' s' σ hσ => ?_, fun h => absurd h (by rw [e1]; exact Bool.noConfusion)⟩
      obtain ⟨x0, x1, x2, rfl⟩ := three' hσ
      exact ⟨true, F.xSS, fun _ a na => ⟨_, rfl, q _ s'⟩, fun h => nomatch h⟩
    | true =>
      rw [e1, if_neg Bool.noConfusion] at q
      cases e2 : nameD xn with
      | false =>
        rw [e2, if_pos rfl] at q
        refine .inr ⟨v, vn, x, xn, rfl, hx, hn, by rw [e1, e2]; rfl, fun h => absurd h (by rw [e1]; exact Bool.noConfusion), fun _ H' s' σ hσ => ?_⟩
        obtain ⟨x0, x1, x2, rfl⟩ := three' hσ
        exact ⟨false, F.xAS, fun h => (nomatch h), fun _ => ⟨true, F.xAA, fun _ a na => ⟨_, rfl, q _ s'⟩, fun h => nomatch h⟩⟩
      | true =>
        rw [e2, if_neg Bool.noConfusion] at q
        obtain ⟨z, rfl, nz⟩ := nameD_is e2
        obtain ⟨rfl, _⟩ := hn.str
        cases x with
        | tup ds =>
          have e1 : (decide (ds.length ≤ 100) && ds.all skD) = true := e1
          rw [Bool.and_eq_true, decide_eq_true_eq] at e1
          obtain ⟨a, xs, rfl, g1, g2, g3⟩ := hx.tup
          obtain ⟨ss, ys, rfl, k1, k2, k3⟩ := sks_of g3 (List.all_eq_true.mp e1.2)
          exact .inl ⟨a, z, ss, ys, rfl, g1.seq, k1, k2, by omega, nz, fun H' p s' _ _ => ⟨_, rfl, q H' s'⟩⟩
        | _ => cases e1
/-! _law_stands -/
def spStands (CR CT : Addr) : Sp := fun vs H Q _ => ∃ (t ta d l : Addr) (r sz bl to : Int) (x : Tl) (ys : List Tl), vs = [.ref t, .int bl] ∧ RingAt CR CT H t ta d l r sz bl to x ys ∧ 0 ≤ bl ∧ NdZ x.c ∧ x.c.length ≤ 1000 ∧
  ∀ H' p s u (us : List Addr), Same H H' → H' p = some (.tup [.int to, .ref s, .ref u]) → SkAt H' s r x → H' u = some (.tup (us.map V.ref)) → Paired (fun s y => SkAt H' s r y) us (ys.drop (ys.length - bl.toNat)) → Q (.ref p) H'
theorem ok_stands (T : Blt mg) (nmax : mg "max" = none) (dP_is_int : DnIsInt K mg) (dP_is_within : DnIsWithin K mg) (L : Tal K mg) (Ri : Rng K mg) (d : Dnstands K mg) : FnOk P w K mg base CX0 4 d.f d.fd ["_law_ring", "_law_blocks"] (spStands Ri.C L.C) := by
  have GM : FnOk P w K mg base CX0 1 Ri.fM Ri.dM ["self"] (spRmany Ri.C L.C) := ok_Rmany Ri L.C
  have GN : FnOk P w K mg base CX0 2 Ri.fN Ri.dN ["self"] (spRnow Ri.C L.C) := ok_Rnow T L Ri
  have GL : FnOk P w K mg base CX0 3 Ri.fL Ri.dL ["self", "j"] (spRlast Ri.C L.C) := ok_Rlast T nmax dP_is_int dP_is_within Ri L.C
  refine d.F.ok scstands (fun vs H Q E h => ?_) (fun cdv A outer s H vs Q E hr h => ?_)
  · obtain ⟨t, ta, d, l, r, sz, bl, to, x, ys, rfl, _⟩ := h
    rfl
  · obtain ⟨t, ta, d, l, r, sz, bl, to, x, ys, rfl, ra, b0, nd, hc, q⟩ := h
    refine ⟨_, (pss_one (ps_ret (pe_tup (pa_cons (pe_meth0 (pv 0) Ri.cl Ri.mM GM (hr.mono (by omega)) Ri.bM .nil pass0) (pa_cons (pe_meth0 (pv 0) Ri.cl Ri.mN GN (hr.mono (by omega)) Ri.bN .nil pass0) (pa_cons (pe_meth (pv 0) Ri.cl Ri.mL GL (hr.mono (by omega)) Ri.bL .nil pass0 (pa_cons (pv 1) pa_nil)) pa_nil)))))), ?_⟩
    obtain ⟨bn, rfl⟩ := Int.eq_ofNat_of_zero_le b0
    obtain ⟨dx, fs, ht, rf⟩ := id ra.ob
    refine ⟨.ref t, rfl, t, dx, fs, rfl, ht, rf.no _ (by decide +kernel), t, ta, d, l, r, sz, _, to, x, ys, rfl, ra, ?_⟩
    refine ⟨.ref t, rfl, t, dx, fs, rfl, ht, rf.no _ (by decide +kernel), t, ta, d, l, r, sz, _, to, x, ys, rfl, ra, nd, hc, fun H1 s1 e1 n1 k1 => ?_⟩
    have ra1 := ra.same e1
    refine ⟨.ref t, rfl, t, dx, fs, rfl, e1 _ _ ht, rf.no _ (by decide +kernel), .int (bn : Int), rfl, t, ta, d, l, r, sz, _, to, x, ys, bn, rfl, ra1, Int.le_refl _, fun H2 u us e2 n2 hu hp => ⟨(by show 3 ≤ sizeLine; decide), fun p np => ?_⟩⟩
    have e3 := same_upd (o := .tup [.int to, .ref s1, .ref u]) np
    have e23 := Same.trans e2 e3
    refine q _ p s1 u us (Same.trans e1 e23) upd_same (k1.same e23) (e3 _ _ hu) ?_
    rw [Int.toNat_natCast]
    exact paired_imp (fun a b h => h.same e3) hp
end
end Kb

namespace Kb
open PySem PySem.Spec PyProof.Rows L2 SrtZ SrtO
abbrev sring_holds : Stmt := topS 83
theorem scring_holds : FnScope ["_law_well_here", "_law_names_here", "_law_blocks", "_law_ring", "_law_turn", "_law_odd", "_law_bad", "_law_before"] ["_law_well_here", "_law_names_here"] (defScope sring_holds) := ⟨rfl, rfl, rfl, by decide +kernel, rfl, by decide +kernel, by decide +kernel⟩
abbrev Dnring_holds (K : PySem.W.Frag) (mg : Str → Option Value) := Dn K mg "_law_ring_holds" sring_holds ["_law_well_here", "_law_names_here"]
theorem RingAt.exw {CR CT : Addr} {H H' : Hp} {t ta d l a c : Addr} {r sz bl to : Int} {x : Tl} {ys : List Tl} (h : RingAt CR CT H t ta d l r sz bl to x ys) (k : Exw a H H') (w : Wl a c H) (la : l ≠ a) : RingAt CR CT H' t ta d l r sz bl to x ys := by
  obtain ⟨⟨dx, fs, h1, h2⟩, ⟨⟨dy, h3⟩, h3'⟩, ⟨sks, h4, h5⟩, h6⟩ := h
  refine ⟨⟨dx, fs, k.at w h1 (by intro _ z; cases z), h2⟩, ⟨⟨dy, k.at w h3 (by intro _ z; cases z)⟩, k.at w h3' (by intro _ z; cases z)⟩, ⟨sks, k _ _ la h4, paired_imp (fun s y h => ?_) h5⟩, h6⟩
  obtain ⟨kk, ts, a1, ⟨ob, a2, a2'⟩, a3⟩ := h
  exact ⟨kk, ts, k.at w a1 (by intro _ z; cases z), ⟨ob, k.at w a2 (by intro _ z; cases z), a2'⟩, paired_imp (fun t e h => k.at w h (by intro _ z; cases z)) a3⟩
theorem Eqv.up {K : PySem.W.Frag} {H : Hp} : ∀ {n : Nat} {x y : V}, Eqv K n H x y → Eqv K (n + 1) H x y
  | 0, _, _, h => .inl h
  | n + 1, x, y, h => by
    rcases h with h | ⟨a, b, xs, ys, e1, e2, h1, h2, h3, h4, h5⟩
    · exact .inl h
    · exact .inr ⟨a, b, xs, ys, e1, e2, h1, h2, h3, h4, fun i u v hu hv => Eqv.up (h5 i u v hu hv)⟩
theorem tl0_ok' {r : Int} (hr : 1 ≤ r) : TlOk r tl0 := ⟨List.nodup_nil, (by show ((0 : Nat) : Int) ≤ r; omega), (fun _ h => nomatch h), fun _ h => nomatch h⟩
theorem wi_gt {lo hi v : Int} (h : hi < v) : wiB lo hi (some v) = false := by
  show (decide (lo ≤ v) && decide (v ≤ hi)) = false
  rw [decide_eq_false (by omega : ¬ v ≤ hi), Bool.and_false]
/-- a ring under way, all of it new -/
structure RgI (CR CT : Addr) (H0 H : Hp) (t ta d l : Addr) (r sz bl : Int) (n : Nat) (x : Tl) (ys : List Tl) : Prop where
  ra : RingAt CR CT H t ta d l r sz bl (n : Int) x ys
  ok : TlOk r x
  yl : (ys.length : Int) ≤ bl
  yc : ∀ y ∈ ys, y.c.length ≤ 1000
  nt : H0 t = none
  nta : H0 ta = none
  nd : H0 d = none
  nl : H0 l = none
theorem RgI.exw {CR CT : Addr} {H0 H H' : Hp} {t ta d l a c : Addr} {r sz bl : Int} {n : Nat} {x : Tl} {ys : List Tl} (h : RgI CR CT H0 H t ta d l r sz bl n x ys) (k : Exw a H H') (w : Wl a c H) (w0 : Wl a c H0) : RgI CR CT H0 H' t ta d l r sz bl n x ys :=
  ⟨h.ra.exw k w (w0.ne2 h.nl).1, h.ok, h.yl, h.yc, h.nt, h.nta, h.nd, h.nl⟩
theorem RgI.same {CR CT : Addr} {H0 H H' : Hp} {t ta d l : Addr} {r sz bl : Int} {n : Nat} {x : Tl} {ys : List Tl} (h : RgI CR CT H0 H t ta d l r sz bl n x ys) (s : Same H H') : RgI CR CT H0 H' t ta d l r sz bl n x ys :=
  ⟨h.ra.same s, h.ok, h.yl, h.yc, h.nt, h.nta, h.nd, h.nl⟩
/-- a ring is fed -/
theorem RgI.fed {CR CT : Addr} {H0 H H' : Hp} {t ta d l ta' d' l' a c I : Addr} {r sz bl : Int} {n : Nat} {x : Tl} {ys : List Tl} {z : Str} {ns : List Str} (h : RgI CR CT H0 H t ta d l r sz bl n x ys) (hr : 1 ≤ r) (hb : 0 ≤ bl) (hz : Nm z) (e0 : Exw a H0 H) (w0 : Wl a c H0) (w : Wl a c H) (hI : H I = some (.lst (ns.map V.str))) (b : But3 t ta d H H') (k1 : New3 H ta d ta') (k2 : New3 H ta d d') (k3 : l' = l ∨ New3 H ta d l')
    (ra : RingAt CR CT H' t ta' d' l' r sz bl ((n : Int) + 1) (ringX r sz n z x) (ringY r sz bl n z x ys)) (hR : r ≤ 64) : RgI CR CT H0 H' t ta' d' l' r sz bl (n + 1) (ringX r sz n z x) (ringY r sz bl n z x ys) ∧ Exw a H0 H' ∧ Wl a c H' ∧ H' I = some (.lst (ns.map V.str)) := by
  obtain ⟨dx, fs, ht, _⟩ := h.ra.ob
  obtain ⟨⟨dy, hta⟩, hd⟩ := h.ra.tal
  obtain ⟨ac, ms, p, u, q, ea, ec, rest⟩ := id w
  have nw : ∀ {p : Addr}, New3 H ta d p → H0 p = none := fun {p} h3 => by
    rcases h3 with rfl | rfl | h3
    · exact h.nta
    · exact h.nd
    · refine e0.gone (fun e => ?_) h3
      subst e
      rw [ea] at h3
      cases h3
  have lst : ∀ {p : Addr} {xs : List V}, H p = some (.lst xs) → H' p = some (.lst xs) := fun {p xs} e => b p _ (ne_of e ht (by intro z; cases z)) (ne_of e hta (by intro z; cases z)) (ne_of e hd (by intro z; cases z)) e
  refine ⟨⟨by push_cast; exact ra, ?_, ?_, ?_, h.nt, nw k1, nw k2, ?_⟩, fun b' o n' e => b b' o (ne_of_none e h.nt) (ne_of_none e h.nta) (ne_of_none e h.nd) (e0 b' o n' e), ⟨ac, ms, p, u, q, lst ea, lst ec, rest⟩, lst hI⟩
  · unfold ringX
    split
    · exact tl0_ok' hr
    · exact feedT_ok h.ok hr hz (by decide)
  · have := h.yl
    unfold ringY
    split
    · rw [List.length_drop, List.length_append, List.length_singleton]
      omega
    · exact this
  · unfold ringY
    split
    · intro y hy
      rcases List.mem_append.mp (List.mem_of_mem_drop hy) with hy | hy
      · exact h.yc y hy
      · rw [List.mem_singleton.mp hy]
        have := (feedT_ok h.ok hr hz (c := 1) (by decide)).len
        have h64 : (feedT r z 1 x).c.length ≤ 1000 ∨ 1000 < (feedT r z 1 x).c.length := by omega
        rcases h64 with h64 | h64
        · exact h64
        · exact absurd this (by have := hR; omega)
    · exact h.yc
  · rcases k3 with rfl | k3
    · exact h.nl
    · exact nw k3
section
variable {P : Program} {w : World} {K : PySem.W.Frag} {mg : Str → Option Value} {base : Heap}
def spRingHolds : Sp := fun vs H Q _ => ∃ (a c I : Addr) (ns : List Str), vs = [.ref a, .ref I] ∧ Wl a c H ∧ I ≠ a ∧ H I = some (.lst (ns.map V.str)) ∧ (∀ z ∈ ns, Nm z) ∧ 0 < ns.length ∧ ns.length ≤ 1000 ∧ ∀ H', Exw a H H' → Wl a c H' → Q (.bl true) H'
theorem ok_ring_holds (T : Blt mg) (F : ErX K mg) (nmax : mg "max" = none) (cM : Cst mg "MOST_ROOM" (.int 64)) (cL : Cst mg "LONGEST_NAME" (.int 8)) (cZ : Cst mg "MOST_SIZE" (.int 1000000)) (cB : Cst mg "MOST_BLOCKS" (.int 100)) (dP_is_int : DnIsInt K mg) (dP_is_room : DnIsRoom K mg) (dP_is_name : DnIsName K mg) (dP_bare : DnBare K mg) (dP_is_within : DnIsWithin K mg) (L : Tal K mg) (Ri : Rng K mg)
    (dmixed : Dnmixed K mg) (dfilled : Dnfilled K mg) (ddraw : Dndraw K mg) (droom : Dnroom K mg) (dalike : Dnalike K mg) (dasked : Dnasked K mg) (dstands : Dnstands K mg) (d : Dnring_holds K mg) : FnOk P w K mg base CX0 9 d.f d.fd ["_law_well_here", "_law_names_here"] spRingHolds := by
  have Gdraw : FnOk P w K mg base CX0 3 ddraw.f ddraw.fd ["_law_well_here", "_law_many"] spDraw := ok_draw T dmixed dfilled ddraw
  have Groom : FnOk P w K mg base CX0 4 droom.f droom.fd ["_law_well_here"] spRoom := ok_room T dmixed dfilled ddraw droom
  have GI : FnOk P w K mg base CX0 4 Ri.fI Ri.dI ["self", "room", "size", "blocks"] (spRinit Ri.C L.C) := ok_Rinit T cM cZ cB dP_is_int dP_is_room dP_bare dP_is_within L Ri
  have GM : FnOk P w K mg base CX0 1 Ri.fM Ri.dM ["self"] (spRmany Ri.C L.C) := ok_Rmany Ri L.C
  have Gstands : FnOk P w K mg base CX0 4 dstands.f dstands.fd ["_law_ring", "_law_blocks"] (spStands Ri.C L.C) := ok_stands T nmax dP_is_int dP_is_within L Ri dstands
  have Gasked : FnOk P w K mg base CX0 5 dasked.f dasked.fd ["_law_ring", "_law_word", "_law_thing"] (spAskedR K Ri.C L.C) := ok_askedR T F nmax cM cL dP_is_int dP_is_room dP_is_name dP_bare dP_is_within L Ri dasked
  have Galike : FnOk P w K mg base CX0 7 dalike.f dalike.fd ["_law_told", "_law_due"] (spAlike K 5) := ok_alike T dalike 6
  have neS : ∀ z : Str, (!decide (V.str z = V.str z)) = false := fun z => by rw [decide_eq_true rfl]; rfl
  refine d.F.ok scring_holds (fun vs H Q E h => ?_) (fun cdv A outer s H vs Q E hr h => ?_)
  · obtain ⟨a, c, I, ns, rfl, _⟩ := h
    rfl
  · obtain ⟨a, c, I, ns, rfl, hw, Ia, hI, hnm, n0, n1, q⟩ := h
    refine ⟨_, (pss_cons (ps_set (i := 2) scring_holds.nd rfl (Or.inl rfl) (pe_op op_add pe_int (pe_call Gdraw (hr.mono (by omega)) (by rfl) ddraw.g ddraw.F.kp ddraw.b .nil pass0 (pa_cons (pv 0) (pa_cons pe_int pa_nil)))))
    (pss_cons (ps_set (i := 3) scring_holds.nd rfl (Or.inl rfl) (pe_make Ri.mI GI (hr.mono (by omega)) (by rfl) Ri.g Ri.bI .nil pass0 (pa_cons (pe_call Groom (hr.mono (by omega)) (by rfl) droom.g droom.F.kp droom.b .nil pass0 (pa_cons (pv 0) pa_nil)) (pa_cons (pe_op op_add pe_int (pe_call Gdraw (hr.mono (by omega)) (by rfl) ddraw.g ddraw.F.kp ddraw.b .nil pass0 (pa_cons (pv 0) (pa_cons pe_int pa_nil)))) (pa_cons (pv 2) pa_nil)))))
    (pss_cons (ps_for PassesOwn.never rfl (pi_range1 (by rfl) T.n_range (pa_cons (pe_call Gdraw (hr.mono (by omega)) (by rfl) ddraw.g ddraw.F.kp ddraw.b .nil pass0 (pa_cons (pv 0) (pa_cons pe_int pa_nil))) pa_nil)) (pg_name (i := 4) scring_holds.nd rfl (Or.inl rfl))
      (pss_cons (ps_set (i := 5) scring_holds.nd rfl (Or.inl rfl) (pe_ix ix_list (pe_lst (pa_cons pe_non (pa_cons pe_str (pa_cons pe_str (pa_cons pe_str (pa_cons pe_int (pa_cons (pe_tupF (pa_cons pe_str pa_nil)) (pa_cons (pe_lst (pa_cons pe_str pa_nil)) (pa_cons pe_bl (pa_cons pe_str pa_nil)))))))))) (pe_call Gdraw (hr.mono (by omega)) (by rfl) ddraw.g ddraw.F.kp ddraw.b .nil pass0 (pa_cons (pv 0) (pa_cons pe_int pa_nil))) (fun _ _ => rfl)))
      (pss_cons (ps_set (i := 6) scring_holds.nd rfl (Or.inl rfl) (pe_ix ix_list (pe_lst (pa_cons (pe_un un_neg pe_int) (pa_cons (pe_op op_add (pv 2) pe_int) (pa_cons pe_bl (pa_cons pe_non (pa_cons pe_str (pa_cons (pe_tupF (pa_cons pe_int pa_nil)) (pa_cons (pe_op op_pow pe_int pe_int) pa_nil)))))))) (pe_call Gdraw (hr.mono (by omega)) (by rfl) ddraw.g ddraw.F.kp ddraw.b .nil pass0 (pa_cons (pv 0) (pa_cons pe_int pa_nil))) (fun _ _ => rfl)))
      (pss_cons (ps_set (i := 7) scring_holds.nd rfl (Or.inl rfl) (pe_call Gstands (hr.mono (by omega)) (by rfl) dstands.g dstands.F.kp dstands.b .nil pass0 (pa_cons (pv 3) (pa_cons (pv 2) pa_nil))))
      (pss_cons (ps_if (PW.pt (pw_or (pt_cmpR op_ne (pe_call Gasked (hr.mono (by omega)) (by rfl) dasked.g dasked.F.kp dasked.b .nil pass0 (pa_cons (pv 3) (pa_cons pe_str (pa_cons (pv 5) pa_nil)))) pe_str (nomark _)) (pw_or1 (pt_cmpR op_ne (pe_call Gasked (hr.mono (by omega)) (by rfl) dasked.g dasked.F.kp dasked.b .nil pass0 (pa_cons (pv 3) (pa_cons pe_str (pa_cons (pv 6) pa_nil)))) pe_str (nomark _)))))
        (pss_one (ps_ret pe_bl))
        pss_nil)
      (pss_cons (ps_if (PW.pt (pw_or (pt_not (pt_val (pe_call Galike (hr.mono (by omega)) (by rfl) dalike.g dalike.F.kp dalike.b .nil pass0 (pa_cons (pe_call Gstands (hr.mono (by omega)) (by rfl) dstands.g dstands.F.kp dstands.b .nil pass0 (pa_cons (pv 3) (pa_cons (pv 2) pa_nil))) (pa_cons (pv 7) pa_nil))))) (pw_or1 (pt_cmpR op_ne (pe_call Gasked (hr.mono (by omega)) (by rfl) dasked.g dasked.F.kp dasked.b .nil pass0 (pa_cons (pv 3) (pa_cons pe_str (pa_cons (pv 2) pa_nil)))) pe_str (nomark _)))))
        (pss_one (ps_ret pe_bl))
        pss_nil)
      (pss_one (ps_if (PW.pt (pw_or (pt_cmpR op_ne (pe_call Gasked (hr.mono (by omega)) (by rfl) dasked.g dasked.F.kp dasked.b .nil pass0 (pa_cons (pv 3) (pa_cons pe_str (pa_cons (pe_ix ix_list (pv 1) (pe_call Gdraw (hr.mono (by omega)) (by rfl) ddraw.g ddraw.F.kp ddraw.b .nil pass0 (pa_cons (pv 0) (pa_cons (pe_callB call_len_seq (by rfl) T.n_len (by decide +kernel) (pa_cons (pv 1) pa_nil)) pa_nil))) (fun _ _ => rfl)) pa_nil)))) pe_str (nomark _)) (pw_or1 (pt_cmpR op_ne (pe_meth0 (pv 3) Ri.cl Ri.mM GM (hr.mono (by omega)) Ri.bM .nil pass0) (pe_op op_add (pv 4) pe_int) (nomark _)))))
        (pss_one (ps_ret pe_bl))
        pss_nil))))))))
    (pss_one (ps_ret pe_bl))))), ?_⟩
    refine ⟨.ref a, rfl, a, c, 4, rfl, hw, (by decide), (by decide), fun H1 k1 x1 w1 k10 k11 => ⟨_, _, rfl, rfl, ?_⟩⟩
    obtain ⟨k1, rfl⟩ := Int.eq_ofNat_of_zero_le k10
    refine ⟨.ref a, rfl, a, c, rfl, w1, fun H2 r x2 w2 r1 r64 => ⟨.ref a, rfl, a, c, 4, rfl, w2, (by decide), (by decide), fun H3 s3 x3 w3 s30 s31 => ⟨_, _, rfl, rfl, ?_⟩⟩⟩
    have eb : (1 : Int) + (k1 : Int) = ((1 + k1 : Nat) : Int) := by push_cast; rfl
    refine ⟨.int (1 + (k1 : Int)), rfl, fun t dx nt ndx hne => ⟨t, dx, r, 1 + s3, 1 + (k1 : Int), rfl, upd_same, r1, r64, by omega, by omega, by omega, by omega, fun H4 ta dd l kp nta nd nl ra => ⟨rfl, ?_⟩⟩⟩
    dsimp only
    have x03 := (x1.trans x2).trans x3
    have sI : Same H3 (upd (upd H3 dx (.own t)) t (.ins Ri.C dx [])) := Same.new (same_upd ndx) (by rw [upd_ne hne.symm]; exact nt)
    have s34 : Same H3 H4 := fun b u e => kp b u (ne_of_none e nt) (sI _ _ e)
    have x04 : Exw a H H4 := x03.same s34
    have w4 := w3.same s34
    have gone : ∀ {p : Addr}, H3 p = none → H p = none := fun {p} e => x03.gone (w3.ne2 e).1 e
    have hI4 : H4 I = some (.lst (ns.map V.str)) := x04.strs hw hI
    rw [eb] at ra ⊢
    generalize hbl : ((1 + k1 : Nat) : Int) = bl at ra ⊢
    have b1 : 1 ≤ bl := by omega
    have b4 : bl ≤ 4 := by omega
    generalize hsz : 1 + s3 = sz at ra
    have z1 : 1 ≤ sz := by omega
    have z2 : sz ≤ 1000000 := by omega
    have R4 : RgI Ri.C L.C H H4 t ta dd l r sz bl 0 tl0 [] := ⟨ra, tl0_ok' r1, by show (0 : Int) ≤ bl; omega, fun _ h => (nomatch h), gone nt, gone (Same.gone sI nta), gone (Same.gone sI nd), gone (Same.gone sI nl)⟩
    refine ⟨.ref a, rfl, a, c, 21, rfl, w4, (by decide), (by decide), fun H5 m x5 w5 m0 m1 => ?_⟩
    obtain ⟨m, rfl⟩ := Int.eq_ofNat_of_zero_le m0
    refine ⟨(m : Int), rfl, by omega, by omega, ?_⟩
    rw [Int.toNat_natCast]
    refine for_range (lo := 0) (n := m) (fun i σ H6 => ∃ (ta d l : Addr) (x : Tl) (ys : List Tl) (y4 y5 y6 y7 : Option V), σ = [some (.ref a), some (.ref I), some (.int bl), some (.ref t), y4, y5, y6, y7] ∧ RgI Ri.C L.C H H6 t ta d l r sz bl i x ys ∧ Exw a H H6 ∧ Wl a c H6 ∧ H6 I = some (.lst (ns.map V.str)))
      ⟨ta, dd, l, tl0, [], none, none, none, none, rfl, R4.exw x5 w4 hw, x04.trans x5, w5, x5.strs w4 hI4⟩ (fun i σ H6 hi h6 => ?_) (fun σ H6 h6 => ?_)
    · obtain ⟨ta6, d6, l6, x6, ys6, y4, y5, y6, y7, rfl, R6, e6, w6, hI6⟩ := h6
      rw [Int.zero_add]
      -- odd
      refine ⟨(by show 1 ≤ sizeLine; decide), fun t5 o5 n5 ho5 => ⟨(by show 1 ≤ sizeLine; decide), fun l5 nl5 => ⟨(by show 9 ≤ sizeLine; decide), fun p np => ?_⟩⟩⟩
      have s1 := same_upd (o := .frz o5 (.tup [.str (Str.ofString "a")])) n5
      have k5 : Ptp (upd H6 t5 (.frz o5 (.tup [.str (Str.ofString "a")]))) t5 [.str (Str.ofString "a")] := ⟨o5, upd_same, ho5⟩
      generalize upd H6 t5 (.frz o5 (.tup [.str (Str.ofString "a")])) = G1 at s1 k5 nl5 np ⊢
      have s2 := same_upd (o := .lst [.str (Str.ofString "a")]) nl5
      have k5' : (upd G1 l5 (.lst [.str (Str.ofString "a")])) l5 = some (.lst [.str (Str.ofString "a")]) := upd_same
      generalize upd G1 l5 (.lst [.str (Str.ofString "a")]) = G2 at s2 k5' np ⊢
      have s3 := same_upd (o := .lst [.non, .str (Str.ofString ""), .str (Str.ofString "A"), .str (Str.ofString "abcdefghi"), .int 5, .ref t5, .ref l5, .bl true, .str (Str.ofString "a b")]) np
      have k6 : (upd G2 p (.lst [.non, .str (Str.ofString ""), .str (Str.ofString "A"), .str (Str.ofString "abcdefghi"), .int 5, .ref t5, .ref l5, .bl true, .str (Str.ofString "a b")])) p = some (.lst [.non, .str (Str.ofString ""), .str (Str.ofString "A"), .str (Str.ofString "abcdefghi"), .int 5, .ref t5, .ref l5, .bl true, .str (Str.ofString "a b")]) := upd_same
      have pw := ((w6.same s1).same s2).ne2 np
      generalize upd G2 p (.lst [.non, .str (Str.ofString ""), .str (Str.ofString "A"), .str (Str.ofString "abcdefghi"), .int 5, .ref t5, .ref l5, .bl true, .str (Str.ofString "a b")]) = G3 at s3 k6 ⊢
      have la : (Str.ofString "a").length ≤ 5000 := by rw [show (Str.ofString "a").length = 1 by decide +kernel]; decide
      have hodd : Paired (fun v d => DatAt K (2 ^ 90) 5000 1 G3 v d ∧ nameD d = false) [.non, .str (Str.ofString ""), .str (Str.ofString "A"), .str (Str.ofString "abcdefghi"), .int 5, .ref t5, .ref l5, .bl true, .str (Str.ofString "a b")] [.non, .str (Str.ofString ""), .str (Str.ofString "A"), .str (Str.ofString "abcdefghi"), .int 5, .tup [.str (Str.ofString "a")], .odd, .bl true, .str (Str.ofString "a b")] :=
        .cons ⟨.lnon, rfl⟩ (.cons ⟨.lstr (by rw [show (Str.ofString "").length = 0 by decide +kernel]; decide), by decide +kernel⟩ (.cons ⟨.lstr (by rw [show (Str.ofString "A").length = 1 by decide +kernel]; decide), by decide +kernel⟩ (.cons ⟨.lstr (by rw [show (Str.ofString "abcdefghi").length = 9 by decide +kernel]; decide), by decide +kernel⟩ (.cons ⟨.lint (by decide), rfl⟩ (.cons ⟨.ltup ((k5.same s2).same s3) (by show 1 ≤ 5000; decide) (.cons (.lstr la) .nil), rfl⟩ (.cons ⟨.lodd (.inl ⟨_, sql (s3 _ _ k5')⟩), rfl⟩ (.cons ⟨.lbl, rfl⟩ (.cons ⟨.lstr (by rw [show (Str.ofString "a b").length = 3 by decide +kernel]; decide), by decide +kernel⟩ .nil))))))))
      have s63 := Same.trans (Same.trans s1 s2) s3
      refine ⟨.ref a, rfl, a, c, 9, rfl, w6.same s63, (by decide), (by decide), fun G4 k x4 v4 k0 k9 => ?_⟩
      obtain ⟨kn, rfl⟩ := Int.eq_ofNat_of_zero_le k0
      obtain ⟨vo, dvo, hvo, hdo, hno⟩ := pick hodd (j := kn) (by show kn < 9; omega)
      have hdo := hdo.keep (dk_exw (K := K) x4 (w6.same s63) v4)
      have R7 := (R6.same s63).exw x4 (w6.same s63) hw
      have e7 := (e6.same s63).trans x4
      have hI7 := x4.strs (w6.same s63) (s63 _ _ hI6)
      refine ⟨p, _, _, _, rfl, rfl, sql (x4 _ _ pw.1 k6), atI_nat hvo, ?_⟩
      clear hodd k5 k5' k6 x4 pw s63 s1 s2 s3 R6 e6 w6 hI6
      -- bad
      refine ⟨1, rfl, .int bl, rfl, _, _, rfl, rfl, (by show 1 ≤ sizeLine; decide), fun t6 o6 n6 ho6 => ⟨_, _, rfl, rfl, ⟨by decide, by decide, by decide⟩, (by show 7 ≤ sizeLine; decide), fun p np => ?_⟩⟩
      have s1 := same_upd (o := .frz o6 (.tup [.int 0])) n6
      have k5 : Ptp (upd G4 t6 (.frz o6 (.tup [.int 0]))) t6 [.int 0] := ⟨o6, upd_same, ho6⟩
      generalize upd G4 t6 (.frz o6 (.tup [.int 0])) = G5 at s1 k5 np ⊢
      have s2 := same_upd (o := .lst [.int (-1), .int (bl + 1), .bl true, .non, .str (Str.ofString "0"), .ref t6, .int (10 ^ (20 : Int).toNat)]) np
      have k6 : (upd G5 p (.lst [.int (-1), .int (bl + 1), .bl true, .non, .str (Str.ofString "0"), .ref t6, .int (10 ^ (20 : Int).toNat)])) p = some (.lst [.int (-1), .int (bl + 1), .bl true, .non, .str (Str.ofString "0"), .ref t6, .int (10 ^ (20 : Int).toNat)]) := upd_same
      have pw := (v4.same s1).ne2 np
      generalize upd G5 p (.lst [.int (-1), .int (bl + 1), .bl true, .non, .str (Str.ofString "0"), .ref t6, .int (10 ^ (20 : Int).toNat)]) = G6 at s2 k6 ⊢
      have hbad : Paired (fun v d => DatAt K (2 ^ 90) 5000 1 G6 v d ∧ wiB 0 bl (intD d) = false) [.int (-1), .int (bl + 1), .bl true, .non, .str (Str.ofString "0"), .ref t6, .int (10 ^ (20 : Int).toNat)] [.int (-1), .int (bl + 1), .bl true, .non, .str (Str.ofString "0"), .tup [.int 0], .int (10 ^ (20 : Int).toNat)] := by
        refine .cons ⟨.lint (by decide), ?_⟩ (.cons ⟨.lint (by omega), ?_⟩ (.cons ⟨.lbl, rfl⟩ (.cons ⟨.lnon, rfl⟩ (.cons ⟨.lstr (by rw [show (Str.ofString "0").length = 1 by decide +kernel]; decide), rfl⟩ (.cons ⟨.ltup (k5.same s2) (by show 1 ≤ 5000; decide) (.cons (.lint (by decide)) .nil), rfl⟩ (.cons ⟨.lint (by decide +kernel), ?_⟩ .nil))))))
        · rfl
        · exact wi_gt (by omega)
        · exact wi_gt (by rw [show (10 : Int) ^ (20 : Int).toNat = 100000000000000000000 by decide +kernel]; omega)
      have s46 := Same.trans s1 s2
      refine ⟨.ref a, rfl, a, c, 7, rfl, v4.same s46, (by decide), (by decide), fun G7 k x7 v7 k0 k9 => ?_⟩
      obtain ⟨kn2, rfl⟩ := Int.eq_ofNat_of_zero_le k0
      obtain ⟨vb, dvb, hvb, hdb, hnb⟩ := pick hbad (j := kn2) (by show kn2 < 7; omega)
      have kk := dk_exw (K := K) x7 (v4.same s46) v7
      have hdb := hdb.keep kk
      have hdo := (hdo.same s46).keep kk
      have R8 := (R7.same s46).exw x7 (v4.same s46) hw
      have e8 := (e7.same s46).trans x7
      have hI8 := x7.strs (v4.same s46) (s46 _ _ hI7)
      refine ⟨p, _, _, _, rfl, rfl, sql (x7 _ _ pw.1 k6), atI_nat hvb, ?_⟩
      clear hbad k5 k6 x7 pw s46 s1 s2 R7 e7 v4 hI7 kk
      -- before
      have xl := R8.ok.len
      refine ⟨.ref t, rfl, .int bl, rfl, t, ta6, d6, l6, r, sz, bl, _, x6, ys6, rfl, R8.ra, by omega, R8.ok.nd, by omega, fun G8 pb sb ub usb s8 hpb hsb hub husb => ?_⟩
      have R9 := R8.same s8
      obtain ⟨dx9, fs9, ht9, rf9⟩ := id R9.ra.ob
      refine ⟨.ref t, rfl, vo, rfl, .inl ⟨t, dx9, fs9, vo, dvo, rfl, ht9, rf9.no _ (by decide +kernel), ⟨1, hdo.same s8⟩, hno, fun G9 s9 => ⟨rfl, false, congrArg V.bl (neS _), iteF ?_⟩⟩⟩
      have RA := R9.same s9
      refine ⟨.ref t, rfl, vb, rfl, .inr (.inl ⟨t, ta6, d6, l6, r, sz, bl, _, x6, ys6, vb, dvb, rfl, RA.ra, ⟨1, (hdb.same s8).same s9⟩, hnb, ⟨rfl, false, congrArg V.bl (neS _), iteF ?_⟩⟩)⟩
      -- alike
      refine ⟨.ref t, rfl, .int bl, rfl, t, ta6, d6, l6, r, sz, bl, _, x6, ys6, rfl, RA.ra, by omega, RA.ok.nd, by omega, fun GA pa sa ua usa sA hpa hsa hua husa => ⟨.ref pb, rfl, .ref pa, .ref pb, rfl, ?_, fun GB sB => ⟨true, rfl, iteF ?_⟩⟩⟩
      · have s8A := Same.trans s9 sA
        refine .inr ⟨pa, pb, _, _, rfl, rfl, .inl (.inl hpa), .inl (.inl (s8A _ _ hpb)), rfl, (by show 3 ≤ 1000; decide), fun j u v hu hv => ?_⟩
        match j, hu, hv with
        | 0, hu, hv =>
          cases hu
          cases hv
          exact .inl (.inl ⟨_, rfl, rfl⟩)
        | 1, hu, hv =>
          cases hu
          cases hv
          exact Eqv.up (eqv_sk hsa (hsb.same s8A) (by omega))
        | 2, hu, hv =>
          cases hu
          cases hv
          refine eqv_sks (.inl (.inl hua)) (.inl (.inl (s8A _ _ hub))) husa (paired_imp (fun s y h => h.same s8A) husb) ?_ ?_
          · have := R8.yl
            rw [List.length_drop]
            omega
          · exact fun y hy => R8.yc y (List.mem_of_mem_drop hy)
        | j + 3, hu, hv => simp at hu
      have sAll : Same G7 GB := Same.trans (Same.trans (Same.trans s8 s9) sA) sB
      have RB := R8.same sAll
      have eB := e8.same sAll
      have wB := v7.same sAll
      have hIB := sAll _ _ hI8
      obtain ⟨bn, hbn⟩ := Int.eq_ofNat_of_zero_le (show 0 ≤ bl by omega)
      refine ⟨.ref t, rfl, .int bl, rfl, .inr (.inr (.inl ⟨t, ta6, d6, l6, r, sz, bl, _, x6, ys6, bn, by rw [hbn]; rfl, RB.ra, by omega, fun GC sC => ⟨rfl, false, congrArg V.bl (neS _), iteF ?_⟩⟩))⟩
      have RC := RB.same sC
      have eC := eB.same sC
      have wC := wB.same sC
      have hIC := sC _ _ hIB
      -- feed
      refine ⟨.ref t, rfl, .ref I, rfl, .ref a, rfl, .ref I, rfl, I, _, rfl, .inl (sql hIC), a, c, _, rfl, wC, by rw [List.length_map]; omega, by rw [List.length_map]; omega, fun GD k xD wD k0 kl => ?_⟩
      obtain ⟨kz, rfl⟩ := Int.eq_ofNat_of_zero_le k0
      rw [List.length_map] at kl
      have hkz : kz < ns.length := by omega
      have hzz : (ns.map V.str)[kz]? = some (.str ns[kz]) := by rw [List.getElem?_map, List.getElem?_eq_getElem hkz]; rfl
      have hnz := hnm _ (List.getElem_mem hkz)
      have RD := RC.exw xD wC hw
      have eD := eC.trans xD
      have hID := xD.strs wC hIC
      refine ⟨I, _, _, _, rfl, rfl, sql hID, atI_nat hzz, .inr (.inr (.inr ⟨t, ta6, d6, l6, r, sz, bl, _, x6, ys6, _, rfl, RD.ra, hnz, RD.ok, r1, r64, z1, z2, b1, by omega, by omega, by have := RD.yl; omega, fun GE taE dE lE bE k1E k2E k3E raE => ⟨rfl, false, congrArg V.bl (neS _), iteF ?_⟩⟩))⟩
      obtain ⟨RE, eE, wE, hIE⟩ := RD.fed r1 (by omega) hnz eD hw wD hID bE k1E k2E k3E raE r64
      obtain ⟨dxE, fsE, htE, rfE⟩ := id RE.ra.ob
      refine ⟨.ref t, rfl, t, dxE, fsE, rfl, htE, rfE.no _ (by decide +kernel), t, taE, dE, lE, r, sz, bl, _, _, _, rfl, RE.ra, .int (i : Int), rfl, _, _, rfl, rfl, rfl, false, congrArg V.bl ?_, iteF ⟨taE, dE, lE, _, _, _, _, _, _, rfl, RE, eE, wE, hIE⟩⟩
      rw [decide_eq_true (by push_cast; rfl)]
      rfl
    · obtain ⟨ta6, d6, l6, x6, ys6, y4, y5, y6, y7, rfl, R6, e6, w6, hI6⟩ := h6
      exact q H6 e6 w6
end
end Kb

namespace Kb
open PySem PySem.Spec PyProof.Rows L2 SrtZ SrtO
abbrev PrP (H : Hp) (t : Addr) (y : Str × Int) : Prop := Ptp H t [.str y.1, .int y.2]
theorem prp_exw {a c : Addr} {H H' : Hp} (x : Exw a H H') (w : Wl a c H) : ∀ {ts : List Addr} {kvs : Ct}, Paired (PrP H) ts kvs → Paired (PrP H') ts kvs
  | _, _, .nil => .nil
  | _, _, .cons h t => .cons (ptp_exw x w h) (prp_exw x w t)
theorem ptp_put {H : Hp} {t D : Addr} {xs zs ws : List V} (h : Ptp H t xs) (hD : H D = some (.lst zs)) : Ptp (upd H D (.lst ws)) t xs := by
  obtain ⟨o, e, d⟩ := h
  exact ⟨o, by rw [upd_ne (ne_of e hD (by intro z; cases z))]; exact e, d⟩
/-- a sketch as data -/
abbrev prJ (e : Str × Int) : Dat := .tup [.str e.1, .int e.2]
abbrev skJ (r m o : Int) (kvs : Ct) : Dat := .tup [.int r, .int m, .int o, .tup (kvs.map prJ)]
theorem cts_ctsB : ∀ {kvs : Ct} {la : Str}, Cts kvs → (∀ e ∈ kvs, ltZ la e.1 = true) → ctsB la (kvs.map prJ) = true
  | [], _, _, _ => rfl
  | e :: kvs, la, c, h => by
    show (cntB (prJ e) && (ltZ la e.1 && ctsB e.1 (kvs.map prJ))) = true
    have h1 : cntB (prJ e) = true := by
      show (nmB e.1 && decide (1 ≤ e.2)) = true
      rw [nmB_nm.mpr (c.nm e List.mem_cons_self), decide_eq_true (c.pos e List.mem_cons_self)]
      rfl
    have asc := c.asc
    rw [List.pairwise_cons] at asc
    rw [h1, h e List.mem_cons_self, cts_ctsB ⟨fun f hf => c.nm f (List.mem_cons_of_mem _ hf), fun f hf => c.pos f (List.mem_cons_of_mem _ hf), asc.2⟩ asc.1]
    rfl
theorem lt_empty {z : Str} (h : Nm z) : ltZ (Str.ofString "") z = true := by
  have h1 := h.pos
  show decide _ = true
  rw [show (Str.ofString "").cps.toList = [] by decide +kernel]
  refine decide_eq_true ?_
  cases hz : z.cps.toList with
  | nil =>
    have : z.length = 0 := by rw [← cs_len]; unfold cs; rw [hz]; rfl
    omega
  | cons c r => exact List.nil_lt_cons c r
theorem kv_map (kvs : Ct) : (kvs.map prJ).map kvO = kvs := by
  rw [List.map_map]
  exact List.map_id kvs
theorem skJ_yes {r m o : Int} {kvs : Ct} (g : SkG r m o kvs) : skD (skJ r m o kvs) = true := by
  show ((decide (1 ≤ r) && decide (r ≤ 64)) && (decide (0 ≤ m) && (decide (0 ≤ o) && (ctsB (Str.ofString "") (kvs.map prJ) && (decide (((kvs.map prJ).length : Int) ≤ r) && (decide ((r + 1) * o ≤ m - sumC ((kvs.map prJ).map kvO)) && decide (m - sumC ((kvs.map prJ).map kvO) ≤ 2 * r * o))))))) = true
  rw [kv_map, List.length_map, cts_ctsB g.cts (fun e he => lt_empty (g.cts.nm e he)), decide_eq_true g.r1, decide_eq_true g.r64, decide_eq_true g.m0, decide_eq_true g.o0, decide_eq_true g.len, decide_eq_true g.lo, decide_eq_true g.hi]
  rfl
theorem nodJ (r m o : Int) (kvs : Ct) : nod (skJ r m o kvs) = 5 + 3 * kvs.length := by
  have h : ∀ kvs : Ct, nodL (kvs.map prJ) = 3 * kvs.length := by
    intro kvs
    induction kvs with
    | nil => rw [List.map_nil, nodL]; rfl
    | cons e kvs ih =>
      rw [List.map_cons, nodL, ih, nod_tup, nodL, nodL, nodL, nod, nod, List.length_cons]
      · omega
      · intro xs z; cases z
      · intro xs z; cases z
  rw [nod_tup, nodL, nodL, nodL, nodL, nodL, nod_tup, h, nod, nod, nod]
  · omega
  · intro xs z; cases z
  · intro xs z; cases z
  · intro xs z; cases z
theorem dat_prs {K : PySem.W.Frag} {H : Hp} : ∀ {ts : List Addr} {kvs : Ct}, Paired (PrP H) ts kvs → (∀ e ∈ kvs, Nm e.1 ∧ 1 ≤ e.2 ∧ e.2 ≤ 1000000) → Paired (DatAt K (2 ^ 31) 64 1 H) (ts.map V.ref) (kvs.map prJ)
  | _, _, .nil, _ => .nil
  | _, e :: kvs, .cons h t, c => by
    obtain ⟨c1, c2, c3⟩ := c e List.mem_cons_self
    have := c1.len
    exact .cons (.ltup h (by show 2 ≤ 64; decide) (.cons (.lstr (by omega)) (.cons (.lint (by omega)) .nil))) (dat_prs t fun f hf => c f (List.mem_cons_of_mem _ hf))
theorem dat_sk {K : PySem.W.Frag} {H : Hp} {s k : Addr} {r m o : Int} {ts : List Addr} {kvs : Ct} (h1 : Ptp H s [.int r, .int m, .int o, .ref k]) (h2 : Ptp H k (ts.map V.ref)) (h3 : Paired (PrP H) ts kvs) (c : Cts kvs) (cm : ∀ e ∈ kvs, e.2 ≤ 1000000) (hl : kvs.length ≤ 64) (hr : r.natAbs ≤ 1000000) (hm : m.natAbs ≤ 1000000) (ho : o.natAbs ≤ 1000000) : DatAt K (2 ^ 31) 64 3 H (.ref s) (skJ r m o kvs) :=
  .ltup h1 (by show 4 ≤ 64; decide) (.cons (.lint (by omega)) (.cons (.lint (by omega)) (.cons (.lint (by omega)) (.cons (.ltup h2 (by rw [List.length_map, Paired.length h3]; exact hl) (dat_prs h3 fun e he => ⟨c.nm e he, c.pos e he, cm e he⟩)) .nil))))
section
variable {P : Program} {w : World} {K : PySem.W.Frag} {mg : Str → Option Value} {base : Heap}
/-! _law_kept, of small ones -/
def spKeptP : Sp := fun vs H Q _ => ∃ (a c l : Addr) (r : Int) (ys : List Str), vs = [.ref a, .ref l, .int r, .bl true] ∧ Wl a c H ∧ H l = some (.lst (ys.map V.str)) ∧ (ys.Pairwise fun a b => ltZ a b = true) ∧ (∀ y ∈ ys, Nm y) ∧ ys.length ≤ 1000 ∧ 0 ≤ r ∧ r ≤ 64 ∧
  ∀ H' k (ts : List Addr) (kvs : Ct), Exw a H H' → Wl a c H' → Ptp H' k (ts.map V.ref) → Paired (PrP H') ts kvs → Cts kvs → (kvs.length : Int) ≤ r → (∀ e ∈ kvs, e.2 ≤ 6) → Q (.ref k) H'
theorem ok_keptP (T : Blt mg) (dmixed : Dnmixed K mg) (dfilled : Dnfilled K mg) (ddraw : Dndraw K mg) (dnumber : Dnnumber K mg) (d : Dnkept K mg) : FnOk P w K mg base CX0 5 d.f d.fd ["_law_well_here", "_law_names_here", "_law_room_here", "_law_small"] spKeptP := by
  have Gdraw : FnOk P w K mg base CX0 3 ddraw.f ddraw.fd ["_law_well_here", "_law_many"] spDraw := ok_draw T dmixed dfilled ddraw
  have Gnumber : FnOk P w K mg base CX0 4 dnumber.f dnumber.fd ["_law_well_here"] spNumber := ok_number T dmixed dfilled ddraw dnumber
  refine d.F.ok sckept (fun vs H Q E h => ?_) (fun cdv A outer s H vs Q E hr h => ?_)
  · obtain ⟨a, c, l, r, ys, rfl, _⟩ := h
    rfl
  · obtain ⟨a, c, l, r, ys, rfl, hw, hl, asc, nm, hyl, hr0, hr64, q⟩ := h
    refine ⟨_, (pss_cons (ps_set (i := 4) sckept.nd rfl (Or.inl rfl) (pe_lst pa_nil))
    (pss_cons (ps_for PassesOwn.never rfl (pi_list (pv 1)) (pg_name (i := 5) sckept.nd rfl (Or.inl rfl))
      (pss_one (ps_if (PW.pt (pw_and (pt_cmpR op_lt (pe_callB call_len_seq (by rfl) T.n_len (by decide +kernel) (pa_cons (pv 4) pa_nil)) (pv 2) (nomark _)) (pw_and1 (pt_cmpR op_gt (pe_call Gdraw (hr.mono (by omega)) (by rfl) ddraw.g ddraw.F.kp ddraw.b .nil pass0 (pa_cons (pv 0) (pa_cons pe_int pa_nil))) pe_int (nomark _)))))
        (pss_one (ps_expr (pe_bm PySem.F.plainAttrs_list PySem.F.slot_list_append PySem.F.type_list_append mt_append (pv 4) (pa_cons (pe_tupF (pa_cons (pv 5) (pa_cons (pe_op op_add pe_int (pe_ix ix_list (pe_lst (pa_cons (pe_call Gdraw (hr.mono (by omega)) (by rfl) ddraw.g ddraw.F.kp ddraw.b .nil pass0 (pa_cons (pv 0) (pa_cons pe_int pa_nil))) (pa_cons (pe_call Gnumber (hr.mono (by omega)) (by rfl) dnumber.g dnumber.F.kp dnumber.b .nil pass0 (pa_cons (pv 0) pa_nil)) pa_nil))) (pe_callTy call_int1 (by rfl) T.n_int (by decide +kernel) (pa_cons (pe_not (pv 3)) pa_nil)) (fun _ _ => rfl))) pa_nil))) pa_nil))))
        pss_nil)))
    (pss_one (ps_ret (pe_callTy call_tupleF (by rfl) T.n_tuple (by decide +kernel) (pa_cons (pv 4) pa_nil)))))), ?_⟩
    refine ⟨(by show 0 ≤ sizeLine; decide), fun D nD => ?_⟩
    have Dw := hw.ne2 nD
    have lD : l ≠ D := ne_of_none hl nD
    refine ⟨.ref l, rfl, l, rfl, ⟨_, sql (by rw [upd_ne lD]; exact hl)⟩, for_list (xs := ys.map V.str) (fun i σ H3 => ∃ (y5 : Option V) (us : List Addr) (kvs : Ct), σ = [some (.ref a), some (.ref l), some (.int r), some (.bl true), some (.ref D), y5] ∧ Exw a H H3 ∧ Wl a c H3 ∧ H3 D = some (.lst (us.map V.ref)) ∧ Paired (PrP H3) us kvs ∧ (kvs.map (·.1)).Sublist (ys.take i) ∧ (∀ e ∈ kvs, 1 ≤ e.2 ∧ e.2 ≤ 6) ∧ (kvs.length : Int) ≤ r ∧ H3 l = some (.lst (ys.map V.str)))
      ⟨none, [], [], rfl, (Exw.refl a H).put nD, hw.same (same_upd nD), upd_same, .nil, List.Sublist.refl _, (fun _ h => nomatch h), hr0, by rw [upd_ne lD]; exact hl⟩ (fun i σ H3 _ ⟨_, _, _, _, _, _, _, _, _, _, _, h⟩ => sql h) ?_ ?_⟩
    · rintro i v σ H3 hi ⟨y5, us, kvs, rfl, x3, w3, hD, hp, hsub, hv, hkl, hl3⟩
      obtain ⟨y, hy, rfl⟩ := map_at hi
      have tk : ys.take (i + 1) = ys.take i ++ [y] := by rw [List.take_add_one, hy]; rfl
      have hul := Paired.length hp
      have skip : ∀ {H4 : Hp}, Exw a H3 H4 → Wl a c H4 → ∃ (y5 : Option V) (us : List Addr) (kvs : Ct), [some (V.ref a), some (.ref l), some (.int r), some (.bl true), some (.ref D), some (.str y)] = [some (.ref a), some (.ref l), some (.int r), some (.bl true), some (.ref D), y5] ∧ Exw a H H4 ∧ Wl a c H4 ∧ H4 D = some (.lst (us.map V.ref)) ∧ Paired (PrP H4) us kvs ∧ (kvs.map (·.1)).Sublist (ys.take (i + 1)) ∧ (∀ e ∈ kvs, 1 ≤ e.2 ∧ e.2 ≤ 6) ∧ (kvs.length : Int) ≤ r ∧ H4 l = some (.lst (ys.map V.str)) := fun {H4} x4 w4 =>
        ⟨_, us, kvs, rfl, x3.trans x4, w4, x4 _ _ Dw.1 hD, prp_exw x4 w3 hp, hsub.trans (by rw [tk]; exact List.sublist_append_left _ _), hv, hkl, x4.strs w3 hl3⟩
      refine ⟨.ref D, rfl, D, _, rfl, .inl (sql hD), .int r, rfl, _, _, rfl, rfl, _, rfl, ?_⟩
      refine ite2 (fun hlt => ?_) fun _ => skip (Exw.refl a H3) w3
      have hlt : ((us.map V.ref).length : Int) < r := of_decide_eq_true hlt
      rw [List.length_map, hul] at hlt
      refine ⟨.ref a, rfl, a, c, 4, rfl, w3, (by decide), (by decide), fun H4 k4 x4 w4 k40 k41 => ⟨_, _, rfl, rfl, _, rfl, ?_⟩⟩
      refine ite2 (fun _ => ?_) fun _ => skip x4 w4
      have hD4 := x4 _ _ Dw.1 hD
      refine ⟨.ref D, rfl, .inl ⟨rfl, _, sql hD4⟩, .str y, rfl, .ref a, rfl, a, c, 6, rfl, w4, (by decide), (by decide), fun H5 k5 x5 w5 k50 k51 => ?_⟩
      refine ⟨.ref a, rfl, a, c, rfl, w5, fun H6 k6 x6 w6 k60 k61 => ⟨(by show 2 ≤ sizeLine; decide), fun p np => ?_⟩⟩
      have pw := w6.ne2 np
      have s7 : Same H6 (upd H6 p (.lst [.int k5, .int k6])) := same_upd np
      have hp7 : (upd H6 p (.lst [.int k5, .int k6])) p = some (.lst [.int k5, .int k6]) := upd_same
      have x46 : Exw a H3 (upd H6 p (.lst [.int k5, .int k6])) := ((x4.trans x5).trans x6).same s7
      have w7 := w6.same s7
      generalize upd H6 p (.lst [.int k5, .int k6]) = H7 at s7 hp7 x46 w7 ⊢
      refine ⟨.bl true, rfl, true, rfl, .inr ⟨_, rfl, p, _, _, _, rfl, rfl, sql hp7, atI_nat (j := 0) rfl, _, _, rfl, rfl, (by show 2 ≤ sizeLine; decide), fun t ob nt hob => ?_⟩⟩
      dsimp only
      have hD7 := x46 _ _ Dw.1 hD
      have s8 : Same H7 (upd H7 t (.frz ob (.tup [.str y, .int (1 + k5)]))) := same_upd nt
      have ht8 : Ptp (upd H7 t (.frz ob (.tup [.str y, .int (1 + k5)]))) t [.str y, .int (1 + k5)] := ⟨ob, upd_same, hob⟩
      generalize upd H7 t (.frz ob (.tup [.str y, .int (1 + k5)])) = H8 at s8 ht8 ⊢
      have hD8 := s8 _ _ hD7
      have w8 := w7.same s8
      have hp8 : Paired (PrP H8) us kvs := paired_imp (fun t e h => Ptp.same h s8) (prp_exw x46 w3 hp)
      refine ⟨D, _, _, rfl, rfl, hD8, by rw [List.length_map, hul, sizeLine_eq]; omega, ?_⟩
      have l8 := s8 _ _ (x46.strs w3 hl3)
      refine ⟨_, us ++ [t], kvs ++ [(y, 1 + k5)], rfl, ((x3.trans x46).same s8).put nD, w8.put Dw, by rw [upd_same, List.map_append]; rfl, ?_, ?_, fun e he => ?_, by rw [List.length_append]; push_cast; show (kvs.length : Int) + 1 ≤ r; omega, by rw [upd_ne lD]; exact l8⟩
      · exact paired_snoc (paired_imp (fun t' e h => ptp_put h hD8) hp8) (ptp_put ht8 hD8)
      · rw [List.map_append, tk]
        exact hsub.append (List.Sublist.refl _)
      · rcases List.mem_append.mp he with he | he
        · exact hv e he
        · rw [List.mem_singleton.mp he]
          dsimp only
          omega
    · rintro σ H3 ⟨y5, us, kvs, rfl, x3, w3, hD, hp, hsub, hv, hkl, hl3⟩
      rw [List.length_map, List.take_length] at hsub
      refine ⟨.ref D, rfl, D, _, rfl, sql hD, fun k o nk ho => ?_⟩
      have s4 : Same H3 (upd H3 k (.frz o (.tup (us.map V.ref)))) := same_upd nk
      refine q _ k us kvs (x3.same s4) (w3.same s4) ⟨o, upd_same, ho⟩ (paired_imp (fun t e h => Ptp.same h s4) hp) ⟨fun e he => nm _ (hsub.subset (List.mem_map.mpr ⟨e, he, rfl⟩)), fun e he => (hv e he).1, ?_⟩ hkl fun e he => (hv e he).2
      have := asc.sublist hsub
      rw [List.pairwise_map] at this
      exact this
/-! _law_sketch, of small ones -/
def spSketchP (K : PySem.W.Frag) : Sp := fun vs H Q _ => ∃ (a c l : Addr) (r : Int) (ys : List Str), vs = [.ref a, .ref l, .int r, .bl true] ∧ Wl a c H ∧ H l = some (.lst (ys.map V.str)) ∧ (ys.Pairwise fun a b => ltZ a b = true) ∧ (∀ y ∈ ys, Nm y) ∧ ys.length ≤ 1000 ∧ 1 ≤ r ∧ r ≤ 64 ∧
  ∀ H' s (m o : Int) (kvs : Ct), Exw a H H' → Wl a c H' → DatAt K (2 ^ 31) 64 3 H' (.ref s) (skJ r m o kvs) → SkG r m o kvs → m ≤ 10000 → Q (.ref s) H'
theorem ok_sketchP (T : Blt mg) (dmixed : Dnmixed K mg) (dfilled : Dnfilled K mg) (ddraw : Dndraw K mg) (dnumber : Dnnumber K mg) (dkept : Dnkept K mg) (dsum : Dnsum K mg) (d : Dnsketch K mg) : FnOk P w K mg base CX0 6 d.f d.fd ["_law_well_here", "_law_names_here", "_law_room_here", "_law_small"] (spSketchP K) := by
  have Gdraw : FnOk P w K mg base CX0 3 ddraw.f ddraw.fd ["_law_well_here", "_law_many"] spDraw := ok_draw T dmixed dfilled ddraw
  have Gkept : FnOk P w K mg base CX0 5 dkept.f dkept.fd ["_law_well_here", "_law_names_here", "_law_room_here", "_law_small"] spKeptP := ok_keptP T dmixed dfilled ddraw dnumber dkept
  have Gsum : FnOk P w K mg base CX0 1 dsum.f dsum.fd ["_law_counts"] (spSum K) := ok_sum T dsum
  refine d.F.ok scsketch (fun vs H Q E h => ?_) (fun cdv A outer s H vs Q E hr h => ?_)
  · obtain ⟨a, c, l, r, ys, rfl, _⟩ := h
    rfl
  · obtain ⟨a, c, l, r, ys, rfl, hw, hl, asc, nm, hyl, hr1, hr64, q⟩ := h
    refine ⟨_, (pss_cons (ps_set (i := 4) scsketch.nd rfl (Or.inl rfl) (pe_call Gkept (hr.mono (by omega)) (by rfl) dkept.g dkept.F.kp dkept.b .nil pass0 (pa_cons (pv 0) (pa_cons (pv 1) (pa_cons (pv 2) (pa_cons (pv 3) pa_nil))))))
    (pss_cons (ps_set (i := 5) scsketch.nd rfl (Or.inl rfl) (pe_ix ix_list (pe_lst (pa_cons (pe_call Gdraw (hr.mono (by omega)) (by rfl) ddraw.g ddraw.F.kp ddraw.b .nil pass0 (pa_cons (pv 0) (pa_cons pe_int pa_nil))) (pa_cons (pe_call Gdraw (hr.mono (by omega)) (by rfl) ddraw.g ddraw.F.kp ddraw.b .nil pass0 (pa_cons (pv 0) (pa_cons (pe_op op_pow pe_int pe_int) pa_nil))) pa_nil))) (pe_callTy call_int1 (by rfl) T.n_int (by decide +kernel) (pa_cons (pe_and (pe_not (pv 3)) (pe_one (pe_cmpR op_eq (pe_call Gdraw (hr.mono (by omega)) (by rfl) ddraw.g ddraw.F.kp ddraw.b .nil pass0 (pa_cons (pv 0) (pa_cons pe_int pa_nil))) pe_int (nomark _)))) pa_nil)) (fun _ _ => rfl)))
    (pss_cons (ps_set (i := 6) scsketch.nd rfl (Or.inl rfl) (pe_op op_mul (pe_op op_add (pv 2) pe_int) (pv 5)))
    (pss_cons (ps_set (i := 7) scsketch.nd rfl (Or.inl rfl) (pe_op op_mul (pe_op op_mul pe_int (pv 2)) (pv 5)))
    (pss_cons (ps_set (i := 8) scsketch.nd rfl (Or.inl rfl) (pe_ix ix_list (pe_lst (pa_cons (pv 6) (pa_cons (pv 7) (pa_cons (pe_op op_add (pv 6) (pe_call Gdraw (hr.mono (by omega)) (by rfl) ddraw.g ddraw.F.kp ddraw.b .nil pass0 (pa_cons (pv 0) (pa_cons (pe_op op_add (pe_op op_sub (pv 7) (pv 6)) pe_int) pa_nil)))) pa_nil)))) (pe_call Gdraw (hr.mono (by omega)) (by rfl) ddraw.g ddraw.F.kp ddraw.b .nil pass0 (pa_cons (pv 0) (pa_cons pe_int pa_nil))) (fun _ _ => rfl)))
    (pss_one (ps_ret (pe_tupF (pa_cons (pv 2) (pa_cons (pe_op op_add (pe_call Gsum (hr.mono (by omega)) (by rfl) dsum.g dsum.F.kp dsum.b .nil pass0 (pa_cons (pv 4) pa_nil)) (pv 8)) (pa_cons (pv 5) (pa_cons (pv 4) pa_nil)))))))))))), ?_⟩
    refine ⟨.ref a, rfl, .ref l, rfl, .int r, rfl, .bl true, rfl, a, c, l, r, ys, rfl, hw, hl, asc, nm, hyl, by omega, hr64, fun H1 k ts kvs x1 w1 hk hp cts hkl hv => ?_⟩
    refine ⟨.ref a, rfl, a, c, 5, rfl, w1, (by decide), (by decide), fun H2 o x2 w2 o0 o5 => ?_⟩
    refine ⟨.ref a, rfl, _, _, rfl, rfl, ⟨by decide, by decide, by decide⟩, a, c, 100000000, rfl, w2, by decide, by decide, fun H3 k3 x3 w3 k30 k31 => ⟨(by show 2 ≤ sizeLine; decide), fun p np => ?_⟩⟩
    have s4 : Same H3 (upd H3 p (.lst [.int o, .int k3])) := same_upd np
    have hp4 : (upd H3 p (.lst [.int o, .int k3])) p = some (.lst [.int o, .int k3]) := upd_same
    have w4 := w3.same s4
    have x14 : Exw a H1 (upd H3 p (.lst [.int o, .int k3])) := (x2.trans x3).same s4
    generalize upd H3 p (.lst [.int o, .int k3]) = H4 at s4 hp4 w4 x14 ⊢
    refine ⟨.bl true, rfl, true, rfl, false, rfl, iteF (.inr ⟨_, rfl, p, _, _, _, rfl, rfl, sql hp4, atI_nat (j := 0) rfl, ?_⟩)⟩
    refine ⟨.int r, rfl, _, _, rfl, rfl, .int o, rfl, _, _, rfl, rfl, cmulL (by omega) (by omega), ?_⟩
    dsimp only
    refine ⟨.int r, rfl, _, _, rfl, rfl, cmulL (by decide) (by decide), .int o, rfl, _, _, rfl, rfl, cmulL (by omega) (by omega), ?_⟩
    dsimp only
    have hm : (r + 1) * o ≤ 2 * r * o := Int.mul_le_mul_of_nonneg_right (by omega) o0
    have hm2 : 2 * r * o ≤ 128 * o := Int.mul_le_mul_of_nonneg_right (by omega) o0
    have hm0 : 0 ≤ (r + 1) * o := Int.mul_nonneg (by omega) o0
    refine ⟨.int ((r + 1) * o), rfl, .int (2 * r * o), rfl, .int ((r + 1) * o), rfl, .ref a, rfl, .int (2 * r * o), rfl, .int ((r + 1) * o), rfl, _, _, rfl, rfl, _, _, rfl, rfl, a, c, 2 * r * o - (r + 1) * o + 1, rfl, w4, by omega, by omega, fun H5 k5 x5 w5 k50 k51 => ⟨_, _, rfl, rfl, (by show 3 ≤ sizeLine; decide), fun p2 np2 => ?_⟩⟩
    dsimp only
    have p2w := w5.ne2 np2
    have s6 : Same H5 (upd H5 p2 (.lst [.int ((r + 1) * o), .int (2 * r * o), .int ((r + 1) * o + k5)])) := same_upd np2
    have hp6 : (upd H5 p2 (.lst [.int ((r + 1) * o), .int (2 * r * o), .int ((r + 1) * o + k5)])) p2 = some (.lst [.int ((r + 1) * o), .int (2 * r * o), .int ((r + 1) * o + k5)]) := upd_same
    have w6 := w5.same s6
    have x16 := (x14.trans x5).same s6
    generalize upd H5 p2 (.lst [.int ((r + 1) * o), .int (2 * r * o), .int ((r + 1) * o + k5)]) = H6 at s6 hp6 w6 x16 ⊢
    refine ⟨.ref a, rfl, a, c, 3, rfl, w6, (by decide), (by decide), fun H7 k7 x7 w7 k70 k71 => ?_⟩
    obtain ⟨kn, rfl⟩ := Int.eq_ofNat_of_zero_le k70
    have hkn : kn < 3 := by omega
    obtain ⟨lo, hat, l0, l1⟩ : ∃ lo : Int, [V.int ((r + 1) * o), V.int (2 * r * o), V.int ((r + 1) * o + k5)][kn]? = some (.int lo) ∧ (r + 1) * o ≤ lo ∧ lo ≤ 2 * r * o := by
      match kn, hkn with
      | 0, _ => exact ⟨_, rfl, by omega, by omega⟩
      | 1, _ => exact ⟨_, rfl, by omega, by omega⟩
      | 2, _ => exact ⟨_, rfl, by omega, by omega⟩
      | n + 3, h => exact absurd h (by omega)
    have hp7 := x7 _ _ p2w.1 hp6
    refine ⟨p2, _, _, _, rfl, rfl, sql hp7, atI_nat hat, ?_⟩
    have x17 := x16.trans x7
    have hk7 := ptp_exw x17 w1 hk
    have hpr7 := prp_exw x17 w1 hp
    have hkl' : kvs.length ≤ 64 := by omega
    refine ⟨.int r, rfl, .ref k, rfl, k, kvs, rfl, ⟨ts, hk7.seq, paired_imp (fun t e h => h.seq) hpr7⟩, by omega, fun H8 s8 => ⟨.int lo, rfl, _, _, rfl, rfl, .int o, rfl, .ref k, rfl, (by show 4 ≤ sizeLine; decide), fun s ob ns hob => ?_⟩⟩
    dsimp only
    have x18 := x17.same s8
    have w8 := w7.same s8
    have s9 : Same H8 (upd H8 s (.frz ob (.tup [.int r, .int (sumC kvs + lo), .int o, .ref k]))) := same_upd ns
    have hsc : 0 ≤ sumC kvs ∧ sumC kvs ≤ 6 * (kvs.length : Int) := sumC_le fun e he => ⟨cts.pos e he, hv e he⟩
    have s79 : Same H7 (upd H8 s (.frz ob (.tup [.int r, .int (sumC kvs + lo), .int o, .ref k]))) := fun b u e => s9 _ _ (s8 _ _ e)
    have lw := SkG.mk (r := r) (m := sumC kvs + lo) (o := o) (kvs := kvs) hr1 hr64 (by omega) o0 cts hkl (by omega) (by omega) (by
      have : (2 : Int) ^ 100 = 1267650600228229401496703205376 := by decide +kernel
      omega)
    refine q _ s (sumC kvs + lo) o kvs (x1.trans (x18.same s9)) (w8.same s9) (dat_sk ⟨ob, upd_same, hob⟩ (hk7.same s79) (paired_imp (fun t e h => Ptp.same h s79) hpr7) cts (fun e he => by have := hv e he; omega) hkl' (by omega) (by omega) (by omega)) lw (by omega)
end
end Kb

namespace Kb
open PySem PySem.Spec PyProof.Rows L2 SrtZ SrtO
theorem cut_head {xs : List V} {b : Nat} : cutV xs none (some (b : Int)) = xs.take b := by
  unfold cutV
  rw [HT.sIx_nat, HT.sIx_none, List.drop_zero, Nat.sub_zero]
  by_cases h : b ≤ xs.length
  · rw [show min b xs.length = b by omega]
  · rw [show min b xs.length = xs.length by omega, List.take_length, List.take_of_length_le (by omega)]
/-! what is compared, as data -/
theorem strOk_nm {z : Str} (h : Nm z) : PyData.strOk z = true := by
  unfold PyData.strOk
  refine Array.all_eq_true_iff_forall_mem.mpr fun c hc => ?_
  have := h.abc c (Array.mem_toList_iff.mpr hc)
  unfold nmC at this
  have h2 : (!decide (122 < c)) = true := by
    cases hx : (!decide (122 < c)) with
    | true => rfl
    | false => rw [hx] at this; simp at this
  have h3 : ¬ 122 < c := by simpa using h2
  exact decide_eq_true (by omega)
abbrev prQ (e : Str × Int) : PyData := .tuple [.str e.1, .int e.2]
abbrev skQ (x : Sk) : PyData := .tuple [.int x.r, .int x.m, .int x.o, .tuple (x.c.map prQ)]
theorem dp_prs {K : PySem.W.Frag} {H : Hp} : ∀ {vs : List V} {kvs : Ct}, Paired (DtAt K H) vs (kvs.map prJ) → DpAll K H vs (kvs.map prQ)
  | _, [], h => by
    cases h
    exact .nil
  | _, e :: kvs, h => by
    cases h with
    | cons h t =>
      obtain ⟨a, xs, rfl, h1, h2, h3⟩ := h.tup
      cases h3 with | cons e1 h3 =>
      cases h3 with | cons e2 h3 =>
      cases h3
      obtain ⟨rfl, _⟩ := e1.str
      obtain ⟨rfl, _⟩ := e2.int
      exact .cons (.tup h1.seq (.cons (.str _) (.cons (.int _) .nil))) (dp_prs t)
theorem dp_sk {K : PySem.W.Frag} {H : Hp} {v : V} {x : Sk} (h : DtAt K H v (skJ x.r x.m x.o x.c)) : Dp K H v (skQ x) := by
  obtain ⟨a, xs, rfl, h1, h2, h3⟩ := h.tup
  have hl := Paired.length h3
  obtain ⟨x1, x2, x3, x4, rfl⟩ := four (show xs.length = 4 from hl)
  obtain ⟨e1, e2, e3, e4⟩ := paired4 h3
  obtain ⟨rfl, _⟩ := e1.int
  obtain ⟨rfl, _⟩ := e2.int
  obtain ⟨rfl, _⟩ := e3.int
  obtain ⟨k, ys, rfl, g1, g2, g3⟩ := e4.tup
  exact .tup h1.seq (.cons (.int _) (.cons (.int _) (.cons (.int _) (.cons (.tup g1.seq (dp_prs g3)) .nil))))
theorem dp_sks {K : PySem.W.Frag} {H : Hp} : ∀ {vs : List V} {ks : List Sk}, Paired (fun v (x : Sk) => DtAt K H v (skJ x.r x.m x.o x.c)) vs ks → DpAll K H vs (ks.map skQ)
  | _, _, .nil => .nil
  | _, _, .cons h t => .cons (dp_sk h) (dp_sks t)
theorem lay_prs : ∀ {ys : Ct}, (∀ e ∈ ys, Nm e.1) → PyData.canLayAll0 (ys.map prQ) = true ∧ PyData.depthAll (ys.map prQ) ≤ 1
  | [], _ => ⟨rfl, Nat.zero_le _⟩
  | e :: ys, h => by
    obtain ⟨h1, h2⟩ := lay_prs (ys := ys) fun y hy => h y (List.mem_cons_of_mem _ hy)
    constructor
    · show ((PyData.strOk e.1 && (true && true)) && PyData.canLayAll0 (ys.map prQ)) = true
      rw [strOk_nm (h e List.mem_cons_self), h1]
      rfl
    · show max 1 (PyData.depthAll (ys.map prQ)) ≤ 1
      omega
theorem eqv_prs : ∀ ys : Ct, PyData.eqvAll (ys.map prQ) (ys.map prQ) = true
  | [] => rfl
  | e :: ys => by
    show (((e.1 == e.1) && ((e.2 == e.2) && true)) && PyData.eqvAll (ys.map prQ) (ys.map prQ)) = true
    rw [eqv_prs ys, beq_self_eq_true, beq_self_eq_true]
    rfl
theorem lay_sks : ∀ {ks : List Sk}, (∀ x ∈ ks, SkV x) → PyData.canLayAll0 (ks.map skQ) = true ∧ PyData.depthAll (ks.map skQ) ≤ 3
  | [], _ => ⟨rfl, Nat.zero_le _⟩
  | x :: ks, h => by
    obtain ⟨h1, h2⟩ := lay_sks (ks := ks) fun y hy => h y (List.mem_cons_of_mem _ hy)
    obtain ⟨g1, g2⟩ := lay_prs (h x List.mem_cons_self).cts.nm
    constructor
    · show ((true && (true && (true && (PyData.canLayAll0 (x.c.map prQ) && true)))) && PyData.canLayAll0 (ks.map skQ)) = true
      rw [g1, h1]
      rfl
    · show max (max 0 (max 0 (max 0 (max (PyData.depthAll (x.c.map prQ) + 1) 0))) + 1) (PyData.depthAll (ks.map skQ)) ≤ 3
      omega
theorem eqv_sksQ : ∀ ks : List Sk, PyData.eqvAll (ks.map skQ) (ks.map skQ) = true
  | [] => rfl
  | x :: ks => by
    show (((x.r == x.r) && ((x.m == x.m) && ((x.o == x.o) && (PyData.eqvAll (x.c.map prQ) (x.c.map prQ) && true)))) && PyData.eqvAll (ks.map skQ) (ks.map skQ)) = true
    rw [eqv_prs, eqv_sksQ ks, beq_self_eq_true, beq_self_eq_true, beq_self_eq_true]
    rfl
theorem sks_shaped {ks : List Sk} (h : ∀ x ∈ ks, SkV x) : SeqAt.shaped (.list (ks.map skQ)) = true := by
  obtain ⟨h1, h2⟩ := lay_sks h
  show (PyData.canLayAll0 (ks.map skQ) && decide (PyData.depthAll (ks.map skQ) + 1 ≤ 64)) = true
  rw [h1, decide_eq_true (by omega)]
  rfl
theorem sks_eqv (ks : List Sk) : PyData.eqv (.list (ks.map skQ)) (.list (ks.map skQ)) = true := by
  show PyData.eqvAll (ks.map skQ) (ks.map skQ) = true
  exact eqv_sksQ ks
section
variable {P : Program} {w : World} {K : PySem.W.Frag} {mg : Str → Option Value} {base : Heap}
/-! too many sketches -/
def spAreSketchesL (K : PySem.W.Frag) : Sp := fun vs H Q _ => ∃ (t : Addr) (xs : List V), vs = [.ref t] ∧ SqT K H t xs ∧ 100 < xs.length ∧ Q (.bl false) H
theorem ok_are_sketchesL (D : DefsE K mg) (cK : Cst mg "MOST_SKETCHES" (.int 100)) (d : DnAreSketches K mg) : FnOk P w K mg base CX0 5 d.f d.fd ["thing"] (spAreSketchesL K) := by
  obtain ⟨T, cM, cL, dP_is_int, dP_is_number, dP_is_room, dP_is_name, dP_is_counted, dP_are_counts, dP_lost_of, dP_is_sketch, dP_asked, dP_parted, dP_filled, dP_plans_of, dP_is_question, dP_worth, dP_need_both, dP_named, dP_ends⟩ := D
  have GP_is_sketch : FnOk P w K mg base CX0 4 dP_is_sketch.f dP_is_sketch.fd ["thing"] (spIsSketchD K) := ok_is_sketchD T cM cL dP_is_int dP_is_number dP_is_room dP_is_name dP_is_counted dP_are_counts dP_lost_of dP_is_sketch
  refine d.F.ok scP_are_sketches (fun vs H Q E h => ?_) (fun cdv A outer s H vs Q E hr h => ?_)
  · obtain ⟨t, xs, rfl, _⟩ := h
    rfl
  · obtain ⟨t, xs, rfl, ht, hl, q⟩ := h
    refine ⟨_, (pss_cons (ps_if (PW.pt (pw_or (pt_not (pt_val (pe_callB (call_isD (K := K) rfl) (by rfl) T.n_isinstance (by decide +kernel) (pa_cons (pv 0) (pa_cons (pe_bltn (v := .ty "tuple") (by rfl) T.n_tuple (by decide +kernel) rfl) pa_nil))))) (pw_or1 (pt_cmpR op_gt (pe_callB call_len_seq (by rfl) T.n_len (by decide +kernel) (pa_cons (pv 0) pa_nil)) (pe_glob rfl cK.g cK.r) (nomark _)))))
      (pss_one (ps_ret pe_bl))
      pss_nil)
    (pss_one (ps_ret (pe_callB (cr_all rfl) (by rfl) T.n_all (by decide +kernel) (pa_cons (pe_lc (own := [("sketch", 1)]) (g := gName 1) (tt := tYes) rfl scP_are_sketches.nd (pi_tup (pv 0)) (blkOk_by (N := NP_are_sketches) (sc := defScope sP_are_sketches) (by decide +kernel)) (fun _ _ _ _ _ => pg_name (i := 1) scP_are_sketches.nd rfl (Or.inl rfl)) (fun _ _ _ _ _ => pts_nil) (fun _ _ _ _ _ => (pe_call GP_is_sketch (hr.mono (by omega)) (by rfl) dP_is_sketch.g dP_is_sketch.F.kp dP_is_sketch.b .nil pass0 (pa_cons (pv 1) pa_nil)))) pa_nil))))), ?_⟩
    refine ⟨.ref t, rfl, .ref t, _, _, _, true, rfl, .ty "tuple", .inl (tyT ht), kit_ty (by decide +kernel), true, rfl, iteF ?_⟩
    exact ⟨.ref t, rfl, t, _, rfl, .inr ht, _, _, rfl, rfl, true, congrArg V.bl (decide_eq_true (by omega)), iteT q⟩
def spSumEndsL (K : PySem.W.Frag) (CS : Addr) : Sp := fun vs H Q E => ∃ (t : Addr) (vn : V) (xs : List V), vs = [.ref t, vn] ∧ SqT K H t xs ∧ 100 < xs.length ∧ E (.ref CS) none H
theorem ok_sum_endsL (D : DefsE K mg) (Ss : TxE K mg "NoSketches") (Na : TxE K mg "NoName") (cK : Cst mg "MOST_SKETCHES" (.int 100)) (dP_are_sketches : DnAreSketches K mg) (d : DnSumEnds K mg) : FnOk P w K mg base (L2.CX P w) 7 d.f d.fd ["sketches", "name"] (spSumEndsL K Ss.C) := by
  have GP_are_sketches : FnOk P w K mg base CX0 5 dP_are_sketches.f dP_are_sketches.fd ["thing"] (spAreSketchesL K) := ok_are_sketchesL D cK dP_are_sketches
  obtain ⟨T, cM, cL, dP_is_int, dP_is_number, dP_is_room, dP_is_name, dP_is_counted, dP_are_counts, dP_lost_of, dP_is_sketch, dP_asked, dP_parted, dP_filled, dP_plans_of, dP_is_question, dP_worth, dP_need_both, dP_named, dP_ends⟩ := D
  have GP_is_name : FnOk P w K mg base CX0 1 dP_is_name.f dP_is_name.fd ["thing"] (spIsNameD K) := ok_is_nameD T cL dP_is_name
  refine d.F.okX scP_sum_ends (fun vs H Q E h => ?_) (fun cdv A outer s H vs Q E hr h => ?_)
  · obtain ⟨t, vn, xs, rfl, _⟩ := h
    rfl
  · obtain ⟨t, vn, xs, rfl, ht, hl, e⟩ := h
    refine ⟨_, (pss_cons (ps_if (pt_not (pt_val (pe_call GP_are_sketches (hr.mono (by omega)) (by rfl) dP_are_sketches.g dP_are_sketches.F.kp dP_are_sketches.b .nil pass0 (pa_cons (pv 0) pa_nil))))
      (pss_one (ps_raise rfl (takes_of rfl rfl rfl rfl) (pmk_bare PySem.F.excBase_ValueError Ss.exc Ss.gC Ss.kp (raises_own Ss.sub Ss.ty) rfl)))
      pss_nil)
    (pss_cons (ps_if (pt_not (pt_val (pe_call GP_is_name (hr.mono (by omega)) (by rfl) dP_is_name.g dP_is_name.F.kp dP_is_name.b .nil pass0 (pa_cons (pv 1) pa_nil))))
      (pss_one (ps_raise rfl (takes_of rfl rfl rfl rfl) (pmk_bare PySem.F.excBase_ValueError Na.exc Na.gC Na.kp (raises_own Na.sub Na.ty) rfl)))
      pss_nil)
    pss_never)), ?_⟩
    exact ⟨.ref t, rfl, t, xs, rfl, ht, hl, false, rfl, iteT e⟩
def spSumToldL (K : PySem.W.Frag) : Sp := fun vs H Q _ => ∃ (t : Addr) (vn : V) (xs : List V), vs = [.ref t, vn] ∧ SqT K H t xs ∧ 100 < xs.length ∧ Q (.str (Str.ofString "sketches")) H
theorem ok_sum_toldL (D : DefsE K mg) (F : ErX K mg) (cK : Cst mg "MOST_SKETCHES" (.int 100)) (dP_are_sketches : DnAreSketches K mg) (dP_sum_ends : DnSumEnds K mg) (d : Dnsum_told K mg) : FnOk P w K mg base CX0 8 d.f d.fd ["_law_sketches", "_law_name_here"] (spSumToldL K) := by
  have GS : FnOk P w K mg base (L2.CX P w) 7 dP_sum_ends.f dP_sum_ends.fd ["sketches", "name"] (spSumEndsL K F.Ss.C) := ok_sum_endsL D F.Ss F.Na cK dP_are_sketches dP_sum_ends
  refine d.F.ok scsum_told (fun vs H Q E h => ?_) (fun cdv A outer s H vs Q E hr h => ?_)
  · obtain ⟨t, vn, xs, rfl, _⟩ := h
    rfl
  · obtain ⟨t, vn, xs, rfl, ht, hl, q⟩ := h
    have three' : ∀ {σ : L2.St}, σ.length = 3 → ∃ x0 x1 x2, σ = [x0, x1, x2] := fun {σ} h => match σ, h with | [a, b, c], _ => ⟨a, b, c, rfl⟩
    refine ⟨_, (pss_cons (ps_set (i := 2) scsum_told.nd rfl (Or.inl rfl) pe_str)
    (pss_cons (ps_try_many rfl rfl takes0 (fun W pn xe tk pa => pss_one (ps_expr (by exact (pe_call GS (hr.mono (by omega)) rfl dP_sum_ends.g dP_sum_ends.F.kp dP_sum_ends.b .nil (passEL (n := 3) rfl tk) (by exact (pa_cons (pv 0) (pa_cons (pv 1) pa_nil))))))) (.cons ⟨rfl, by decide, Or.inl F.Ss.gC⟩ (fun a oe cls d pn hz hf => pss_one (ps_set (i := 2) scsum_told.nd rfl (Or.inl rfl) pe_str)) (.cons ⟨rfl, by decide, Or.inl F.Na.gC⟩ (fun a oe cls d pn hz hf => pss_one (ps_set (i := 2) scsum_told.nd rfl (Or.inl rfl) pe_str)) (.cons ⟨rfl, by decide, Or.inl F.gKE⟩ (fun a oe cls d pn hz hf => pss_one (ps_set (i := 2) scsum_told.nd rfl (Or.inl rfl) pe_str)) .nil))))
    (pss_one (ps_ret (pv 2))))), ?_⟩
    refine ⟨.ref t, rfl, vn, rfl, t, vn, xs, rfl, ht, hl, fun σ hσ => ?_⟩
    obtain ⟨x0, x1, x2, rfl⟩ := three' hσ
    exact ⟨true, F.xSS, fun _ a na => ⟨_, rfl, q⟩, fun h => nomatch h⟩
end
end Kb

namespace Kb
open PySem PySem.Spec PyProof.Rows L2 SrtZ SrtO
abbrev ssums_hold : Stmt := topS 84
abbrev Nsums_hold : List Str := ["_law_well_here", "_law_names_here", "_law_sketches", "_law_odd", "_law_name_here", "_law_at", "_law_bent", "_law_right", "_law_row", "_law_bare", "_law_k"]
theorem scsums_hold : FnScope ["_law_well_here", "_law_names_here", "_law_sketches", "_law_odd", "_law_name_here", "_law_at", "_law_bent", "_law_right", "_law_row", "_law_bare", "_law_k"] ["_law_well_here", "_law_names_here"] (defScope ssums_hold) := ⟨rfl, rfl, rfl, by decide +kernel, rfl, by decide +kernel, by decide +kernel⟩
abbrev Dnsums_hold (K : PySem.W.Frag) (mg : Str → Option Value) := Dn K mg "_law_sums_hold" ssums_hold ["_law_well_here", "_law_names_here"]
abbrev SkR (K : PySem.W.Frag) (H : Hp) (v : V) (x : Sk) : Prop := DatAt K (2 ^ 31) 64 3 H v (skJ x.r x.m x.o x.c)
theorem skr_dats {K : PySem.W.Frag} {H : Hp} : ∀ {vs : List V} {ks : List Sk}, Paired (SkR K H) vs ks → Paired (DatAt K (2 ^ 31) 64 3 H) vs (ks.map fun x => skJ x.r x.m x.o x.c)
  | _, _, .nil => .nil
  | _, _, .cons h t => .cons h (skr_dats t)
theorem all_yes {ks : List Sk} (h : ∀ x ∈ ks, SkV x) : (ks.map fun x => skJ x.r x.m x.o x.c).all skD = true := List.all_eq_true.mpr fun d hd => by
  obtain ⟨x, hx, rfl⟩ := List.mem_map.mp hd
  exact skJ_yes (h x hx)
def sk0 : Sk := ⟨1, 0, 0, []⟩
theorem sk0_v : SkV sk0 := ⟨by decide, by decide, by decide, by decide, ⟨fun _ h => (nomatch h), fun _ h => (nomatch h), .nil⟩, by decide, by decide, by decide, by decide +kernel⟩
theorem low0 : lowS (List.replicate 100 sk0) (Str.ofString "a") = 0 := by decide +kernel
theorem high0 : highS (List.replicate 100 sk0) (Str.ofString "a") = 0 := by decide +kernel
theorem rep_one {α : Type} (x : α) : ∀ n : Nat, (List.replicate n [x]).flatten = List.replicate n x
  | 0 => rfl
  | n + 1 => by
    rw [List.replicate_succ, List.flatten_cons, rep_one x n]
    rfl
theorem paired_rep {α β : Type} {F : α → β → Prop} {x : α} {y : β} (h : F x y) : ∀ n : Nat, Paired F (List.replicate n x) (List.replicate n y)
  | 0 => .nil
  | n + 1 => .cons h (paired_rep h n)
theorem eqs_same {K : PySem.W.Frag} {H H' : Hp} {v : V} {z : Str} {c : Bool} (h : EqS K H v z c) (s : Same H H') : EqS K H' v z c := by
  rcases h with h | h | h | h | ⟨a, e1, e2, ⟨xs, (h | ⟨o, h⟩) | h⟩ | ⟨xs, h⟩ | ⟨k, h⟩⟩
  · exact .inl h
  · exact .inr (.inl h)
  · exact .inr (.inr (.inl h))
  · exact .inr (.inr (.inr (.inl h)))
  · exact .inr (.inr (.inr (.inr ⟨a, e1, e2, .inl ⟨xs, .inl (.inl (s _ _ h))⟩⟩)))
  · exact .inr (.inr (.inr (.inr ⟨a, e1, e2, .inl ⟨xs, .inl (.inr ⟨o, s _ _ h⟩)⟩⟩)))
  · exact .inr (.inr (.inr (.inr ⟨a, e1, e2, .inl ⟨xs, .inr h⟩⟩)))
  · exact .inr (.inr (.inr (.inr ⟨a, e1, e2, .inr (.inl ⟨xs, seqT h s⟩)⟩)))
  · exact .inr (.inr (.inr (.inr ⟨a, e1, e2, .inr (.inr ⟨k, s _ _ h⟩)⟩)))
section
variable {P : Program} {w : World} {K : PySem.W.Frag} {mg : Str → Option Value} {base : Heap}
def spSumsHold : Sp := fun vs H Q _ => ∃ (a c I : Addr) (ns : List Str), vs = [.ref a, .ref I] ∧ Wl a c H ∧ I ≠ a ∧ H I = some (.lst (ns.map V.str)) ∧ (ns.Pairwise fun a b => ltZ a b = true) ∧ (∀ z ∈ ns, Nm z) ∧ 0 < ns.length ∧ ns.length ≤ 1000 ∧ ∀ H', Exw a H H' → Wl a c H' → Q (.bl true) H'
theorem ok_sums_hold (D : DefsE K mg) (F : ErX K mg) (N : TxE K mg "NoTree") (NX : XcT K N.C) (cK : Cst mg "MOST_SKETCHES" (.int 100)) (dP_are_sketches : DnAreSketches K mg) (dP_sum_ends : DnSumEnds K mg)
    (dmixed : Dnmixed K mg) (dfilled : Dnfilled K mg) (ddraw : Dndraw K mg) (dnumber : Dnnumber K mg) (dsigns : Dnsigns K mg) (dstring : Dnstring K mg) (dname : Dnname K mg) (dany : Dnany K mg) (dnodes : Dnnodes K mg) (dchanged : Dnchanged K mg) (dspoilt : Dnspoilt K mg)
    (droom : Dnroom K mg) (dcount : Dncount K mg) (dlong : Dnlong K mg) (dname_fits : Dnname_fits K mg) (dpair_fits : Dnpair_fits K mg) (dcounts_fit : Dncounts_fit K mg) (dsum : Dnsum K mg) (dsketch_fits : Dnsketch_fits K mg) (dkept : Dnkept K mg) (dsketch : Dnsketch K mg) (dalike : Dnalike K mg) (dsum_told : Dnsum_told K mg)
    (d : Dnsums_hold K mg) : FnOk P w K mg base CX0 13 d.f d.fd ["_law_well_here", "_law_names_here"] spSumsHold := by
  have T := D.T
  have Gdraw : FnOk P w K mg base CX0 3 ddraw.f ddraw.fd ["_law_well_here", "_law_many"] spDraw := ok_draw T dmixed dfilled ddraw
  have Groom : FnOk P w K mg base CX0 4 droom.f droom.fd ["_law_well_here"] spRoom := ok_room T dmixed dfilled ddraw droom
  have Gsketch : FnOk P w K mg base CX0 6 dsketch.f dsketch.fd ["_law_well_here", "_law_names_here", "_law_room_here", "_law_small"] (spSketchP K) := ok_sketchP T dmixed dfilled ddraw dnumber dkept dsum dsketch
  have Gnodes : FnOk P w K mg base CX0 5 dnodes.f dnodes.fd ["_law_thing"] (spNodes K 3) := ok_nodes T dnodes 4
  have Gspoilt : FnOk P w K mg base CX0 11 dspoilt.f dspoilt.fd ["_law_thing", "_law_at", "_law_well_here"] (spSpoilt K 3) := ok_spoilt T N NX dmixed dfilled ddraw dnumber dsigns dstring dname dany dnodes dchanged dspoilt 4
  have Gsketch_fits : FnOk P w K mg base CX0 4 dsketch_fits.f dsketch_fits.fd ["_law_thing"] (spSketchFitsD K) := ok_sketch_fitsD T dcount dlong dname_fits dpair_fits dcounts_fit dsum dsketch_fits
  have Gsum_told : FnOk P w K mg base CX0 8 dsum_told.f dsum_told.fd ["_law_sketches", "_law_name_here"] (fun vs H Q E => spSumTold K vs H Q E ∨ spSumToldL K vs H Q E) := fn_or (ok_sum_told D F cK dP_are_sketches dP_sum_ends dsum_told) (ok_sum_toldL D F cK dP_are_sketches dP_sum_ends dsum_told)
  have GP_sum_ends : FnOk P w K mg base CX0 7 dP_sum_ends.f dP_sum_ends.fd ["sketches", "name"] (spSumEnds K) := ok_sum_ends D cK dP_are_sketches dP_sum_ends
  have Galike : FnOk P w K mg base CX0 3 dalike.f dalike.fd ["_law_told", "_law_due"] (spAlike K 1) := ok_alike T dalike 2
  have neS : ∀ z : Str, (!decide (V.str z = V.str z)) = false := fun z => by rw [decide_eq_true rfl]; rfl
  refine d.F.ok scsums_hold (fun vs H Q E h => ?_) (fun cdv A outer s H vs Q E hr h => ?_)
  · obtain ⟨a, c, I, ns, rfl, _⟩ := h
    rfl
  · obtain ⟨a, c, I, ns, rfl, hw, Ia, hI, asc, hnm, n0, n1, q⟩ := h
    refine ⟨_, (pss_cons (ps_set (i := 2) scsums_hold.nd rfl (Or.inl rfl) (pe_callTy call_tupleF (by rfl) T.n_tuple (by decide +kernel) (pa_cons (pe_lc (own := [("_law_k", 10)]) (g := gName 10) (tt := tYes) rfl scsums_hold.nd (pi_range1 (by rfl) T.n_range (pa_cons (pe_op op_add pe_int (pe_call Gdraw (hr.mono (by omega)) (by rfl) ddraw.g ddraw.F.kp ddraw.b .nil pass0 (pa_cons (pv 0) (pa_cons pe_int pa_nil)))) pa_nil)) (blkOk_by (N := Nsums_hold) (sc := defScope ssums_hold) (by decide +kernel)) (fun _ _ _ _ _ => pg_name (i := 10) scsums_hold.nd rfl (Or.inl rfl)) (fun _ _ _ _ _ => pts_nil) (fun _ _ _ _ _ => (pe_call Gsketch (hr.mono (by omega)) (by rfl) dsketch.g dsketch.F.kp dsketch.b .nil pass0 (pa_cons (pv 0) (pa_cons (pv 1) (pa_cons (pe_call Groom (hr.mono (by omega)) (by rfl) droom.g droom.F.kp droom.b .nil pass0 (pa_cons (pv 0) pa_nil)) (pa_cons pe_bl pa_nil))))))) pa_nil)))
    (pss_cons (ps_set (i := 3) scsums_hold.nd rfl (Or.inl rfl) (pe_ix ix_list (pe_lst (pa_cons pe_non (pa_cons pe_str (pa_cons pe_str (pa_cons pe_int (pa_cons (pe_lst (pa_cons pe_str pa_nil)) (pa_cons pe_str pa_nil))))))) (pe_call Gdraw (hr.mono (by omega)) (by rfl) ddraw.g ddraw.F.kp ddraw.b .nil pass0 (pa_cons (pv 0) (pa_cons pe_int pa_nil))) (fun _ _ => rfl)))
    (pss_cons (ps_set (i := 4) scsums_hold.nd rfl (Or.inl rfl) (pe_ix ix_list (pe_lst (pa_cons pe_str (pa_cons pe_str pa_nil))) (pe_callTy call_int1 (by rfl) T.n_int (by decide +kernel) (pa_cons (pe_cmpR (op_eqS rfl hr.units) (pv 3) pe_str (nomark _)) pa_nil)) (fun _ _ => rfl)))
    (pss_cons (ps_if (PW.pt (pw_or (pt_cmpR op_ne (pe_call Gsum_told (hr.mono (by omega)) (by rfl) dsum_told.g dsum_told.F.kp dsum_told.b .nil pass0 (pa_cons (pv 2) (pa_cons (pv 3) pa_nil))) (pv 4) (nomark _)) (pw_or1 (pt_cmpR op_ne (pe_call Gsum_told (hr.mono (by omega)) (by rfl) dsum_told.g dsum_told.F.kp dsum_told.b .nil pass0 (pa_cons (pe_tupF pa_nil) (pa_cons (pv 3) pa_nil))) (pv 4) (nomark _)))))
      (pss_one (ps_ret pe_bl))
      pss_nil)
    (pss_cons (ps_set (i := 5) scsums_hold.nd rfl (Or.inl rfl) (pe_call Gdraw (hr.mono (by omega)) (by rfl) ddraw.g ddraw.F.kp ddraw.b .nil pass0 (pa_cons (pv 0) (pa_cons (pe_callB call_len_seq (by rfl) T.n_len (by decide +kernel) (pa_cons (pv 2) pa_nil)) pa_nil))))
    (pss_cons (ps_set (i := 6) scsums_hold.nd rfl (Or.inl rfl) (pe_call Gspoilt (hr.mono (by omega)) (by rfl) dspoilt.g dspoilt.F.kp dspoilt.b .nil pass0 (pa_cons (pe_ix ix_tup (pv 2) (pv 5) (fun _ _ => rfl)) (pa_cons (pe_call Gdraw (hr.mono (by omega)) (by rfl) ddraw.g ddraw.F.kp ddraw.b .nil pass0 (pa_cons (pv 0) (pa_cons (pe_call Gnodes (hr.mono (by omega)) (by rfl) dnodes.g dnodes.F.kp dnodes.b .nil pass0 (pa_cons (pe_ix ix_tup (pv 2) (pv 5) (fun _ _ => rfl)) pa_nil)) pa_nil))) (pa_cons (pv 0) pa_nil)))))
    (pss_cons (ps_set (i := 7) scsums_hold.nd rfl (Or.inl rfl) (pe_call Gsketch_fits (hr.mono (by omega)) (by rfl) dsketch_fits.g dsketch_fits.F.kp dsketch_fits.b .nil pass0 (pa_cons (pv 6) pa_nil)))
    (pss_cons (ps_if (pt_cmpR op_ne (pe_call Gsum_told (hr.mono (by omega)) (by rfl) dsum_told.g dsum_told.F.kp dsum_told.b .nil pass0 (pa_cons (pe_op op_catP (pe_op op_catP (pe_slice sl_tupP (pv 2) po_none (po_some (pv 5))) (pe_tupF (pa_cons (pv 6) pa_nil))) (pe_slice sl_tupP (pv 2) (po_some (pe_op op_add (pv 5) pe_int)) po_none)) (pa_cons (pv 3) pa_nil))) (pe_ix ix_list (pe_lst (pa_cons pe_str (pa_cons (pv 4) pa_nil))) (pe_callTy call_int1 (by rfl) T.n_int (by decide +kernel) (pa_cons (pv 7) pa_nil)) (fun _ _ => rfl)) (nomark _))
      (pss_one (ps_ret pe_bl))
      pss_nil)
    (pss_cons (ps_set (i := 8) scsums_hold.nd rfl (Or.inl rfl) (pe_callTy call_list_of (by rfl) T.n_list (by decide +kernel) (pa_cons (pv 2) pa_nil)))
    (pss_cons (ps_if (PW.pt (pw_or (pt_cmpR op_ne (pe_call Gsum_told (hr.mono (by omega)) (by rfl) dsum_told.g dsum_told.F.kp dsum_told.b .nil pass0 (pa_cons (pv 8) (pa_cons (pv 3) pa_nil))) pe_str (nomark _)) (pw_or1 (pt_cmpR (op_neD hr.units) (pv 8) (pe_callTy call_list_of (by rfl) T.n_list (by decide +kernel) (pa_cons (pv 2) pa_nil)) (nomark _)))))
      (pss_one (ps_ret pe_bl))
      pss_nil)
    (pss_cons (ps_set (i := 9) scsums_hold.nd rfl (Or.inl rfl) (pe_tupF (pa_cons pe_int (pa_cons pe_int (pa_cons pe_int (pa_cons (pe_tupF pa_nil) pa_nil))))))
    (pss_cons (ps_if (pt_cmpR op_ne (pe_call Gsum_told (hr.mono (by omega)) (by rfl) dsum_told.g dsum_told.F.kp dsum_told.b .nil pass0 (pa_cons (pe_op op_repT (pe_tup (pa_cons (pv 9) pa_nil)) pe_int) (pa_cons (pv 3) pa_nil))) pe_str (nomark _))
      (pss_one (ps_ret pe_bl))
      pss_nil)
    (pss_one (ps_ret (pe_call Galike (hr.mono (by omega)) (by rfl) dalike.g dalike.F.kp dalike.b .nil pass0 (pa_cons (pe_call GP_sum_ends (hr.mono (by omega)) (by rfl) dP_sum_ends.g dP_sum_ends.F.kp dP_sum_ends.b .nil pass0 (pa_cons (pe_op op_repT (pe_tup (pa_cons (pv 9) pa_nil)) pe_int) (pa_cons pe_str pa_nil))) (pa_cons (pe_tup (pa_cons pe_int (pa_cons pe_int pa_nil))) pa_nil))))))))))))))))), ?_⟩
    refine ⟨.ref a, rfl, a, c, 4, rfl, hw, (by decide), (by decide), fun H1 k x1 w1 k0 k4 => ⟨_, _, rfl, rfl, (1 + k : Int), rfl, by omega, by omega, fun D1 nD => ?_⟩⟩
    have hD := w1.ne2 nD
    have hI1 := x1.strs hw hI
    have ID : I ≠ D1 := ne_of_none hI1 nD
    refine lc_range (lo := 0) (n := (1 + k).toNat) (fun i H8 => Exw a H1 H8 ∧ Wl a c H8 ∧ H8 I = some (.lst (ns.map V.str)) ∧ ∃ (us : List V) (ks : List Sk), H8 D1 = some (.lst us) ∧ Paired (SkR K H8) us ks ∧ (∀ x ∈ ks, SkV x) ∧ us.length = i)
      ⟨(Exw.refl a H1).put nD, w1.same (same_upd nD), by rw [upd_ne ID]; exact hI1, [], [], upd_same, .nil, fun _ h => (nomatch h), rfl⟩ (fun i H8 hi h8 => ?_) (fun H8 h8 => ?_)
    · obtain ⟨x8, p8, hI8, us, ks, hD8, hp, hv, hl⟩ := h8
      refine ⟨rfl, .ref a, rfl, .ref I, rfl, .ref a, rfl, a, c, rfl, p8, fun H9 r x9 w9 r1 r64 => ?_⟩
      refine ⟨a, c, I, r, ns, rfl, w9, x9.strs p8 hI8, asc, hnm, n1, r1, r64, fun HA sA m o kvs xA wA hd g mm => ?_⟩
      have x8A := x9.trans xA
      have hDA := x8A D1 _ hD.1 hD8
      have kk : DKeep K H8 (upd HA D1 (.lst (us ++ [.ref sA]))) := (dk_exw x8A p8 wA).trans (dk_put hDA)
      refine ⟨us, hDA, by rw [hl, sizeLine_eq]; omega, (x8.trans x8A).put nD, wA.put hD, by rw [upd_ne ID]; exact x8A.strs p8 hI8, us ++ [.ref sA], ks ++ [⟨r, m, o, kvs⟩], upd_same, paired_snoc (paired_imp (fun _ _ h => h.keep kk) hp) (hd.keep (dk_put hDA)), fun x hx => ?_, by rw [List.length_append, hl]; rfl⟩
      rcases List.mem_append.mp hx with hx | hx
      · exact hv x hx
      · rw [List.mem_singleton.mp hx]
        exact g
    obtain ⟨x8, p8, hI8, us, ks, hD8, hp, hv, hl⟩ := h8
    have hkl := Paired.length hp
    refine ⟨D1, us, rfl, sql hD8, fun T1 oT nT hoT => ?_⟩
    have sT := same_upd (o := .frz oT (.tup us)) nT
    have hT : Ptp (upd H8 T1 (.frz oT (.tup us))) T1 us := ⟨oT, upd_same, hoT⟩
    have x0T : Exw a H (upd H8 T1 (.frz oT (.tup us))) := (x1.trans x8).same sT
    have wT := p8.same sT
    have hpT : Paired (SkR K (upd H8 T1 (.frz oT (.tup us)))) us ks := paired_imp (fun _ _ h => h.same sT) hp
    generalize upd H8 T1 (.frz oT (.tup us)) = G0 at hT x0T wT hpT ⊢
    clear hD8 hp x8 p8 hI8 sT hD ID hI1
    have ul4 : us.length ≤ 4 := by omega
    have ul1 : 1 ≤ us.length := by omega
    -- odd
    refine ⟨(by show 1 ≤ sizeLine; decide), fun l5 nl5 => ⟨(by show 6 ≤ sizeLine; decide), fun p np => ?_⟩⟩
    have s2 := same_upd (o := .lst [.str (Str.ofString "a")]) nl5
    have k5' : (upd G0 l5 (.lst [.str (Str.ofString "a")])) l5 = some (.lst [.str (Str.ofString "a")]) := upd_same
    generalize upd G0 l5 (.lst [.str (Str.ofString "a")]) = G2 at s2 k5' np ⊢
    have s3 := same_upd (o := .lst [.non, .str (Str.ofString ""), .str (Str.ofString "A"), .int 5, .ref l5, .str (Str.ofString "a")]) np
    have k6 : (upd G2 p (.lst [.non, .str (Str.ofString ""), .str (Str.ofString "A"), .int 5, .ref l5, .str (Str.ofString "a")])) p = some (.lst [.non, .str (Str.ofString ""), .str (Str.ofString "A"), .int 5, .ref l5, .str (Str.ofString "a")]) := upd_same
    have pw := (wT.same s2).ne2 np
    generalize upd G2 p (.lst [.non, .str (Str.ofString ""), .str (Str.ofString "A"), .int 5, .ref l5, .str (Str.ofString "a")]) = G3 at s3 k6 ⊢
    have hodd : Paired (fun v d => DatAt K (2 ^ 90) 5000 1 G3 v d ∧ ∀ H', SqL K H' l5 [.str (Str.ofString "a")] → EqS K H' v (Str.ofString "a") (nameD d)) [.non, .str (Str.ofString ""), .str (Str.ofString "A"), .int 5, .ref l5, .str (Str.ofString "a")] [.non, .str (Str.ofString ""), .str (Str.ofString "A"), .int 5, .odd, .str (Str.ofString "a")] :=
      .cons ⟨.lnon, fun _ _ => .inl ⟨rfl, rfl⟩⟩ (.cons ⟨.lstr (by rw [show (Str.ofString "").length = 0 by decide +kernel]; decide), fun _ _ => .inr (.inr (.inr (.inl ⟨_, rfl, by decide +kernel⟩)))⟩ (.cons ⟨.lstr (by rw [show (Str.ofString "A").length = 1 by decide +kernel]; decide), fun _ _ => .inr (.inr (.inr (.inl ⟨_, rfl, by decide +kernel⟩)))⟩ (.cons ⟨.lint (by decide), fun _ _ => .inr (.inl ⟨_, rfl, rfl⟩)⟩ (.cons ⟨.lodd (.inl ⟨_, sql (s3 _ _ k5')⟩), fun _ hl => .inr (.inr (.inr (.inr ⟨_, rfl, rfl, .inl ⟨_, hl⟩⟩)))⟩ (.cons ⟨.lstr (by rw [show (Str.ofString "a").length = 1 by decide +kernel]; decide), fun _ _ => .inr (.inr (.inr (.inl ⟨_, rfl, by decide +kernel⟩)))⟩ .nil)))))
    have s03 := Same.trans s2 s3
    refine ⟨.ref a, rfl, a, c, 6, rfl, wT.same s03, (by decide), (by decide), fun G4 kk x4 v4 k0' k9 => ?_⟩
    obtain ⟨kn, rfl⟩ := Int.eq_ofNat_of_zero_le k0'
    obtain ⟨vo, dvo, hvo, hdo, hne⟩ := pick hodd (j := kn) (by show kn < 6; omega)
    have kp4 := dk_exw (K := K) x4 (wT.same s03) v4
    have hdo : DtAt K G4 vo dvo := ⟨1, hdo.keep kp4⟩
    have l5w := wT.ne2 nl5
    have hl5 : G4 l5 = some (.lst [.str (Str.ofString "a")]) := x4 l5 _ l5w.1 (s3 _ _ k5')
    have heq : EqS K G4 vo (Str.ofString "a") (nameD dvo) := hne G4 (sql hl5)
    refine ⟨p, _, _, _, rfl, rfl, sql (x4 _ _ pw.1 k6), atI_nat hvo, ?_⟩
    have x04 := (x0T.same s03).trans x4
    have hT4 : Ptp G4 T1 us := ptp_exw x4 (wT.same s03) (hT.same s03)
    have hp4 : Paired (SkR K G4) us ks := paired_imp (fun _ _ h => (h.same s03).keep kp4) hpT
    clear hodd k5' k6 x4 pw s03 s2 s3 hT hpT x0T wT kp4 hne hl5 l5w
    -- the word that is due
    refine ⟨(by show 2 ≤ sizeLine; decide), fun p np => ⟨vo, rfl, _, _, rfl, eqs_same heq (same_upd np), .inr ⟨_, rfl, ?_⟩⟩⟩
    have s5 := same_upd (o := .lst [.str (Str.ofString "name"), .str (Str.ofString "let")]) np
    have k5 : (upd G4 p (.lst [.str (Str.ofString "name"), .str (Str.ofString "let")])) p = some (.lst [.str (Str.ofString "name"), .str (Str.ofString "let")]) := upd_same
    generalize upd G4 p (.lst [.str (Str.ofString "name"), .str (Str.ofString "let")]) = G5 at s5 k5 ⊢
    obtain ⟨nh, hnh⟩ : ∃ nh : Str, nh = if nameD dvo = false then Str.ofString "name" else Str.ofString "let" := ⟨_, rfl⟩
    have hix : atI [V.str (Str.ofString "name"), V.str (Str.ofString "let")] (if nameD dvo = true then 1 else 0) = some (.str nh) := by
      rw [hnh]
      cases nameD dvo with
      | true => exact atI_nat (j := 1) rfl
      | false => exact atI_nat (j := 0) rfl
    refine ⟨p, _, _, _, rfl, rfl, sql k5, hix, ?_⟩
    have hdo := hdo.same s5
    have hT5 := hT4.same s5
    have hp5 : Paired (SkR K G5) us ks := paired_imp (fun _ _ h => h.same s5) hp4
    have x05 := x04.same s5
    have v5 := v4.same s5
    clear hT4 hp4 x04 v4 heq k5 s5 hix
    have sumr : ∀ d : Dat, sumS d dvo = if arB d = false then Str.ofString "sketches" else nh := fun d => by rw [hnh]; rfl
    obtain ⟨dks, hdks⟩ : ∃ dks, dks = ks.map fun x => skJ x.r x.m x.o x.c := ⟨_, rfl⟩
    have hkd : dks.length = us.length := by rw [hdks, List.length_map, hkl]
    have ally : dks.all skD = true := by rw [hdks]; exact all_yes hv
    have dts : ∀ {H9 : Hp}, Paired (SkR K H9) us ks → Paired (DatAt K (2 ^ 31) 64 3 H9) us dks := fun h => by rw [hdks]; exact skr_dats h
    have datT : ∀ {H9 : Hp}, Ptp H9 T1 us → Paired (SkR K H9) us ks → DtAt K H9 (.ref T1) (.tup dks) := fun h1 h2 => ⟨4, .ltup h1 (by omega) (paired_imp (fun _ _ h => h.wide (by decide) (by decide) (Nat.le_refl _)) (dts h2))⟩
    have arT : arB (.tup dks) = true := by
      show (decide (dks.length ≤ 100) && dks.all skD) = true
      rw [ally, decide_eq_true (by omega)]
      rfl
    refine ⟨.ref T1, rfl, vo, rfl, .inl ⟨.ref T1, vo, .tup dks, dvo, rfl, datT hT5 hp5, hdo, fun G6 s6 => ?_⟩⟩
    rw [sumr, arT, if_neg Bool.noConfusion]
    refine ⟨.str nh, rfl, rfl, false, congrArg V.bl (neS _), iteF ⟨(by show 0 ≤ sizeLine; decide), fun t0 o0 nt0 ho0 => ⟨vo, rfl, .inl ⟨.ref t0, vo, .tup [], dvo, rfl, ⟨1, .ltup ⟨o0, upd_same, ho0⟩ (Nat.zero_le _) .nil⟩, (hdo.same s6).same (same_upd nt0), fun G7 s7 => ?_⟩⟩⟩⟩
    rw [sumr, show arB (.tup []) = true from rfl, if_neg Bool.noConfusion]
    refine ⟨.str nh, rfl, rfl, false, congrArg V.bl (neS _), iteF ?_⟩
    have s57 := Same.trans (Same.trans s6 (same_upd nt0)) s7
    have hdo := hdo.same s57
    have hT7 := hT5.same s57
    have hp7 : Paired (SkR K G7) us ks := paired_imp (fun _ _ h => h.same s57) hp5
    have x07 := x05.same s57
    have v7 := v5.same s57
    clear hT5 hp5 x05 v5 s6 s7 nt0 s57
    -- at
    refine ⟨.ref a, rfl, .ref T1, rfl, T1, _, rfl, .inr hT7.seq, a, c, _, rfl, v7, by omega, by omega, fun G8 kk x8 v8 k0' k9 => ?_⟩
    obtain ⟨at_, rfl⟩ := Int.eq_ofNat_of_zero_le k0'
    have hat : at_ < us.length := by omega
    obtain ⟨u, hu⟩ : ∃ u, us[at_]? = some u := ⟨us[at_], List.getElem?_eq_getElem hat⟩
    have kp8 := dk_exw (K := K) x8 v7 v8
    have hdo := hdo.keep kp8
    have hT8 := ptp_exw x8 v7 hT7
    have hp8 : Paired (SkR K G8) us ks := paired_imp (fun _ _ h => h.keep kp8) hp7
    have x08 := x07.trans x8
    clear hT7 hp7 x07 v7 x8 kp8
    obtain ⟨x, hx, hux⟩ := paired_at hp8 hu
    have gx := hv x (List.mem_of_getElem? hx)
    have hcl := gx.len
    have hr64 := gx.r64
    refine ⟨.ref T1, rfl, .int (at_ : Int), rfl, T1, _, _, _, rfl, rfl, hT8.seq, atI_nat hu, .ref a, rfl, .ref T1, rfl, .int (at_ : Int), rfl, T1, _, _, _, rfl, rfl, hT8.seq, atI_nat hu, u, skJ x.r x.m x.o x.c, 2 ^ 31, 64, rfl, hux, by decide, fun G9 s9 => ?_⟩
    have nJ := nodJ x.r x.m x.o x.c
    refine ⟨a, c, _, rfl, v8.same s9, by omega, by omega, fun GA kk xA vA k0'' k9' => ?_⟩
    obtain ⟨nn, rfl⟩ := Int.eq_ofNat_of_zero_le k0''
    have kpA := (dk_same (K := K) s9).trans (dk_exw xA (v8.same s9) vA)
    refine ⟨.ref a, rfl, a, c, u, skJ x.r x.m x.o x.c, nn, 2 ^ 31, 64, rfl, vA, hux.keep kpA, by omega, Nat.le_refl _, by decide, by decide, fun GB vb db xB vB hb => ?_⟩
    have kpB := kpA.trans (dk_exw xB vA vB)
    have hdo := hdo.keep kpB
    have hTB : Ptp GB T1 us := kpB.t _ _ hT8
    have hpB : Paired (SkR K GB) us ks := paired_imp (fun _ _ h => h.keep kpB) hp8
    have x0B := ((x08.same s9).trans xA).trans xB
    have hbD : DatAt K (2 ^ 90) 5000 4 GB vb db := hb.wide (by decide) (by decide) (Nat.le_refl _)
    clear hT8 hp8 x08 xA xB s9 kpA kpB hux vA v8 hb
    -- right
    refine ⟨vb, rfl, vb, db, rfl, ⟨4, hbD⟩, fun GC sC => ?_⟩
    have hdo := hdo.same sC
    have hTC := hTB.same sC
    have hpC : Paired (SkR K GC) us ks := paired_imp (fun _ _ h => h.same sC) hpB
    have x0C := x0B.same sC
    have vC := vB.same sC
    have hbD := hbD.same sC
    clear hTB hpB x0B vB sC
    -- with the bent one
    refine ⟨.ref T1, rfl, .int (at_ : Int), rfl, _, rfl, T1, us, rfl, hTC, fun p1 GD sD hp1 => ?_⟩
    rw [cut_head] at hp1
    refine ⟨vb, rfl, (by show 1 ≤ sizeLine; decide), fun t2 o2 nt2 ho2 => ⟨p1, t2, us.take at_, [vb], rfl, rfl, hp1.same (same_upd nt2), ⟨o2, upd_same, ho2⟩, by rw [List.length_take, sizeLine_eq]; show min at_ us.length + 1 ≤ _; omega, fun p3 GE sE hp3 => ?_⟩⟩
    have sDE := Same.trans (Same.trans sD (same_upd nt2)) sE
    refine ⟨.ref T1, rfl, .int (at_ : Int), rfl, _, _, rfl, rfl, _, rfl, T1, us, rfl, hTC.same sDE, fun p4 GF sF hp4 => ?_⟩
    have hp4 : Ptp GF p4 (us.drop (at_ + 1)) := by
      rw [← cut_rest]
      exact hp4
    refine ⟨p3, p4, _, _, rfl, rfl, hp3.same sF, hp4, by rw [List.length_append, List.length_take, List.length_drop, sizeLine_eq]; show min at_ us.length + 1 + _ ≤ _; omega, fun p5 GG sG hp5 => ?_⟩
    have sCG := Same.trans (Same.trans sDE sF) sG
    have hdo := hdo.same sCG
    have hTG := hTC.same sCG
    have hpG : Paired (SkR K GG) us ks := paired_imp (fun _ _ h => h.same sCG) hpC
    have x0G := x0C.same sCG
    have vG := vC.same sCG
    have hbG := hbD.same sCG
    have d5 : DtAt K GG (.ref p5) (.tup (dks.take at_ ++ [db] ++ dks.drop (at_ + 1))) := ⟨5, .ltup hp5 (by rw [List.length_append, List.length_append, List.length_take, List.length_drop]; show min at_ us.length + 1 + _ ≤ _; omega) (paired_app (paired_app (paired_take _ (paired_imp (fun _ _ h => h.wide (by decide) (by decide) (by omega)) (dts hpG))) (.cons hbG .nil)) (paired_drop _ (paired_imp (fun _ _ h => h.wide (by decide) (by decide) (by omega)) (dts hpG))))⟩
    have ar5 : arB (.tup (dks.take at_ ++ [db] ++ dks.drop (at_ + 1))) = skD db := by
      show (decide ((dks.take at_ ++ [db] ++ dks.drop (at_ + 1)).length ≤ 100) && (dks.take at_ ++ [db] ++ dks.drop (at_ + 1)).all skD) = skD db
      have a1 : (dks.take at_).all skD = true := List.all_eq_true.mpr fun d hd => List.all_eq_true.mp ally d (List.mem_of_mem_take hd)
      have a2 : (dks.drop (at_ + 1)).all skD = true := List.all_eq_true.mpr fun d hd => List.all_eq_true.mp ally d (List.mem_of_mem_drop hd)
      rw [decide_eq_true (by rw [List.length_append, List.length_append, List.length_take, List.length_drop]; show min at_ dks.length + 1 + _ ≤ _; omega), List.all_append, List.all_append, a1, a2, List.all_cons, List.all_nil]
      cases skD db <;> rfl
    clear hTC hpC x0C vC hbD sCG sF sG sDE sD sE hp1 hp3 hp4 hp5
    refine ⟨vo, rfl, .inl ⟨.ref p5, vo, _, dvo, rfl, d5, hdo, fun GH sH => ?_⟩⟩
    rw [sumr, ar5]
    refine ⟨.str nh, rfl, (by show 2 ≤ sizeLine; decide), fun p6 np6 => ?_⟩
    have s6 := same_upd (o := .lst [.str (Str.ofString "sketches"), .str nh]) np6
    have k6 : (upd GH p6 (.lst [.str (Str.ofString "sketches"), .str nh])) p6 = some (.lst [.str (Str.ofString "sketches"), .str nh]) := upd_same
    generalize upd GH p6 (.lst [.str (Str.ofString "sketches"), .str nh]) = GI at s6 k6 ⊢
    have hix : atI [V.str (Str.ofString "sketches"), V.str nh] (if skD db = true then 1 else 0) = some (.str (if skD db = false then Str.ofString "sketches" else nh)) := by
      cases skD db with
      | true => exact atI_nat (j := 1) rfl
      | false => exact atI_nat (j := 0) rfl
    refine ⟨.bl (skD db), rfl, .inr ⟨_, rfl, p6, _, _, _, rfl, rfl, sql k6, hix, rfl, false, congrArg V.bl (neS _), iteF ?_⟩⟩
    have sGI := Same.trans sH s6
    have hdo := hdo.same sGI
    have hTI := hTG.same sGI
    have hpI : Paired (SkR K GI) us ks := paired_imp (fun _ _ h => h.same sGI) hpG
    have x0I := x0G.same sGI
    have vI := vG.same sGI
    clear hTG hpG x0G vG hbG sGI sH s6 k6 hix d5 ar5
    -- a list of them
    refine ⟨.ref T1, rfl, T1, us, rfl, .inr hTI.seq, fun l8 nl8 => ?_⟩
    have s8 := same_upd (o := .lst us) nl8
    have k8 : (upd GI l8 (.lst us)) l8 = some (.lst us) := upd_same
    generalize upd GI l8 (.lst us) = GJ at s8 k8 ⊢
    refine ⟨.ref l8, rfl, vo, rfl, .inl ⟨.ref l8, vo, .odd, dvo, rfl, ⟨0, .lodd (.inl ⟨us, sql k8⟩)⟩, hdo.same s8, fun GK sK => ?_⟩⟩
    rw [sumr, show arB .odd = false from rfl, if_pos rfl]
    have sIK := Same.trans s8 sK
    refine ⟨rfl, false, congrArg V.bl (neS _), iteF ⟨.ref l8, rfl, .ref T1, rfl, T1, us, rfl, .inr (hTI.same sIK).seq, fun l9 nl9 => ?_⟩⟩
    have s9 := same_upd (o := .lst us) nl9
    have k9 : (upd GK l9 (.lst us)) l9 = some (.lst us) := upd_same
    generalize upd GK l9 (.lst us) = GL at s9 k9 ⊢
    have sIL := Same.trans sIK s9
    have dpA : DpAll K GL us (ks.map skQ) := dp_sks (paired_imp (fun _ _ h => ⟨3, (DatAt.same h sIL).wide (by decide) (by decide) (Nat.le_refl _)⟩) hpI)
    refine ⟨.list (ks.map skQ), .list (ks.map skQ), .lst (sql (s9 _ _ (sK _ _ k8))) dpA, .lst (sql k9) dpA, sks_shaped hv, sks_shaped hv, false, ?_, iteF ?_⟩
    · rw [sks_eqv]
      rfl
    have hdo := hdo.same sIL
    have x0L := x0I.same sIL
    have vL := vI.same sIL
    clear hTI hpI x0I vI dpA sIL s9 k9 s8 k8 sK sIK
    -- bare ones
    refine ⟨(by show 0 ≤ sizeLine; decide), fun tk ok ntk hok => ⟨(by show 4 ≤ sizeLine; decide), fun tb ob ntb hob => ?_⟩⟩
    have sk' := same_upd (o := .frz ok (.tup [])) ntk
    have hk1 : Ptp (upd GL tk (.frz ok (.tup []))) tk [] := ⟨ok, upd_same, hok⟩
    generalize upd GL tk (.frz ok (.tup [])) = GM at sk' hk1 ntb ⊢
    have sb' := same_upd (o := .frz ob (.tup [.int 1, .int 0, .int 0, .ref tk])) ntb
    have hb1 : Ptp (upd GM tb (.frz ob (.tup [.int 1, .int 0, .int 0, .ref tk]))) tb [.int 1, .int 0, .int 0, .ref tk] := ⟨ob, upd_same, hob⟩
    generalize upd GM tb (.frz ob (.tup [.int 1, .int 0, .int 0, .ref tk])) = GN at sb' hb1 ⊢
    have hk1 := hk1.same sb'
    have sLN := Same.trans sk' sb'
    have x0N := x0L.same sLN
    have vN := vL.same sLN
    clear x0L vL sLN sk' sb'
    refine ⟨.ref tb, rfl, (by show 1 ≤ sizeLine; decide), fun tc ntc => ⟨tc, 101, [.ref tb], rfl, rfl, .inl (.inl upd_same), by simp, by decide, by decide, by show 1 ≤ 1000; decide, fun tp ntp => ?_⟩⟩
    have sP := Same.new (same_upd ntc (o := .tup [.ref tb])) ntp (o := .tup (List.replicate (101 : Int).toNat [V.ref tb]).flatten)
    have hpp : (upd (upd GN tc (.tup [.ref tb])) tp (.tup (List.replicate (101 : Int).toNat [V.ref tb]).flatten)) tp = some (.tup (List.replicate (101 : Int).toNat [V.ref tb]).flatten) := upd_same
    generalize upd (upd GN tc (.tup [.ref tb])) tp (.tup (List.replicate (101 : Int).toNat [V.ref tb]).flatten) = GP at sP hpp ⊢
    refine ⟨vo, rfl, .inr ⟨tp, vo, _, rfl, .inl (.inl hpp), by rw [rep_one, List.length_replicate]; decide, rfl, false, congrArg V.bl (neS _), iteF ?_⟩⟩
    have x0P := x0N.same sP
    have vP := vN.same sP
    have hb2 := hb1.same sP
    have hk2 := hk1.same sP
    refine ⟨.ref tb, rfl, (by show 1 ≤ sizeLine; decide), fun tc2 ntc2 => ⟨tc2, 100, [.ref tb], rfl, rfl, .inl (.inl upd_same), by simp, by decide, by decide, by show 1 ≤ 1000; decide, fun tp2 ntp2 => ?_⟩⟩
    have sQ := Same.new (same_upd ntc2 (o := .tup [.ref tb])) ntp2 (o := .tup (List.replicate (100 : Int).toNat [V.ref tb]).flatten)
    have hpq : (upd (upd GP tc2 (.tup [.ref tb])) tp2 (.tup (List.replicate (100 : Int).toNat [V.ref tb]).flatten)) tp2 = some (.tup (List.replicate (100 : Int).toNat [V.ref tb]).flatten) := upd_same
    generalize upd (upd GP tc2 (.tup [.ref tb])) tp2 (.tup (List.replicate (100 : Int).toNat [V.ref tb]).flatten) = GQ at sQ hpq ⊢
    have x0Q := x0P.same sQ
    have vQ := vP.same sQ
    have er : (List.replicate (100 : Int).toNat [V.ref tb]).flatten = (List.replicate 100 tb).map V.ref := by
      rw [rep_one, List.map_replicate]
      rfl
    rw [er] at hpq
    have hsk : SkX K GQ tb sk0 := ⟨tk, [], (hb2.same sQ).seq, hk2.same sQ, .nil⟩
    refine ⟨tp2, (Str.ofString "a"), List.replicate 100 tb, List.replicate 100 sk0, rfl, .inl (.inl hpq), paired_rep hsk 100, fun y hy => ?_, by rw [List.length_replicate]; exact Nat.le_refl _, nmB_nm.mp (by decide +kernel), fun GR pr sR npr hpr => ⟨(by show 2 ≤ sizeLine; decide), fun pz npz => ?_⟩⟩
    · rw [List.eq_of_mem_replicate hy]
      exact sk0_v
    rw [low0, high0] at hpr
    have sz := same_upd (o := .tup [.int 0, .int 0]) npz
    refine ⟨.ref pr, .ref pz, rfl, .inr ⟨pr, pz, _, _, rfl, rfl, .inl (.inl (sz _ _ hpr)), .inl (.inl upd_same), rfl, (by show 2 ≤ 1000; decide), fun j u' v' hu' hv' => ?_⟩, fun GS sS => ?_⟩
    · match j, hu', hv' with
      | 0, hu', hv' =>
        cases hu'
        cases hv'
        exact .inl ⟨_, rfl, rfl⟩
      | 1, hu', hv' =>
        cases hu'
        cases hv'
        exact .inl ⟨_, rfl, rfl⟩
      | j + 2, hu', hv' => simp at hu'
    · exact q GS (x0Q.same (Same.trans (Same.trans sR sz) sS)) (vQ.same (Same.trans (Same.trans sR sz) sS))
end
end Kb

namespace Kb
open PySem PySem.Spec PyProof.Rows L2 SrtZ SrtO
abbrev slaw : Stmt := topS 85
theorem sclaw : FnScope ["_law_script", "_law_well_here", "_law_names_here", "_law_turn", "_law_room_here", "_law_size", "_law_blocks"] ["_law_script"] (defScope slaw) := ⟨rfl, rfl, rfl, by decide +kernel, rfl, by decide +kernel, by decide +kernel⟩
abbrev Dnlaw (K : PySem.W.Frag) (mg : Str → Option Value) := Dn K mg "law" slaw ["_law_script"]
def spLaw (K : PySem.W.Frag) : Sp := fun vs H Q _ => ∃ (a : Addr) (ns : List Int), vs = [.ref a] ∧ SqL K H a (ns.map V.int) ∧ ns.length ≤ 63 ∧ ∀ H', Q (.bl true) H'
section
variable {P : Program} {w : World} {K : PySem.W.Frag} {mg : Str → Option Value} {base : Heap}
theorem ok_law (D : DefsE K mg) (F : ErX K mg) (N : TxE K mg "NoTree") (NX : XcT K N.C) (nmax : mg "max" = none) (cK : Cst mg "MOST_SKETCHES" (.int 100)) (cZ : Cst mg "MOST_SIZE" (.int 1000000)) (cB : Cst mg "MOST_BLOCKS" (.int 100)) (dP_bare : DnBare K mg) (dP_is_within : DnIsWithin K mg) (L : Tal K mg) (Ri : Rng K mg) (dP_are_sketches : DnAreSketches K mg) (dP_sum_ends : DnSumEnds K mg)
    (dmixed : Dnmixed K mg) (dwell : Dnwell K mg) (dfilled : Dnfilled K mg) (ddraw : Dndraw K mg) (dnumber : Dnnumber K mg) (dsigns : Dnsigns K mg) (dstring : Dnstring K mg) (dname : Dnname K mg) (dunlike : Dnunlike K mg) (dany : Dnany K mg) (dnodes : Dnnodes K mg) (dchanged : Dnchanged K mg) (dspoilt : Dnspoilt K mg) (dnames : Dnnames K mg)
    (droom : Dnroom K mg) (dcount : Dncount K mg) (dlong : Dnlong K mg) (dname_fits : Dnname_fits K mg) (dpair_fits : Dnpair_fits K mg) (dcounts_fit : Dncounts_fit K mg) (dsum : Dnsum K mg) (dsketch_fits : Dnsketch_fits K mg) (dkept : Dnkept K mg) (dsketch : Dnsketch K mg) (dalike : Dnalike K mg)
    (dpart : Dnpart K mg) (dis_part : Dnis_part K mg) (dmade : Dnmade K mg) (dmade_due : Dnmade_due K mg) (dasked : Dnasked K mg) (dsum_told : Dnsum_told K mg) (dstands : Dnstands K mg) (dring_holds : Dnring_holds K mg) (dsums_hold : Dnsums_hold K mg)
    (d : Dnlaw K mg) : FnOk P w K mg base CX0 14 d.f d.fd ["_law_script"] (spLaw K) := by
  have T := D.T
  have Gwell : FnOk P w K mg base CX0 1 dwell.f dwell.fd ["_law_script"] (spWell K) := ok_well T dwell
  have Gdraw : FnOk P w K mg base CX0 3 ddraw.f ddraw.fd ["_law_well_here", "_law_many"] spDraw := ok_draw T dmixed dfilled ddraw
  have Gnames : FnOk P w K mg base CX0 5 dnames.f dnames.fd ["_law_well_here", "_law_most"] spNames := ok_names T dmixed dfilled ddraw dname dunlike dnames
  have Groom : FnOk P w K mg base CX0 4 droom.f droom.fd ["_law_well_here"] spRoom := ok_room T dmixed dfilled ddraw droom
  have Gpart : FnOk P w K mg base CX0 4 dpart.f dpart.fd ["_law_well_here", "_law_good", "_law_most"] (spPart K) := ok_part T dmixed dfilled ddraw dpart
  have Gmade : FnOk P w K mg base CX0 6 dmade.f dmade.fd ["_law_room_here", "_law_size", "_law_blocks"] (spMade K) := ok_made T F D.cM cZ cB D.dP_is_int D.dP_is_room dP_bare dP_is_within L Ri dmade
  have Gmade_due : FnOk P w K mg base CX0 3 dmade_due.f dmade_due.fd ["_law_room_here", "_law_size", "_law_blocks"] (spMadeDue K) := ok_made_due T dcount dis_part dmade_due
  have Gring_holds : FnOk P w K mg base CX0 9 dring_holds.f dring_holds.fd ["_law_well_here", "_law_names_here"] spRingHolds := ok_ring_holds T F nmax D.cM D.cL cZ cB D.dP_is_int D.dP_is_room D.dP_is_name dP_bare dP_is_within L Ri dmixed dfilled ddraw droom dalike dasked dstands dring_holds
  have Gsums_hold : FnOk P w K mg base CX0 13 dsums_hold.f dsums_hold.fd ["_law_well_here", "_law_names_here"] spSumsHold := ok_sums_hold D F N NX cK dP_are_sketches dP_sum_ends dmixed dfilled ddraw dnumber dsigns dstring dname dany dnodes dchanged dspoilt droom dcount dlong dname_fits dpair_fits dcounts_fit dsum dsketch_fits dkept dsketch dalike dsum_told dsums_hold
  have neS : ∀ z : Str, (!decide (V.str z = V.str z)) = false := fun z => by rw [decide_eq_true rfl]; rfl
  refine d.F.ok sclaw (fun vs H Q E h => ?_) (fun cdv A outer s H vs Q E hr h => ?_)
  · obtain ⟨a, ns, rfl, _⟩ := h
    rfl
  · obtain ⟨a0, ns0, rfl, ha, hl, q⟩ := h
    refine ⟨_, (pss_cons (ps_set (i := 1) sclaw.nd rfl (Or.inl rfl) (pe_call Gwell (hr.mono (by omega)) (by rfl) dwell.g dwell.F.kp dwell.b .nil pass0 (pa_cons (pv 0) pa_nil)))
    (pss_cons (ps_set (i := 2) sclaw.nd rfl (Or.inl rfl) (pe_call Gnames (hr.mono (by omega)) (by rfl) dnames.g dnames.F.kp dnames.b .nil pass0 (pa_cons (pv 1) (pa_cons pe_int pa_nil))))
    (pss_cons (ps_for PassesOwn.never rfl (pi_range1 (by rfl) T.n_range (pa_cons (pe_op op_add pe_int (pe_call Gdraw (hr.mono (by omega)) (by rfl) ddraw.g ddraw.F.kp ddraw.b .nil pass0 (pa_cons (pv 1) (pa_cons pe_int pa_nil)))) pa_nil)) (pg_name (i := 3) sclaw.nd rfl (Or.inl rfl))
      (pss_cons (ps_set (i := 4) sclaw.nd rfl (Or.inl rfl) (pe_call Gpart (hr.mono (by omega)) (by rfl) dpart.g dpart.F.kp dpart.b .nil pass0 (pa_cons (pv 1) (pa_cons (pe_call Groom (hr.mono (by omega)) (by rfl) droom.g droom.F.kp droom.b .nil pass0 (pa_cons (pv 1) pa_nil)) (pa_cons pe_int pa_nil)))))
      (pss_cons (ps_set (i := 5) sclaw.nd rfl (Or.inl rfl) (pe_call Gpart (hr.mono (by omega)) (by rfl) dpart.g dpart.F.kp dpart.b .nil pass0 (pa_cons (pv 1) (pa_cons (pe_ix ix_list (pe_lst (pa_cons pe_int (pa_cons (pe_op op_pow pe_int pe_int) (pa_cons (pe_op op_add pe_int (pe_call Gdraw (hr.mono (by omega)) (by rfl) ddraw.g ddraw.F.kp ddraw.b .nil pass0 (pa_cons (pv 1) (pa_cons pe_int pa_nil)))) pa_nil)))) (pe_call Gdraw (hr.mono (by omega)) (by rfl) ddraw.g ddraw.F.kp ddraw.b .nil pass0 (pa_cons (pv 1) (pa_cons pe_int pa_nil))) (fun _ _ => rfl)) (pa_cons (pe_op op_pow pe_int pe_int) pa_nil)))))
      (pss_cons (ps_set (i := 6) sclaw.nd rfl (Or.inl rfl) (pe_call Gpart (hr.mono (by omega)) (by rfl) dpart.g dpart.F.kp dpart.b .nil pass0 (pa_cons (pv 1) (pa_cons (pe_ix ix_list (pe_lst (pa_cons pe_int (pa_cons pe_int (pa_cons (pe_op op_add pe_int (pe_call Gdraw (hr.mono (by omega)) (by rfl) ddraw.g ddraw.F.kp ddraw.b .nil pass0 (pa_cons (pv 1) (pa_cons pe_int pa_nil)))) pa_nil)))) (pe_call Gdraw (hr.mono (by omega)) (by rfl) ddraw.g ddraw.F.kp ddraw.b .nil pass0 (pa_cons (pv 1) (pa_cons pe_int pa_nil))) (fun _ _ => rfl)) (pa_cons pe_int pa_nil)))))
      (pss_cons (ps_if (pt_cmpR op_ne (pe_call Gmade (hr.mono (by omega)) (by rfl) dmade.g dmade.F.kp dmade.b .nil pass0 (pa_cons (pv 4) (pa_cons (pv 5) (pa_cons (pv 6) pa_nil)))) (pe_call Gmade_due (hr.mono (by omega)) (by rfl) dmade_due.g dmade_due.F.kp dmade_due.b .nil pass0 (pa_cons (pv 4) (pa_cons (pv 5) (pa_cons (pv 6) pa_nil)))) (nomark _))
        (pss_one (ps_ret pe_bl))
        pss_nil)
      (pss_one (ps_if (PW.pt (pw_or (pt_not (pt_val (pe_call Gring_holds (hr.mono (by omega)) (by rfl) dring_holds.g dring_holds.F.kp dring_holds.b .nil pass0 (pa_cons (pv 1) (pa_cons (pv 2) pa_nil))))) (pw_or1 (pt_not (pt_val (pe_call Gsums_hold (hr.mono (by omega)) (by rfl) dsums_hold.g dsums_hold.F.kp dsums_hold.b .nil pass0 (pa_cons (pv 1) (pa_cons (pv 2) pa_nil))))))))
        (pss_one (ps_ret pe_bl))
        pss_nil)))))))
    (pss_one (ps_ret pe_bl))))), ?_⟩
    refine ⟨.ref a0, rfl, a0, ns0, rfl, ha, hl, fun H1 p c s1 np w1 => ?_⟩
    refine ⟨.ref p, rfl, p, c, 5, rfl, w1, by decide, by decide, fun H2 I ns x2 w2 nI Ip Ic hI asc hnm n0 n5 => ?_⟩
    refine ⟨.ref p, rfl, p, c, 3, rfl, w2, by decide, by decide, fun H3 k x3 w3 k0 k3 => ⟨_, _, rfl, rfl, (1 + k : Int), rfl, by omega, by omega, ?_⟩⟩
    refine for_range (lo := 0) (n := (1 + k).toNat) (fun i σ H4 => ∃ (y3 y4 y5 y6 : Option V), σ = [some (.ref a0), some (.ref p), some (.ref I), y3, y4, y5, y6] ∧ Wl p c H4 ∧ H4 I = some (.lst (ns.map V.str)))
      ⟨none, none, none, none, rfl, w3, x3.strs w2 hI⟩ (fun i σ H4 hi h4 => ?_) (fun σ H4 h4 => ?_)
    · obtain ⟨y3, y4, y5, y6, rfl, w4, hI4⟩ := h4
      refine ⟨.ref p, rfl, .ref p, rfl, p, c, rfl, w4, fun J0 r xr wr r1 r64 => ?_⟩
      refine ⟨p, c, r, 64, rfl, wr, by omega, by omega, by decide, by decide, fun J1' v1 d1 xp w5 hd1 => ?_⟩
      have x5 := xr.trans xp
      refine ⟨.ref p, rfl, _, _, rfl, rfl, ⟨by decide, by decide, by decide⟩, .ref p, rfl, p, c, 9, rfl, w5, by decide, by decide, fun J1 r xa wa r0 r9 => ⟨_, _, rfl, rfl, (by show 3 ≤ sizeLine; decide), fun q1 nq1 => ?_⟩⟩
      have sa := same_upd (o := .lst [.int 1, .int (10 ^ (6 : Int).toNat), .int (1 + r)]) nq1
      have ka : (upd J1 q1 (.lst [.int 1, .int (10 ^ (6 : Int).toNat), .int (1 + r)])) q1 = some (.lst [.int 1, .int (10 ^ (6 : Int).toNat), .int (1 + r)]) := upd_same
      have qw := wa.ne2 nq1
      refine ⟨.ref p, rfl, p, c, 3, rfl, wa.same sa, by decide, by decide, fun J2 kq xb wb k0 k3 => ?_⟩
      obtain ⟨kq, rfl⟩ := Int.eq_ofNat_of_zero_le k0
      obtain ⟨g, hg, g0, g1⟩ : ∃ g : Int, ([.int 1, .int (10 ^ (6 : Int).toNat), .int (1 + r)] : List V)[kq]? = some (.int g) ∧ 0 ≤ g ∧ g ≤ 1000000 := by
        match kq, (show kq < 3 by omega) with
        | 0, _ => exact ⟨1, rfl, by decide, by decide⟩
        | 1, _ => exact ⟨_, rfl, by decide, by decide⟩
        | 2, _ => exact ⟨_, rfl, by omega, by omega⟩
        | n + 3, h => exact absurd h (by omega)
      refine ⟨q1, _, _, _, rfl, rfl, sql (xb _ _ qw.1 ka), atI_nat hg, _, _, rfl, rfl, ⟨by decide, by decide, by decide⟩, p, c, g, _, rfl, wb, g0, g1, by decide, by decide, fun J3 v2 d2 xc w6 hd2 => ?_⟩
      have x6 := ((xa.same sa).trans xb).trans xc
      have kp6 := dk_exw (K := K) x6 w5 w6
      have hd1 := hd1.keep kp6
      refine ⟨.ref p, rfl, .ref p, rfl, p, c, 9, rfl, w6, by decide, by decide, fun J1 r xa wa r0 r9 => ⟨_, _, rfl, rfl, (by show 3 ≤ sizeLine; decide), fun q1 nq1 => ?_⟩⟩
      have sa := same_upd (o := .lst [.int 1, .int (100), .int (1 + r)]) nq1
      have ka : (upd J1 q1 (.lst [.int 1, .int (100), .int (1 + r)])) q1 = some (.lst [.int 1, .int (100), .int (1 + r)]) := upd_same
      have qw := wa.ne2 nq1
      refine ⟨.ref p, rfl, p, c, 3, rfl, wa.same sa, by decide, by decide, fun J2 kq xb wb k0 k3 => ?_⟩
      obtain ⟨kq, rfl⟩ := Int.eq_ofNat_of_zero_le k0
      obtain ⟨g, hg, g0, g1⟩ : ∃ g : Int, ([.int 1, .int (100), .int (1 + r)] : List V)[kq]? = some (.int g) ∧ 0 ≤ g ∧ g ≤ 1000000 := by
        match kq, (show kq < 3 by omega) with
        | 0, _ => exact ⟨1, rfl, by decide, by decide⟩
        | 1, _ => exact ⟨_, rfl, by decide, by decide⟩
        | 2, _ => exact ⟨_, rfl, by omega, by omega⟩
        | n + 3, h => exact absurd h (by omega)
      refine ⟨q1, _, _, _, rfl, rfl, sql (xb _ _ qw.1 ka), atI_nat hg, p, c, g, _, rfl, wb, g0, g1, by decide, by decide, fun J3 v3 d3 xc w7 hd3 => ?_⟩
      have x7 := ((xa.same sa).trans xb).trans xc
      have kp7 := dk_exw (K := K) x7 w6 w7
      have hd1 := hd1.keep kp7
      have hd2 := hd2.keep kp7
      have x47 := (x5.trans x6).trans x7
      have hI7 := x47.strs w4 hI4
      refine ⟨v1, rfl, v2, rfl, v3, rfl, v1, v2, v3, d1, d2, d3, rfl, hd1, hd2, hd3, fun J8 s8 => ⟨v1, rfl, v2, rfl, v3, rfl, v1, v2, v3, d1, d2, d3, rfl, hd1.same s8, hd2.same s8, hd3.same s8, rfl, false, congrArg V.bl (neS _), iteF ?_⟩⟩
      refine ⟨.ref p, rfl, .ref I, rfl, p, c, I, ns, rfl, w7.same s8, Ip, s8 _ _ hI7, hnm, n0, by omega, fun J9 x9 w9 => ⟨true, rfl, iteF ?_⟩⟩
      have hI9 := x9.strs (w7.same s8) (s8 _ _ hI7)
      exact ⟨.ref p, rfl, .ref I, rfl, p, c, I, ns, rfl, w9, Ip, hI9, asc, hnm, n0, by omega, fun JA xA wA => ⟨true, rfl, iteF ⟨_, _, _, _, rfl, wA, xA.strs w9 hI9⟩⟩⟩
    · obtain ⟨y3, y4, y5, y6, rfl, w4, hI4⟩ := h4
      exact q H4
end
end Kb

namespace Kb
open PySem PySem.Spec PyProof.Rows L2
/-- a def as the top has left it -/
def dn_of {K : PySem.W.Frag} {h : Heap} {mg : Str → Option Value} {nm : Str} {st : Stmt} {ps : List Str} {f : Addr} {oc : Value} {od an : Option Addr} {osl : Array (Option Value)} {kV doc pm cdv ct : Value} (X : K.In h) (G : h.Ns mainGlobals mg)
    (fa : PySem.W.nsIn K mainGlobals nm = some (some (.ref f))) (fl : K.lookup f = some ⟨oc, od, .func (PySem.W.fnOf nm nm (defArgs st) (defBody st) (defScope st) .none kV doc pm an cdv ct), osl⟩) (fc : PySem.W.codeIn K cdv nm = true) (fk : PySem.W.keepIn K (.ref f) = true)
    (fb : ∀ (kV doc pm : Value) (an : Option Addr) (cdv ct : Value) (us : List Value), us.length = ps.length → bindArgs (PySem.W.fnOf nm nm (defArgs st) (defBody st) (defScope st) .none kV doc pm an cdv ct) ⟨us, []⟩ = pure (ps.zip us)) : Dn K mg nm st ps :=
  ⟨f, _, fun_mk fl fc fk, PySem.W.mg_of X G fa, (fun_mk fl fc fk).binds fb⟩
def cst_of {K : PySem.W.Frag} {h : Heap} {mg : Str → Option Value} {nm : Str} {i : Int} {t : Tok} (X : K.In h) (G : h.Ns mainGlobals mg) (fa : PySem.W.nsIn K mainGlobals nm = some (some (.int i t))) : Cst mg nm (.int i) := ⟨_, PySem.W.mg_of X G fa, ⟨_, rfl⟩⟩
/-- the class as the top has left it -/
def tal_of {K : PySem.W.Frag} {h : Heap} {mg : Str → Option Value} {C fI fS fF fP fT : Addr} {odI anI odS anS odF anF odP anP odT anT : Option Addr} {slI slS slF slP slT : Array (Option Value)} {ocI kVI dcI pmI cdI ctI ocS kVS dcS pmS cdS ctS ocF kVF dcF pmF cdF ctF ocP kVP dcP pmP cdP ctP ocT kVT dcT pmT cdT ctT : Value} (X : K.In h) (G : h.Ns mainGlobals mg)
    (aCls : PySem.W.nsIn K mainGlobals "Tally" = some (some (.ref C)))
    (aI : PySem.W.findIn K (.ref C) "__init__" = some (some (.ref fI))) (iI : PySem.W.isFn K (.ref fI) = true) (lI : K.lookup fI = some ⟨ocI, odI, .func (PySem.W.fnOf "__init__" "Tally.__init__" (defArgs sTinit) (defBody sTinit) (defScope sTinit) .none kVI dcI pmI anI cdI ctI), slI⟩) (cI : PySem.W.codeIn K cdI "Tally.__init__" = true) (kI : PySem.W.keepIn K (.ref fI) = true)
    (aS : PySem.W.findIn K (.ref C) "sketch" = some (some (.ref fS))) (iS : PySem.W.isFn K (.ref fS) = true) (lS : K.lookup fS = some ⟨ocS, odS, .func (PySem.W.fnOf "sketch" "Tally.sketch" (defArgs sTsketch) (defBody sTsketch) (defScope sTsketch) .none kVS dcS pmS anS cdS ctS), slS⟩) (cS : PySem.W.codeIn K cdS "Tally.sketch" = true) (kS : PySem.W.keepIn K (.ref fS) = true)
    (aF : PySem.W.findIn K (.ref C) "gain" = some (some (.ref fF))) (iF : PySem.W.isFn K (.ref fF) = true) (lF : K.lookup fF = some ⟨ocF, odF, .func (PySem.W.fnOf "gain" "Tally.gain" (defArgs sTfeed) (defBody sTfeed) (defScope sTfeed) .none kVF dcF pmF anF cdF ctF), slF⟩) (cF : PySem.W.codeIn K cdF "Tally.gain" = true) (kF : PySem.W.keepIn K (.ref fF) = true)
    (aP : PySem.W.findIn K (.ref C) "pour" = some (some (.ref fP))) (iP : PySem.W.isFn K (.ref fP) = true) (lP : K.lookup fP = some ⟨ocP, odP, .func (PySem.W.fnOf "pour" "Tally.pour" (defArgs sTpour) (defBody sTpour) (defScope sTpour) .none kVP dcP pmP anP cdP ctP), slP⟩) (cP : PySem.W.codeIn K cdP "Tally.pour" = true) (kP : PySem.W.keepIn K (.ref fP) = true)
    (aT : PySem.W.findIn K (.ref C) "_take" = some (some (.ref fT))) (iT : PySem.W.isFn K (.ref fT) = true) (lT : K.lookup fT = some ⟨ocT, odT, .func (PySem.W.fnOf "_take" "Tally._take" (defArgs sTtake) (defBody sTtake) (defScope sTtake) .none kVT dcT pmT anT cdT ctT), slT⟩) (cT : PySem.W.codeIn K cdT "Tally._take" = true) (kT : PySem.W.keepIn K (.ref fT) = true)
    (pg : PySem.W.plainGet K C Str.empty = true) (hd : PySem.W.hasDictIn K C = true) (po : PySem.W.plainOver K C = true) (sa : PySem.W.findIn K (.ref C) "__setattr__" = some (some (.builtin "object.__setattr__"))) (mk : PySem.W.makesIn K C = true) (kc : PySem.W.keepIn K (.ref C) = true)
    (nR : PySem.W.findIn K (.ref C) "room" = some none) (nM : PySem.W.findIn K (.ref C) "seen" = some none) (nO : PySem.W.findIn K (.ref C) "off" = some none) (nC : PySem.W.findIn K (.ref C) "counts" = some none) : Tal K mg :=
  { C := C, fI := fI, fS := fS, fF := fF, fP := fP, fT := fT, dI := _, dS := _, dF := _, dP := _, dT := _, FI := fun_mk lI cI kI, FS := fun_mk lS cS kS, FF := fun_mk lF cF kF, FP := fun_mk lP cP kP, FT := fun_mk lT cT kT,
    bI := (fun_mk (st := sTinit) lI cI kI).binds fun _ _ _ _ _ _ us hl => match us, hl with | [_, _], _ => rfl, bS := (fun_mk (st := sTsketch) lS cS kS).binds fun _ _ _ _ _ _ us hl => match us, hl with | [_], _ => rfl, bF := (fun_mk (st := sTfeed) lF cF kF).binds fun _ _ _ _ _ _ us hl => match us, hl with | [_, _, _], _ => rfl, bP := (fun_mk (st := sTpour) lP cP kP).binds fun _ _ _ _ _ _ us hl => match us, hl with | [_, _], _ => rfl, bT := (fun_mk (st := sTtake) lT cT kT).binds fun _ _ _ _ _ _ us hl => match us, hl with | [_, _], _ => rfl,
    mI := ⟨mk, aI, iI, kc⟩, mS := ⟨aS, iS, kS⟩, mF := ⟨aF, iF, kF⟩, mP := ⟨aP, iP, kP⟩, mT := ⟨aT, iT, kT⟩, cl := ⟨pg, hd, po, sa⟩, nR := nR, nM := nM, nO := nO, nC := nC, g := PySem.W.mg_of X G aCls }
/-- the class as the top has left it -/
def rng_of {K : PySem.W.Frag} {h : Heap} {mg : Str → Option Value} {C fI fF fM fL fN fC : Addr} {odI anI odF anF odM anM odL anL odN anN odC anC : Option Addr} {slI slF slM slL slN slC : Array (Option Value)} {ocI kVI dcI pmI cdI ctI ocF kVF dcF pmF cdF ctF ocM kVM dcM pmM cdM ctM ocL kVL dcL pmL cdL ctL ocN kVN dcN pmN cdN ctN ocC kVC dcC pmC cdC ctC : Value} (X : K.In h) (G : h.Ns mainGlobals mg)
    (aCls : PySem.W.nsIn K mainGlobals "Ring" = some (some (.ref C)))
    (aI : PySem.W.findIn K (.ref C) "__init__" = some (some (.ref fI))) (iI : PySem.W.isFn K (.ref fI) = true) (lI : K.lookup fI = some ⟨ocI, odI, .func (PySem.W.fnOf "__init__" "Ring.__init__" (defArgs sRinit) (defBody sRinit) (defScope sRinit) .none kVI dcI pmI anI cdI ctI), slI⟩) (cI : PySem.W.codeIn K cdI "Ring.__init__" = true) (kI : PySem.W.keepIn K (.ref fI) = true)
    (aF : PySem.W.findIn K (.ref C) "feed" = some (some (.ref fF))) (iF : PySem.W.isFn K (.ref fF) = true) (lF : K.lookup fF = some ⟨ocF, odF, .func (PySem.W.fnOf "feed" "Ring.feed" (defArgs sRfeed) (defBody sRfeed) (defScope sRfeed) .none kVF dcF pmF anF cdF ctF), slF⟩) (cF : PySem.W.codeIn K cdF "Ring.feed" = true) (kF : PySem.W.keepIn K (.ref fF) = true)
    (aM : PySem.W.findIn K (.ref C) "many" = some (some (.ref fM))) (iM : PySem.W.isFn K (.ref fM) = true) (lM : K.lookup fM = some ⟨ocM, odM, .func (PySem.W.fnOf "many" "Ring.many" (defArgs sRmany) (defBody sRmany) (defScope sRmany) .none kVM dcM pmM anM cdM ctM), slM⟩) (cM : PySem.W.codeIn K cdM "Ring.many" = true) (kM : PySem.W.keepIn K (.ref fM) = true)
    (aL : PySem.W.findIn K (.ref C) "last" = some (some (.ref fL))) (iL : PySem.W.isFn K (.ref fL) = true) (lL : K.lookup fL = some ⟨ocL, odL, .func (PySem.W.fnOf "last" "Ring.last" (defArgs sRlast) (defBody sRlast) (defScope sRlast) .none kVL dcL pmL anL cdL ctL), slL⟩) (cL : PySem.W.codeIn K cdL "Ring.last" = true) (kL : PySem.W.keepIn K (.ref fL) = true)
    (aN : PySem.W.findIn K (.ref C) "now" = some (some (.ref fN))) (iN : PySem.W.isFn K (.ref fN) = true) (lN : K.lookup fN = some ⟨ocN, odN, .func (PySem.W.fnOf "now" "Ring.now" (defArgs sRnow) (defBody sRnow) (defScope sRnow) .none kVN dcN pmN anN cdN ctN), slN⟩) (cN : PySem.W.codeIn K cdN "Ring.now" = true) (kN : PySem.W.keepIn K (.ref fN) = true)
    (aC : PySem.W.findIn K (.ref C) "copy" = some (some (.ref fC))) (iC : PySem.W.isFn K (.ref fC) = true) (lC : K.lookup fC = some ⟨ocC, odC, .func (PySem.W.fnOf "copy" "Ring.copy" (defArgs sRcopy) (defBody sRcopy) (defScope sRcopy) .none kVC dcC pmC anC cdC ctC), slC⟩) (cC : PySem.W.codeIn K cdC "Ring.copy" = true) (kC : PySem.W.keepIn K (.ref fC) = true)
    (pg : PySem.W.plainGet K C Str.empty = true) (hd : PySem.W.hasDictIn K C = true) (po : PySem.W.plainOver K C = true) (sa : PySem.W.findIn K (.ref C) "__setattr__" = some (some (.builtin "object.__setattr__"))) (mk : PySem.W.makesIn K C = true) (kc : PySem.W.keepIn K (.ref C) = true)
    (nT : PySem.W.findIn K (.ref C) "tally" = some none) (nR : PySem.W.findIn K (.ref C) "room" = some none) (nS : PySem.W.findIn K (.ref C) "size" = some none) (nB : PySem.W.findIn K (.ref C) "blocks" = some none) (nO : PySem.W.findIn K (.ref C) "total" = some none) (nK : PySem.W.findIn K (.ref C) "sketches" = some none) : Rng K mg :=
  { C := C, fI := fI, fF := fF, fM := fM, fL := fL, fN := fN, fC := fC, dI := _, dF := _, dM := _, dL := _, dN := _, dC := _, FI := fun_mk lI cI kI, FF := fun_mk lF cF kF, FM := fun_mk lM cM kM, FL := fun_mk lL cL kL, FN := fun_mk lN cN kN, FC := fun_mk lC cC kC,
    bI := (fun_mk (st := sRinit) lI cI kI).binds fun _ _ _ _ _ _ us hl => match us, hl with | [_, _, _, _], _ => rfl, bF := (fun_mk (st := sRfeed) lF cF kF).binds fun _ _ _ _ _ _ us hl => match us, hl with | [_, _], _ => rfl, bM := (fun_mk (st := sRmany) lM cM kM).binds fun _ _ _ _ _ _ us hl => match us, hl with | [_], _ => rfl, bL := (fun_mk (st := sRlast) lL cL kL).binds fun _ _ _ _ _ _ us hl => match us, hl with | [_, _], _ => rfl, bN := (fun_mk (st := sRnow) lN cN kN).binds fun _ _ _ _ _ _ us hl => match us, hl with | [_], _ => rfl, bC := (fun_mk (st := sRcopy) lC cC kC).binds fun _ _ _ _ _ _ us hl => match us, hl with | [_], _ => rfl,
    mI := ⟨mk, aI, iI, kc⟩, mF := ⟨aF, iF, kF⟩, mM := ⟨aM, iM, kM⟩, mL := ⟨aL, iL, kL⟩, mN := ⟨aN, iN, kN⟩, mC := ⟨aC, iC, kC⟩, cl := ⟨pg, hd, po, sa⟩, nT := nT, nR := nR, nS := nS, nB := nB, nO := nO, nK := nK, g := PySem.W.mg_of X G aCls }
/-- the classes of errors as the top has left them -/
def erx_of {K : PySem.W.Frag} {h : Heap} {mg : Str → Option Value} {CR CNu CNa CSs CTr KE : Addr} (X : K.In h) (G : h.Ns mainGlobals mg)
    (R1 : PySem.W.nsIn K mainGlobals "NoRoom" = some (some (.ref CR))) (R2 : PySem.W.excIn K CR [.type "ValueError", .type "Exception", .type "BaseException", .type "object"] "ValueError.__new__" = true) (R3 : PySem.W.keepIn K (.ref CR) = true) (R4 : PySem.W.subIn K (.ref CR) (.type "BaseException") = some true) (R5 : PySem.W.typeIn K (.ref CR) = some (.type "type")) (Ri1 : PySem.W.findIn K (.ref CR) "__getattribute__" = some (some (.builtin "BaseException.__getattribute__"))) (Ri2 : PySem.W.findIn K (.ref CR) "__getattr__" = some none) (Ri3 : PySem.W.hasDictIn K CR = true) (Ri4 : PySem.W.findIn K (.ref CR) "__class__" = some (some (.builtin "object.__class__"))) (Ri5 : PySem.W.specialIn K (.builtin "object.__class__") "__get__" = some (some (.builtin "getset_descriptor.__get__"))) (Ri6 : PySem.W.takesIn K (.builtin "object.__class__") = some true) (Ri7 : PySem.W.mroIn K CR (.type "object") = some true) (Nu1 : PySem.W.nsIn K mainGlobals "NoNumber" = some (some (.ref CNu))) (Nu2 : PySem.W.excIn K CNu [.type "ValueError", .type "Exception", .type "BaseException", .type "object"] "ValueError.__new__" = true) (Nu3 : PySem.W.keepIn K (.ref CNu) = true) (Nu4 : PySem.W.subIn K (.ref CNu) (.type "BaseException") = some true) (Nu5 : PySem.W.typeIn K (.ref CNu) = some (.type "type")) (Nui1 : PySem.W.findIn K (.ref CNu) "__getattribute__" = some (some (.builtin "BaseException.__getattribute__"))) (Nui2 : PySem.W.findIn K (.ref CNu) "__getattr__" = some none) (Nui3 : PySem.W.hasDictIn K CNu = true) (Nui4 : PySem.W.findIn K (.ref CNu) "__class__" = some (some (.builtin "object.__class__"))) (Nui5 : PySem.W.specialIn K (.builtin "object.__class__") "__get__" = some (some (.builtin "getset_descriptor.__get__"))) (Nui6 : PySem.W.takesIn K (.builtin "object.__class__") = some true) (Nui7 : PySem.W.mroIn K CNu (.type "object") = some true) (Na1 : PySem.W.nsIn K mainGlobals "NoName" = some (some (.ref CNa))) (Na2 : PySem.W.excIn K CNa [.type "ValueError", .type "Exception", .type "BaseException", .type "object"] "ValueError.__new__" = true) (Na3 : PySem.W.keepIn K (.ref CNa) = true) (Na4 : PySem.W.subIn K (.ref CNa) (.type "BaseException") = some true) (Na5 : PySem.W.typeIn K (.ref CNa) = some (.type "type")) (Nai1 : PySem.W.findIn K (.ref CNa) "__getattribute__" = some (some (.builtin "BaseException.__getattribute__"))) (Nai2 : PySem.W.findIn K (.ref CNa) "__getattr__" = some none) (Nai3 : PySem.W.hasDictIn K CNa = true) (Nai4 : PySem.W.findIn K (.ref CNa) "__class__" = some (some (.builtin "object.__class__"))) (Nai5 : PySem.W.specialIn K (.builtin "object.__class__") "__get__" = some (some (.builtin "getset_descriptor.__get__"))) (Nai6 : PySem.W.takesIn K (.builtin "object.__class__") = some true) (Nai7 : PySem.W.mroIn K CNa (.type "object") = some true) (Ss1 : PySem.W.nsIn K mainGlobals "NoSketches" = some (some (.ref CSs))) (Ss2 : PySem.W.excIn K CSs [.type "ValueError", .type "Exception", .type "BaseException", .type "object"] "ValueError.__new__" = true) (Ss3 : PySem.W.keepIn K (.ref CSs) = true) (Ss4 : PySem.W.subIn K (.ref CSs) (.type "BaseException") = some true) (Ss5 : PySem.W.typeIn K (.ref CSs) = some (.type "type")) (Ssi1 : PySem.W.findIn K (.ref CSs) "__getattribute__" = some (some (.builtin "BaseException.__getattribute__"))) (Ssi2 : PySem.W.findIn K (.ref CSs) "__getattr__" = some none) (Ssi3 : PySem.W.hasDictIn K CSs = true) (Ssi4 : PySem.W.findIn K (.ref CSs) "__class__" = some (some (.builtin "object.__class__"))) (Ssi5 : PySem.W.specialIn K (.builtin "object.__class__") "__get__" = some (some (.builtin "getset_descriptor.__get__"))) (Ssi6 : PySem.W.takesIn K (.builtin "object.__class__") = some true) (Ssi7 : PySem.W.mroIn K CSs (.type "object") = some true) (Tr1 : PySem.W.nsIn K mainGlobals "NoTree" = some (some (.ref CTr))) (Tr2 : PySem.W.excIn K CTr [.type "ValueError", .type "Exception", .type "BaseException", .type "object"] "ValueError.__new__" = true) (Tr3 : PySem.W.keepIn K (.ref CTr) = true) (Tr4 : PySem.W.subIn K (.ref CTr) (.type "BaseException") = some true) (Tr5 : PySem.W.typeIn K (.ref CTr) = some (.type "type")) (Tri1 : PySem.W.findIn K (.ref CTr) "__getattribute__" = some (some (.builtin "BaseException.__getattribute__"))) (Tri2 : PySem.W.findIn K (.ref CTr) "__getattr__" = some none) (Tri3 : PySem.W.hasDictIn K CTr = true) (Tri4 : PySem.W.findIn K (.ref CTr) "__class__" = some (some (.builtin "object.__class__"))) (Tri5 : PySem.W.specialIn K (.builtin "object.__class__") "__get__" = some (some (.builtin "getset_descriptor.__get__"))) (Tri6 : PySem.W.takesIn K (.builtin "object.__class__") = some true) (Tri7 : PySem.W.mroIn K CTr (.type "object") = some true) (gk : PySem.W.nsIn K mainGlobals "KnownError" = some (some (.ref KE))) (xRR : PySem.W.exmOne K (.ref CR) (.ref CR) = some true) (xNR : PySem.W.exmOne K (.ref CNu) (.ref CR) = some false) (xNN : PySem.W.exmOne K (.ref CNu) (.ref CNu) = some true) (xAA : PySem.W.exmOne K (.ref CNa) (.ref CNa) = some true) (xNA : PySem.W.exmOne K (.ref CNu) (.ref CNa) = some false) (xSS : PySem.W.exmOne K (.ref CSs) (.ref CSs) = some true) (xAS : PySem.W.exmOne K (.ref CNa) (.ref CSs) = some false) (yI : PySem.W.kitOne K (.ref CTr) (.type "int") = some false) (yB : PySem.W.kitOne K (.ref CTr) (.type "bool") = some false) (yS : PySem.W.kitOne K (.ref CTr) (.type "str") = some false) (yT : PySem.W.kitOne K (.ref CTr) (.type "tuple") = some false) : Σ' (F : ErX K mg) (N : TxE K mg "NoTree"), XcT K N.C :=
  ⟨⟨⟨CR, PySem.W.mg_of X G R1, R2, R3, R4, R5, ⟨Ri1, Ri2, R4, Ri3, Ri4, Ri5, Ri6, Ri7⟩⟩, ⟨CNu, PySem.W.mg_of X G Nu1, Nu2, Nu3, Nu4, Nu5, ⟨Nui1, Nui2, Nu4, Nui3, Nui4, Nui5, Nui6, Nui7⟩⟩, ⟨CNa, PySem.W.mg_of X G Na1, Na2, Na3, Na4, Na5, ⟨Nai1, Nai2, Na4, Nai3, Nai4, Nai5, Nai6, Nai7⟩⟩, ⟨CSs, PySem.W.mg_of X G Ss1, Ss2, Ss3, Ss4, Ss5, ⟨Ssi1, Ssi2, Ss4, Ssi3, Ssi4, Ssi5, Ssi6, Ssi7⟩⟩, KE, PySem.W.mg_of X G gk, xRR, xNR, xNN, xAA, xNA, xSS, xAS⟩, ⟨CTr, PySem.W.mg_of X G Tr1, Tr2, Tr3, Tr4, Tr5, ⟨Tri1, Tri2, Tr4, Tri3, Tri4, Tri5, Tri6, Tri7⟩⟩, ⟨⟨Tri1, Tri2, Tr4, Tri3, Tri4, Tri5, Tri6, Tri7⟩, yI, yB, yS, yT⟩⟩
theorem law_end {l : PySem.W.OpenLaw} {w : World} {K : PySem.W.Frag} {h : Heap} {mg : Str → Option Value} {fa f : Addr} (X : K.In h) (G : h.Ns mainGlobals mg) (hfa : mg "law" = some (.ref fa))
    {od an : Option Addr} {osl : Array (Option Value)} {oc kV doc pm cdv ct : Value}
    (a0 : PySem.W.nsIn K mainGlobals "law" = some (some (.ref f))) (l0 : K.lookup f = some ⟨oc, od, .func (PySem.W.fnOf "law" "law" (defArgs slaw) (defBody slaw) (defScope slaw) .none kV doc pm an cdv ct), osl⟩) (c0 : PySem.W.codeIn K cdv "law" = true) (k0 : PySem.W.keepIn K (.ref f) = true)
    (T : Blt mg) (EX : Σ' (F : ErX K mg) (N : TxE K mg "NoTree"), XcT K N.C) (nmax : mg "max" = none) (cM : Cst mg "MOST_ROOM" (.int 64)) (cL : Cst mg "LONGEST_NAME" (.int 8)) (cZ : Cst mg "MOST_SIZE" (.int 1000000)) (cB : Cst mg "MOST_BLOCKS" (.int 100)) (cK : Cst mg "MOST_SKETCHES" (.int 100)) (L : Tal K mg) (R : Rng K mg) (dP_is_int : DnIsInt K mg) (dP_is_number : DnIsNumber K mg) (dP_is_room : DnIsRoom K mg) (dP_is_name : DnIsName K mg) (dP_is_counted : DnIsCounted K mg) (dP_are_counts : DnAreCounts K mg) (dP_lost_of : DnLostOf K mg) (dP_is_sketch : DnIsSketch K mg) (dP_asked : DnAsked K mg) (dP_parted : DnParted K mg) (dP_filled : DnFilled K mg) (dP_plans_of : DnPlansOf K mg) (dP_is_question : DnIsQuestion K mg) (dP_worth : DnWorth K mg) (dP_need_both : DnNeedBoth K mg) (dP_named : DnNamed K mg) (dP_ends : DnEnds K mg) (dP_bare : DnBare K mg) (dP_is_within : DnIsWithin K mg) (dP_are_sketches : DnAreSketches K mg) (dP_sum_ends : DnSumEnds K mg) (dmixed : Dnmixed K mg) (dwell : Dnwell K mg) (dfilled : Dnfilled K mg) (ddraw : Dndraw K mg) (dnumber : Dnnumber K mg) (dsigns : Dnsigns K mg) (dstring : Dnstring K mg) (dname : Dnname K mg) (dunlike : Dnunlike K mg) (dany : Dnany K mg) (dnodes : Dnnodes K mg) (dchanged : Dnchanged K mg) (dspoilt : Dnspoilt K mg) (dnames : Dnnames K mg) (droom : Dnroom K mg) (dcount : Dncount K mg) (dlong : Dnlong K mg) (dname_fits : Dnname_fits K mg) (dpair_fits : Dnpair_fits K mg) (dcounts_fit : Dncounts_fit K mg) (dsum : Dnsum K mg) (dsketch_fits : Dnsketch_fits K mg) (dkept : Dnkept K mg) (dsketch : Dnsketch K mg) (dalike : Dnalike K mg) (dpart : Dnpart K mg) (dis_part : Dnis_part K mg) (dmade : Dnmade K mg) (dmade_due : Dnmade_due K mg) (dasked : Dnasked K mg) (dsum_told : Dnsum_told K mg) (dstands : Dnstands K mg) (dring_holds : Dnring_holds K mg) (dsums_hold : Dnsums_hold K mg) :
    ∃ fd : FuncData, (∀ (s : Shared) (v : Value), BindsTo s fd ⟨[v], []⟩ [("_law_script", v)]) ∧ ∀ base : Heap, K.In base → base.Ns mainGlobals mg → FnOk l.prog w K mg base CX0 14 fa fd ["_law_script"] (spLaw K) := by
  have e := hfa.symm.trans (PySem.W.mg_of X G a0)
  cases e
  exact ⟨PySem.W.fnOf "law" "law" (defArgs slaw) (defBody slaw) (defScope slaw) .none kV doc pm an cdv ct, fun s v => .of_eq rfl, fun base _ _ => ok_law ⟨T, cM, cL, dP_is_int, dP_is_number, dP_is_room, dP_is_name, dP_is_counted, dP_are_counts, dP_lost_of, dP_is_sketch, dP_asked, dP_parted, dP_filled, dP_plans_of, dP_is_question, dP_worth, dP_need_both, dP_named, dP_ends⟩ EX.1 EX.2.1 EX.2.2 nmax cK cZ cB dP_bare dP_is_within L R dP_are_sketches dP_sum_ends dmixed dwell dfilled ddraw dnumber dsigns dstring dname dunlike dany dnodes dchanged dspoilt dnames droom dcount dlong dname_fits dpair_fits dcounts_fit dsum dsketch_fits dkept dsketch dalike dpart dis_part dmade dmade_due dasked dsum_told dstands dring_holds dsums_hold
    ⟨_, _, fun_mk l0 c0 k0, PySem.W.mg_of X G a0, (fun_mk l0 c0 k0).binds fun _ _ _ _ _ _ us hl => match us, hl with | [_], _ => rfl⟩⟩
end Kb
open PySem PySem.W PyProof.Rows
theorem PySem.Challenge.cw_knownends_k14_rings_and_sums_refused_holds : PySem.Challenge.rw_knownends_k14_rings_and_sums_refused.Holds := by
  w_on; o_law; k_head; (case hw => w_witness2)
  k_fill
  refine L2.walk_of (l := PySem.Challenge.rw_knownends_k14_rings_and_sums_refused) (n := 63) (k := 14) (x := "_law_script") (CX := fun _ => L2.CX0) (sp := fun w => Kb.spLaw _) rfl (by decide) rfl ⟨rfl, by decide, by decide⟩ (fun w h Y => PySem.W.km_in_of Y) ?F (fun _ _ a ns hl _ hS => ⟨a, ns, rfl, hS, hl, fun _ => rfl⟩) (fun _ _ _ _ _ h => h)
  case F =>
    intro w mg fa h KX G hmg
    refine' Kb.law_end KX G hmg ?a0 ?l0 ?c0 ?k0 ?T ?EX ?nmax ?cM ?cL ?cZ ?cB ?cK ?L ?R ?dP_is_int ?dP_is_number ?dP_is_room ?dP_is_name ?dP_is_counted ?dP_are_counts ?dP_lost_of ?dP_is_sketch ?dP_asked ?dP_parted ?dP_filled ?dP_plans_of ?dP_is_question ?dP_worth ?dP_need_both ?dP_named ?dP_ends ?dP_bare ?dP_is_within ?dP_are_sketches ?dP_sum_ends ?dmixed ?dwell ?dfilled ?ddraw ?dnumber ?dsigns ?dstring ?dname ?dunlike ?dany ?dnodes ?dchanged ?dspoilt ?dnames ?droom ?dcount ?dlong ?dname_fits ?dpair_fits ?dcounts_fit ?dsum ?dsketch_fits ?dkept ?dsketch ?dalike ?dpart ?dis_part ?dmade ?dmade_due ?dasked ?dsum_told ?dstands ?dring_holds ?dsums_hold
    (case a0 => k_is); (case l0 => k_is); (case c0 => k_is); (case k0 => k_is)
    (case T => exact ⟨PySem.W.mg_none_of KX G (by k_is), PySem.W.mg_none_of KX G (by k_is), PySem.W.mg_none_of KX G (by k_is), PySem.W.mg_none_of KX G (by k_is), PySem.W.mg_none_of KX G (by k_is), PySem.W.mg_none_of KX G (by k_is), PySem.W.mg_none_of KX G (by k_is), PySem.W.mg_none_of KX G (by k_is), PySem.W.mg_none_of KX G (by k_is), PySem.W.mg_none_of KX G (by k_is), PySem.W.mg_none_of KX G (by k_is), PySem.W.mg_none_of KX G (by k_is), PySem.W.mg_none_of KX G (by k_is), PySem.W.mg_none_of KX G (by k_is)⟩)
    (case EX =>
      refine' Kb.erx_of KX G ?R1 ?R2 ?R3 ?R4 ?R5 ?Ri1 ?Ri2 ?Ri3 ?Ri4 ?Ri5 ?Ri6 ?Ri7 ?Nu1 ?Nu2 ?Nu3 ?Nu4 ?Nu5 ?Nui1 ?Nui2 ?Nui3 ?Nui4 ?Nui5 ?Nui6 ?Nui7 ?Na1 ?Na2 ?Na3 ?Na4 ?Na5 ?Nai1 ?Nai2 ?Nai3 ?Nai4 ?Nai5 ?Nai6 ?Nai7 ?Ss1 ?Ss2 ?Ss3 ?Ss4 ?Ss5 ?Ssi1 ?Ssi2 ?Ssi3 ?Ssi4 ?Ssi5 ?Ssi6 ?Ssi7 ?Tr1 ?Tr2 ?Tr3 ?Tr4 ?Tr5 ?Tri1 ?Tri2 ?Tri3 ?Tri4 ?Tri5 ?Tri6 ?Tri7 ?gk ?xRR ?xNR ?xNN ?xAA ?xNA ?xSS ?xAS ?yI ?yB ?yS ?yT
      (case R1 => k_is); (case R2 => first | k_exc | kernel_rfl); (case R3 => k_is); (case R4 => k_is); (case R5 => k_is); (case Ri1 => k_is); (case Ri2 => k_is); (case Ri3 => k_is); (case Ri4 => k_is); (case Ri5 => k_is); (case Ri6 => k_is); (case Ri7 => k_is); (case Nu1 => k_is); (case Nu2 => first | k_exc | kernel_rfl); (case Nu3 => k_is); (case Nu4 => k_is); (case Nu5 => k_is); (case Nui1 => k_is); (case Nui2 => k_is); (case Nui3 => k_is); (case Nui4 => k_is); (case Nui5 => k_is); (case Nui6 => k_is); (case Nui7 => k_is); (case Na1 => k_is); (case Na2 => first | k_exc | kernel_rfl); (case Na3 => k_is); (case Na4 => k_is); (case Na5 => k_is); (case Nai1 => k_is); (case Nai2 => k_is); (case Nai3 => k_is); (case Nai4 => k_is); (case Nai5 => k_is); (case Nai6 => k_is); (case Nai7 => k_is); (case Ss1 => k_is); (case Ss2 => first | k_exc | kernel_rfl); (case Ss3 => k_is); (case Ss4 => k_is); (case Ss5 => k_is); (case Ssi1 => k_is); (case Ssi2 => k_is); (case Ssi3 => k_is); (case Ssi4 => k_is); (case Ssi5 => k_is); (case Ssi6 => k_is); (case Ssi7 => k_is); (case Tr1 => k_is); (case Tr2 => first | k_exc | kernel_rfl); (case Tr3 => k_is); (case Tr4 => k_is); (case Tr5 => k_is); (case Tri1 => k_is); (case Tri2 => k_is); (case Tri3 => k_is); (case Tri4 => k_is); (case Tri5 => k_is); (case Tri6 => k_is); (case Tri7 => k_is); (case gk => k_is); (case xRR => first | rfl | k_is); (case xNR => first | rfl | k_is); (case xNN => first | rfl | k_is); (case xAA => first | rfl | k_is); (case xNA => first | rfl | k_is); (case xSS => first | rfl | k_is); (case xAS => first | rfl | k_is); (case yI => first | rfl | k_is); (case yB => first | rfl | k_is); (case yS => first | rfl | k_is); (case yT => first | rfl | k_is))
    (case nmax => exact PySem.W.mg_none_of KX G (by k_is))
    (case cM => refine' Kb.cst_of KX G ?a_cM; (case a_cM => k_is))
    (case cL => refine' Kb.cst_of KX G ?a_cL; (case a_cL => k_is))
    (case cZ => refine' Kb.cst_of KX G ?a_cZ; (case a_cZ => k_is))
    (case cB => refine' Kb.cst_of KX G ?a_cB; (case a_cB => k_is))
    (case cK => refine' Kb.cst_of KX G ?a_cK; (case a_cK => k_is))
    (case L =>
      refine' Kb.tal_of KX G ?tL_aCls ?tL_aI ?tL_iI ?tL_lI ?tL_cI ?tL_kI ?tL_aS ?tL_iS ?tL_lS ?tL_cS ?tL_kS ?tL_aF ?tL_iF ?tL_lF ?tL_cF ?tL_kF ?tL_aP ?tL_iP ?tL_lP ?tL_cP ?tL_kP ?tL_aT ?tL_iT ?tL_lT ?tL_cT ?tL_kT ?tL_pg ?tL_hd ?tL_po ?tL_sa ?tL_mk ?tL_kc ?tL_nR ?tL_nM ?tL_nO ?tL_nC
      (case tL_aCls => k_is); (case tL_aI => k_is); (case tL_iI => k_is); (case tL_lI => k_is); (case tL_cI => k_is); (case tL_kI => k_is); (case tL_aS => k_is); (case tL_iS => k_is); (case tL_lS => k_is); (case tL_cS => k_is); (case tL_kS => k_is); (case tL_aF => k_is); (case tL_iF => k_is); (case tL_lF => k_is); (case tL_cF => k_is); (case tL_kF => k_is); (case tL_aP => k_is); (case tL_iP => k_is); (case tL_lP => k_is); (case tL_cP => k_is); (case tL_kP => k_is); (case tL_aT => k_is); (case tL_iT => k_is); (case tL_lT => k_is); (case tL_cT => k_is); (case tL_kT => k_is); (case tL_pg => k_is); (case tL_hd => k_is); (case tL_po => k_is); (case tL_sa => k_is); (case tL_mk => k_is); (case tL_kc => k_is); (case tL_nR => k_is); (case tL_nM => k_is); (case tL_nO => k_is); (case tL_nC => k_is))
    (case R =>
      refine' Kb.rng_of KX G ?tR_aCls ?tR_aI ?tR_iI ?tR_lI ?tR_cI ?tR_kI ?tR_aF ?tR_iF ?tR_lF ?tR_cF ?tR_kF ?tR_aM ?tR_iM ?tR_lM ?tR_cM ?tR_kM ?tR_aL ?tR_iL ?tR_lL ?tR_cL ?tR_kL ?tR_aN ?tR_iN ?tR_lN ?tR_cN ?tR_kN ?tR_aC ?tR_iC ?tR_lC ?tR_cC ?tR_kC ?tR_pg ?tR_hd ?tR_po ?tR_sa ?tR_mk ?tR_kc ?tR_nT ?tR_nR ?tR_nS ?tR_nB ?tR_nO ?tR_nK
      (case tR_aCls => k_is); (case tR_aI => k_is); (case tR_iI => k_is); (case tR_lI => k_is); (case tR_cI => k_is); (case tR_kI => k_is); (case tR_aF => k_is); (case tR_iF => k_is); (case tR_lF => k_is); (case tR_cF => k_is); (case tR_kF => k_is); (case tR_aM => k_is); (case tR_iM => k_is); (case tR_lM => k_is); (case tR_cM => k_is); (case tR_kM => k_is); (case tR_aL => k_is); (case tR_iL => k_is); (case tR_lL => k_is); (case tR_cL => k_is); (case tR_kL => k_is); (case tR_aN => k_is); (case tR_iN => k_is); (case tR_lN => k_is); (case tR_cN => k_is); (case tR_kN => k_is); (case tR_aC => k_is); (case tR_iC => k_is); (case tR_lC => k_is); (case tR_cC => k_is); (case tR_kC => k_is); (case tR_pg => k_is); (case tR_hd => k_is); (case tR_po => k_is); (case tR_sa => k_is); (case tR_mk => k_is); (case tR_kc => k_is); (case tR_nT => k_is); (case tR_nR => k_is); (case tR_nS => k_is); (case tR_nB => k_is); (case tR_nO => k_is); (case tR_nK => k_is))
    (case dP_is_int => refine' Kb.dn_of KX G ?a_dP_is_int ?l_dP_is_int ?c_dP_is_int ?k_dP_is_int ?b_dP_is_int; (case a_dP_is_int => k_is); (case l_dP_is_int => k_is); (case c_dP_is_int => k_is); (case k_dP_is_int => k_is); (case b_dP_is_int => exact fun _ _ _ _ _ _ us hl => match us, hl with | [_], _ => rfl))
    (case dP_is_number => refine' Kb.dn_of KX G ?a_dP_is_number ?l_dP_is_number ?c_dP_is_number ?k_dP_is_number ?b_dP_is_number; (case a_dP_is_number => k_is); (case l_dP_is_number => k_is); (case c_dP_is_number => k_is); (case k_dP_is_number => k_is); (case b_dP_is_number => exact fun _ _ _ _ _ _ us hl => match us, hl with | [_], _ => rfl))
    (case dP_is_room => refine' Kb.dn_of KX G ?a_dP_is_room ?l_dP_is_room ?c_dP_is_room ?k_dP_is_room ?b_dP_is_room; (case a_dP_is_room => k_is); (case l_dP_is_room => k_is); (case c_dP_is_room => k_is); (case k_dP_is_room => k_is); (case b_dP_is_room => exact fun _ _ _ _ _ _ us hl => match us, hl with | [_], _ => rfl))
    (case dP_is_name => refine' Kb.dn_of KX G ?a_dP_is_name ?l_dP_is_name ?c_dP_is_name ?k_dP_is_name ?b_dP_is_name; (case a_dP_is_name => k_is); (case l_dP_is_name => k_is); (case c_dP_is_name => k_is); (case k_dP_is_name => k_is); (case b_dP_is_name => exact fun _ _ _ _ _ _ us hl => match us, hl with | [_], _ => rfl))
    (case dP_is_counted => refine' Kb.dn_of KX G ?a_dP_is_counted ?l_dP_is_counted ?c_dP_is_counted ?k_dP_is_counted ?b_dP_is_counted; (case a_dP_is_counted => k_is); (case l_dP_is_counted => k_is); (case c_dP_is_counted => k_is); (case k_dP_is_counted => k_is); (case b_dP_is_counted => exact fun _ _ _ _ _ _ us hl => match us, hl with | [_], _ => rfl))
    (case dP_are_counts => refine' Kb.dn_of KX G ?a_dP_are_counts ?l_dP_are_counts ?c_dP_are_counts ?k_dP_are_counts ?b_dP_are_counts; (case a_dP_are_counts => k_is); (case l_dP_are_counts => k_is); (case c_dP_are_counts => k_is); (case k_dP_are_counts => k_is); (case b_dP_are_counts => exact fun _ _ _ _ _ _ us hl => match us, hl with | [_], _ => rfl))
    (case dP_lost_of => refine' Kb.dn_of KX G ?a_dP_lost_of ?l_dP_lost_of ?c_dP_lost_of ?k_dP_lost_of ?b_dP_lost_of; (case a_dP_lost_of => k_is); (case l_dP_lost_of => k_is); (case c_dP_lost_of => k_is); (case k_dP_lost_of => k_is); (case b_dP_lost_of => exact fun _ _ _ _ _ _ us hl => match us, hl with | [_], _ => rfl))
    (case dP_is_sketch => refine' Kb.dn_of KX G ?a_dP_is_sketch ?l_dP_is_sketch ?c_dP_is_sketch ?k_dP_is_sketch ?b_dP_is_sketch; (case a_dP_is_sketch => k_is); (case l_dP_is_sketch => k_is); (case c_dP_is_sketch => k_is); (case k_dP_is_sketch => k_is); (case b_dP_is_sketch => exact fun _ _ _ _ _ _ us hl => match us, hl with | [_], _ => rfl))
    (case dP_asked => refine' Kb.dn_of KX G ?a_dP_asked ?l_dP_asked ?c_dP_asked ?k_dP_asked ?b_dP_asked; (case a_dP_asked => k_is); (case l_dP_asked => k_is); (case c_dP_asked => k_is); (case k_dP_asked => k_is); (case b_dP_asked => exact fun _ _ _ _ _ _ us hl => match us, hl with | [_], _ => rfl))
    (case dP_parted => refine' Kb.dn_of KX G ?a_dP_parted ?l_dP_parted ?c_dP_parted ?k_dP_parted ?b_dP_parted; (case a_dP_parted => k_is); (case l_dP_parted => k_is); (case c_dP_parted => k_is); (case k_dP_parted => k_is); (case b_dP_parted => exact fun _ _ _ _ _ _ us hl => match us, hl with | [_, _], _ => rfl))
    (case dP_filled => refine' Kb.dn_of KX G ?a_dP_filled ?l_dP_filled ?c_dP_filled ?k_dP_filled ?b_dP_filled; (case a_dP_filled => k_is); (case l_dP_filled => k_is); (case c_dP_filled => k_is); (case k_dP_filled => k_is); (case b_dP_filled => exact fun _ _ _ _ _ _ us hl => match us, hl with | [_, _, _, _], _ => rfl))
    (case dP_plans_of => refine' Kb.dn_of KX G ?a_dP_plans_of ?l_dP_plans_of ?c_dP_plans_of ?k_dP_plans_of ?b_dP_plans_of; (case a_dP_plans_of => k_is); (case l_dP_plans_of => k_is); (case c_dP_plans_of => k_is); (case k_dP_plans_of => k_is); (case b_dP_plans_of => exact fun _ _ _ _ _ _ us hl => match us, hl with | [_, _], _ => rfl))
    (case dP_is_question => refine' Kb.dn_of KX G ?a_dP_is_question ?l_dP_is_question ?c_dP_is_question ?k_dP_is_question ?b_dP_is_question; (case a_dP_is_question => k_is); (case l_dP_is_question => k_is); (case c_dP_is_question => k_is); (case k_dP_is_question => k_is); (case b_dP_is_question => exact fun _ _ _ _ _ _ us hl => match us, hl with | [_], _ => rfl))
    (case dP_worth => refine' Kb.dn_of KX G ?a_dP_worth ?l_dP_worth ?c_dP_worth ?k_dP_worth ?b_dP_worth; (case a_dP_worth => k_is); (case l_dP_worth => k_is); (case c_dP_worth => k_is); (case k_dP_worth => k_is); (case b_dP_worth => exact fun _ _ _ _ _ _ us hl => match us, hl with | [_, _, _], _ => rfl))
    (case dP_need_both => refine' Kb.dn_of KX G ?a_dP_need_both ?l_dP_need_both ?c_dP_need_both ?k_dP_need_both ?b_dP_need_both; (case a_dP_need_both => k_is); (case l_dP_need_both => k_is); (case c_dP_need_both => k_is); (case k_dP_need_both => k_is); (case b_dP_need_both => exact fun _ _ _ _ _ _ us hl => match us, hl with | [_, _], _ => rfl))
    (case dP_named => refine' Kb.dn_of KX G ?a_dP_named ?l_dP_named ?c_dP_named ?k_dP_named ?b_dP_named; (case a_dP_named => k_is); (case l_dP_named => k_is); (case c_dP_named => k_is); (case k_dP_named => k_is); (case b_dP_named => exact fun _ _ _ _ _ _ us hl => match us, hl with | [_, _], _ => rfl))
    (case dP_ends => refine' Kb.dn_of KX G ?a_dP_ends ?l_dP_ends ?c_dP_ends ?k_dP_ends ?b_dP_ends; (case a_dP_ends => k_is); (case l_dP_ends => k_is); (case c_dP_ends => k_is); (case k_dP_ends => k_is); (case b_dP_ends => exact fun _ _ _ _ _ _ us hl => match us, hl with | [_, _], _ => rfl))
    (case dP_bare => refine' Kb.dn_of KX G ?a_dP_bare ?l_dP_bare ?c_dP_bare ?k_dP_bare ?b_dP_bare; (case a_dP_bare => k_is); (case l_dP_bare => k_is); (case c_dP_bare => k_is); (case k_dP_bare => k_is); (case b_dP_bare => exact fun _ _ _ _ _ _ us hl => match us, hl with | [_], _ => rfl))
    (case dP_is_within => refine' Kb.dn_of KX G ?a_dP_is_within ?l_dP_is_within ?c_dP_is_within ?k_dP_is_within ?b_dP_is_within; (case a_dP_is_within => k_is); (case l_dP_is_within => k_is); (case c_dP_is_within => k_is); (case k_dP_is_within => k_is); (case b_dP_is_within => exact fun _ _ _ _ _ _ us hl => match us, hl with | [_, _, _], _ => rfl))
    (case dP_are_sketches => refine' Kb.dn_of KX G ?a_dP_are_sketches ?l_dP_are_sketches ?c_dP_are_sketches ?k_dP_are_sketches ?b_dP_are_sketches; (case a_dP_are_sketches => k_is); (case l_dP_are_sketches => k_is); (case c_dP_are_sketches => k_is); (case k_dP_are_sketches => k_is); (case b_dP_are_sketches => exact fun _ _ _ _ _ _ us hl => match us, hl with | [_], _ => rfl))
    (case dP_sum_ends => refine' Kb.dn_of KX G ?a_dP_sum_ends ?l_dP_sum_ends ?c_dP_sum_ends ?k_dP_sum_ends ?b_dP_sum_ends; (case a_dP_sum_ends => k_is); (case l_dP_sum_ends => k_is); (case c_dP_sum_ends => k_is); (case k_dP_sum_ends => k_is); (case b_dP_sum_ends => exact fun _ _ _ _ _ _ us hl => match us, hl with | [_, _], _ => rfl))
    (case dmixed => refine' Kb.dn_of KX G ?a_dmixed ?l_dmixed ?c_dmixed ?k_dmixed ?b_dmixed; (case a_dmixed => k_is); (case l_dmixed => k_is); (case c_dmixed => k_is); (case k_dmixed => k_is); (case b_dmixed => exact fun _ _ _ _ _ _ us hl => match us, hl with | [_], _ => rfl))
    (case dwell => refine' Kb.dn_of KX G ?a_dwell ?l_dwell ?c_dwell ?k_dwell ?b_dwell; (case a_dwell => k_is); (case l_dwell => k_is); (case c_dwell => k_is); (case k_dwell => k_is); (case b_dwell => exact fun _ _ _ _ _ _ us hl => match us, hl with | [_], _ => rfl))
    (case dfilled => refine' Kb.dn_of KX G ?a_dfilled ?l_dfilled ?c_dfilled ?k_dfilled ?b_dfilled; (case a_dfilled => k_is); (case l_dfilled => k_is); (case c_dfilled => k_is); (case k_dfilled => k_is); (case b_dfilled => exact fun _ _ _ _ _ _ us hl => match us, hl with | [_], _ => rfl))
    (case ddraw => refine' Kb.dn_of KX G ?a_ddraw ?l_ddraw ?c_ddraw ?k_ddraw ?b_ddraw; (case a_ddraw => k_is); (case l_ddraw => k_is); (case c_ddraw => k_is); (case k_ddraw => k_is); (case b_ddraw => exact fun _ _ _ _ _ _ us hl => match us, hl with | [_, _], _ => rfl))
    (case dnumber => refine' Kb.dn_of KX G ?a_dnumber ?l_dnumber ?c_dnumber ?k_dnumber ?b_dnumber; (case a_dnumber => k_is); (case l_dnumber => k_is); (case c_dnumber => k_is); (case k_dnumber => k_is); (case b_dnumber => exact fun _ _ _ _ _ _ us hl => match us, hl with | [_], _ => rfl))
    (case dsigns => refine' Kb.dn_of KX G ?a_dsigns ?l_dsigns ?c_dsigns ?k_dsigns ?b_dsigns; (case a_dsigns => k_is); (case l_dsigns => k_is); (case c_dsigns => k_is); (case k_dsigns => k_is); (case b_dsigns => exact fun _ _ _ _ _ _ us hl => match us, hl with | [], _ => rfl))
    (case dstring => refine' Kb.dn_of KX G ?a_dstring ?l_dstring ?c_dstring ?k_dstring ?b_dstring; (case a_dstring => k_is); (case l_dstring => k_is); (case c_dstring => k_is); (case k_dstring => k_is); (case b_dstring => exact fun _ _ _ _ _ _ us hl => match us, hl with | [_, _], _ => rfl))
    (case dname => refine' Kb.dn_of KX G ?a_dname ?l_dname ?c_dname ?k_dname ?b_dname; (case a_dname => k_is); (case l_dname => k_is); (case c_dname => k_is); (case k_dname => k_is); (case b_dname => exact fun _ _ _ _ _ _ us hl => match us, hl with | [_], _ => rfl))
    (case dunlike => refine' Kb.dn_of KX G ?a_dunlike ?l_dunlike ?c_dunlike ?k_dunlike ?b_dunlike; (case a_dunlike => k_is); (case l_dunlike => k_is); (case c_dunlike => k_is); (case k_dunlike => k_is); (case b_dunlike => exact fun _ _ _ _ _ _ us hl => match us, hl with | [_], _ => rfl))
    (case dany => refine' Kb.dn_of KX G ?a_dany ?l_dany ?c_dany ?k_dany ?b_dany; (case a_dany => k_is); (case l_dany => k_is); (case c_dany => k_is); (case k_dany => k_is); (case b_dany => exact fun _ _ _ _ _ _ us hl => match us, hl with | [_, _], _ => rfl))
    (case dnodes => refine' Kb.dn_of KX G ?a_dnodes ?l_dnodes ?c_dnodes ?k_dnodes ?b_dnodes; (case a_dnodes => k_is); (case l_dnodes => k_is); (case c_dnodes => k_is); (case k_dnodes => k_is); (case b_dnodes => exact fun _ _ _ _ _ _ us hl => match us, hl with | [_], _ => rfl))
    (case dchanged => refine' Kb.dn_of KX G ?a_dchanged ?l_dchanged ?c_dchanged ?k_dchanged ?b_dchanged; (case a_dchanged => k_is); (case l_dchanged => k_is); (case c_dchanged => k_is); (case k_dchanged => k_is); (case b_dchanged => exact fun _ _ _ _ _ _ us hl => match us, hl with | [_, _], _ => rfl))
    (case dspoilt => refine' Kb.dn_of KX G ?a_dspoilt ?l_dspoilt ?c_dspoilt ?k_dspoilt ?b_dspoilt; (case a_dspoilt => k_is); (case l_dspoilt => k_is); (case c_dspoilt => k_is); (case k_dspoilt => k_is); (case b_dspoilt => exact fun _ _ _ _ _ _ us hl => match us, hl with | [_, _, _], _ => rfl))
    (case dnames => refine' Kb.dn_of KX G ?a_dnames ?l_dnames ?c_dnames ?k_dnames ?b_dnames; (case a_dnames => k_is); (case l_dnames => k_is); (case c_dnames => k_is); (case k_dnames => k_is); (case b_dnames => exact fun _ _ _ _ _ _ us hl => match us, hl with | [_, _], _ => rfl))
    (case droom => refine' Kb.dn_of KX G ?a_droom ?l_droom ?c_droom ?k_droom ?b_droom; (case a_droom => k_is); (case l_droom => k_is); (case c_droom => k_is); (case k_droom => k_is); (case b_droom => exact fun _ _ _ _ _ _ us hl => match us, hl with | [_], _ => rfl))
    (case dcount => refine' Kb.dn_of KX G ?a_dcount ?l_dcount ?c_dcount ?k_dcount ?b_dcount; (case a_dcount => k_is); (case l_dcount => k_is); (case c_dcount => k_is); (case k_dcount => k_is); (case b_dcount => exact fun _ _ _ _ _ _ us hl => match us, hl with | [_], _ => rfl))
    (case dlong => refine' Kb.dn_of KX G ?a_dlong ?l_dlong ?c_dlong ?k_dlong ?b_dlong; (case a_dlong => k_is); (case l_dlong => k_is); (case c_dlong => k_is); (case k_dlong => k_is); (case b_dlong => exact fun _ _ _ _ _ _ us hl => match us, hl with | [_, _], _ => rfl))
    (case dname_fits => refine' Kb.dn_of KX G ?a_dname_fits ?l_dname_fits ?c_dname_fits ?k_dname_fits ?b_dname_fits; (case a_dname_fits => k_is); (case l_dname_fits => k_is); (case c_dname_fits => k_is); (case k_dname_fits => k_is); (case b_dname_fits => exact fun _ _ _ _ _ _ us hl => match us, hl with | [_], _ => rfl))
    (case dpair_fits => refine' Kb.dn_of KX G ?a_dpair_fits ?l_dpair_fits ?c_dpair_fits ?k_dpair_fits ?b_dpair_fits; (case a_dpair_fits => k_is); (case l_dpair_fits => k_is); (case c_dpair_fits => k_is); (case k_dpair_fits => k_is); (case b_dpair_fits => exact fun _ _ _ _ _ _ us hl => match us, hl with | [_], _ => rfl))
    (case dcounts_fit => refine' Kb.dn_of KX G ?a_dcounts_fit ?l_dcounts_fit ?c_dcounts_fit ?k_dcounts_fit ?b_dcounts_fit; (case a_dcounts_fit => k_is); (case l_dcounts_fit => k_is); (case c_dcounts_fit => k_is); (case k_dcounts_fit => k_is); (case b_dcounts_fit => exact fun _ _ _ _ _ _ us hl => match us, hl with | [_], _ => rfl))
    (case dsum => refine' Kb.dn_of KX G ?a_dsum ?l_dsum ?c_dsum ?k_dsum ?b_dsum; (case a_dsum => k_is); (case l_dsum => k_is); (case c_dsum => k_is); (case k_dsum => k_is); (case b_dsum => exact fun _ _ _ _ _ _ us hl => match us, hl with | [_], _ => rfl))
    (case dsketch_fits => refine' Kb.dn_of KX G ?a_dsketch_fits ?l_dsketch_fits ?c_dsketch_fits ?k_dsketch_fits ?b_dsketch_fits; (case a_dsketch_fits => k_is); (case l_dsketch_fits => k_is); (case c_dsketch_fits => k_is); (case k_dsketch_fits => k_is); (case b_dsketch_fits => exact fun _ _ _ _ _ _ us hl => match us, hl with | [_], _ => rfl))
    (case dkept => refine' Kb.dn_of KX G ?a_dkept ?l_dkept ?c_dkept ?k_dkept ?b_dkept; (case a_dkept => k_is); (case l_dkept => k_is); (case c_dkept => k_is); (case k_dkept => k_is); (case b_dkept => exact fun _ _ _ _ _ _ us hl => match us, hl with | [_, _, _, _], _ => rfl))
    (case dsketch => refine' Kb.dn_of KX G ?a_dsketch ?l_dsketch ?c_dsketch ?k_dsketch ?b_dsketch; (case a_dsketch => k_is); (case l_dsketch => k_is); (case c_dsketch => k_is); (case k_dsketch => k_is); (case b_dsketch => exact fun _ _ _ _ _ _ us hl => match us, hl with | [_, _, _, _], _ => rfl))
    (case dalike => refine' Kb.dn_of KX G ?a_dalike ?l_dalike ?c_dalike ?k_dalike ?b_dalike; (case a_dalike => k_is); (case l_dalike => k_is); (case c_dalike => k_is); (case k_dalike => k_is); (case b_dalike => exact fun _ _ _ _ _ _ us hl => match us, hl with | [_, _], _ => rfl))
    (case dpart => refine' Kb.dn_of KX G ?a_dpart ?l_dpart ?c_dpart ?k_dpart ?b_dpart; (case a_dpart => k_is); (case l_dpart => k_is); (case c_dpart => k_is); (case k_dpart => k_is); (case b_dpart => exact fun _ _ _ _ _ _ us hl => match us, hl with | [_, _, _], _ => rfl))
    (case dis_part => refine' Kb.dn_of KX G ?a_dis_part ?l_dis_part ?c_dis_part ?k_dis_part ?b_dis_part; (case a_dis_part => k_is); (case l_dis_part => k_is); (case c_dis_part => k_is); (case k_dis_part => k_is); (case b_dis_part => exact fun _ _ _ _ _ _ us hl => match us, hl with | [_, _], _ => rfl))
    (case dmade => refine' Kb.dn_of KX G ?a_dmade ?l_dmade ?c_dmade ?k_dmade ?b_dmade; (case a_dmade => k_is); (case l_dmade => k_is); (case c_dmade => k_is); (case k_dmade => k_is); (case b_dmade => exact fun _ _ _ _ _ _ us hl => match us, hl with | [_, _, _], _ => rfl))
    (case dmade_due => refine' Kb.dn_of KX G ?a_dmade_due ?l_dmade_due ?c_dmade_due ?k_dmade_due ?b_dmade_due; (case a_dmade_due => k_is); (case l_dmade_due => k_is); (case c_dmade_due => k_is); (case k_dmade_due => k_is); (case b_dmade_due => exact fun _ _ _ _ _ _ us hl => match us, hl with | [_, _, _], _ => rfl))
    (case dasked => refine' Kb.dn_of KX G ?a_dasked ?l_dasked ?c_dasked ?k_dasked ?b_dasked; (case a_dasked => k_is); (case l_dasked => k_is); (case c_dasked => k_is); (case k_dasked => k_is); (case b_dasked => exact fun _ _ _ _ _ _ us hl => match us, hl with | [_, _, _], _ => rfl))
    (case dsum_told => refine' Kb.dn_of KX G ?a_dsum_told ?l_dsum_told ?c_dsum_told ?k_dsum_told ?b_dsum_told; (case a_dsum_told => k_is); (case l_dsum_told => k_is); (case c_dsum_told => k_is); (case k_dsum_told => k_is); (case b_dsum_told => exact fun _ _ _ _ _ _ us hl => match us, hl with | [_, _], _ => rfl))
    (case dstands => refine' Kb.dn_of KX G ?a_dstands ?l_dstands ?c_dstands ?k_dstands ?b_dstands; (case a_dstands => k_is); (case l_dstands => k_is); (case c_dstands => k_is); (case k_dstands => k_is); (case b_dstands => exact fun _ _ _ _ _ _ us hl => match us, hl with | [_, _], _ => rfl))
    (case dring_holds => refine' Kb.dn_of KX G ?a_dring_holds ?l_dring_holds ?c_dring_holds ?k_dring_holds ?b_dring_holds; (case a_dring_holds => k_is); (case l_dring_holds => k_is); (case c_dring_holds => k_is); (case k_dring_holds => k_is); (case b_dring_holds => exact fun _ _ _ _ _ _ us hl => match us, hl with | [_, _], _ => rfl))
    (case dsums_hold => refine' Kb.dn_of KX G ?a_dsums_hold ?l_dsums_hold ?c_dsums_hold ?k_dsums_hold ?b_dsums_hold; (case a_dsums_hold => k_is); (case l_dsums_hold => k_is); (case c_dsums_hold => k_is); (case k_dsums_hold => k_is); (case b_dsums_hold => exact fun _ _ _ _ _ _ us hl => match us, hl with | [_, _], _ => rfl))

