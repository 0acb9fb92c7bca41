import PyProof.Rows.All
import HandS.ForMost
import HandS.ForExc
import HandS.SortKw
import HandS.SortRule
import HandS.DictTup
import HandS.DictComp
import HandS.ListItems
import HandS.Conv
import HandS.IsInst
import HandS.Codes
import HandS.Walk
import HandS.Style
import KE.KDictSum
import KE.KSortTupAny
import KE.KDictPairs
import HandS.ExcValue
import HandS.TupLe
import HandS.TupAny
import HandS.Wide
import HandS.SetFor
import PyProof.Rows.CountFlat
import PySem.Challenge.RW_knownends_k13_whole_sums_of_ends_are_met
import HandS.CallLocal
import HandS.NoneIn
set_option Elab.async false
set_option linter.all false
set_option maxRecDepth 100000
set_option maxHeartbeats 0
/-! own rules: sorted of pairs (text, int), of views -/
namespace SrtZ
open PySem PyProof.Rows Srt SrtO PySem.W
abbrev ltZ (x y : Str) : Bool := decide (x.cps.toList < y.cps.toList)
theorem str_of {x y : Str} (h : x.cps.toList = y.cps.toList) : x = y := by
  cases x; cases y
  simp at h
  rw [h]
theorem ltZ_irr (x : Str) : ltZ x x = false := decide_eq_false (List.lt_irrefl _)
theorem ltZ_asym {x y : Str} (h : ltZ x y = true) : ltZ y x = false := decide_eq_false (List.lt_asymm (of_decide_eq_true h))
theorem ltZ_trans {x y z : Str} (h : ltZ x y = true) (k : ltZ y z = true) : ltZ x z = true := decide_eq_true (List.lt_trans (of_decide_eq_true h) (of_decide_eq_true k))
theorem ltZ_tri {x y : Str} (h : ltZ x y = false) (k : ltZ y x = false) : x = y :=
  str_of (List.le_antisymm (List.not_lt.mp (of_decide_eq_false k)) (List.not_lt.mp (of_decide_eq_false h)))
def lexZ (p q : Str × Int) : Bool := if p.1 = q.1 then decide (p.2 < q.2) else ltZ p.1 q.1
theorem lexZ_eq {p q : Str × Int} (e : p.1 = q.1) : lexZ p q = decide (p.2 < q.2) := if_pos e
theorem lexZ_ne {p q : Str × Int} (e : ¬ p.1 = q.1) : lexZ p q = ltZ p.1 q.1 := if_neg e
theorem swo_Z : Swo lexZ := by
  refine ⟨fun x y h => ?_, fun x y z h1 h2 => ?_⟩
  · by_cases e : x.1 = y.1
    · rw [lexZ_eq e, decide_eq_true_eq] at h
      rw [lexZ_eq e.symm]
      exact decide_eq_false (by omega)
    · rw [lexZ_ne e] at h
      rw [lexZ_ne (fun z => e z.symm)]
      exact ltZ_asym h
  · by_cases e : x.1 = y.1
    · rw [lexZ_eq e.symm, decide_eq_false_iff_not] at h1
      by_cases f : y.1 = z.1
      · rw [lexZ_eq f.symm, decide_eq_false_iff_not] at h2
        rw [lexZ_eq (e.trans f).symm]
        exact decide_eq_false (by omega)
      · rw [lexZ_ne (fun q => f q.symm)] at h2
        rw [lexZ_ne (fun q => f (e.symm.trans q.symm)), e]
        exact h2
    · rw [lexZ_ne (fun q => e q.symm)] at h1
      by_cases f : y.1 = z.1
      · rw [lexZ_ne (fun q => e (q.symm.trans f.symm)), ← f]
        exact h1
      · rw [lexZ_ne (fun q => f q.symm)] at h2
        have g1 : ltZ x.1 y.1 = true := by
          rcases bcase (ltZ x.1 y.1) with q | q
          · exact q
          · exact absurd (ltZ_tri q h1) e
        have g2 : ltZ y.1 z.1 = true := by
          rcases bcase (ltZ y.1 z.1) with q | q
          · exact q
          · exact absurd (ltZ_tri q h2) f
        have g := ltZ_trans g1 g2
        have ne : ¬ z.1 = x.1 := fun q => by
          rw [q, ltZ_irr] at g
          cases g
        rw [lexZ_ne ne]
        exact ltZ_asym g
/-- a tuple (text, int) -/
def IsPZ (h : Heap) (v : Value) (p : Str × Int) : Prop := ∃ a o t u n, v = .ref a ∧ h.get? a = some o ∧ o.cls = .type "tuple" ∧ o.data = .seq #[.str p.1 t, .int p.2 u] n
theorem IsPZ.keeps {h h' : Heap} {v : Value} {p : Str × Int} (x : IsPZ h v p) (k : ∀ b o, h.get? b = some o → o.cls = .type "tuple" → h'.get? b = some o) : IsPZ h' v p := by
  obtain ⟨a, o, t, u, n, e, ho, hc, hd⟩ := x
  exact ⟨a, o, t, u, n, e, k _ _ ho hc, hc, hd⟩
section
variable {prog : Program} {w : World} {A : Around} {E : Value → Shared → Prop} {s : Shared}
theorem firstsZ {h : Heap} : ∀ {vs : List Value}, (∀ v ∈ vs, ∃ p, IsPZ h v p) → ∃ fs : List Value, KatTups h vs fs ∧ fs.length = vs.length ∧ ∀ f ∈ fs, ∃ x t, f = Value.str x t
  | [], _ => ⟨[], KatTups.nil, rfl, fun _ hm => by simp at hm⟩
  | v :: vs, hp => by
    obtain ⟨fs, h1, h2, h3⟩ := firstsZ (vs := vs) fun v' hm => hp v' (List.mem_cons_of_mem _ hm)
    obtain ⟨p, a, o, t, u, n, e, ho, hc, hd⟩ := hp v List.mem_cons_self
    subst e
    refine ⟨.str p.1 t :: fs, KatTups.cons ho hc hd rfl h1, by rw [List.length_cons, List.length_cons, h2], fun f hm => ?_⟩
    rcases List.mem_cons.mp hm with rfl | hm
    · exact ⟨_, t, rfl⟩
    · exact h3 f hm
theorem pairZ_cmp {vs : List Value} {k : Value → Str × Int} (hp : ∀ v ∈ vs, IsPZ s.heap v (k v)) : Cmp prog w A s (tuples' true) (fun p => p.1 ∈ vs) (lt2 fun v u => lexZ (k v) (k u)) := by
  intro p q hm hm'
  have h1 := hp _ hm
  have h2 := hp _ hm'
  show wpAny (model prog w) A (keyLt' (tuples' true) p.1 q.1) (fun r s' => s' = s ∧ r = lexZ (k p.1) (k q.1)) (fun _ _ => False) s
  generalize k p.1 = x at h1 ⊢
  generalize k q.1 = y at h2 ⊢
  obtain ⟨a, o, t, u, n, e, ho, hc, hd⟩ := h1
  obtain ⟨a', o', t', u', n', e', ho', hc', hd'⟩ := h2
  rw [e, e']
  refine kat_lt ho hd ho' hd' ?_
  show KatLex prog w A true (decide (2 < 2)) _ [(.str x.1 t, .str y.1 t'), (.int x.2 u, .int y.2 u')] 0 s
  refine kat_cons (wpAny_eqBool_str ?_)
  refine kat_go (fun e1 => ?_) (fun e1 => ?_)
  · have ex : x.1 = y.1 := of_decide_eq_true e1
    refine kat_yes (kat_cons (wpAny_eqBool_int ?_))
    refine kat_go (fun e2 => ?_) (fun e2 => ?_)
    · have ey : x.2 = y.2 := by simpa using e2
      refine kat_yes (kat_nil ⟨rfl, ?_⟩)
      rw [lexZ_eq ex, ey]
      exact (decide_eq_false (Int.lt_irrefl _)).symm
    · exact kat_no (oneLt_any_int ⟨rfl, (lexZ_eq ex).symm⟩)
  · have ex : ¬ x.1 = y.1 := of_decide_eq_false e1
    exact kat_no (oneLt_any_str ⟨rfl, (lexZ_ne ex).symm⟩)
theorem pairsZ_sortable {a : Addr} {vs : List Value} {k : Value → Str × Int} (h0 : 0 < vs.length) (hp : ∀ v ∈ vs, IsPZ s.heap v (k v)) (ha : ∀ o, s.heap.get? a = some o → o.cls ≠ .type "tuple") : SortableO prog w A s a vs fun v u => lexZ (k v) (k u) := by
  intro h' keep
  have hp' : ∀ v ∈ vs, IsPZ h' v (k v) := fun v hm => (hp v hm).keeps fun b o e c => keep b o (fun z => by subst z; exact ha o e c) e
  obtain ⟨fs, h1, h2, h3⟩ := firstsZ fun v hm => ⟨_, hp' v hm⟩
  refine ⟨tuples' true, fun Q E hq => ?_, pairZ_cmp hp'⟩
  refine kat_kind (T := .type "str") h1 (by omega) (fun f hm => ?_) (by rfl) ?_
  · obtain ⟨x, t, rfl⟩ := h3 f hm
    exact Looks.now
  · have e : (Value.type "str" != Value.type "tuple") = true := by first | decide +kernel | rfl | decide
    rw [e]
    exact hq
theorem plain_rev (a : Addr) : Builtin.«list.sort» ⟨[.ref a], []⟩ = Builtin.«list.sort» ⟨[.ref a], [(Str.ofString "reverse", .bool false)]⟩ := by
  rw [list_sort_rev]
  first | rfl | kernel_rfl
/-- sorted(x, ..) over what is collected of x -/
theorem sorted_col {x : Value} {b : Bool} {kw : List (Str × Value)} {ltv : Heap → Value → Value → Bool} {Q : Value → Shared → Prop} {P : Heap → Nat → List Value → Prop}
    (hk : ∀ a, Builtin.«list.sort» ⟨[.ref a], kw⟩ = Builtin.«list.sort» ⟨[.ref a], [(Str.ofString "reverse", .bool b)]⟩) (ha1 : argsOk "sorted" ⟨[x], kw⟩) (ha2 : ∀ a, argsOk "list.sort" ⟨[a], kw⟩)
    (hcol : ∀ R : List Value → Shared → Prop, (∀ h' tk vs, (∀ b o, s.heap.get? b = some o → h'.get? b = some o) → P h' tk vs → R vs { s with heap := h', toks := tk }) → wpAny (model prog w) A.in1 (collect x) R E s)
    (O : ∀ h' tk vs, P h' tk vs → Swo (ltv h')) (hz : ∀ h' tk vs, P h' tk vs → vs.length ≤ sizeLine)
    (hS : ∀ h' tk vs, P h' tk vs → 2 ≤ vs.length → ∀ (h₁ : Heap) (a : Addr), h₁.get? a = some (seqObj "list" vs.toArray 0) → (∀ b o, h'.get? b = some o → b ≠ a ∧ h₁.get? b = some o) → SortableO prog w A.in1.in1 { s with heap := h₁, toks := tk } a vs (ltv h'))
    (h : ∀ h' tk vs out h2, (∀ b o, s.heap.get? b = some o → h'.get? b = some o) → P h' tk vs → Srtd (ltv h') out → Stb (ltv h') out (if b = true then vs.reverse else vs) → (∀ c o, h'.get? c = some o → h2.get? c = some o) →
      (∃ n, h2.get? h'.objs.size = some (seqObj "list" (if b = true then out.toArray.reverse else out.toArray) n)) → Q (.ref h'.objs.size) { s with heap := h2, toks := tk }) :
    wpAny (model prog w) A (call (.builtin "sorted") [x] kw) Q E s := by
  refine call_function_entry_kw kind_sorted plain_sorted entry_sorted ha1 ?_
  unfold Builtin.«sorted»
  refine wpAny_bind (m := checkCount "sorted" 1 1 _) (wpAny_pure ?_)
  refine wpAny_bind (hcol _ fun h' tk vs hkp hP => ?_)
  refine wpAny_bind (wpAny_newList ?_ (hz _ _ _ hP))
  have hoL : (h'.push (seqObj "list" vs.toArray 0)).get? h'.objs.size = some (seqObj "list" vs.toArray 0) := Heap.get?_push_size _ rfl
  have keep : ∀ b o, h'.get? b = some o → b ≠ h'.objs.size ∧ (h'.push (seqObj "list" vs.toArray 0)).get? b = some o := fun b o q => ⟨Nat.ne_of_lt (Heap.lt_size q), Heap.get?_push_of_some _ q⟩
  show wpAny _ _ _ _ _ { s with heap := h'.push (seqObj "list" vs.toArray 0), toks := tk }
  refine wpAny_bind (wpAny_holding (wpAny_call_entry_kw slot_list_sort ⟨_, hoL, rfl⟩ entry_list_sort ?_ (ha2 _)))
  rw [hk]
  refine SrtR.list_sort_ordR (s := { s with heap := h'.push (seqObj "list" vs.toArray 0), toks := tk }) (O _ _ _ hP) hoL (hz _ _ _ hP) (fun h2 => hS _ _ _ hP h2 _ _ hoL keep) fun out hs hb => ⟨_, rfl, ?_⟩
  refine wpAny_pure ⟨_, rfl, h h' tk vs out _ hkp hP hs hb (fun c o q => ?_) ?_⟩
  · exact (sortedHeap_old (keep c o q).1 (Heap.lt_size (keep c o q).2)).trans (keep c o q).2
  · exact sortedHeap_at hoL
end
end SrtZ

namespace L2
open PySem PySem.Spec PyProof.Rows SrtO SrtZ
/-- counts as a dict's pairs -/
abbrev entZ (e : Str × Int) : Key × V := (Sum.inr e.1, V.int e.2)
section
variable {X : Cx}
/-- d.items() -/
def rItemsK : V → List V → Hp → VK → Prop := fun x xs H Q => ∃ (a : Addr) (kvs : List (Key × V)), x = .ref a ∧ xs = [] ∧ H a = some (.dK kvs) ∧ ∀ p, H p = none → Q (.ref p) (upd H p (DX.itemsO p a))
theorem mt_itemsK : MtR X "dict.items" rItemsK := by
  intro pins s σ H x xs v us Q I rx rxs h
  obtain ⟨a, kvs, rfl, rfl, ha, q⟩ := h
  cases rx
  cases rxs
  obtain ⟨z, hd, vs, kv, o, es, ep, ho, hx, hdat, _⟩ := dk_of I.hok ha
  refine DT.callItems (es := es) (ep := ep) hd ⟨o, ho, hx, hdat⟩ ?_
  have hf : H s.heap.objs.size = none := I.hok.fresh (Nat.le_refl _)
  exact ⟨.ref s.heap.objs.size, upd H s.heap.objs.size (DX.itemsO s.heap.objs.size a), I.laid (t' := s.toks) (fun b u e => Heap.get?_push_of_some _ e) (Nat.le_refl _) (DX.itemsO_ok (Heap.get?_push_size _ rfl)), rfl, q _ hf⟩
/-- d.values() -/
def valuesO (p d : Addr) : HO := .ext fun h => h.IsValuesView p d
theorem valuesO_ok {P : Program} {w : World} {H : Hp} {h : Heap} {p d : Addr} (e : h.get? p = some { cls := .type "dict_values", data := .fields #[.ref d] }) : ObjOk P w H h p (valuesO p d) :=
  ⟨⟨_, e, rfl, rfl⟩, ⟨_, e⟩, fun h1 h2 x k => let ⟨o, ho, r⟩ := x; ⟨o, k o ho, r⟩⟩
def rValuesK : V → List V → Hp → VK → Prop := fun x xs H Q => ∃ (a : Addr) (kvs : List (Key × V)), x = .ref a ∧ xs = [] ∧ H a = some (.dK kvs) ∧ ∀ p, H p = none → Q (.ref p) (upd H p (valuesO p a))
theorem mt_valuesK : MtR X "dict.values" rValuesK := by
  intro pins s σ H x xs v us Q I rx rxs h
  obtain ⟨a, kvs, rfl, rfl, ha, q⟩ := h
  cases rx
  cases rxs
  obtain ⟨z, hd, vs, kv, dd⟩ := dk_of I.hok ha
  have hf : H s.heap.objs.size = none := I.hok.fresh (Nat.le_refl _)
  refine call_meetsIn PySem.F.slot_dict_values dd.typeIs PySem.F.entry_dict_values (PySem.F.args_dict_values_1 _) (meets_dict_values (mixKind X.prog X.w) a hd) ⟨⟨vs, dd⟩, ?_⟩
  exact ⟨.ref s.heap.objs.size, upd H s.heap.objs.size (valuesO s.heap.objs.size a), I.laid (t' := s.toks) (fun b u e => Heap.get?_push_of_some _ e) (Nat.le_refl _) (valuesO_ok (Heap.get?_push_size _ rfl)), rfl, q _ hf⟩
end
end L2

namespace L2
open PySem PySem.Spec PyProof.Rows SrtO SrtZ
theorem ent_paired {xs' : List (Key × Value)} : ∀ {ks : List (Str × Int)}, KV (ks.map entZ) xs' → ∀ {j : Nat} {x : Key × Value}, xs'[j]? = some x → ∃ e t, ks[j]? = some e ∧ x = (Sum.inr e.1, Value.int e.2 t) := fun {ks} h {j x} hx => by
  obtain ⟨y, hy, r1, r2⟩ := DX.pget h hx
  rw [List.getElem?_map] at hy
  cases e : ks[j]? with
  | none => rw [e] at hy; cases hy
  | some p =>
    rw [e] at hy
    have hy' : entZ p = y := Option.some.inj hy
    subst hy'
    obtain ⟨t, et⟩ := (show ∃ t, x.2 = Value.int p.2 t from r2)
    refine ⟨p, t, rfl, ?_⟩
    obtain ⟨x1, x2⟩ := x
    have r1' : Sum.inr p.1 = x1 := r1
    have et' : x2 = Value.int p.2 t := et
    rw [← r1', et']
section
variable {X : Cx}
/-- sorted(d.items()), keys texts, values ints, any number of them -/
def rSortedIZ : List V → Hp → VK → Prop := fun vs H Q => ∃ (p d : Addr) (ks : List (Str × Int)), vs = [V.ref p] ∧ H p = some (DX.itemsO p d) ∧ H d = some (.dK (ks.map entZ)) ∧
  ∀ (H' : Hp) (l : Addr) (ys : List (Str × Int)) (ts : List Addr), Same H H' → H l = none → (∀ t ∈ ts, H t = none) → l ∉ ts → ys.Perm ks → Srtd lexZ ys → H' l = some (.lst (ts.map V.ref)) → Paired (fun (t : Addr) (y : Str × Int) => H' t = some (.tup [.str y.1, .int y.2])) ts ys → Q (.ref l) H'
theorem paired_of {α β : Type} {F : α → β → Prop} {l : List (α × β)} (h : ∀ z ∈ l, F z.1 z.2) : Paired F (l.map (·.1)) (l.map (·.2)) := by
  induction l with
  | nil => exact .nil
  | cons a l ih => exact .cons (h a List.mem_cons_self) (ih fun z hz => h z (List.mem_cons_of_mem _ hz))
/-- a tuple's key, read off the heap -/
def keyZ (h : Heap) : Value → Str × Int
  | .ref a => match h.get? a with
    | some o => match o.data with
      | .seq xs _ => match xs.toList with
        | [.str x _, .int y _] => (x, y)
        | _ => (⟨#[]⟩, 0)
      | _ => (⟨#[]⟩, 0)
    | none => (⟨#[]⟩, 0)
  | _ => (⟨#[]⟩, 0)
theorem keyZ_of {h : Heap} {v : Value} {p : Str × Int} (x : IsPZ h v p) : keyZ h v = p := by
  obtain ⟨a, o, t, u, n, rfl, ho, hc, hd⟩ := x
  simp only [keyZ, ho, hd]
theorem swo_key (h : Heap) : Swo fun v u => lexZ (keyZ h v) (keyZ h u) := ⟨fun x y => swo_Z.asym _ _, fun x y z => swo_Z.tr _ _ _⟩
def adr : Value → Addr
  | .ref a => a
  | _ => 0
theorem adr_refs : ∀ as : List Addr, (as.map Value.ref).map adr = as
  | [] => rfl
  | a :: as => congrArg (List.cons a) (adr_refs as)
theorem refs_adr : ∀ out : List Value, (∀ v ∈ out, ∃ a, v = Value.ref a) → (out.map adr).map Value.ref = out
  | [], _ => rfl
  | v :: out, h => by
    obtain ⟨a, rfl⟩ := h v List.mem_cons_self
    show Value.ref a :: (out.map adr).map Value.ref = Value.ref a :: out
    rw [refs_adr out fun u hu => h u (List.mem_cons_of_mem _ hu)]
/-- pairs that were laid and sorted are tracked: a list of them at l, the tuples at ts -/
theorem sortZ_end {pins : List (Addr × Obj)} {σ : St} {H : Hp} {s : Shared} {h' h2 : Heap} {tk l n : Nat} {as : List Addr} {ks : List (Str × Int)} {out : List Value} {Q : VK} (I : Inv X pins σ H s)
    (hk : ∀ b o, s.heap.get? b = some o → h'.get? b = some o) (hk2 : ∀ b o, h'.get? b = some o → h2.get? b = some o) (hl : s.heap.objs.size ≤ l) (hle : as.length ≤ sizeLine) (hlas : ∀ t ∈ as, t ≠ l) (nd : as.Nodup) (ha : ∀ t ∈ as, s.heap.objs.size ≤ t) (hn : H l = none)
    (hks : as.map (fun t => keyZ h' (.ref t)) = ks) (hp : ∀ t ∈ as, ∃ p, IsPZ h' (.ref t) p) (hat : h2.get? l = some (seqObj "list" out.toArray n)) (h1 : Srtd (fun v u => lexZ (keyZ h' v) (keyZ h' u)) out) (hb : out.Perm (as.map Value.ref))
    (q : ∀ (H' : Hp) (ys : List (Str × Int)) (ts : List Addr), Same H H' → H l = none → (∀ t ∈ ts, H t = none) → l ∉ ts → ys.Perm ks → Srtd lexZ ys → H' l = some (.lst (ts.map V.ref)) → Paired (fun (t : Addr) (y : Str × Int) => H' t = some (.tup [.str y.1, .int y.2])) ts ys → Q (.ref l) H') :
    EP X pins σ Q (.ref l) { s with heap := h2, toks := tk } := by
  have isr : ∀ v ∈ out, ∃ a, v = Value.ref a := fun v hv => by
    obtain ⟨a, _, e⟩ := List.mem_map.mp (hb.mem_iff.mp hv)
    exact ⟨a, e.symm⟩
  have eo := refs_adr out isr
  generalize ets : out.map adr = ts at eo
  have pt : ts.Perm as := by
    have := hb.map adr
    rwa [adr_refs, ets] at this
  have kS : ∀ b o, s.heap.get? b = some o → h2.get? b = some o := fun b o e => hk2 b o (hk b o e)
  have I1 : Inv X pins σ H { s with heap := h2, toks := tk } := I.kept (t' := tk) kS
  have hlen : (ts.map V.ref).length ≤ sizeLine := by rw [List.length_map, pt.length_eq]; exact hle
  have rv : Vals (ts.map V.ref) out := by
    rw [← eo]
    exact LiI.vals_refs ts
  have I2 : Inv X pins σ (upd H l (.lst (ts.map V.ref))) { s with heap := h2, toks := tk } := I1.take (h' := h2) (t' := tk) (fun b ob _ e => e) (I.fpOk hl hn) ⟨hlen, out, n, rv, hat⟩
  obtain ⟨H2, I3, g, qt⟩ := DX.takeT (P := fun b vs => vs = [.str (keyZ h' (.ref b)).1, .int (keyZ h' (.ref b)).2]) I as _ I2 nd fun b hb' => by
    obtain ⟨p, hp'⟩ := hp b hb'
    have ek := keyZ_of hp'
    obtain ⟨a, o, t, u, m, e, ho, hc, hd⟩ := hp'
    cases e
    refine ⟨ha b hb', ?_, [.str (keyZ h' (.ref b)).1, .int (keyZ h' (.ref b)).2], rfl, fun H3 => ⟨(by rw [sizeLine_eq]; show 2 ≤ 16777216; omega), [Value.str p.1 t, Value.int p.2 u], by rw [ek]; exact .cons ⟨_, rfl⟩ (.cons ⟨_, rfl⟩ .nil), ⟨o, hk2 _ _ ho, hc, m, hd⟩⟩⟩
    rw [upd_ne (hlas b hb')]
    exact I.hok.fresh (ha b hb')
  have gr : Same H H2 := fun b o e => g b o (by rw [upd_ne (ne_of_none e hn)]; exact e)
  refine ⟨.ref l, H2, I3, rfl, q H2 (ts.map fun t => keyZ h' (.ref t)) ts gr hn (fun t ht => I.hok.fresh (ha t (pt.mem_iff.mp ht))) (fun z => hlas l (pt.mem_iff.mp z) rfl) ?_ ?_ (g _ _ upd_same) ?_⟩
  · rw [← hks]
    exact pt.map _
  · have e : ts.map (fun t => keyZ h' (.ref t)) = out.map (keyZ h') := by
      rw [← eo, List.map_map]
      rfl
    rw [e]
    exact srtd_map h1
  · have : ∀ L : List Addr, (∀ t ∈ L, t ∈ as) → Paired (fun (t : Addr) (y : Str × Int) => H2 t = some (.tup [.str y.1, .int y.2])) L (L.map fun t => keyZ h' (.ref t)) := by
      intro L
      induction L with
      | nil => exact fun _ => .nil
      | cons t L ih =>
        intro hL
        refine .cons ?_ (ih fun u hu => hL u (List.mem_cons_of_mem _ hu))
        obtain ⟨vs, ev, hv⟩ := qt t (hL t List.mem_cons_self)
        rw [← ev]
        exact hv
    exact this ts fun t ht => pt.mem_iff.mp ht
theorem cr_sortedIZ (hc : X.calm = true) : CallR X (.builtin "sorted") rSortedIZ := by
  intro pins s σ H xs us Q I r h
  obtain ⟨p, a, ks, rfl, hp, ha, q⟩ := h
  obtain rfl := Vals.ref1 r
  have view : s.heap.IsItemsView p a := (show ObjOk X.prog X.w H s.heap p (DX.itemsO p a) from I.hok p _ hp).1
  obtain ⟨z, hd, xs', rel, o, es, ep, ho, hx, hdat, _, hes, _⟩ := dk_of I.hok ha
  have l1 : ks.length = xs'.length := by
    have := Paired.length rel
    rwa [List.length_map] at this
  have l2 : es.size = xs'.length := by rw [← Array.length_toList, hes.length]
  have hh : X.A.handled = none := I.ok.hd hc
  have hz : es.size ≤ sizeLine := by rw [List.length_map] at z; omega
  have ent : ∀ (j : Nat) (en : DictEntry), es[j]? = some en → ∃ e t u, ks[j]? = some e ∧ en.key = Value.str e.1 t ∧ en.val = Value.int e.2 u := by
    intro j en he
    have he' : es.toList[j]? = some en := by rw [Array.getElem?_toList]; exact he
    have pz : ∀ {es : List DictEntry} {kvs : List (Key × Value)}, Pairs (mixKind X.prog X.w) es kvs → ∀ {j : Nat} {en : DictEntry}, es[j]? = some en → ∃ x, kvs[j]? = some x ∧ keyIs x.1 en.key = true ∧ en.val = x.2 := by
      intro es kvs h
      induction h with
      | nil => intro j en h; simp at h
      | cons h1 h2 h3 ih =>
        intro j en h
        cases j with
        | zero => cases (Option.some.inj h); exact ⟨_, rfl, h1, h2⟩
        | succ j => exact ih (by simpa using h)
    obtain ⟨x, ex, k1, k2⟩ := pz hes he'
    obtain ⟨e, t, e1, e2⟩ := ent_paired rel ex
    subst e2
    obtain ⟨u, eu⟩ := relV_key k1
    exact ⟨e, u, t, e1, eu, k2⟩
  refine sorted_col (x := .ref p) (b := false) (kw := []) (ltv := fun h' v u => lexZ (keyZ h' v) (keyZ h' u)) (P := fun h' _ vs => ∃ as, vs = as.map Value.ref ∧ as.length = es.size ∧ DT.Made es s.heap.objs.size h' as ∧ s.heap.objs.size < h'.objs.size)
    plain_rev (args_sorted1 _) (fun _ => args_list_sort _) (fun R hR => ?_) (fun h' _ _ _ => swo_key h') (fun h' _ vs hP => ?_) (fun h' tk vs hP h2 h₁ b hb keep => ?_) (fun h' tk vs out h2 hk hP h1 hb hk2 hat => ?_)
  · exact DT.collectI (A := X.A.in1) hh view ⟨o, ho, hx, hdat⟩ hz fun h' tk as hk hlt hl hM => hR h' tk _ hk ⟨as, rfl, hl, hM, hlt⟩
  · obtain ⟨as, rfl, hl, _⟩ := hP
    rw [List.length_map, hl]
    exact hz
  · obtain ⟨as, rfl, hl, hM, _⟩ := hP
    refine pairsZ_sortable (s := { s with heap := h₁, toks := tk }) (k := keyZ h') (by omega) (fun v hv => ?_) (fun ob e => ?_)
    · obtain ⟨t, ht, rfl⟩ := List.mem_map.mp hv
      obtain ⟨j, hj⟩ := List.mem_iff_getElem?.mp ht
      obtain ⟨en, he, hg⟩ := hM.pairs j t hj
      obtain ⟨e, t1, t2, _, k1, k2⟩ := ent j en he
      have x : IsPZ h' (.ref t) e := ⟨t, _, t1, t2, 0, rfl, hg, rfl, by rw [k1, k2]⟩
      rw [keyZ_of x]
      exact x.keeps fun b o e _ => (keep b o e).2
    · have e' : some ob = some (seqObj "list" (as.map Value.ref).toArray 0) := e.symm.trans hb
      cases e'
      intro c
      exact absurd (Value.type.inj c) (by decide)
  · obtain ⟨as, rfl, hl, hM, hlt⟩ := hP
    obtain ⟨n, hat⟩ := hat
    have pz : ∀ (j : Nat) (t : Addr), as[j]? = some t → ∃ e, ks[j]? = some e ∧ IsPZ h' (.ref t) e := fun j t hj => by
      obtain ⟨en, he, hg⟩ := hM.pairs j t hj
      obtain ⟨e, t1, t2, e1, k1, k2⟩ := ent j en he
      exact ⟨e, e1, t, _, t1, t2, 0, rfl, hg, rfl, by rw [k1, k2]⟩
    refine sortZ_end (as := as) (ks := ks) I hk hk2 (Nat.le_of_lt hlt) (by rw [hl]; exact hz) (fun t ht => Nat.ne_of_lt (hM.there ht)) (List.Pairwise.imp (fun h => Nat.ne_of_lt h) hM.rise) (fun t ht => Nat.le_of_lt (hM.above t ht)) (I.hok.fresh (Nat.le_of_lt hlt)) ?_ (fun t ht => ?_) hat h1 hb.perm fun H' ys ts => q H' _ ys ts
    · refine List.ext_getElem? fun j => ?_
      rw [List.getElem?_map]
      cases hj : as[j]? with
      | none =>
        have : ks[j]? = none := List.getElem?_eq_none (by have := List.getElem?_eq_none_iff.mp hj; omega)
        rw [this]
        rfl
      | some t =>
        obtain ⟨e, e1, x⟩ := pz j t hj
        rw [e1]
        show some (keyZ h' (.ref t)) = some e
        rw [keyZ_of x]
    · obtain ⟨j, hj⟩ := List.mem_iff_getElem?.mp ht
      obtain ⟨e, _, x⟩ := pz j t hj
      exact ⟨e, x⟩
end
end L2

namespace SrtZ
open PySem PyProof.Rows Srt SrtO PySem.W
def ltSv (v u : Value) : Bool := ltZ (strOf v) (strOf u)
theorem swo_str : Swo ltSv := by
  refine ⟨fun x y h => ltZ_asym h, fun x y z h1 h2 => ?_⟩
  rcases bcase (ltZ (strOf z) (strOf x)) with q | q
  · rcases bcase (ltZ (strOf x) (strOf y)) with p | p
    · rcases bcase (ltZ (strOf y) (strOf z)) with r | r
      · have := ltZ_asym (ltZ_trans p r)
        rw [q] at this
        cases this
      · have e := ltZ_tri r h2
        have q' : ltZ (strOf z) (strOf x) = true := q
        rw [← e, ltZ_asym p] at q'
        cases q'
    · have e := ltZ_tri p h1
      have q' : ltZ (strOf z) (strOf x) = true := q
      have h2' : ltZ (strOf z) (strOf y) = false := h2
      rw [e, h2'] at q'
      cases q'
  · exact q
theorem strOf_strs : ∀ {vs : List Value} {ss : List Str}, StrsAre vs ss → vs.map strOf = ss
  | _, _, .nil => rfl
  | _, _, .cons y t h => congrArg (y :: ·) (strOf_strs h)
section
variable {prog : Program} {w : World} {A : Around} {E : Value → Shared → Prop} {s : Shared}
theorem str_cmp {vs : List Value} {ss : List Str} (hI : StrsAre vs ss) : Cmp prog w A s oneType' (fun p => p.1 ∈ vs) (lt2 ltSv) := by
  intro p q hm hm'
  obtain ⟨a, t, e⟩ := StrsAre.all hI _ hm
  obtain ⟨b, u, e'⟩ := StrsAre.all hI _ hm'
  show wpAny (model prog w) A (keyLt' oneType' p.1 q.1) (fun r s' => s' = s ∧ r = ltSv p.1 q.1) (fun _ _ => False) s
  rw [e, e', keyLt'_oneType]
  exact oneLt_any_str ⟨rfl, rfl⟩
theorem strs_sortable {a : Addr} {vs : List Value} {ss : List Str} (hI : StrsAre vs ss) (h2 : 2 ≤ vs.length) : SortableO prog w A s a vs ltSv := by
  intro h' _
  refine ⟨oneType', fun Q E hq => ?_, str_cmp hI⟩
  match vs, hI, h2 with
  | v1 :: v2 :: rest, hI, _ =>
    rw [keyKind_strs hI]
    exact wpAny_pure hq
  | [], _, h => exact absurd h (by decide)
  | [v], _, h => exact absurd h (by simp)
end
end SrtZ
namespace L2
open PySem PySem.Spec PyProof.Rows SrtO SrtZ
section
variable {X : Cx}
/-- sorted(xs), xs a list of tuples (text, int), any number of them -/
def rSortedPZ (K : PySem.W.Frag) : List V → Hp → VK → Prop := fun vs H Q => ∃ (a : Addr) (ts : List Addr) (k : Addr → Str × Int), vs = [V.ref a] ∧ SqL K H a (ts.map V.ref) ∧ (∀ t ∈ ts, H t = some (.tup [.str (k t).1, .int (k t).2])) ∧
  ∀ (us : List Addr) (p : Addr), us.Perm ts → Srtd lexZ (us.map k) → H p = none → Q (.ref p) (upd H p (.lst (us.map V.ref)))
theorem cr_sortedPZ : CallR X (.builtin "sorted") (rSortedPZ X.K) := by
  intro pins s σ H vs us Q I r h
  obtain ⟨a, ts, k, rfl, hs, hx, q⟩ := h
  obtain ⟨its, rv, hl, hz⟩ := I.list hs
  obtain rfl := Vals.ref1 r
  obtain rfl := refs_at rv
  rw [List.length_map] at hz
  have hp : ∀ v ∈ ts.map Value.ref, IsPZ s.heap v (k (adr v)) := fun v hv => by
    obtain ⟨t, ht, rfl⟩ := List.mem_map.mp hv
    obtain ⟨_, its2, r2, o, ho, hc, n, hd⟩ := I.hok _ _ (hx t ht)
    obtain ⟨u1, u2, rfl, ri, rj⟩ := vals2 r2
    obtain ⟨t1, rfl⟩ := ri
    obtain ⟨t2, rfl⟩ := rj
    exact ⟨t, o, t1, t2, n, rfl, ho, hc, hd⟩
  refine SrtO.sorted_ord (ltv := fun v u => lexZ (k (adr v)) (k (adr u))) ⟨fun x y => swo_Z.asym _ _, fun x y z => swo_Z.tr _ _ _⟩ hl.isList (by rw [List.length_map]; exact hz) (fun h2 h₁ b hb kk => ?_) fun out h1 h2 => ?_
  · refine pairsZ_sortable (s := { s with heap := h₁ }) (k := fun v => k (adr v)) (by omega) (fun v hv => (hp v hv).keeps fun b o e _ => (kk b o e).2) fun o e => ?_
    have e' : some o = some (seqObj "list" (ts.map Value.ref).toArray 0) := e.symm.trans hb
    cases e'
    intro c
    exact absurd (Value.type.inj c) (by decide)
  · obtain ⟨ep, he'⟩ := PyProof.Rows.sortedAll_at s.heap (ts.map Value.ref) out.toArray
    have isr : ∀ v ∈ out, ∃ a, v = Value.ref a := fun v hv => by
      obtain ⟨a, _, e⟩ := List.mem_map.mp (h2.perm.mem_iff.mp hv)
      exact ⟨a, e.symm⟩
    have eo := refs_adr out isr
    generalize eus : out.map adr = us at eo
    have pt : us.Perm ts := by
      have := h2.perm.map adr
      rwa [adr_refs, eus] at this
    have hlen : (us.map V.ref).length ≤ sizeLine := by rw [List.length_map, pt.length_eq]; exact hz
    have rv : Vals (us.map V.ref) out := by
      rw [← eo]
      exact LiI.vals_refs us
    refine ⟨.ref _, upd H (s.heap.objs.size + 1) (.lst (us.map V.ref)), I.laid (t' := s.toks) (fun _ _ => PyProof.Rows.sortedAll_old) (Nat.le_succ _) ⟨hlen, out, ep, rv, he'⟩, rfl, q us _ pt ?_ (I.hok.fresh (Nat.le_succ _))⟩
    have e : us.map k = out.map fun v => k (adr v) := by
      rw [← eo, List.map_map]
      rfl
    rw [e]
    exact srtd_map h1
/-- the ints of a dict's values -/
theorem vals_ints' {xs' : List (Key × Value)} : ∀ {ks : List (Str × Int)}, KV (ks.map entZ) xs' → ∀ {vs : List Value}, vs.length = xs'.length → (∀ (j : Nat) (v : Value), vs[j]? = some v → ∃ k, xs'[j]? = some (k, v)) → IntsAre vs (ks.map (·.2)) := fun {ks} rel {vs} hl hv => by
  have e : vs = xs'.map (·.2) := PySem.W.kdl_vals_eq vs hl hv
  subst e
  have : ∀ {ks : List (Str × Int)} {xs : List (Key × Value)}, KV (ks.map entZ) xs → IntsAre (xs.map (·.2)) (ks.map (·.2)) := by
    intro ks
    induction ks with
    | nil =>
      intro xs r
      cases r
      exact .nil
    | cons e ks ih =>
      intro xs r
      cases r with
      | cons h t =>
        obtain ⟨u, eu⟩ := (show ∃ t, _ = Value.int e.2 t from h.2)
        rw [List.map_cons, eu]
        exact .cons _ _ (ih t)
  exact this rel
/-- sorted(d.values(), reverse=b), values ints -/
def rSortedVR (b : Bool) : List V → List V → Hp → VK → Prop := fun vs zs H Q => ∃ (p d : Addr) (ks : List (Str × Int)), vs = [V.ref p] ∧ zs = [.bl b] ∧ H p = some (valuesO p d) ∧ H d = some (.dK (ks.map entZ)) ∧
  ∀ (ns : List Int) (l : Addr), ns.Perm (ks.map (·.2)) → OrdB b ns → H l = none → Q (.ref l) (upd H l (.lst (ns.map V.int)))
theorem cr_sortedVR {b : Bool} (hc : X.calm = true) : CallRK X (.builtin "sorted") [Str.ofString "reverse"] (rSortedVR b) := by
  intro pins s σ H vs zs us ws Q I r rz h
  obtain ⟨p, d, ks, rfl, rfl, hp, ha, q⟩ := h
  obtain rfl := Vals.ref1 r
  obtain ⟨w1, rfl, e1⟩ := vals1 rz
  obtain rfl : w1 = Value.bool b := e1
  have view : s.heap.IsValuesView p d := (show ObjOk X.prog X.w H s.heap p (valuesO p d) from I.hok p _ hp).1
  obtain ⟨z, hd, xs', rel, dd⟩ := dk_of I.hok ha
  obtain ⟨ep, hat⟩ := dd.dictAt
  have l1 : ks.length = xs'.length := by
    have := Paired.length rel
    rwa [List.length_map] at this
  have hz : xs'.length ≤ sizeLine := by rw [List.length_map] at z; omega
  refine sorted_col (x := .ref p) (b := b) (kw := [(Str.ofString "reverse", .bool b)]) (ltv := fun _ => SrtO.ltIv) (P := fun h' _ vs => IntsAre vs (ks.map (·.2)))
    (fun _ => rfl) (args_sorted_rev _ _) (fun _ => args_list_sort_rev _ _) (fun R hR => ?_) (fun _ _ _ _ => SrtO.swo_int) (fun h' _ vs hP => ?_) (fun h' tk vs hP h2 h₁ c hb keep => ?_) (fun h' tk vs out h2 hk hP h1 hb hk2 hat => ?_)
  · refine PySem.W.kdu_collect (A := X.A.in1) (PySem.W.kdl_values (knd := mixKind X.prog X.w) (kvs := xs') (ep := ep) (r := p) (d := d)) (I.ok.hd hc) ⟨view, hat⟩ hz fun h' tk acc hk hacc => hR h' tk _ hk (vals_ints' rel (by rw [Array.length_toList]; exact hacc.1) fun j v e => hacc.2 j v (by rw [← Array.getElem?_toList]; exact e))
  · rw [hP.length, List.length_map, l1]
    exact hz
  · exact SrtO.ints_sortable hP h2
  · obtain ⟨n, hat⟩ := hat
    obtain ⟨ns', k1, k2, k3⟩ := SrtR.ints_outR hP h1 hb
    have hlen : (ns'.map V.int).length ≤ sizeLine := by
      rw [List.length_map, k2.length_eq, List.length_map, l1]
      exact hz
    have e0 : ((if b = true then out.toArray.reverse else out.toArray).toList).toArray = (if b = true then out.toArray.reverse else out.toArray) := by rw [Array.toArray_toList]
    have gone : s.heap.get? h'.objs.size = none := by
      cases e : s.heap.get? h'.objs.size with
      | none => rfl
      | some o => exact absurd (Heap.lt_size (hk _ _ e)) (Nat.lt_irrefl _)
    have hn := I.hok.gone gone
    exact ⟨.ref h'.objs.size, upd H h'.objs.size (.lst (ns'.map V.int)), I.laidN (t' := tk) (fun c o e => hk2 c o (hk c o e)) gone hn ⟨hlen, _, n, vals_of_ints k1, by rw [e0]; exact hat⟩, rfl, q _ _ k2 k3 hn⟩
/-- sorted(d), keys texts, any number of them -/
def rSortedDS : List V → Hp → VK → Prop := fun vs H Q => ∃ (d : Addr) (kvs : List (Key × V)) (ss : List Str), vs = [V.ref d] ∧ H d = some (.dK kvs) ∧ kvs.map (·.1) = ss.map Sum.inr ∧
  ∀ (ys : List Str) (l : Addr), ys.Perm ss → Srtd ltZ ys → H l = none → Q (.ref l) (upd H l (.lst (ys.map V.str)))
theorem keys_strs {P : Program} {w : World} {xs' : List (Key × Value)} : ∀ {kvs : List (Key × V)} {ss : List Str}, KV kvs xs' → kvs.map (·.1) = ss.map Sum.inr → ∀ {vs : List Value}, vs.length = xs'.length → (∀ (j : Nat) (v : Value), vs[j]? = some v → ∃ k x, xs'[j]? = some (k, x) ∧ (mixKind P w).is k v = true) → StrsAre vs ss := fun {kvs ss} rel hk {vs} hl hv => by
  have : ∀ {kvs : List (Key × V)} {ss : List Str} {xs : List (Key × Value)} {vs : List Value}, KV kvs xs → kvs.map (·.1) = ss.map Sum.inr → vs.length = xs.length → (∀ (j : Nat) (v : Value), vs[j]? = some v → ∃ k x, xs[j]? = some (k, x) ∧ (mixKind P w).is k v = true) → StrsAre vs ss := by
    intro kvs
    induction kvs with
    | nil =>
      intro ss xs vs r hk hl hv
      cases r
      cases ss with
      | nil =>
        have : vs = [] := List.eq_nil_of_length_eq_zero hl
        subst this
        exact .nil
      | cons _ _ => cases hk
    | cons kv kvs ih =>
      intro ss xs vs r hk hl hv
      cases r with
      | cons h t =>
        cases ss with
        | nil => cases hk
        | cons z ss =>
          cases vs with
          | nil => simp at hl
          | cons v vs =>
            rw [List.map_cons, List.map_cons] at hk
            obtain ⟨h1, h2⟩ := List.cons.inj hk
            obtain ⟨k, x, e1, e2⟩ := hv 0 v rfl
            have e1' := (Prod.mk.inj (Option.some.inj e1)).1
            have kk : k = Sum.inr z := by rw [← e1', ← h.1, h1]
            subst kk
            obtain ⟨u, eu⟩ := relV_key (show keyIs (Sum.inr z) v = true from e2)
            subst eu
            exact .cons _ _ (ih t h2 (by simpa using hl) fun j v' e => hv (j + 1) v' (by simpa using e))
  exact this rel hk hl hv
theorem cr_sortedDS (hc : X.calm = true) : CallR X (.builtin "sorted") rSortedDS := by
  intro pins s σ H xs us Q I r h
  obtain ⟨d, kvs, ss, rfl, ha, hks, q⟩ := h
  obtain rfl := Vals.ref1 r
  obtain ⟨z, hd, xs', rel, dd⟩ := dk_of I.hok ha
  obtain ⟨ep, hat⟩ := dd.dictAt
  have l1 : kvs.length = xs'.length := Paired.length rel
  have hz : xs'.length ≤ sizeLine := by omega
  refine sorted_col (x := .ref d) (b := false) (kw := []) (ltv := fun _ => ltSv) (P := fun _ _ vs => StrsAre vs ss)
    plain_rev (args_sorted1 _) (fun _ => args_list_sort _) (fun R hR => ?_) (fun _ _ _ _ => swo_str) (fun h' _ vs hP => ?_) (fun h' tk vs hP h2 h₁ c hb keep => strs_sortable hP h2) (fun h' tk vs out h2 hk hP h1 hb hk2 hat => ?_)
  · refine PySem.W.kdu_collect (A := X.A.in1) (PySem.W.kdl_dict (knd := mixKind X.prog X.w) (kvs := xs') (ep := ep) (d := d) hd) (I.ok.hd hc) hat hz fun h' tk acc hk hacc => hR h' tk _ hk (keys_strs rel hks (by rw [Array.length_toList]; exact hacc.1) fun j v e => hacc.2 j v (by rw [← Array.getElem?_toList]; exact e))
  · rw [hP.length, ← List.length_map (f := (Sum.inr : Str → Key)), ← hks, List.length_map]
    omega
  · obtain ⟨n, hat⟩ := hat
    have isS : ∀ v ∈ out, ∃ x t, v = Value.str x t := fun v hv => StrsAre.all hP v (hb.perm.mem_iff.mp hv)
    have kp : (out.map strOf).Perm ss := by
      have := hb.perm.map strOf
      rwa [if_neg (by decide), strOf_strs hP] at this
    have hlen : ((out.map strOf).map V.str).length ≤ sizeLine := by
      rw [List.length_map, kp.length_eq, ← List.length_map (f := (Sum.inr : Str → Key)), ← hks, List.length_map]
      omega
    have gone : s.heap.get? h'.objs.size = none := by
      cases e : s.heap.get? h'.objs.size with
      | none => rfl
      | some o => exact absurd (Heap.lt_size (hk _ _ e)) (Nat.lt_irrefl _)
    have hn := I.hok.gone gone
    exact ⟨.ref h'.objs.size, upd H h'.objs.size (.lst ((out.map strOf).map V.str)), I.laidN (t' := tk) (fun c o e => hk2 c o (hk c o e)) gone hn ⟨hlen, out, n, vals_of_strs (strsAre_map out isS), hat⟩, rfl, q _ _ kp (srtd_map h1) hn⟩
/-! plain tuples: such of which no attributes are held -/
def Ptp (H : Hp) (a : Addr) (xs : List V) : Prop := ∃ o : Obj, H a = some (.frz o (.tup xs)) ∧ o.dict = none
theorem Ptp.seq {K : PySem.W.Frag} {H : Hp} {a : Addr} {xs : List V} (h : Ptp H a xs) : SqT K H a xs := let ⟨o, e, _⟩ := h; .inl (.inr ⟨o, e⟩)
theorem Ptp.same {H H' : Hp} {a : Addr} {xs : List V} (h : Ptp H a xs) (s : Same H H') : Ptp H' a xs := let ⟨o, e, d⟩ := h; ⟨o, s _ _ e, d⟩
theorem Ptp.ne {H : Hp} {a p : Addr} {xs : List V} (h : Ptp H a xs) (hp : H p = none) : a ≠ p := let ⟨o, e, _⟩ := h; ne_of_none e hp
theorem Ptp.upd {H : Hp} {a p : Addr} {xs : List V} {u : HO} (h : Ptp H a xs) (n : a ≠ p) : Ptp (L2.upd H p u) a xs := let ⟨o, e, d⟩ := h; ⟨o, by rw [upd_ne n]; exact e, d⟩
/-- (a, b, ..), a plain tuple -/
def tTupF (t : TA) : TE := fun σ H Q => t σ H fun xs H1 => xs.length ≤ sizeLine ∧ ∀ p o, H1 p = none → o.dict = none → Q (.ref p) (upd H1 p (.frz o (.tup xs)))
theorem pe_tupF {x1} {es : List Expr} {t : TA} {pos : Pos} (h : PA X es t) : PE X (.Tuple es x1 pos) (tTupF t) := by
  refine ⟨fun pins s σ H Q I hq => ?_⟩
  refine wpAny_Tuple_spliced (thn (h.run pos pins s σ H _ I hq) fun us s1 ⟨xs, H1, I1, r, z, q⟩ => ⟨by rw [← r.length]; exact z, ?_⟩)
  have hf : H1 s1.heap.objs.size = none := I1.hok.fresh (Nat.le_refl _)
  refine ⟨.ref s1.heap.objs.size, _, I1.laid (t' := s1.toks) (fun b u e => Heap.get?_push_of_some _ e) (Nat.le_refl _) ?_, rfl, q _ { cls := .type "tuple", data := .seq us.toArray } hf rfl⟩
  exact ⟨Heap.get?_push_size _ rfl, z, us, r, ⟨_, Heap.get?_push_size _ rfl, rfl, _, rfl⟩⟩
/-- tuple(xs) of a list, a plain tuple -/
theorem call_tupleF : CallR X (.type "tuple") (fun xs H Q => ∃ p ys, xs = [.ref p] ∧ SqL X.K H p ys ∧ ∀ l o, H l = none → o.dict = none → Q (.ref l) (upd H l (.frz o (.tup ys)))) := by
  intro pins s σ H xs us Q I r h
  obtain ⟨p, ys, rfl, hq, q⟩ := h
  obtain ⟨u, rfl, rx⟩ := vals1 r
  cases rx
  obtain ⟨its, r', pl, hz⟩ := I.list hq
  have hlen := r'.length
  refine call_tuple_list pl.isList (fun h' kp => ?_) (by simp only [List.size_toArray] <;> omega)
  have I1 : Inv X pins σ H { s with heap := h' } := I.kept (t' := s.toks) kp
  have I2 : Inv X pins σ (upd H h'.objs.size (.frz _ (.tup ys))) { s with heap := h'.push { cls := .type "tuple", data := .seq its.toArray } } :=
    I1.laid (t' := s.toks) (fun b o e => Heap.get?_push_of_some _ e) (Nat.le_refl _) (show ObjOk X.prog X.w _ _ _ (.frz _ (.tup ys)) from ⟨Heap.get?_push_size _ rfl, hz, its, r', IsTup.new _ _⟩)
  exact ⟨.ref h'.objs.size, _, I2, rfl, q _ _ (I1.hok.fresh (Nat.le_refl _)) rfl⟩
theorem pairs_of2 {pins : List (Addr × Obj)} {σ : St} {H : Hp} {s : Shared} (I : Inv X pins σ H s) : ∀ {ps : List Addr} {kvs : List (Key × V)}, Paired (fun p kv => SqT X.K H p [kV kv.1, kv.2]) ps kvs →
    ∃ (prs : List (Key × Value)) (vps : List (Value × Value)), KV kvs prs ∧ prs.length = ps.length ∧ vps.length = prs.length ∧
      ∀ (j : Nat) (k v : Value), vps[j]? = some (k, v) → ∃ (b : Addr) (q : Key × Value), ps[j]? = some b ∧ prs[j]? = some q ∧ v = q.2 ∧ IsTup s.heap b #[k, v] ∧ keyIs q.1 k = true
  | _, _, .nil => ⟨[], [], .nil, rfl, rfl, fun j k v e => by simp at e⟩
  | _, _, .cons (a := p) (b := kv) h t => by
    obtain ⟨prs, vps, r, hl, hl2, hp⟩ := pairs_of2 I t
    obtain ⟨its, rv, ht, _⟩ := I.tuple h
    obtain ⟨u, y, ei, ru, ry⟩ := vals2 rv
    subst ei
    refine ⟨(kv.1, y) :: prs, (u, y) :: vps, .cons ⟨rfl, ry⟩ r, by rw [List.length_cons, List.length_cons, hl], by rw [List.length_cons, List.length_cons, hl2], fun j k v e => ?_⟩
    cases j with
    | zero =>
      have e' : (u, y) = (k, v) := Option.some.inj e
      cases e'
      exact ⟨p, _, rfl, rfl, rfl, ht, kV_is (P := X.prog) (w := X.w) ru⟩
    | succ j =>
      obtain ⟨b, q, e1, e2, e3⟩ := hp j k v (by simpa using e)
      exact ⟨b, q, by simpa using e1, by simpa using e2, e3⟩
/-- dict(t), t a plain tuple of pairs -/
theorem call_dictPT (hcalm : X.calm = true) : CallR X (.type "dict") (fun xs H Q => ∃ (a : Addr) (ps : List Addr) (kvs : List (Key × V)), xs = [.ref a] ∧ Ptp H a (ps.map V.ref) ∧ Paired (fun p kv => SqT X.K H p [kV kv.1, kv.2]) ps kvs ∧
    ∀ p, H p = none → Q (.ref p) (upd H p (.dK (mergeK [] kvs)))) := by
  intro pins s σ H xs us Q I r q
  obtain ⟨a, ps, kvs, ex, hq, hp, q⟩ := q
  subst ex
  obtain ⟨u, eu, rx⟩ := vals1 r
  subst eu
  cases rx
  obtain ⟨o, ha, hdn⟩ := hq
  obtain ⟨hao, hz, its, rv, o', hao', hc, n, hdat⟩ := (show ObjOk X.prog X.w H s.heap a (.frz o (.tup (ps.map V.ref))) from I.hok a _ ha)
  rw [hao] at hao'
  cases hao'
  have ei := refs_at rv
  subst ei
  rw [List.length_map] at hz
  obtain ⟨prs, vps, rel, hl, hvl, hvp⟩ := pairs_of2 I hp
  have hTs : ∀ j b, ps[j]? = some b → ps.getD j 0 = b := fun j b e => by simp [List.getD, e]
  refine PySem.call_dict_pairs (knd := mixKind X.prog X.w) (kvs := prs) (PairArg.tuple (prog := X.prog) (w := X.w) a (ps.map Value.ref).toArray (fun j => ps.getD j 0) vps) (I.ok.hd hcalm) ⟨⟨o, n, hao, hc, hdn, hdat⟩, ?_, fun j k v e => ?_⟩ ⟨hvl.symm, fun i key v h => ?_⟩ (by rw [hvl, hl]; exact hz) fun h' tk hd' k => ?_
  · simp [hvl, hl]
  · obtain ⟨b, q, e1, e2, e3, e4, e5⟩ := hvp j k v e
    show _ ∧ PairAt s.heap (ps.getD j 0) k v
    rw [hTs j b e1]
    have ed : (List.map Value.ref ps).toArray[j]? = some (Value.ref b) := by simp [e1]
    refine ⟨?_, .inl e4⟩
    show _ = some (Value.ref (ps.getD j 0))
    rw [hTs j b e1]
    exact ed
  · obtain ⟨b, q', e1, e2, e3, e4, e5⟩ := hvp i key v h
    exact ⟨q'.1, by rw [e2, e3], e5⟩
  · have hm : (s.heap.objs.size == sysModules) = false := beq_eq_false_iff_ne.mpr (Nat.ne_of_gt I.big)
    have hlen : (mergeK [] kvs).length ≤ sizeLine := by
      refine Nat.le_trans (length_mergeK kvs []) ?_
      rw [List.length_nil, Nat.zero_add, rel.length, hl]
      exact hz
    exact ⟨.ref s.heap.objs.size, upd H s.heap.objs.size (.dK (mergeK [] kvs)), I.laid (t' := tk) (fun b u e => k b u (by simp) e) (Nat.le_refl _) (show ObjOk X.prog X.w _ _ _ (.dK (mergeK [] kvs)) from ⟨hlen, hm, merged [] prs, KV.merge rel .nil, hd'⟩), rfl, q _ (I.hok.fresh (Nat.le_refl _))⟩
/-- o.f as a target -/
def gFld (K : PySem.W.Frag) (ta : TE) (f : Str) : TG := fun y σ H Q => ta σ H fun x H2 => ∃ a C dx fs, x = .ref a ∧ H2 a = some (.ins C dx fs) ∧ Cls K C ∧ NoAttr K C f ∧ fs.length < 1000 ∧ Q σ (upd H2 a (.ins C dx (putF f y fs)))
theorem pg_fld {o : Expr} {f : Str} {pos : Pos} {ta : TE} (ha : PE X o ta) : PG X (.Attribute o f pos) (gFld X.K ta f) := by
  refine ⟨fun pins s σ H v u Q I r h => ?_⟩
  rw [assign_Attribute]
  refine wpAny_bind (wpAny_holding (thn (ha.run pins s σ H _ I h) fun ov s2 ⟨x, H2, I2, rx, a, C, dx, fs, ex, ea, c, n, l, q2⟩ => ?_))
  subst ex
  obtain rfl : ov = Value.ref a := rx
  refine wpAny_bind (wpAny_standAt (wpAny_bind (wpAny_holding (setattr_ok I2 ea c n l r fun s3 I3 => ?_))))
  exact wpAny_release ⟨σ, _, I3, q2⟩
end
end L2

namespace L2
open PySem PySem.Spec PyProof.Rows SrtO SrtZ
section
variable {X : Cx}
/-- min(d.values()), values ints -/
def rMinV : List V → Hp → VK → Prop := fun vs H Q => ∃ (p d : Addr) (ks : List (Str × Int)), vs = [V.ref p] ∧ H p = some (valuesO p d) ∧ H d = some (.dK (ks.map entZ)) ∧ 0 < ks.length ∧
  ∀ m, m ∈ ks.map (·.2) → (∀ y ∈ ks.map (·.2), m ≤ y) → Q (.int m) H
theorem cr_minV (hc : X.calm = true) : CallR X (.builtin "min") rMinV := by
  intro pins s σ H vs us Q I r h
  obtain ⟨p, d, ks, rfl, hp, ha, hne, q⟩ := h
  obtain rfl := Vals.ref1 r
  have view : s.heap.IsValuesView p d := (show ObjOk X.prog X.w H s.heap p (valuesO p d) from I.hok p _ hp).1
  obtain ⟨z, hd, xs', rel, dd⟩ := dk_of I.hok ha
  obtain ⟨ep, hat⟩ := dd.dictAt
  have l1 : ks.length = xs'.length := by
    have := Paired.length rel
    rwa [List.length_map] at this
  have K := PySem.W.kdl_values (prog := X.prog) (w := X.w) (knd := mixKind X.prog X.w) (kvs := xs') (ep := ep) (r := p) (d := d)
  have hok : s.heap.IsValuesView p d ∧ s.heap.DictAt (mixKind X.prog X.w) d xs' ep := ⟨view, hat⟩
  have hval : ∀ (i : Nat) (v : Value), (∃ k, xs'[i]? = some (k, v)) → ∃ t : Tok, v = Value.int ((ks.map (·.2)).getD i 0) t := fun i v ⟨k, e⟩ => by
    obtain ⟨e', t, e1, e2⟩ := ent_paired rel e
    refine ⟨t, ?_⟩
    have : (ks.map (·.2)).getD i 0 = e'.2 := by simp [List.getD, e1]
    rw [this]
    exact (Prod.mk.inj e2).2
  refine PySem.call_min_walkS ?_
  obtain ⟨oI, St, hit, W, st⟩ := K.iter X.A.in1 s (I.ok.hd hc) hok
  refine hit _ _ ⟨s.heap.objs.size, _, _, _, xs'.length, _, _, fun i j => decide ((ks.map (·.2)).getD i 0 < (ks.map (·.2)).getD j 0), rfl, W.toS, st, fun b hb => ?_, by omega, PySem.CmpOf.ints_lt _ hval, fun v s' hP hm => ?_⟩
  · show b < (s.heap.push oI).objs.size
    rw [size_push']
    rcases List.mem_cons.mp hb with e | hb
    · rw [e]; exact Nat.lt_succ_self _
    · rw [List.mem_singleton.mp hb]; exact Nat.lt_succ_of_lt (K.there _ hok).2
  · have hk : ∀ b o, s.heap.get? b = some o → s'.heap.get? b = some o := fun b o e =>
      hm.heap b o (fun hI => absurd (Heap.lt_size e) (by rw [List.mem_singleton.mp hI]; exact Nat.lt_irrefl _)) (Heap.get?_push_of_some _ e)
    obtain ⟨t, rfl⟩ := hval _ v hP
    obtain ⟨h1, h2⟩ := argBest_lt (fun i => (ks.map (·.2)).getD i 0) (xs'.length - 1)
    have hI : Inv X pins σ H s' := by
      rw [Moved.eq_with hm]
      exact I.kept (t' := s'.toks) hk
    refine ⟨.int _, H, hI, ⟨t, rfl⟩, q _ ?_ fun a ha => ?_⟩
    · exact PySem.getD_mem (by rw [List.length_map]; omega)
    · obtain ⟨j, hj, rfl⟩ := mem_getD ha
      rw [List.length_map] at hj
      exact h2 j (by omega)
end
end L2

namespace L2
open PySem PySem.Spec PyProof.Rows SrtO SrtZ
/-! own rules: (int, text) < (int, text); sorted of a list of texts of any length -/
def ltNZ (i j : Int) (x y : Str) : Bool := if i = j then ltZ x y else decide (i < j)
section
variable {X : Cx}
def rLtNZ (K : PySem.W.Frag) : R2 := fun x y H Q => ∃ (a b : Addr) (i j : Int) (z w : Str), x = .ref a ∧ y = .ref b ∧ SqT K H a [.int i, .str z] ∧ SqT K H b [.int j, .str w] ∧ Q (.bl (ltNZ i j z w)) H
theorem op_ltNZ (hu : X.A.units < cLine) : OpR X (compareOp .Lt) (rLtNZ X.K) := by
  intro pins s σ H x y v u Q I rx ry h
  obtain ⟨a, b, i, j, z, w, rfl, rfl, ha, hb, q⟩ := h
  cases rx
  cases ry
  obtain ⟨its, r1, p1, _⟩ := I.tuple ha
  obtain ⟨its2, r2, p2, _⟩ := I.tuple hb
  obtain ⟨u1, u2, rfl, ri, rj⟩ := vals2 r1
  obtain ⟨w1, w2, rfl, si, sj⟩ := vals2 r2
  obtain ⟨t1, rfl⟩ := ri
  obtain ⟨t2, rfl⟩ := rj
  obtain ⟨t3, rfl⟩ := si
  obtain ⟨t4, rfl⟩ := sj
  have R := Ob.RcOp.tuples_lt (A := X.A) (s := s) (e := fun k => match k with | 0 => (i == j) | _ => (z == w)) (r := fun k => match k with | 0 => decide (i < j) | _ => ltZ z w) p1 p2 hu (fun k h1 h2 => by
    match k, h1, h2 with
    | 0, _, _ => exact SeqAt.EqAt.int_int _ _ _ _
    | 1, _, _ => exact SeqAt.EqAt.str_str _ _ _ _
    | k + 2, h1, _ => exact absurd h1 (by simp)) (fun k h1 h2 _ => by
    match k, h1, h2 with
    | 0, _, _ => exact Ob.RcOp.lt_int _ _ _ _
    | 1, _, _ => exact fun _ _ _ _ h => PyProof.Rows.lt_str h
    | k + 2, h1, _ => exact absurd h1 (by simp))
  have e : Ob.lexAt (fun k => match k with | 0 => (i == j) | _ => (z == w)) (fun k => match k with | 0 => decide (i < j) | _ => ltZ z w) (decide (2 < 2)) 0 2 = ltNZ i j z w := by
    unfold ltNZ
    rw [Ob.lexAt_succ, Ob.lexAt_succ, Ob.lexAt_zero]
    show (if (i == j) = true then (if (z == w) = true then decide (2 < 2) else ltZ z w) else decide (i < j)) = _
    by_cases h1 : i = j
    · rw [if_pos (beq_iff_eq.mpr h1), if_pos h1]
      by_cases h2 : z = w
      · rw [if_pos (by rw [h2]; exact beq_self_eq_true w), h2, ltZ_irr]
        rfl
      · rw [if_neg (fun q => h2 (eq_of_beq q))]
    · rw [if_neg (fun q => h1 (eq_of_beq q)), if_neg h1]
  have R' : Ob.RcOp .Lt X.A s (.ref a) (.ref b) (ltNZ i j z w) := by
    rw [← e]
    exact R
  exact R' X.prog X.w X.xe (EP X pins σ Q) ⟨.bl _, H, I, rfl, q⟩
/-- sorted(xs), xs a list of texts of any length -/
def rSortedSL (K : PySem.W.Frag) : List V → Hp → VK → Prop := fun vs H Q => ∃ (a : Addr) (xs : List Str), vs = [V.ref a] ∧ SqL K H a (xs.map V.str) ∧ ∀ (ys : List Str) (p : Addr), ys.Perm xs → Srtd ltZ ys → H p = none → Q (.ref p) (upd H p (.lst (ys.map V.str)))
theorem cr_sortedSL : CallR X (.builtin "sorted") (rSortedSL X.K) := by
  intro pins s σ H vs us Q I r h
  obtain ⟨a, xs, rfl, hs, q⟩ := h
  obtain ⟨its, rv, hl, hz⟩ := I.list hs
  obtain rfl := Vals.ref1 r
  have hI : StrsAre its xs := strs_of_vals rv
  rw [List.length_map] at hz
  have il : its.length = xs.length := hI.length
  refine SrtO.sorted_ord (ltv := ltSv) ⟨fun x y => swo_str.asym _ _, fun x y z => swo_str.tr _ _ _⟩ hl.isList (by rw [il]; exact hz) (fun h2 h₁ b hb kk => strs_sortable (s := { s with heap := h₁ }) hI h2) fun out h1 h2 => ?_
  obtain ⟨ep, he'⟩ := PyProof.Rows.sortedAll_at s.heap its out.toArray
  have isO : ∀ v ∈ out, ∃ x t, v = Value.str x t := fun v hv => hI.all v (h2.perm.mem_iff.mp hv)
  have hO := strsAre_map out isO
  have pt : (out.map strOf).Perm xs := by
    have := h2.perm.map strOf
    rwa [show its.map strOf = xs from hI.strs] at this
  have hlen : ((out.map strOf).map V.str).length ≤ sizeLine := by rw [List.length_map, pt.length_eq]; exact hz
  refine ⟨.ref _, upd H (s.heap.objs.size + 1) (.lst ((out.map strOf).map V.str)), I.laid (t' := s.toks) (fun _ _ => PyProof.Rows.sortedAll_old) (Nat.le_succ _) ⟨hlen, out, ep, vals_of_strs hO, he'⟩, rfl, q _ _ pt (srtd_map h1) (I.hok.fresh (Nat.le_succ _))⟩
end
end L2

namespace L2
open PySem PySem.Spec PyProof.Rows
section
variable {X : Cx}
/-- name = {.. for ..} on one line, the name a local -/
theorem ps_setDc {i : Nat} {y : Str} {py : Pos} {kx vx tg iter : Expr} {ifs : List Expr} {scope : Scope} {own : List (Str × Nat)} {pos spos : Pos} {wi : TI} {g : TG} {tt : TT} {tk tv : TE} (hc : X.calm = true) (hN : X.N.Nodup) (hy : X.N[i]? = some y) (hyl : X.env.scope.names.lookup y = some .local)
    (hsw : swapsWith (.DictComp kx vx [⟨tg, iter, ifs, 0⟩] scope pos) (some (.Name y py)) spos.line X.env = pure true) (hi : PI X tg iter wi) (ok : BlkOk X.N X.env.scope scope own)
    (hg : ∀ (s : Shared) (H : Hp) (C : Addr) (cl : List (Str × Addr)) (fp : List Addr), PG (X.blk s H scope (compEnvC scope cl C X.env) fp) tg g) (ht : ∀ (s : Shared) (H : Hp) (C : Addr) (cl : List (Str × Addr)) (fp : List Addr), PTs (X.blk s H scope (compEnvC scope cl C X.env) fp) ifs tt)
    (hk : ∀ (s : Shared) (H : Hp) (C : Addr) (cl : List (Str × Addr)) (fp : List Addr), PE (X.blk s H scope (compEnvC scope cl C X.env) fp) kx tk)
    (he : ∀ (s : Shared) (H : Hp) (C : Addr) (cl : List (Str × Addr)) (fp : List Addr), PE (X.blk s H scope (compEnvC scope cl C X.env) fp) vx tv) (hs : ∀ x, foldedSetIterable iter X.env x = pure x := by intro _; rfl) :
    PS X (.Assign [.Name y py] (.DictComp kx vx [⟨tg, iter, ifs, 0⟩] scope pos) spos) (tAsg (tDc wi g tt tk tv (own.map (·.2))) (gName i)) := by
  refine ⟨fun pins s σ H D I h => ?_⟩
  rw [exec_Assign_Name_used _ _ _ _ hsw]
  refine wpAny_bind (wpAny_standAt (wpAny_bind ?_))
  show wpAny _ X.A (do let _ ← comprehension (.DictComp kx vx [⟨tg, iter, ifs, 0⟩] scope pos) scope X.env (firstIterPos [⟨tg, iter, ifs, 0⟩] pos) newDict false (eval iter X.env) (some (assign (.Name y py) X.env))) _ _ s
  have h : tDc wi g tt tk tv (own.map (·.2)) σ H (fun x H1 => gName i x σ H1 D.nx) := h
  refine wpAny_bind (thn (dc_core (Qf := fun _ s' => SP X pins D .next s') hc hN I hi ok hg ht hk he hs h fun L C s' m H' I' q hn f => ?_) fun _ s' hq => wpAny_pure (wpAny_pure hq))
  show wpAny _ _ (assign (.Name y py) X.env (.ref L)) _ _ _
  refine wpAny_assign_Name (store_ok2 (v := V.ref L) I' hN hy (.inl hyl) rfl (fun s2 I2 ⟨a, sb, ha⟩ => ?_) (.inr hyl))
  obtain ⟨f0, f1, f2, f3, f4, f5⟩ := f
  have haC : C ≠ a := by
    rcases ha with z | z
    · rw [z]; exact f1
    · exact fun e => f4 y a z e.symm
  refine ⟨m, hn.sameBut sb haC, fun h3 sb3 => ?_⟩
  exact ⟨_, H', I2.turned (t' := s2.toks) (fun b o hb e => (sb3.2 b hb).trans e) f0 f1 f3 f4 f5, q⟩
theorem sw_trueD {kx vx : Expr} {gs : List Comprehension} {scope : Scope} {pos py : Pos} {y : Str} {l : Nat} {env : Env} (hk : env.scope.kind = .function) (hy : env.scope.names.lookup y = some .local) (hl : (py.line == pos.line) = true)
    (ha : (scope.names.any fun (n, k) => n == y && (k == .local || k == .cell)) = false) : swapsWith (.DictComp kx vx gs scope pos) (some (.Name y py)) l env = pure true := by
  have ky : env.kindOf y = some .local := hy
  have hb : env.blockKind = .function := by unfold Env.blockKind; rw [hk]; rfl
  unfold swapsWith
  simp only [hb, ky, ha, Expr.pos, hl]
  rfl
/-- list.count of a text among texts -/
def rCntS (K : PySem.W.Frag) : V → List V → Hp → VK → Prop := fun x xs H Q => ∃ (p : Addr) (ns : List Str) (k : Str), x = .ref p ∧ xs = [.str k] ∧ SqL K H p (ns.map V.str) ∧ Q (.int (ns.count k : Nat)) H
theorem countS_in (k : Str) : ∀ ns : List Str, PySem.Spec.countIn (.str k) (ns.map PyData.str) = (ns.count k : Nat)
  | [] => rfl
  | n :: r => by
    rw [List.map_cons, PySem.Spec.countIn, countS_in k r, List.count_cons]
    simp only [PySem.Spec.same]
    rcases Bool.eq_false_or_eq_true (n == k) with hb | hb <;> simp only [hb, Bool.false_eq_true, if_true, if_false] <;> push_cast <;> omega
theorem mt_lcountS : MtR X "list.count" (rCntS X.K) := by
  intro pins s σ H x xs v us Q I rx rxs h
  obtain ⟨p, ns, k, rfl, rfl, hs, q⟩ := h
  cases rx
  obtain ⟨u, rfl, ru⟩ := rxs.one
  obtain ⟨t, rfl⟩ := ru
  obtain ⟨its, rv, pl, hlen⟩ := I.list hs
  refine count_list_strs (vs := its) pl.isList (strs_of_vals rv) ?_
  rw [countS_in]
  exact ⟨.int (ns.count k : Nat), H, I.tok _, ⟨s.toks, rfl⟩, q⟩
/-- a method within a comprehension: the written part by name -/
theorem pe_bmK {K : PySem.W.Frag} {o e : Expr} {es : List Expr} {to : TE} {t : TA} {name : Str} {apos cpos : Pos} {T id : String} {r : V → List V → Hp → VK → Prop} (pa : PlainAttrs T) (slot : Slot T name id) (hty : typeOf (.builtin id) = pure (.type "method_descriptor")) (hm : MtR X id r) (ho : PE X o to) (ha : PA X (e :: es) t) (hK : X.K = K := by rfl)
    (hbase : attributeBase o name X.env (eval o X.env) = eval o X.env := by rfl)
    (hfew : ((backTo cpos (starEach (e :: es) X.env)).all (fun x => !x.1) && (backToKw cpos (keywordEach [] X.env)).all (fun x => x.1.isSome)
      && decide ((e :: es).length + ([] : List Keyword).length + (if ([] : List Keyword).isEmpty then 0 else 1) < 30)) = true := by rfl)
    (hline : (apos.endLine == cpos.line) = true := by rfl) (hs : starEach (e :: es) X.env = (false, eval e X.env) :: starEach es X.env := by rfl) (hplain : (backTo cpos (starEach es X.env)).any (·.1) = false := by rfl) :
    PE X (.Call (.Attribute o name apos) (e :: es) [] cpos) (tBM K T r to t) := by
  subst hK
  exact pe_bm pa slot hty hm ho ha hbase hfew hline hs hplain
end
end L2

namespace Kb
open PySem PySem.Spec PyProof.Rows L2
/-! the text -/
def topS (i : Nat) : Stmt := PySem.Challenge.pw_knownends_k13_whole_sums_of_ends_are_met.main.body.getD i (.Pass ⟨0, 0, 0, 0⟩)
/-! facts -/
structure Dn (K : PySem.W.Frag) (mg : Str → Option Value) (nm : Str) (st : Stmt) (ps : List Str) where
  f : Addr
  fd : FuncData
  F : Fun K nm nm st f fd
  g : mg nm = some (.ref f)
  b : Binds K fd ps []
structure Cst (mg : Str → Option Value) (nm : Str) (v : V) where
  u : Value
  g : mg nm = some u
  r : RelV v u
structure Blt (mg : Str → Option Value) : Prop where
  n_len : mg "len" = none
  n_int : mg "int" = none
  n_abs : mg "abs" = none
  n_range : mg "range" = none
  n_isinstance : mg "isinstance" = none
  n_str : mg "str" = none
  n_all : mg "all" = none
  n_tuple : mg "tuple" = none
  n_bool : mg "bool" = none
  n_list : mg "list" = none
  n_dict : mg "dict" = none
  n_sum : mg "sum" = none
  n_min : mg "min" = none
  n_sorted : mg "sorted" = none
/-! heaps -/
theorem same_upd {H : Hp} {p : Addr} {o : HO} (h : H p = none) : Same H (upd H p o) := fun b x e => by
  rw [upd_ne (ne_of_none e h)]
  exact e
theorem Same.new {H H1 : Hp} {p : Addr} {o : HO} (x : Same H H1) (h : H1 p = none) : Same H (upd H1 p o) := fun b u e => same_upd h b u (x b u e)
theorem Same.gone {H H1 : Hp} {p : Addr} (x : Same H H1) (h : H1 p = none) : H p = none := by
  cases e : H p with
  | none => rfl
  | some o =>
    have := x _ _ e
    rw [h] at this
    cases this
/-- an object that was new is stored anew -/
theorem Same.put {H H1 : Hp} {p : Addr} {o : HO} (x : Same H H1) (h : H p = none) : Same H (upd H1 p o) := fun b u e => by
  rw [upd_ne (ne_of_none e h)]
  exact x b u e
theorem sql {K : PySem.W.Frag} {H : Hp} {a : Addr} {xs : List V} (h : H a = some (.lst xs)) : SqL K H a xs := .inl (.inl h)
theorem seqT {K : PySem.W.Frag} {H H' : Hp} {a : Addr} {xs : List V} (h : SqT K H a xs) (s : Same H H') : SqT K H' a xs := by
  rcases h with (h | ⟨o, h⟩) | h
  · exact .inl (.inl (s _ _ h))
  · exact .inl (.inr ⟨o, s _ _ h⟩)
  · exact .inr h
theorem tyT {K : PySem.W.Frag} {H : Hp} {a : Addr} {xs : List V} (h : SqT K H a xs) : TyX K H (.ref a) (.type "tuple") := by
  rcases h with (h | ⟨o, h⟩) | ⟨o, its, n, h, c, _⟩
  · exact .base (.tup h)
  · exact .fTuple h
  · exact .kTuple h c
/-- %, the rest as a letter -/
def rModB : R2 := fun x y H Q => ∃ i j, x = .int i ∧ y = .int j ∧ 0 < j ∧ ∀ m : Int, 0 ≤ m → m < j → m = i % j → Q (.int m) H
theorem op_modB {X : Cx} : OpR X (binaryOp .Mod) rModB := fun pins s σ H x y v u Q I rx ry h => by
  obtain ⟨i, j, e1, e2, hj, q⟩ := h
  exact op_mod pins s σ H x y v u Q I rx ry ⟨i, j, e1, e2, hj, q _ (Int.emod_nonneg _ (by omega)) (Int.emod_lt_of_pos _ hj) rfl⟩
theorem cmulR {i j : Int} (h1 : 0 ≤ j) (h2 : j < 10000000000) : CMul i j := .inr ⟨by omega, by omega⟩
theorem cmulL {i j : Int} (h1 : 0 ≤ i) (h2 : i < 10000000000) : CMul i j := .inl ⟨by omega, by omega⟩
/-! names -/
def cs (z : Str) : List Nat := z.cps.toList
theorem cs_len (z : Str) : (cs z).length = z.length := by simp [cs, Str.length]
theorem cs_inj {a b : Str} (h : cs a = cs b) : a = b := by
  cases a; cases b
  simp [cs] at h
  rw [h]
def nmC (c : Nat) : Bool := !decide (c < 97) && !decide (122 < c)
/-- a name -/
structure Nm (z : Str) : Prop where
  pos : 1 ≤ z.length
  len : z.length ≤ 8
  abc : ∀ c ∈ cs z, nmC c = true
theorem lt_one (a b : Nat) : decide ([a] < [b]) = decide (a < b) := by
  have : ([a] < [b]) ↔ a < b := by simp [List.cons_lt_cons_iff]
  by_cases h : a < b
  · rw [decide_eq_true h, decide_eq_true (this.mpr h)]
  · rw [decide_eq_false h, decide_eq_false (fun z => h (this.mp z))]
abbrev sP_is_int : Stmt := topS 10
abbrev NP_is_int : List Str := ["thing"]
theorem scP_is_int : FnScope ["thing"] ["thing"] (defScope sP_is_int) := ⟨rfl, rfl, rfl, by decide +kernel, rfl, by decide +kernel, by decide +kernel⟩
abbrev sP_is_number : Stmt := topS 11
abbrev NP_is_number : List Str := ["thing"]
theorem scP_is_number : FnScope ["thing"] ["thing"] (defScope sP_is_number) := ⟨rfl, rfl, rfl, by decide +kernel, rfl, by decide +kernel, by decide +kernel⟩
abbrev sP_is_room : Stmt := topS 12
abbrev NP_is_room : List Str := ["thing"]
theorem scP_is_room : FnScope ["thing"] ["thing"] (defScope sP_is_room) := ⟨rfl, rfl, rfl, by decide +kernel, rfl, by decide +kernel, by decide +kernel⟩
abbrev sP_is_name : Stmt := topS 17
abbrev NP_is_name : List Str := ["thing", "letter"]
theorem scP_is_name : FnScope ["thing", "letter"] ["thing"] (defScope sP_is_name) := ⟨rfl, rfl, rfl, by decide +kernel, rfl, by decide +kernel, by decide +kernel⟩
abbrev sP_is_stream : Stmt := topS 18
abbrev NP_is_stream : List Str := ["thing", "item"]
theorem scP_is_stream : FnScope ["thing", "item"] ["thing"] (defScope sP_is_stream) := ⟨rfl, rfl, rfl, by decide +kernel, rfl, by decide +kernel, by decide +kernel⟩
abbrev DnIsInt (K : PySem.W.Frag) (mg : Str → Option Value) := Dn K mg "is_int" sP_is_int ["thing"]
abbrev DnIsNumber (K : PySem.W.Frag) (mg : Str → Option Value) := Dn K mg "is_number" sP_is_number ["thing"]
abbrev DnIsRoom (K : PySem.W.Frag) (mg : Str → Option Value) := Dn K mg "is_room" sP_is_room ["thing"]
abbrev DnIsName (K : PySem.W.Frag) (mg : Str → Option Value) := Dn K mg "is_name" sP_is_name ["thing"]
abbrev DnIsStream (K : PySem.W.Frag) (mg : Str → Option Value) := Dn K mg "is_stream" sP_is_stream ["thing"]
section
variable {P : Program} {w : World} {K : PySem.W.Frag} {mg : Str → Option Value} {base : Heap}
/-! is_int, of ints -/
def spIsInt : Sp := fun vs H Q _ => ∃ i : Int, vs = [.int i] ∧ Q (.bl true) H
theorem ok_is_int (T : Blt mg) (d : DnIsInt K mg) : FnOk P w K mg base CX0 1 d.f d.fd ["thing"] spIsInt := by
  refine d.F.ok scP_is_int (fun vs H Q E h => ?_) (fun cdv A outer s H vs Q E hr h => ?_)
  · obtain ⟨i, rfl, _⟩ := h
    rfl
  · obtain ⟨i, rfl, q⟩ := h
    refine ⟨_, (pss_one (ps_ret (pe_and (pe_callB call_isi (by rfl) T.n_isinstance (by decide +kernel) (pa_cons (pv 0) (pa_cons (pe_bltn (v := .ty "int") (by rfl) T.n_int (by decide +kernel) rfl) pa_nil))) (pe_one (pe_not (pe_callB call_isi (by rfl) T.n_isinstance (by decide +kernel) (pa_cons (pv 0) (pa_cons (pe_bltn (v := .ty "bool") (by rfl) T.n_bool (by decide +kernel) rfl) pa_nil)))))))), ?_⟩
    refine ⟨.int i, rfl, .int i, _, _, _, true, rfl, .ty "int", .base (.int i), kit_ty (by decide +kernel), true, rfl, iteT ?_⟩
    exact ⟨.int i, rfl, .int i, _, _, _, false, rfl, .ty "bool", .base (.int i), kit_ty (by decide +kernel), false, rfl, q⟩
/-! is_number, of ints -/
def spIsNumber : Sp := fun vs H Q _ => ∃ i : Int, vs = [.int i] ∧ Q (.bl (decide (0 ≤ i))) H
theorem ok_is_number (T : Blt mg) (dP_is_int : DnIsInt K mg) (d : DnIsNumber K mg) : FnOk P w K mg base CX0 2 d.f d.fd ["thing"] spIsNumber := by
  have GP_is_int : FnOk P w K mg base CX0 1 dP_is_int.f dP_is_int.fd ["thing"] spIsInt := ok_is_int T dP_is_int
  refine d.F.ok scP_is_number (fun vs H Q E h => ?_) (fun cdv A outer s H vs Q E hr h => ?_)
  · obtain ⟨i, rfl, _⟩ := h
    rfl
  · obtain ⟨i, rfl, q⟩ := h
    refine ⟨_, (pss_one (ps_ret (pe_and (pe_call GP_is_int (hr.mono (by omega)) (by rfl) dP_is_int.g dP_is_int.F.kp dP_is_int.b .nil pass0 (pa_cons (pv 0) pa_nil)) (pe_one (pe_cmpR op_ge (pv 0) pe_int (nomark _)))))), ?_⟩
    exact ⟨.int i, rfl, i, rfl, true, rfl, iteT ⟨.int i, rfl, _, _, rfl, rfl, q⟩⟩
/-! is_room, of ints -/
def spIsRoom : Sp := fun vs H Q _ => ∃ i : Int, vs = [.int i] ∧ Q (.bl (decide (1 ≤ i) && decide (i ≤ 64))) H
theorem ok_is_room (T : Blt mg) (cM : Cst mg "MOST_ROOM" (.int 64)) (dP_is_int : DnIsInt K mg) (d : DnIsRoom K mg) : FnOk P w K mg base CX0 2 d.f d.fd ["thing"] spIsRoom := by
  have GP_is_int : FnOk P w K mg base CX0 1 dP_is_int.f dP_is_int.fd ["thing"] spIsInt := ok_is_int T dP_is_int
  refine d.F.ok scP_is_room (fun vs H Q E h => ?_) (fun cdv A outer s H vs Q E hr h => ?_)
  · obtain ⟨i, rfl, _⟩ := h
    rfl
  · obtain ⟨i, rfl, q⟩ := h
    refine ⟨_, (pss_one (ps_ret (pe_and (pe_call GP_is_int (hr.mono (by omega)) (by rfl) dP_is_int.g dP_is_int.F.kp dP_is_int.b .nil pass0 (pa_cons (pv 0) pa_nil)) (pe_one (pe_chain op_le op_le pe_int (pv 0) (pe_glob rfl cM.g cM.r)))))), ?_⟩
    refine ⟨.int i, rfl, i, rfl, true, rfl, iteT ⟨.int i, rfl, _, _, rfl, rfl, decide (1 ≤ i), rfl, ite2 (fun e => ⟨_, _, rfl, rfl, ?_⟩) (fun e => ?_)⟩⟩
    · rw [e, Bool.true_and] at q
      exact q
    · rw [show decide (1 ≤ i) = false from by simpa using e, Bool.false_and] at q
      exact q
/-! is_name, of names -/
def spIsName : Sp := fun vs H Q _ => ∃ z : Str, vs = [.str z] ∧ Nm z ∧ ∀ H', Same H H' → Q (.bl true) H'
theorem ok_is_name (T : Blt mg) (cL : Cst mg "LONGEST_NAME" (.int 8)) (d : DnIsName K mg) : FnOk P w K mg base CX0 1 d.f d.fd ["thing"] spIsName := by
  refine d.F.ok scP_is_name (fun vs H Q E h => ?_) (fun cdv A outer s H vs Q E hr h => ?_)
  · obtain ⟨z, rfl, _⟩ := h
    rfl
  · obtain ⟨z, rfl, nm, q⟩ := h
    refine ⟨_, (pss_cons (ps_if (PW.pt (pw_or (pt_not (pt_val (pe_callB call_isi (by rfl) T.n_isinstance (by decide +kernel) (pa_cons (pv 0) (pa_cons (pe_bltn (v := .ty "str") (by rfl) T.n_str (by decide +kernel) rfl) pa_nil))))) (pw_or1 (pt_not (pt_chain op_le op_le pe_int (pe_callB call_len_str (by rfl) T.n_len (by decide +kernel) (pa_cons (pv 0) pa_nil)) (pe_glob rfl cL.g cL.r))))))
      (pss_one (ps_ret pe_bl))
      pss_nil)
    (pss_one (ps_ret (pe_callB (cr_all rfl) (by rfl) T.n_all (by decide +kernel) (pa_cons (pe_lc (own := [("letter", 1)]) (g := gName 1) (tt := tYes) rfl scP_is_name.nd (pi_str (pv 0)) (blkOk_by (N := NP_is_name) (sc := defScope sP_is_name) (by decide +kernel)) (fun _ _ _ _ _ => pg_name (i := 1) scP_is_name.nd rfl (Or.inl rfl)) (fun _ _ _ _ _ => pts_nil) (fun _ _ _ _ _ => (pe_chain op_le_str op_le_str pe_str (pv 1) pe_str))) pa_nil))))), ?_⟩
    have h1 : decide ((1 : Int) ≤ (z.length : Int)) = true := decide_eq_true (by have := nm.pos; omega)
    have h8 : decide ((z.length : Int) ≤ 8) = true := decide_eq_true (by have := nm.len; omega)
    refine ⟨.str z, rfl, .str z, _, _, _, true, rfl, .ty "str", .base (.str z), kit_ty (by decide +kernel), true, rfl, iteF ?_⟩
    refine ⟨.str z, rfl, z, rfl, (by rw [sizeLine_eq]; have := nm.len; omega), _, _, rfl, rfl, true, congrArg V.bl h1, iteT ⟨_, _, rfl, rfl, true, congrArg V.bl h8, iteF ?_⟩⟩
    refine ⟨.str z, rfl, z, rfl, fun D nD => ?_⟩
    refine lc_it walk_str (fun i H3 => Same H H3 ∧ H3 D = some (.lst (((cs z).take i).map fun c => V.bl true))) ⟨same_upd nD, upd_same⟩ (fun _ _ _ _ => trivial) (fun i x H3 H4 hi h3 y => ?_) (fun H3 h3 => ?_)
    · obtain ⟨rfl, c, hc, rfl⟩ := y
      have hc2 : (cs z)[i]? = some c := by
        rw [← hc]
        simp [cs]
      have hcn := nm.abc c (List.mem_of_getElem? hc2)
      unfold nmC at hcn
      have ha : (!decide (c < 97)) = true := by cases h : (!decide (c < 97)) <;> simp_all
      have hz : (!decide (122 < c)) = true := by rw [ha, Bool.true_and] at hcn; exact hcn
      refine ⟨rfl, .str ⟨#[c]⟩, rfl, _, _, rfl, rfl, true, ?_, iteT ⟨_, _, rfl, rfl, ?_⟩⟩
      · show V.bl (!decide ([c] < (Str.ofString "a").cps.toList)) = _
        rw [show (Str.ofString "a").cps.toList = [97] by decide +kernel, lt_one, ha]
      · rw [show (!decide ((Str.ofString "z").cps.toList < [c])) = true by
          rw [show (Str.ofString "z").cps.toList = [122] by decide +kernel, lt_one, hz]]
        refine ⟨_, h3.2, ?_, fun b o e => ?_, ?_⟩
        · rw [List.length_map, List.length_take, sizeLine_eq]
          have := cs_len z
          have := nm.len
          omega
        · rw [upd_ne (ne_of_none e nD)]
          exact h3.1 b o e
        · rw [upd_same, List.take_add_one, hc2, List.map_append]
          rfl
    · refine ⟨D, (cs z).map fun _ => true, rfl, sql ?_, ?_⟩
      · rw [h3.2, List.map_map]
        rw [List.take_of_length_le (by
          show (cs z).length ≤ z.cps.size
          simp [cs])]
        rfl
      · rw [show (((cs z).map fun _ => true).all id) = true by simp]
        exact q H3 h3.1
/-! is_stream, of tuples of names -/
def spIsStream (K : PySem.W.Frag) : Sp := fun vs H Q _ => ∃ (a : Addr) (zs : List Str), vs = [.ref a] ∧ SqT K H a (zs.map V.str) ∧ (∀ z ∈ zs, Nm z) ∧ zs.length ≤ 100000 ∧ ∀ H', Same H H' → Q (.bl true) H'
theorem ok_is_stream (T : Blt mg) (cL : Cst mg "LONGEST_NAME" (.int 8)) (dP_is_name : DnIsName K mg) (d : DnIsStream K mg) : FnOk P w K mg base CX0 2 d.f d.fd ["thing"] (spIsStream K) := by
  have GP_is_name : FnOk P w K mg base CX0 1 dP_is_name.f dP_is_name.fd ["thing"] spIsName := ok_is_name T cL dP_is_name
  refine d.F.ok scP_is_stream (fun vs H Q E h => ?_) (fun cdv A outer s H vs Q E hr h => ?_)
  · obtain ⟨a, zs, rfl, _⟩ := h
    rfl
  · obtain ⟨a, zs, rfl, hS, hN, hl, q⟩ := h
    refine ⟨_, (pss_one (ps_ret (pe_and (pe_callB call_isi (by rfl) T.n_isinstance (by decide +kernel) (pa_cons (pv 0) (pa_cons (pe_bltn (v := .ty "tuple") (by rfl) T.n_tuple (by decide +kernel) rfl) pa_nil))) (pe_one (pe_callB (cr_all rfl) (by rfl) T.n_all (by decide +kernel) (pa_cons (pe_lc (own := [("item", 1)]) (g := gName 1) (tt := tYes) rfl scP_is_stream.nd (pi_tup (pv 0)) (blkOk_by (N := NP_is_stream) (sc := defScope sP_is_stream) (by decide +kernel)) (fun _ _ _ _ _ => pg_name (i := 1) scP_is_stream.nd rfl (Or.inl rfl)) (fun _ _ _ _ _ => pts_nil) (fun _ _ _ _ _ => (pe_call GP_is_name (hr.mono (by omega)) (by rfl) dP_is_name.g dP_is_name.F.kp dP_is_name.b .nil pass0 (pa_cons (pv 1) pa_nil)))) pa_nil)))))), ?_⟩
    refine ⟨.ref a, rfl, .ref a, _, _, _, true, rfl, .ty "tuple", tyT hS, kit_ty (by decide +kernel), true, rfl, iteT ?_⟩
    refine ⟨.ref a, rfl, a, rfl, ⟨_, hS⟩, fun D nD => lc_tup (xs := zs.map V.str) (fun i H3 => Same H H3 ∧ H3 D = some (.lst ((zs.take i).map fun _ => V.bl true))) ⟨same_upd nD, upd_same⟩ (fun i H3 _ h3 => seqT hS h3.1) (fun i x H3 hx h3 => ?_) (fun H3 h3 => ?_)⟩
    · obtain ⟨z, hz, rfl⟩ : ∃ z, zs[i]? = some z ∧ x = .str z := by
        rw [List.getElem?_map] at hx
        cases e : zs[i]? with
        | none => rw [e] at hx; cases hx
        | some z => rw [e] at hx; exact ⟨z, rfl, (Option.some.inj hx).symm⟩
      refine ⟨rfl, .str z, rfl, z, rfl, hN z (List.mem_of_getElem? hz), fun H4 s4 => ⟨_, s4 _ _ h3.2, ?_, fun b o e => ?_, ?_⟩⟩
      · rw [List.length_map, List.length_take, sizeLine_eq]
        omega
      · rw [upd_ne (ne_of_none e nD)]
        exact s4 b o (h3.1 b o e)
      · rw [upd_same, List.take_add_one, hz, List.map_append]
        rfl
    · refine ⟨D, zs.map fun _ => true, rfl, sql ?_, ?_⟩
      · rw [h3.2, List.length_map, List.take_length, List.map_map]
        rfl
      · rw [show ((zs.map fun _ => true).all id) = true by simp]
        exact q H3 h3.1
end
end Kb

namespace Kb
open PySem PySem.Spec PyProof.Rows L2
abbrev sP_is_tree : Stmt := topS 19
abbrev NP_is_tree : List Str := ["thing"]
theorem scP_is_tree : FnScope ["thing"] ["thing"] (defScope sP_is_tree) := ⟨rfl, rfl, rfl, by decide +kernel, rfl, by decide +kernel, by decide +kernel⟩
abbrev sP_is_tree_of : Stmt := topS 20
abbrev NP_is_tree_of : List Str := ["thing", "word", "is_right", "many", "height", "step"]
theorem scP_is_tree_of : FnScope ["thing", "word", "is_right", "many", "height", "step"] ["thing", "word", "is_right"] (defScope sP_is_tree_of) := ⟨rfl, rfl, rfl, by decide +kernel, rfl, by decide +kernel, by decide +kernel⟩
abbrev sP_is_put : Stmt := topS 21
abbrev NP_is_put : List Str := ["step", "word"]
theorem scP_is_put : FnScope ["step", "word"] ["step", "word"] (defScope sP_is_put) := ⟨rfl, rfl, rfl, by decide +kernel, rfl, by decide +kernel, by decide +kernel⟩
abbrev sP_is_pour : Stmt := topS 22
abbrev NP_is_pour : List Str := ["step"]
theorem scP_is_pour : FnScope ["step"] ["step"] (defScope sP_is_pour) := ⟨rfl, rfl, rfl, by decide +kernel, rfl, by decide +kernel, by decide +kernel⟩
abbrev DnIsTree (K : PySem.W.Frag) (mg : Str → Option Value) := Dn K mg "is_tree" sP_is_tree ["thing"]
structure DnIsPut (K : PySem.W.Frag) (mg : Str → Option Value) where
  p : Dn K mg "_is_put" sP_is_put ["step", "word"]
  o : Dn K mg "is_tree_of" sP_is_tree_of ["thing", "word", "is_right"]
abbrev DnIsPour (K : PySem.W.Frag) (mg : Str → Option Value) := Dn K mg "_is_pour" sP_is_pour ["step"]
/-! trees -/
inductive Stp
  | put (zs : List Str)
  | pour
def StpAt (K : PySem.W.Frag) (H : Hp) (v : V) : Stp → Prop
  | .put zs => ∃ a b, v = .ref a ∧ SqT K H a [.str (Str.ofString "stream"), .ref b] ∧ SqT K H b (zs.map V.str) ∧ (∀ z ∈ zs, Nm z) ∧ zs.length ≤ 100000
  | .pour => ∃ a, v = .ref a ∧ SqT K H a [.str (Str.ofString "pour")]
theorem StpAt.same {K : PySem.W.Frag} {H H' : Hp} {v : V} {t : Stp} (h : StpAt K H v t) (s : Same H H') : StpAt K H' v t := by
  cases t with
  | put zs =>
    obtain ⟨a, b, e, h1, h2, r⟩ := h
    exact ⟨a, b, e, seqT h1 s, seqT h2 s, r⟩
  | pour =>
    obtain ⟨a, e, h1⟩ := h
    exact ⟨a, e, seqT h1 s⟩
def hS (h : Int) : Stp → Int
  | .put _ => h + 1
  | .pour => h - 1
def cS (m : Int) : Stp → Int
  | .put zs => m + (zs.length : Nat)
  | .pour => m
def hgt (l : List Stp) : Int := l.foldl hS 0
def mny (l : List Stp) : Int := l.foldl cS 0
structure Tree (l : List Stp) : Prop where
  two : ∀ i, l[i]? = some .pour → 2 ≤ hgt (l.take i)
  one : hgt l = 1
  few : mny l ≤ 50000
  len : l.length ≤ 5000
theorem hgt_snoc {l : List Stp} {i : Nat} {t : Stp} (h : l[i]? = some t) : hgt (l.take (i + 1)) = hS (hgt (l.take i)) t := by
  unfold hgt
  rw [List.take_add_one, h, List.foldl_append]
  rfl
theorem mny_snoc {l : List Stp} {i : Nat} {t : Stp} (h : l[i]? = some t) : mny (l.take (i + 1)) = cS (mny (l.take i)) t := by
  unfold mny
  rw [List.take_add_one, h, List.foldl_append]
  rfl
def TreeAt (K : PySem.W.Frag) (H : Hp) (a : Addr) (l : List Stp) : Prop := ∃ vs, SqT K H a vs ∧ Paired (StpAt K H) vs l
theorem paired_same {K : PySem.W.Frag} {H H' : Hp} (s : Same H H') : ∀ {vs : List V} {l : List Stp}, Paired (StpAt K H) vs l → Paired (StpAt K H') vs l
  | _, _, .nil => .nil
  | _, _, .cons h t => .cons (h.same s) (paired_same s t)
theorem TreeAt.same {K : PySem.W.Frag} {H H' : Hp} {a : Addr} {l : List Stp} (h : TreeAt K H a l) (s : Same H H') : TreeAt K H' a l := by
  obtain ⟨vs, h1, h2⟩ := h
  exact ⟨vs, seqT h1 s, paired_same s h2⟩
theorem stream_ne : ¬ (V.str (Str.ofString "pour") = V.str (Str.ofString "stream")) := by decide +kernel
section
variable {P : Program} {w : World} {K : PySem.W.Frag} {mg : Str → Option Value} {base : Heap}
/-! _is_put -/
def isPut : Stp → Bool
  | .put _ => true
  | .pour => false
def spIsPut (K : PySem.W.Frag) : Sp := fun vs H Q _ => ∃ (v : V) (t : Stp), vs = [v, .str (Str.ofString "stream")] ∧ StpAt K H v t ∧ Q (.bl (isPut t)) H
theorem ok_is_put (T : Blt mg) (d : DnIsPut K mg) : FnOk P w K mg base CX0 1 d.p.f d.p.fd ["step", "word"] (spIsPut K) := by
  refine d.p.F.ok scP_is_put (fun vs H Q E h => ?_) (fun cdv A outer s H vs Q E hr h => ?_)
  · obtain ⟨v, t, rfl, _⟩ := h
    rfl
  · obtain ⟨v, t, rfl, ht, q⟩ := h
    refine ⟨_, (pss_one (ps_ret (pe_and (pe_callB call_isi (by rfl) T.n_isinstance (by decide +kernel) (pa_cons (pv 0) (pa_cons (pe_bltn (v := .ty "tuple") (by rfl) T.n_tuple (by decide +kernel) rfl) pa_nil))) (pe_and (pe_cmpR op_eq (pe_callB call_len_seq (by rfl) T.n_len (by decide +kernel) (pa_cons (pv 0) pa_nil)) pe_int (nomark _)) (pe_one (pe_cmpR op_eq (pe_ix ix_tup (pv 0) pe_int (fun _ _ => rfl)) (pv 1) (nomark _))))))), ?_⟩
    cases t with
    | put zs =>
      obtain ⟨a, b, rfl, h1, h2, h3, h4⟩ := ht
      refine ⟨.ref a, rfl, .ref a, _, _, _, true, rfl, .ty "tuple", tyT h1, kit_ty (by decide +kernel), true, rfl, iteT ?_⟩
      refine ⟨.ref a, rfl, a, _, rfl, .inr h1, rfl, true, congrArg V.bl (decide_eq_true rfl), iteT ?_⟩
      refine ⟨.ref a, rfl, a, _, _, _, rfl, rfl, h1, atI_nat (j := 0) rfl, .str (Str.ofString "stream"), rfl, rfl, ?_⟩
      rw [decide_eq_true rfl]
      exact q
    | pour =>
      obtain ⟨a, rfl, h1⟩ := ht
      refine ⟨.ref a, rfl, .ref a, _, _, _, true, rfl, .ty "tuple", tyT h1, kit_ty (by decide +kernel), true, rfl, iteT ?_⟩
      exact ⟨.ref a, rfl, a, _, rfl, .inr h1, rfl, false, congrArg V.bl (decide_eq_false (by decide)), iteF q⟩
/-! _is_pour -/
def spIsPour (K : PySem.W.Frag) : Sp := fun vs H Q _ => ∃ v : V, vs = [v] ∧ StpAt K H v .pour ∧ Q (.bl true) H
theorem ok_is_pour (T : Blt mg) (d : DnIsPour K mg) : FnOk P w K mg base CX0 1 d.f d.fd ["step"] (spIsPour K) := by
  refine d.F.ok scP_is_pour (fun vs H Q E h => ?_) (fun cdv A outer s H vs Q E hr h => ?_)
  · obtain ⟨v, rfl, _⟩ := h
    rfl
  · obtain ⟨v, rfl, ⟨a, rfl, h1⟩, q⟩ := h
    refine ⟨_, (pss_one (ps_ret (pe_and (pe_callB call_isi (by rfl) T.n_isinstance (by decide +kernel) (pa_cons (pv 0) (pa_cons (pe_bltn (v := .ty "tuple") (by rfl) T.n_tuple (by decide +kernel) rfl) pa_nil))) (pe_and (pe_cmpR op_eq (pe_callB call_len_seq (by rfl) T.n_len (by decide +kernel) (pa_cons (pv 0) pa_nil)) pe_int (nomark _)) (pe_one (pe_cmpR op_eq (pe_ix ix_tup (pv 0) pe_int (fun _ _ => rfl)) pe_str (nomark _))))))), ?_⟩
    refine ⟨.ref a, rfl, .ref a, _, _, _, true, rfl, .ty "tuple", tyT h1, kit_ty (by decide +kernel), true, rfl, iteT ?_⟩
    refine ⟨.ref a, rfl, a, _, rfl, .inr h1, rfl, true, congrArg V.bl (decide_eq_true rfl), iteT ?_⟩
    refine ⟨.ref a, rfl, a, _, _, _, rfl, rfl, h1, atI_nat (j := 0) rfl, rfl, ?_⟩
    rw [decide_eq_true rfl]
    exact q
/-! is_tree_of, is_tree -/
theorem paired_at {α β : Type} {F : α → β → Prop} : ∀ {xs : List α} {ys : List β}, Paired F xs ys → ∀ {i : Nat} {x : α}, xs[i]? = some x → ∃ y, ys[i]? = some y ∧ F x y := LiI.paired_get
def spIsTreeOf (K : PySem.W.Frag) (g : Addr) : Sp := fun vs H Q _ => ∃ (a : Addr) (l : List Stp), vs = [.ref a, .str (Str.ofString "stream"), .ref g] ∧ TreeAt K H a l ∧ Tree l ∧ ∀ H', Same H H' → Q (.bl true) H'
theorem ok_is_tree_of (T : Blt mg) (cL : Cst mg "LONGEST_NAME" (.int 8)) (cS' : Cst mg "MOST_STEPS" (.int 5000)) (cI : Cst mg "MOST_ITEMS" (.int 50000)) (dP_is_name : DnIsName K mg) (dP_is_stream : DnIsStream K mg) (dP_is_put : DnIsPut K mg) (dP_is_pour : DnIsPour K mg) :
    FnOk P w K mg base CX0 3 dP_is_put.o.f dP_is_put.o.fd ["thing", "word", "is_right"] (spIsTreeOf K dP_is_stream.f) := by
  have GP_is_stream : FnOk P w K mg base CX0 2 dP_is_stream.f dP_is_stream.fd ["thing"] (spIsStream K) := ok_is_stream T cL dP_is_name dP_is_stream
  have GP_is_put : FnOk P w K mg base CX0 1 dP_is_put.p.f dP_is_put.p.fd ["step", "word"] (spIsPut K) := ok_is_put T dP_is_put
  have GP_is_pour : FnOk P w K mg base CX0 1 dP_is_pour.f dP_is_pour.fd ["step"] (spIsPour K) := ok_is_pour T dP_is_pour
  refine dP_is_put.o.F.ok scP_is_tree_of (fun vs H Q E h => ?_) (fun cdv A outer s H vs Q E hr h => ?_)
  · obtain ⟨a, l, rfl, _⟩ := h
    rfl
  · obtain ⟨a, l, rfl, ⟨vs, hS, hp⟩, tr, q⟩ := h
    refine ⟨_, (pss_cons (ps_if (PW.pt (pw_or (pt_not (pt_val (pe_callB call_isi (by rfl) T.n_isinstance (by decide +kernel) (pa_cons (pv 0) (pa_cons (pe_bltn (v := .ty "tuple") (by rfl) T.n_tuple (by decide +kernel) rfl) pa_nil))))) (pw_or1 (pt_cmpR op_gt (pe_callB call_len_seq (by rfl) T.n_len (by decide +kernel) (pa_cons (pv 0) pa_nil)) (pe_glob rfl cS'.g cS'.r) (nomark _)))))
      (pss_one (ps_ret pe_bl))
      pss_nil)
    (pss_cons (ps_set (i := 3) scP_is_tree_of.nd rfl (Or.inl rfl) pe_int)
    (pss_cons (ps_set (i := 4) scP_is_tree_of.nd rfl (Or.inl rfl) pe_int)
    (pss_cons (ps_for PassesOwn.never rfl (pi_tup (pv 0)) (pg_name (i := 5) scP_is_tree_of.nd rfl (Or.inl rfl))
      (pss_one (ps_if (PW.pt (pw_and (pt_val (pe_call GP_is_put (hr.mono (by omega)) (by rfl) dP_is_put.p.g dP_is_put.p.F.kp dP_is_put.p.b .nil pass0 (pa_cons (pv 5) (pa_cons (pv 1) pa_nil)))) (pw_and1 (pt_val (pe_callL (i := 2) GP_is_stream (hr.mono (by omega)) rfl (.inl rfl) dP_is_stream.F.kp dP_is_stream.b .nil pass0 (pa_cons (pe_ix ix_tup (pv 5) pe_int (fun _ _ => rfl)) pa_nil))))))
        (pss_cons (ps_aug (i := 4) scP_is_tree_of.nd rfl (Or.inl rfl) pe_int ip_add)
        (pss_one (ps_aug (i := 3) scP_is_tree_of.nd rfl (Or.inl rfl) (pe_callB call_len_seq (by rfl) T.n_len (by decide +kernel) (pa_cons (pe_ix ix_tup (pv 5) pe_int (fun _ _ => rfl)) pa_nil)) ip_add)))
        (pss_one (ps_if (PW.pt (pw_and (pt_val (pe_call GP_is_pour (hr.mono (by omega)) (by rfl) dP_is_pour.g dP_is_pour.F.kp dP_is_pour.b .nil pass0 (pa_cons (pv 5) pa_nil))) (pw_and1 (pt_cmpR op_ge (pv 4) pe_int (nomark _)))))
          (pss_one (ps_aug (i := 4) scP_is_tree_of.nd rfl (Or.inl rfl) pe_int ip_sub))
          (pss_one (ps_ret pe_bl)))))))
    (pss_one (ps_ret (pe_and (pe_cmpR op_eq (pv 4) pe_int (nomark _)) (pe_one (pe_cmpR op_le (pv 3) (pe_glob rfl cI.g cI.r) (nomark _)))))))))), ?_⟩
    have hl : vs.length = l.length := Paired.length hp
    refine ⟨.ref a, rfl, .ref a, _, _, _, true, rfl, .ty "tuple", tyT hS, kit_ty (by decide +kernel), true, rfl, iteF ?_⟩
    refine ⟨.ref a, rfl, a, _, rfl, .inr hS, _, _, rfl, rfl, false, congrArg V.bl (decide_eq_false (by have := tr.len; omega)), iteF ?_⟩
    refine ⟨.ref a, rfl, a, rfl, ⟨_, hS⟩, for_tup (xs := vs) (fun i σ H3 => ∃ x, σ = [some (.ref a), some (.str (Str.ofString "stream")), some (.ref dP_is_stream.f), some (.int (mny (l.take i))), some (.int (hgt (l.take i))), x] ∧ Same H H3) ⟨none, rfl, Same.refl H⟩ (fun i σ H3 _ ⟨_, _, s3⟩ => seqT hS s3) ?_ ?_⟩
    · rintro i v σ H3 hi ⟨x, rfl, s3⟩
      obtain ⟨t, ht, hat⟩ := paired_at hp hi
      have hat3 := hat.same s3
      refine ⟨v, rfl, _, rfl, v, t, rfl, hat3, isPut t, rfl, ?_⟩
      have hh := hgt_snoc ht
      have hm := mny_snoc ht
      cases t with
      | put zs =>
        refine iteT ?_
        obtain ⟨b, c, rfl, h1, h2, h3, h4⟩ := hat3
        refine ⟨rfl, .ref b, rfl, b, _, _, _, rfl, rfl, h1, atI_nat (j := 1) rfl, c, zs, rfl, h2, h3, h4, fun H4 s4 => ⟨true, rfl, iteT ?_⟩⟩
        refine ⟨.int (hgt (l.take i)), rfl, _, _, rfl, rfl, ?_⟩
        refine ⟨.int (mny (l.take i)), rfl, .ref b, rfl, b, _, _, _, rfl, rfl, seqT h1 s4, atI_nat (j := 1) rfl, c, _, rfl, .inr (seqT h2 s4), _, _, rfl, rfl, ?_⟩
        refine ⟨some (.ref b), ?_, fun b o e => s4 b o (s3 b o e)⟩
        rw [hh, hm, List.length_map]
        rfl
      | pour =>
        refine iteF ?_
        have h2 := tr.two i ht
        refine ⟨v, rfl, v, rfl, hat3, true, rfl, iteT ⟨.int (hgt (l.take i)), rfl, _, _, rfl, rfl, true, congrArg V.bl (decide_eq_true (by omega)), iteT ?_⟩⟩
        refine ⟨.int (hgt (l.take i)), rfl, _, _, rfl, rfl, some v, ?_, s3⟩
        rw [hh, hm]
        rfl
    · rintro σ H3 ⟨x, rfl, s3⟩
      have e1 : l.take vs.length = l := by rw [hl, List.take_length]
      rw [e1]
      refine ⟨.int (hgt l), rfl, rfl, true, congrArg V.bl (decide_eq_true (by rw [tr.one])), iteT ⟨.int (mny l), rfl, _, _, rfl, rfl, ?_⟩⟩
      show Q (.bl (decide (mny l ≤ 50000))) H3
      rw [decide_eq_true tr.few]
      exact q H3 s3
def spIsTree (K : PySem.W.Frag) : Sp := fun vs H Q _ => ∃ (a : Addr) (l : List Stp), vs = [.ref a] ∧ TreeAt K H a l ∧ Tree l ∧ ∀ H', Same H H' → Q (.bl true) H'
theorem ok_is_tree (T : Blt mg) (cL : Cst mg "LONGEST_NAME" (.int 8)) (cS' : Cst mg "MOST_STEPS" (.int 5000)) (cI : Cst mg "MOST_ITEMS" (.int 50000)) (dP_is_name : DnIsName K mg) (dP_is_stream : DnIsStream K mg) (dP_is_put : DnIsPut K mg) (dP_is_pour : DnIsPour K mg) (d : DnIsTree K mg) :
    FnOk P w K mg base CX0 4 d.f d.fd ["thing"] (spIsTree K) := by
  have GP_is_tree_of : FnOk P w K mg base CX0 3 dP_is_put.o.f dP_is_put.o.fd ["thing", "word", "is_right"] (spIsTreeOf K dP_is_stream.f) := ok_is_tree_of T cL cS' cI dP_is_name dP_is_stream dP_is_put dP_is_pour
  refine d.F.ok scP_is_tree (fun vs H Q E h => ?_) (fun cdv A outer s H vs Q E hr h => ?_)
  · obtain ⟨a, l, rfl, _⟩ := h
    rfl
  · obtain ⟨a, l, rfl, hT, tr, q⟩ := h
    refine ⟨_, (pss_one (ps_ret (pe_call GP_is_tree_of (hr.mono (by omega)) (by rfl) dP_is_put.o.g dP_is_put.o.F.kp dP_is_put.o.b .nil pass0 (pa_cons (pv 0) (pa_cons pe_str (pa_cons (pe_glob (v := .ref dP_is_stream.f) rfl dP_is_stream.g rfl) pa_nil)))))), ?_⟩
    exact ⟨.ref a, rfl, a, l, rfl, hT, tr, q⟩
end
end Kb

namespace Kb
open PySem PySem.Spec PyProof.Rows L2 SrtZ
abbrev sP_are_counts : Stmt := topS 23
abbrev NP_are_counts : List Str := ["thing", "last", "pair"]
theorem scP_are_counts : FnScope ["thing", "last", "pair"] ["thing"] (defScope sP_are_counts) := ⟨rfl, rfl, rfl, by decide +kernel, rfl, by decide +kernel, by decide +kernel⟩
abbrev sP_is_counted : Stmt := topS 24
abbrev NP_is_counted : List Str := ["pair"]
theorem scP_is_counted : FnScope ["pair"] ["pair"] (defScope sP_is_counted) := ⟨rfl, rfl, rfl, by decide +kernel, rfl, by decide +kernel, by decide +kernel⟩
abbrev sP_lost_of : Stmt := topS 29
abbrev NP_lost_of : List Str := ["sketch", "_", "count"]
theorem scP_lost_of : FnScope ["sketch", "_", "count"] ["sketch"] (defScope sP_lost_of) := ⟨rfl, rfl, rfl, by decide +kernel, rfl, by decide +kernel, by decide +kernel⟩
abbrev sP_is_sketch : Stmt := topS 30
abbrev NP_is_sketch : List Str := ["thing", "room", "many", "off", "kept"]
theorem scP_is_sketch : FnScope ["thing", "room", "many", "off", "kept"] ["thing"] (defScope sP_is_sketch) := ⟨rfl, rfl, rfl, by decide +kernel, rfl, by decide +kernel, by decide +kernel⟩
abbrev sP_bare : Stmt := topS 31
abbrev NP_bare : List Str := ["room"]
theorem scP_bare : FnScope ["room"] ["room"] (defScope sP_bare) := ⟨rfl, rfl, rfl, by decide +kernel, rfl, by decide +kernel, by decide +kernel⟩
abbrev DnAreCounts (K : PySem.W.Frag) (mg : Str → Option Value) := Dn K mg "are_counts" sP_are_counts ["thing"]
abbrev DnIsCounted (K : PySem.W.Frag) (mg : Str → Option Value) := Dn K mg "_is_counted" sP_is_counted ["pair"]
abbrev DnLostOf (K : PySem.W.Frag) (mg : Str → Option Value) := Dn K mg "lost_of" sP_lost_of ["sketch"]
abbrev DnIsSketch (K : PySem.W.Frag) (mg : Str → Option Value) := Dn K mg "is_sketch" sP_is_sketch ["thing"]
abbrev DnBare (K : PySem.W.Frag) (mg : Str → Option Value) := Dn K mg "bare" sP_bare ["room"]
/-! counts -/
abbrev Ct := List (Str × Int)
def PrAt (K : PySem.W.Frag) (H : Hp) (t : Addr) (e : Str × Int) : Prop := SqT K H t [.str e.1, .int e.2]
/-- the tuple at k holds these pairs -/
def CtAt (K : PySem.W.Frag) (H : Hp) (k : Addr) (kvs : Ct) : Prop := ∃ ts : List Addr, SqT K H k (ts.map V.ref) ∧ Paired (PrAt K H) ts kvs
theorem prs_same {K : PySem.W.Frag} {H H' : Hp} (s : Same H H') : ∀ {ts : List Addr} {kvs : Ct}, Paired (PrAt K H) ts kvs → Paired (PrAt K H') ts kvs
  | _, _, .nil => .nil
  | _, _, .cons h t => .cons (seqT h s) (prs_same s t)
theorem CtAt.same {K : PySem.W.Frag} {H H' : Hp} {k : Addr} {kvs : Ct} (h : CtAt K H k kvs) (s : Same H H') : CtAt K H' k kvs := by
  obtain ⟨ts, h1, h2⟩ := h
  exact ⟨ts, seqT h1 s, prs_same s h2⟩
structure Cts (kvs : Ct) : Prop where
  nm : ∀ e ∈ kvs, Nm e.1
  pos : ∀ e ∈ kvs, 1 ≤ e.2
  asc : kvs.Pairwise fun a b => ltZ a.1 b.1 = true
def sumC (kvs : Ct) : Int := (kvs.map (·.2)).sum
theorem map_at {α β : Type} {f : α → β} {xs : List α} {i : Nat} {y : β} (h : (xs.map f)[i]? = some y) : ∃ x, xs[i]? = some x ∧ y = f x := by
  rw [List.getElem?_map] at h
  cases e : xs[i]? with
  | none => rw [e] at h; cases h
  | some x => rw [e] at h; exact ⟨x, rfl, (Option.some.inj h).symm⟩
section
variable {P : Program} {w : World} {K : PySem.W.Frag} {mg : Str → Option Value} {base : Heap}
/-! _is_counted -/
def spIsCounted (K : PySem.W.Frag) : Sp := fun vs H Q _ => ∃ (t : Addr) (e : Str × Int), vs = [.ref t] ∧ PrAt K H t e ∧ Nm e.1 ∧ 1 ≤ e.2 ∧ ∀ H', Same H H' → Q (.bl true) H'
theorem ok_is_counted (T : Blt mg) (cL : Cst mg "LONGEST_NAME" (.int 8)) (dP_is_int : DnIsInt K mg) (dP_is_name : DnIsName K mg) (d : DnIsCounted K mg) : FnOk P w K mg base CX0 2 d.f d.fd ["pair"] (spIsCounted K) := by
  have GP_is_int : FnOk P w K mg base CX0 1 dP_is_int.f dP_is_int.fd ["thing"] spIsInt := ok_is_int T dP_is_int
  have GP_is_name : FnOk P w K mg base CX0 1 dP_is_name.f dP_is_name.fd ["thing"] spIsName := ok_is_name T cL dP_is_name
  refine d.F.ok scP_is_counted (fun vs H Q E h => ?_) (fun cdv A outer s H vs Q E hr h => ?_)
  · obtain ⟨t, e, rfl, _⟩ := h
    rfl
  · obtain ⟨t, e, rfl, hp, hn, h1, q⟩ := h
    refine ⟨_, (pss_cons (ps_if (PW.pt (pw_or (pt_not (pt_val (pe_callB call_isi (by rfl) T.n_isinstance (by decide +kernel) (pa_cons (pv 0) (pa_cons (pe_bltn (v := .ty "tuple") (by rfl) T.n_tuple (by decide +kernel) rfl) pa_nil))))) (pw_or1 (pt_cmpR op_ne (pe_callB call_len_seq (by rfl) T.n_len (by decide +kernel) (pa_cons (pv 0) pa_nil)) pe_int (nomark _)))))
      (pss_one (ps_ret pe_bl))
      pss_nil)
    (pss_one (ps_ret (pe_and (pe_call GP_is_name (hr.mono (by omega)) (by rfl) dP_is_name.g dP_is_name.F.kp dP_is_name.b .nil pass0 (pa_cons (pe_ix ix_tup (pv 0) pe_int (fun _ _ => rfl)) pa_nil)) (pe_and (pe_call GP_is_int (hr.mono (by omega)) (by rfl) dP_is_int.g dP_is_int.F.kp dP_is_int.b .nil pass0 (pa_cons (pe_ix ix_tup (pv 0) pe_int (fun _ _ => rfl)) pa_nil)) (pe_one (pe_cmpR op_ge (pe_ix ix_tup (pv 0) pe_int (fun _ _ => rfl)) pe_int (nomark _)))))))), ?_⟩
    refine ⟨.ref t, rfl, .ref t, _, _, _, true, rfl, .ty "tuple", tyT hp, kit_ty (by decide +kernel), true, rfl, iteF ?_⟩
    refine ⟨.ref t, rfl, t, _, rfl, .inr hp, rfl, false, rfl, iteF ?_⟩
    refine ⟨.ref t, rfl, t, _, _, _, rfl, rfl, hp, atI_nat (j := 0) rfl, e.1, rfl, hn, fun H1 s1 => ⟨true, rfl, iteT ?_⟩⟩
    have hp1 : PrAt K H1 t e := seqT hp s1
    refine ⟨.ref t, rfl, t, _, _, _, rfl, rfl, hp1, atI_nat (j := 1) rfl, e.2, rfl, true, rfl, iteT ?_⟩
    refine ⟨.ref t, rfl, t, _, _, _, rfl, rfl, hp1, atI_nat (j := 1) rfl, _, _, rfl, rfl, ?_⟩
    show Q (.bl (decide (1 ≤ e.2))) H1
    rw [decide_eq_true h1]
    exact q H1 s1
/-! are_counts -/
def spAreCounts (K : PySem.W.Frag) : Sp := fun vs H Q _ => ∃ (k : Addr) (kvs : Ct), vs = [.ref k] ∧ CtAt K H k kvs ∧ Cts kvs ∧ ∀ H', Same H H' → Q (.bl true) H'
theorem ok_are_counts (T : Blt mg) (cL : Cst mg "LONGEST_NAME" (.int 8)) (dP_is_int : DnIsInt K mg) (dP_is_name : DnIsName K mg) (dP_is_counted : DnIsCounted K mg) (d : DnAreCounts K mg) : FnOk P w K mg base CX0 3 d.f d.fd ["thing"] (spAreCounts K) := by
  have GP_is_counted : FnOk P w K mg base CX0 2 dP_is_counted.f dP_is_counted.fd ["pair"] (spIsCounted K) := ok_is_counted T cL dP_is_int dP_is_name dP_is_counted
  refine d.F.ok scP_are_counts (fun vs H Q E h => ?_) (fun cdv A outer s H vs Q E hr h => ?_)
  · obtain ⟨k, kvs, rfl, _⟩ := h
    rfl
  · obtain ⟨k, kvs, rfl, ⟨ts, hS, hp⟩, hc, q⟩ := h
    refine ⟨_, (pss_cons (ps_if (pt_not (pt_val (pe_callB call_isi (by rfl) T.n_isinstance (by decide +kernel) (pa_cons (pv 0) (pa_cons (pe_bltn (v := .ty "tuple") (by rfl) T.n_tuple (by decide +kernel) rfl) pa_nil)))))
      (pss_one (ps_ret pe_bl))
      pss_nil)
    (pss_cons (ps_set (i := 1) scP_are_counts.nd rfl (Or.inl rfl) pe_str)
    (pss_cons (ps_for PassesOwn.never rfl (pi_tup (pv 0)) (pg_name (i := 2) scP_are_counts.nd rfl (Or.inl rfl))
      (pss_cons (ps_if (PW.pt (pw_or (pt_not (pt_val (pe_call GP_is_counted (hr.mono (by omega)) (by rfl) dP_is_counted.g dP_is_counted.F.kp dP_is_counted.b .nil pass0 (pa_cons (pv 2) pa_nil)))) (pw_or1 (pt_cmpR op_le_str (pe_ix ix_tup (pv 2) pe_int (fun _ _ => rfl)) (pv 1) (nomark _)))))
        (pss_one (ps_ret pe_bl))
        pss_nil)
      (pss_one (ps_set (i := 1) scP_are_counts.nd rfl (Or.inl rfl) (pe_ix ix_tup (pv 2) pe_int (fun _ _ => rfl))))))
    (pss_one (ps_ret pe_bl))))), ?_⟩
    refine ⟨.ref k, rfl, .ref k, _, _, _, true, rfl, .ty "tuple", tyT hS, kit_ty (by decide +kernel), true, rfl, iteF ?_⟩
    refine ⟨.ref k, rfl, k, rfl, ⟨_, hS⟩, for_tup (xs := ts.map V.ref) (fun i σ H3 => ∃ (la : Str) (x : Option V), σ = [some (.ref k), some (.str la), x] ∧ Same H H3 ∧ (i = 0 → la = Str.ofString "") ∧ ∀ j e, i = j + 1 → kvs[j]? = some e → la = e.1)
      ⟨Str.ofString "", none, rfl, Same.refl H, fun _ => rfl, fun j e h => by omega⟩ (fun i σ H3 _ ⟨_, _, _, s3, _⟩ => seqT hS s3) ?_ ?_⟩
    · rintro i v σ H3 hi ⟨la, x, rfl, s3, e0, e1⟩
      obtain ⟨t, ht, rfl⟩ := map_at hi
      obtain ⟨e, he, hat⟩ := paired_at hp ht
      have hm := List.mem_of_getElem? he
      refine ⟨.ref t, rfl, t, e, rfl, seqT hat s3, hc.nm e hm, hc.pos e hm, fun H4 s4 => ⟨true, rfl, iteF ?_⟩⟩
      have hat4 : PrAt K H4 t e := seqT hat fun b o z => s4 b o (s3 b o z)
      have hlt : decide (la.cps.toList < e.1.cps.toList) = true := by
        cases i with
        | zero =>
          rw [e0 rfl]
          have h1 := (hc.nm e hm).pos
          have : (Str.ofString "").cps.toList = [] := by decide +kernel
          rw [this]
          refine decide_eq_true ?_
          cases hz : e.1.cps.toList with
          | nil =>
            have : e.1.length = 0 := by rw [← cs_len]; unfold cs; rw [hz]; rfl
            omega
          | cons c r => exact List.nil_lt_cons c r
        | succ j =>
          obtain ⟨e', he'⟩ : ∃ e', kvs[j]? = some e' := ⟨kvs[j]'(by have := (List.getElem?_eq_some_iff.mp he).1; omega), by simp⟩
          rw [e1 j e' rfl he']
          exact (List.pairwise_iff_getElem.mp hc.asc) j (j + 1) (List.getElem?_eq_some_iff.mp he').1 (List.getElem?_eq_some_iff.mp he).1 (by omega) |> fun h => by
            rw [(List.getElem?_eq_some_iff.mp he').2, (List.getElem?_eq_some_iff.mp he).2] at h
            exact h
      refine ⟨.ref t, rfl, t, _, _, _, rfl, rfl, hat4, atI_nat (j := 0) rfl, .str la, rfl, _, _, rfl, rfl, false, ?_, iteF ?_⟩
      · show V.bl (!decide (la.cps.toList < e.1.cps.toList)) = _
        rw [hlt]
        rfl
      refine ⟨.ref t, rfl, t, _, _, _, rfl, rfl, hat4, atI_nat (j := 0) rfl, e.1, some (.ref t), rfl, fun b o z => s4 b o (s3 b o z), fun h => by omega, fun j e' h1 h2 => ?_⟩
      have : j = i := by omega
      subst this
      rw [he] at h2
      cases h2
      rfl
    · rintro σ H3 ⟨la, x, rfl, s3, _⟩
      exact q H3 s3
/-! lost_of -/
def spLostOf (K : PySem.W.Frag) : Sp := fun vs H Q _ => ∃ (s k : Addr) (room many off : Int) (kvs : Ct), vs = [.ref s] ∧ SqT K H s [.int room, .int many, .int off, .ref k] ∧ CtAt K H k kvs ∧ kvs.length ≤ 1000 ∧ ∀ H', Same H H' → Q (.int (many - sumC kvs)) H'
theorem ok_lost_of (T : Blt mg) (d : DnLostOf K mg) : FnOk P w K mg base CX0 1 d.f d.fd ["sketch"] (spLostOf K) := by
  refine d.F.ok scP_lost_of (fun vs H Q E h => ?_) (fun cdv A outer s H vs Q E hr h => ?_)
  · obtain ⟨s, k, _, _, _, _, rfl, _⟩ := h
    rfl
  · obtain ⟨s, k, room, many, off, kvs, rfl, hs, ⟨ts, hS, hp⟩, hl, q⟩ := h
    refine ⟨_, (pss_one (ps_ret (pe_op op_sub (pe_ix ix_tup (pv 0) pe_int (fun _ _ => rfl)) (pe_callB (cr_sum rfl) (by rfl) T.n_sum (by decide +kernel) (pa_cons (pe_lc (own := [("_", 1), ("count", 2)]) (g := gTup K 2 (gCons (gName 1) (gCons (gName 2) gNil))) (tt := tYes) rfl scP_lost_of.nd (pi_tup (pe_ix ix_tup (pv 0) pe_int (fun _ _ => rfl))) (blkOk_by (N := NP_lost_of) (sc := defScope sP_lost_of) (by decide +kernel)) (fun _ _ _ _ _ => pg_tup (by rfl) (pgs_cons (pg_name (i := 1) scP_lost_of.nd rfl (Or.inl rfl)) (pgs_cons (pg_name (i := 2) scP_lost_of.nd rfl (Or.inl rfl)) pgs_nil))) (fun _ _ _ _ _ => pts_nil) (fun _ _ _ _ _ => (pv 2))) pa_nil))))), ?_⟩
    refine ⟨.ref s, rfl, s, _, _, _, rfl, rfl, hs, atI_nat (j := 1) rfl, .ref s, rfl, s, _, _, _, rfl, rfl, hs, atI_nat (j := 3) rfl, k, rfl, ⟨_, hS⟩, fun D nD => lc_tup (xs := ts.map V.ref) (fun i H3 => Same H H3 ∧ H3 D = some (.lst ((kvs.take i).map fun e => V.int e.2))) ⟨same_upd nD, upd_same⟩ (fun i H3 _ h3 => seqT hS h3.1) (fun i x H3 hx h3 => ?_) (fun H3 h3 => ?_)⟩
    · obtain ⟨t, ht, rfl⟩ := map_at hx
      obtain ⟨e, he, hat⟩ := paired_at hp ht
      refine ⟨t, _, rfl, seqT hat h3.1, rfl, _, _, rfl, _, _, rfl, rfl, rfl, .int e.2, rfl, _, h3.2, ?_, fun b o z => ?_, ?_⟩
      · rw [List.length_map, List.length_take, sizeLine_eq]
        omega
      · rw [upd_ne (ne_of_none z nD)]
        exact h3.1 b o z
      · rw [upd_same, List.take_add_one, he, List.map_append]
        rfl
    · refine ⟨D, kvs.map (fun e : Str × Int => e.2), rfl, sql ?_, _, _, rfl, rfl, q H3 h3.1⟩
      rw [h3.2, List.length_map, Paired.length hp, List.take_length, List.map_map]
      rfl
/-! is_sketch -/
def skB (room many off : Int) (kvs : Ct) : Bool :=
  (decide (1 ≤ room) && decide (room ≤ 64)) && (decide (0 ≤ many) && (decide (0 ≤ off) && (decide ((kvs.length : Int) ≤ room) && (decide ((room + 1) * off ≤ many - sumC kvs) && decide (many - sumC kvs ≤ 2 * room * off)))))
def spIsSketch (K : PySem.W.Frag) : Sp := fun vs H Q _ => ∃ (s k : Addr) (room many off : Int) (kvs : Ct), vs = [.ref s] ∧ SqT K H s [.int room, .int many, .int off, .ref k] ∧ CtAt K H k kvs ∧ Cts kvs ∧ kvs.length ≤ 1000 ∧ ∀ H', Same H H' → Q (.bl (skB room many off kvs)) H'
theorem ok_is_sketch (T : Blt mg) (cM : Cst mg "MOST_ROOM" (.int 64)) (cL : Cst mg "LONGEST_NAME" (.int 8)) (dP_is_int : DnIsInt K mg) (dP_is_number : DnIsNumber K mg) (dP_is_room : DnIsRoom K mg) (dP_is_name : DnIsName K mg) (dP_is_counted : DnIsCounted K mg) (dP_are_counts : DnAreCounts K mg)
    (dP_lost_of : DnLostOf K mg) (d : DnIsSketch K mg) : FnOk P w K mg base CX0 4 d.f d.fd ["thing"] (spIsSketch K) := by
  have GP_is_room : FnOk P w K mg base CX0 2 dP_is_room.f dP_is_room.fd ["thing"] spIsRoom := ok_is_room T cM dP_is_int dP_is_room
  have GP_is_number : FnOk P w K mg base CX0 2 dP_is_number.f dP_is_number.fd ["thing"] spIsNumber := ok_is_number T dP_is_int dP_is_number
  have GP_are_counts : FnOk P w K mg base CX0 3 dP_are_counts.f dP_are_counts.fd ["thing"] (spAreCounts K) := ok_are_counts T cL dP_is_int dP_is_name dP_is_counted dP_are_counts
  have GP_lost_of : FnOk P w K mg base CX0 1 dP_lost_of.f dP_lost_of.fd ["sketch"] (spLostOf K) := ok_lost_of T dP_lost_of
  refine d.F.ok scP_is_sketch (fun vs H Q E h => ?_) (fun cdv A outer s H vs Q E hr h => ?_)
  · obtain ⟨s, k, _, _, _, _, rfl, _⟩ := h
    rfl
  · obtain ⟨s, k, room, many, off, kvs, rfl, hs, hk, hc, hl, q⟩ := h
    refine ⟨_, (pss_cons (ps_if (PW.pt (pw_or (pt_not (pt_val (pe_callB call_isi (by rfl) T.n_isinstance (by decide +kernel) (pa_cons (pv 0) (pa_cons (pe_bltn (v := .ty "tuple") (by rfl) T.n_tuple (by decide +kernel) rfl) pa_nil))))) (pw_or1 (pt_cmpR op_ne (pe_callB call_len_seq (by rfl) T.n_len (by decide +kernel) (pa_cons (pv 0) pa_nil)) pe_int (nomark _)))))
      (pss_one (ps_ret pe_bl))
      pss_nil)
    (pss_cons (ps_asg (pv 0) (pg_tup (by rfl) (pgs_cons (pg_name (i := 1) scP_is_sketch.nd rfl (Or.inl rfl)) (pgs_cons (pg_name (i := 2) scP_is_sketch.nd rfl (Or.inl rfl)) (pgs_cons (pg_name (i := 3) scP_is_sketch.nd rfl (Or.inl rfl)) (pgs_cons (pg_name (i := 4) scP_is_sketch.nd rfl (Or.inl rfl)) pgs_nil))))))
    (pss_cons (ps_if (PW.pt (pw_or (pt_not (pt_val (pe_call GP_is_room (hr.mono (by omega)) (by rfl) dP_is_room.g dP_is_room.F.kp dP_is_room.b .nil pass0 (pa_cons (pv 1) pa_nil)))) (pw_or (pt_not (pt_val (pe_call GP_is_number (hr.mono (by omega)) (by rfl) dP_is_number.g dP_is_number.F.kp dP_is_number.b .nil pass0 (pa_cons (pv 2) pa_nil)))) (pw_or1 (pt_not (pt_val (pe_call GP_is_number (hr.mono (by omega)) (by rfl) dP_is_number.g dP_is_number.F.kp dP_is_number.b .nil pass0 (pa_cons (pv 3) pa_nil))))))))
      (pss_one (ps_ret pe_bl))
      pss_nil)
    (pss_cons (ps_if (PW.pt (pw_or (pt_not (pt_val (pe_call GP_are_counts (hr.mono (by omega)) (by rfl) dP_are_counts.g dP_are_counts.F.kp dP_are_counts.b .nil pass0 (pa_cons (pv 4) pa_nil)))) (pw_or1 (pt_cmpR op_gt (pe_callB call_len_seq (by rfl) T.n_len (by decide +kernel) (pa_cons (pv 4) pa_nil)) (pv 1) (nomark _)))))
      (pss_one (ps_ret pe_bl))
      pss_nil)
    (pss_one (ps_ret (pe_chain op_le op_le (pe_op op_mul (pe_op op_add (pv 1) pe_int) (pv 3)) (pe_call GP_lost_of (hr.mono (by omega)) (by rfl) dP_lost_of.g dP_lost_of.F.kp dP_lost_of.b .nil pass0 (pa_cons (pv 0) pa_nil)) (pe_op op_mul (pe_op op_mul pe_int (pv 1)) (pv 3))))))))), ?_⟩
    refine ⟨.ref s, rfl, .ref s, _, _, _, true, rfl, .ty "tuple", tyT hs, kit_ty (by decide +kernel), true, rfl, iteF ?_⟩
    refine ⟨.ref s, rfl, s, _, rfl, .inr hs, rfl, false, rfl, iteF ?_⟩
    refine ⟨.ref s, rfl, s, _, rfl, hs, rfl, _, _, rfl, _, _, rfl, _, _, rfl, _, _, rfl, rfl, ?_⟩
    unfold skB at q
    refine ⟨.int room, rfl, room, rfl, _, rfl, ?_⟩
    cases eR : (decide (1 ≤ room) && decide (room ≤ 64)) with
    | false =>
      rw [eR, Bool.false_and] at q
      exact iteT (iteT (q H (Same.refl H)))
    | true =>
      rw [eR, Bool.true_and] at q
      refine iteF ⟨.int many, rfl, many, rfl, _, rfl, ?_⟩
      cases eM : decide (0 ≤ many) with
      | false =>
        rw [eM, Bool.false_and] at q
        exact iteT (iteT (q H (Same.refl H)))
      | true =>
        rw [eM, Bool.true_and] at q
        refine iteF ⟨.int off, rfl, off, rfl, _, rfl, ?_⟩
        cases eO : decide (0 ≤ off) with
        | false =>
          rw [eO, Bool.false_and] at q
          exact iteT (q H (Same.refl H))
        | true =>
          rw [eO, Bool.true_and] at q
          refine iteF ⟨.ref k, rfl, k, kvs, rfl, hk, hc, fun H1 s1 => ⟨true, rfl, iteF ?_⟩⟩
          have hr1 : 1 ≤ room ∧ room ≤ 64 := by
            rw [Bool.and_eq_true, decide_eq_true_eq, decide_eq_true_eq] at eR
            exact eR
          obtain ⟨ts, hS, hp⟩ := hk.same s1
          have el : (ts.map V.ref).length = kvs.length := by rw [List.length_map, Paired.length hp]
          refine ⟨.ref k, rfl, k, _, rfl, .inr hS, .int room, rfl, _, _, rfl, rfl, _, rfl, ?_⟩
          rw [el]
          by_cases eL : (kvs.length : Int) ≤ room
          · rw [show decide ((kvs.length : Int) > room) = false from decide_eq_false (by omega)]
            rw [decide_eq_true eL, Bool.true_and] at q
            refine iteF ?_
            refine ⟨.int room, rfl, _, _, rfl, rfl, .int off, rfl, _, _, rfl, rfl, cmulL (by omega) (by omega), .ref s, rfl, s, k, room, many, off, kvs, rfl, seqT hs s1, ⟨ts, hS, hp⟩, hl, fun H2 s2 => ⟨_, _, rfl, rfl, _, rfl, ?_⟩⟩
            by_cases e1 : (room + 1) * off ≤ many - sumC kvs
            · rw [decide_eq_true e1] at q ⊢
              rw [Bool.true_and] at q
              refine iteT ⟨.int room, rfl, _, _, rfl, rfl, cmulL (by decide) (by decide), .int off, rfl, _, _, rfl, rfl, cmulL (by omega) (by omega), _, _, rfl, rfl, ?_⟩
              exact q H2 fun b o z => s2 b o (s1 b o z)
            · rw [decide_eq_false e1] at q ⊢
              rw [Bool.false_and] at q
              exact iteF (q H2 fun b o z => s2 b o (s1 b o z))
          · rw [show decide ((kvs.length : Int) > room) = true from decide_eq_true (by omega)]
            rw [decide_eq_false eL, Bool.false_and] at q
            exact iteT (q H1 s1)
/-! bare -/
def spBare : Sp := fun vs H Q _ => ∃ room : Int, vs = [.int room] ∧ 1 ≤ room ∧ room ≤ 64 ∧ ∀ H' s k, Same H H' → H s = none → H' s = some (.tup [.int room, .int 0, .int 0, .ref k]) → Ptp H' k [] → Q (.ref s) H'
theorem ok_bare (T : Blt mg) (cM : Cst mg "MOST_ROOM" (.int 64)) (dP_is_int : DnIsInt K mg) (dP_is_room : DnIsRoom K mg) (d : DnBare K mg) : FnOk P w K mg base CX0 3 d.f d.fd ["room"] spBare := by
  have GP_is_room : FnOk P w K mg base CX0 2 dP_is_room.f dP_is_room.fd ["thing"] spIsRoom := ok_is_room T cM dP_is_int dP_is_room
  refine d.F.ok scP_bare (fun vs H Q E h => ?_) (fun cdv A outer s H vs Q E hr h => ?_)
  · obtain ⟨room, rfl, _⟩ := h
    rfl
  · obtain ⟨room, rfl, h1, h2, q⟩ := h
    refine ⟨_, (pss_cons (ps_if (pt_not (pt_val (pe_call GP_is_room (hr.mono (by omega)) (by rfl) dP_is_room.g dP_is_room.F.kp dP_is_room.b .nil pass0 (pa_cons (pv 0) pa_nil))))
      (pss_one ps_never)
      pss_nil)
    (pss_one (ps_ret (pe_tup (pa_cons (pv 0) (pa_cons pe_int (pa_cons pe_int (pa_cons (pe_tupF pa_nil) pa_nil)))))))), ?_⟩
    refine ⟨.int room, rfl, room, rfl, true, ?_, iteF ?_⟩
    · rw [decide_eq_true h1, decide_eq_true h2]
      rfl
    · refine ⟨.int room, rfl, (by show 0 ≤ sizeLine; decide), fun k o nk ho => ⟨(by show 4 ≤ sizeLine; decide), fun p np => ?_⟩⟩
      have s1 : Same H (upd H k (.frz o (.tup []))) := same_upd nk
      refine q _ p k (Same.new s1 np) (Same.gone s1 np) upd_same ⟨o, ?_, ho⟩
      rw [upd_ne (ne_of_none upd_same np)]
      exact upd_same
end
end Kb

namespace Kb
open PySem PySem.Spec PyProof.Rows L2 SrtZ
abbrev sTinit : Stmt := inClass (topS 27) 0
abbrev NTinit : List Str := ["self", "sketch", "kept"]
theorem scTinit : FnScope ["self", "sketch", "kept"] ["self", "sketch"] (defScope sTinit) := ⟨rfl, rfl, rfl, by decide +kernel, rfl, by decide +kernel, by decide +kernel⟩
abbrev sTsketch : Stmt := inClass (topS 27) 1
abbrev NTsketch : List Str := ["self"]
theorem scTsketch : FnScope ["self"] ["self"] (defScope sTsketch) := ⟨rfl, rfl, rfl, by decide +kernel, rfl, by decide +kernel, by decide +kernel⟩
abbrev sTfeed : Stmt := inClass (topS 27) 2
abbrev NTfeed : List Str := ["self", "name", "times", "amount"]
theorem scTfeed : FnScope ["self", "name", "times", "amount"] ["self", "name", "times"] (defScope sTfeed) := ⟨rfl, rfl, rfl, by decide +kernel, rfl, by decide +kernel, by decide +kernel⟩
abbrev sTpour : Stmt := inClass (topS 27) 3
abbrev NTpour : List Str := ["self", "sketch", "_", "many", "off", "kept", "name", "count", "falling"]
theorem scTpour : FnScope ["self", "sketch", "_", "many", "off", "kept", "name", "count", "falling"] ["self", "sketch"] (defScope sTpour) := ⟨rfl, rfl, rfl, by decide +kernel, rfl, by decide +kernel, by decide +kernel⟩
abbrev sTtake : Stmt := inClass (topS 27) 4
abbrev NTtake : List Str := ["self", "amount", "name", "count"]
theorem scTtake : FnScope ["self", "amount", "name", "count"] ["self", "amount"] (defScope sTtake) := ⟨rfl, rfl, rfl, by decide +kernel, rfl, by decide +kernel, by decide +kernel⟩
/-! the fields -/
theorem k_mr : ¬ (("room" : Str) = "seen") := by decide +kernel
theorem k_or : ¬ (("room" : Str) = "off") := by decide +kernel
theorem k_om : ¬ (("seen" : Str) = "off") := by decide +kernel
theorem k_cr : ¬ (("room" : Str) = "counts") := by decide +kernel
theorem k_cm : ¬ (("seen" : Str) = "counts") := by decide +kernel
theorem k_co : ¬ (("off" : Str) = "counts") := by decide +kernel
def fl (r m o : Int) (d : Addr) : List (Str × V) := [(("room" : Str), V.int r), (("seen" : Str), V.int m), (("off" : Str), V.int o), (("counts" : Str), V.ref d)]
theorem fl_mk (r m o : Int) (d : Addr) : putF "counts" (.ref d) (putF "off" (.int o) (putF "seen" (.int m) (putF "room" (.int r) []))) = fl r m o d := by
  show putF "counts" (.ref d) (putF "off" (.int o) (if ("room" : Str) = "seen" then _ else (("room" : Str), V.int r) :: [(("seen" : Str), V.int m)])) = _
  rw [if_neg k_mr]
  show putF "counts" (.ref d) (if ("room" : Str) = "off" then _ else (("room" : Str), V.int r) :: (if ("seen" : Str) = "off" then _ else (("seen" : Str), V.int m) :: [(("off" : Str), V.int o)])) = _
  rw [if_neg k_or, if_neg k_om]
  show (if ("room" : Str) = "counts" then _ else (("room" : Str), V.int r) :: (if ("seen" : Str) = "counts" then _ else (("seen" : Str), V.int m) :: (if ("off" : Str) = "counts" then _ else (("off" : Str), V.int o) :: [(("counts" : Str), V.ref d)]))) = _
  rw [if_neg k_cr, if_neg k_cm, if_neg k_co]
  rfl
theorem fl_many (r m o x : Int) (d : Addr) : putF "seen" (.int x) (fl r m o d) = fl r x o d := by
  show (if ("room" : Str) = "seen" then _ else (("room" : Str), V.int r) :: (if ("seen" : Str) = "seen" then _ else _)) = _
  rw [if_neg k_mr, if_pos rfl]
  rfl
theorem fl_off (r m o x : Int) (d : Addr) : putF "off" (.int x) (fl r m o d) = fl r m x d := by
  show (if ("room" : Str) = "off" then _ else (("room" : Str), V.int r) :: (if ("seen" : Str) = "off" then _ else (("seen" : Str), V.int m) :: (if ("off" : Str) = "off" then _ else _))) = _
  rw [if_neg k_or, if_neg k_om, if_pos rfl]
  rfl
theorem fl_counts (r m o : Int) (d x : Addr) : putF "counts" (.ref x) (fl r m o d) = fl r m o x := by
  show (if ("room" : Str) = "counts" then _ else (("room" : Str), V.int r) :: (if ("seen" : Str) = "counts" then _ else (("seen" : Str), V.int m) :: (if ("off" : Str) = "counts" then _ else (("off" : Str), V.int o) :: (if ("counts" : Str) = "counts" then _ else _)))) = _
  rw [if_neg k_cr, if_neg k_cm, if_neg k_co, if_pos rfl]
  rfl
theorem g_room (r m o : Int) (d : Addr) : (fl r m o d).lookup ("room" : Str) = some (.int r) := by
  rw [← fl_mk, lookup_putF, if_neg k_cr, lookup_putF, if_neg k_or, lookup_putF, if_neg k_mr, lookup_putF, if_pos rfl]
theorem g_many (r m o : Int) (d : Addr) : (fl r m o d).lookup ("seen" : Str) = some (.int m) := by
  rw [← fl_mk, lookup_putF, if_neg k_cm, lookup_putF, if_neg k_om, lookup_putF, if_pos rfl]
theorem g_off (r m o : Int) (d : Addr) : (fl r m o d).lookup ("off" : Str) = some (.int o) := by
  rw [← fl_mk, lookup_putF, if_neg k_co, lookup_putF, if_pos rfl]
theorem g_counts (r m o : Int) (d : Addr) : (fl r m o d).lookup ("counts" : Str) = some (.ref d) := by
  rw [← fl_mk, lookup_putF, if_pos rfl]
theorem g_no (r m o : Int) (d : Addr) {f : Str} (h1 : ¬ f = "counts") (h2 : ¬ f = "off") (h3 : ¬ f = "seen") (h4 : ¬ f = "room") : (fl r m o d).lookup f = none := by
  rw [← fl_mk, lookup_putF, if_neg h1, lookup_putF, if_neg h2, lookup_putF, if_neg h3, lookup_putF, if_neg h4]
  rfl
/-! counts in a dict -/
def getZ (kvs : Ct) (n : Str) : Option Int := (kvs.find? fun e => decide (e.1 = n)).map (·.2)
def putZ (kvs : Ct) (n : Str) (v : Int) : Ct := if (kvs.any fun e => decide (e.1 = n)) = true then kvs.map (fun e => if e.1 = n then (e.1, v) else e) else kvs ++ [(n, v)]
def addZ (kvs : Ct) (n : Str) (c : Int) : Ct := putZ kvs n ((getZ kvs n).getD 0 + c)
def takeZ (a : Int) (kvs : Ct) : Ct := (kvs.filter fun e => decide (a < e.2)).map fun e => (e.1, e.2 - a)
theorem ent_dec (e : Str × Int) (n : Str) : decide ((entZ e).1 = (Sum.inr n : Key)) = decide (e.1 = n) := key_rr _ _
theorem getZ_val (n : Str) : ∀ kvs : Ct, valV (kvs.map entZ) (Sum.inr n : Key) = (getZ kvs n).map V.int
  | [] => rfl
  | e :: r => by
    have ih := getZ_val n r
    unfold getZ at ih ⊢
    rw [List.map_cons]
    by_cases h : e.1 = n
    · rw [valV_pos (show (entZ e).1 = Sum.inr n by rw [← h])]
      simp [h]
    · rw [valV_neg (show ¬ (entZ e).1 = Sum.inr n from fun z => h (Sum.inr.inj z)), ih]
      simp [h]
theorem putZ_put (kvs : Ct) (n : Str) (v : Int) : putK (kvs.map entZ) (Sum.inr n : Key) (.int v) = (putZ kvs n v).map entZ := by
  unfold putK putZ
  have e : ((kvs.map entZ).any fun kv => decide (kv.1 = (Sum.inr n : Key))) = kvs.any fun e => decide (e.1 = n) := by
    rw [List.any_map]
    congr 1
    funext e
    exact ent_dec e n
  rw [e]
  by_cases h : (kvs.any fun e => decide (e.1 = n)) = true
  · rw [if_pos h, if_pos h, List.map_map, List.map_map]
    refine List.map_congr_left fun e _ => ?_
    show (if (Sum.inr e.1 : Key) = Sum.inr n then _ else _) = entZ (if e.1 = n then _ else _)
    by_cases h2 : e.1 = n
    · rw [if_pos h2, if_pos (by rw [h2])]
    · rw [if_neg h2, if_neg (fun z => h2 (Sum.inr.inj z))]
  · rw [if_neg h, if_neg h, List.map_append]
    rfl
abbrev NdZ (kvs : Ct) : Prop := (kvs.map (·.1)).Nodup
theorem getZ_none {kvs : Ct} {n : Str} : getZ kvs n = none ↔ n ∉ kvs.map (·.1) := by
  unfold getZ
  rw [Option.map_eq_none_iff, List.find?_eq_none]
  constructor
  · intro h z
    obtain ⟨e, he, rfl⟩ := List.mem_map.mp z
    have := h e he
    simp at this
  · intro h e he z
    exact h (List.mem_map.mpr ⟨e, he, of_decide_eq_true z⟩)
theorem any_getZ (n : Str) (kvs : Ct) : (kvs.any fun e => decide (e.1 = n)) = (getZ kvs n).isSome := by
  cases h : getZ kvs n with
  | none =>
    rw [getZ_none] at h
    show _ = false
    rw [List.any_eq_false]
    intro e he z
    exact h (List.mem_map.mpr ⟨e, he, of_decide_eq_true z⟩)
  | some v =>
    show _ = true
    rw [List.any_eq_true]
    unfold getZ at h
    cases hf : kvs.find? fun e => decide (e.1 = n) with
    | none => rw [hf] at h; cases h
    | some e =>
      have h2 := List.find?_some (p := fun e : Str × Int => decide (e.1 = n)) hf
      exact ⟨e, List.mem_of_find?_eq_some hf, h2⟩
theorem putZ_new {kvs : Ct} {n : Str} {v : Int} (h : getZ kvs n = none) : putZ kvs n v = kvs ++ [(n, v)] := by
  unfold putZ
  rw [any_getZ, h]
  exact if_neg (by decide)
theorem putZ_keys_old {kvs : Ct} {n : Str} {v : Int} (h : (getZ kvs n).isSome = true) : (putZ kvs n v).map (·.1) = kvs.map (·.1) := by
  unfold putZ
  rw [any_getZ, if_pos h, List.map_map]
  refine List.map_congr_left fun e _ => ?_
  show (if e.1 = n then _ else _ : Str × Int).1 = e.1
  split <;> rfl
theorem putZ_nd {kvs : Ct} {n : Str} {v : Int} (nd : NdZ kvs) : NdZ (putZ kvs n v) := by
  unfold NdZ
  cases h : getZ kvs n with
  | none =>
    rw [putZ_new h, List.map_append, List.nodup_append]
    refine ⟨nd, by simp, fun a ha b hb => ?_⟩
    rw [List.map_cons, List.map_nil, List.mem_singleton] at hb
    rw [hb]
    intro e
    have e' : a = n := e
    exact getZ_none.mp h (by rw [← e']; exact ha)
  | some x =>
    rw [putZ_keys_old (by rw [h]; rfl)]
    exact nd
theorem putZ_len {kvs : Ct} {n : Str} {v : Int} : (putZ kvs n v).length ≤ kvs.length + 1 := by
  cases h : getZ kvs n with
  | none => rw [putZ_new h, List.length_append]; exact Nat.le_refl _
  | some x =>
    have := congrArg List.length (putZ_keys_old (v := v) (show (getZ kvs n).isSome = true by rw [h]; rfl))
    rw [List.length_map, List.length_map] at this
    omega
theorem takeZ_nd {a : Int} {kvs : Ct} (nd : NdZ kvs) : NdZ (takeZ a kvs) := by
  unfold NdZ takeZ
  rw [List.map_map]
  exact List.Nodup.sublist (List.Sublist.map _ List.filter_sublist) nd
theorem takeZ_len {a : Int} {kvs : Ct} : (takeZ a kvs).length ≤ kvs.length := by
  unfold takeZ
  rw [List.length_map]
  exact List.length_filter_le _ _
theorem mergeZ : ∀ (more kvs : Ct), NdZ (kvs ++ more) → mergeK (kvs.map entZ) (more.map entZ) = (kvs ++ more).map entZ
  | [], kvs, _ => by
    rw [List.append_nil]
    rfl
  | e :: r, kvs, nd => by
    have nm : getZ kvs e.1 = none := getZ_none.mpr fun z => by
      unfold NdZ at nd
      rw [List.map_append, List.nodup_append] at nd
      exact nd.2.2 _ z _ (List.mem_map.mpr ⟨e, List.mem_cons_self, rfl⟩) rfl
    show mergeK (putK (kvs.map entZ) (Sum.inr e.1) (.int e.2)) (r.map entZ) = _
    rw [putZ_put, putZ_new nm, mergeZ r (kvs ++ [e]) (by rw [List.append_assoc]; exact nd), List.append_assoc]
    rfl
/-! a Tally -/
structure TalAt (C : Addr) (H : Hp) (t d : Addr) (r m o : Int) (kvs : Ct) : Prop where
  ob : ∃ dx, H t = some (.ins C dx (fl r m o d))
  dc : H d = some (.dK (kvs.map entZ))
theorem TalAt.ne {C : Addr} {H : Hp} {t d : Addr} {r m o : Int} {kvs : Ct} (h : TalAt C H t d r m o kvs) : t ≠ d := by
  obtain ⟨dx, e⟩ := h.ob
  exact ne_of e h.dc (by intro z; cases z)
theorem TalAt.same {C : Addr} {H H' : Hp} {t d : Addr} {r m o : Int} {kvs : Ct} (h : TalAt C H t d r m o kvs) (s : Same H H') : TalAt C H' t d r m o kvs := by
  obtain ⟨⟨dx, e⟩, e2⟩ := h
  exact ⟨⟨dx, s _ _ e⟩, s _ _ e2⟩
/-- all but the tally stays -/
def But (t d : Addr) (H H' : Hp) : Prop := ∀ b u, b ≠ t → b ≠ d → H b = some u → H' b = some u
theorem But.refl (t d : Addr) (H : Hp) : But t d H H := fun _ _ _ _ e => e
theorem But.trans {t d : Addr} {H H1 H2 : Hp} (x : But t d H H1) (y : But t d H1 H2) : But t d H H2 := fun b u n1 n2 e => y b u n1 n2 (x b u n1 n2 e)
theorem But.same {t d : Addr} {H H1 H2 : Hp} (x : But t d H H1) (y : Same H1 H2) : But t d H H2 := fun b u n1 n2 e => y b u (x b u n1 n2 e)
theorem But.upT {t d : Addr} {H H1 : Hp} {u : HO} (x : But t d H H1) : But t d H (upd H1 t u) := fun b v n1 n2 e => by
  rw [upd_ne n1]
  exact x b v n1 n2 e
theorem But.upD {t d : Addr} {H H1 : Hp} {u : HO} (x : But t d H H1) : But t d H (upd H1 d u) := fun b v n1 n2 e => by
  rw [upd_ne n2]
  exact x b v n1 n2 e
theorem But.new {t d p : Addr} {H H1 : Hp} {u : HO} (x : But t d H H1) (h : H1 p = none) : But t d H (upd H1 p u) := x.same (same_upd h)
/-- of the class, as the top has made it -/
structure Tal (K : PySem.W.Frag) (mg : Str → Option Value) where
  C : Addr
  fI : Addr
  fS : Addr
  fF : Addr
  fP : Addr
  fT : Addr
  dI : FuncData
  dS : FuncData
  dF : FuncData
  dP : FuncData
  dT : FuncData
  FI : Fun K "__init__" "Tally.__init__" sTinit fI dI
  FS : Fun K "sketch" "Tally.sketch" sTsketch fS dS
  FF : Fun K "gain" "Tally.gain" sTfeed fF dF
  FP : Fun K "pour" "Tally.pour" sTpour fP dP
  FT : Fun K "_take" "Tally._take" sTtake fT dT
  bI : Binds K dI ["self", "sketch"] []
  bS : Binds K dS ["self"] []
  bF : Binds K dF ["self", "name", "times"] []
  bP : Binds K dP ["self", "sketch"] []
  bT : Binds K dT ["self", "amount"] []
  mI : Mk K C fI
  mS : Meth K C "sketch" fS
  mF : Meth K C "gain" fF
  mP : Meth K C "pour" fP
  mT : Meth K C "_take" fT
  cl : Cls K C
  nR : NoAttr K C "room"
  nM : NoAttr K C "seen"
  nO : NoAttr K C "off"
  nC : NoAttr K C "counts"
  g : mg "Tally" = some (.ref C)
theorem ents_paired {K : PySem.W.Frag} {H : Hp} : ∀ {ts : List Addr} {kvs : Ct}, Paired (PrAt K H) ts kvs → Paired (fun p kv => SqT K H p [kV kv.1, kv.2]) ts (kvs.map entZ)
  | _, _, .nil => .nil
  | _, _, .cons h t => .cons h (ents_paired t)
theorem seq_upd {K : PySem.W.Frag} {H : Hp} {a t : Addr} {xs : List V} {C dx : Addr} {fs : List (Str × V)} {u : HO} (h : SqT K H a xs) (ht : H t = some (.ins C dx fs)) : SqT K (upd H t u) a xs := by
  rcases h with (h | ⟨o, h⟩) | h
  · exact .inl (.inl (by rw [upd_ne (ne_of h ht (by intro z; cases z))]; exact h))
  · exact .inl (.inr ⟨o, by rw [upd_ne (ne_of h ht (by intro z; cases z))]; exact h⟩)
  · exact .inr h
theorem prs_upd {K : PySem.W.Frag} {H : Hp} {t : Addr} {C dx : Addr} {fs : List (Str × V)} {u : HO} (ht : H t = some (.ins C dx fs)) : ∀ {ts : List Addr} {kvs : Ct}, Paired (PrAt K H) ts kvs → Paired (PrAt K (upd H t u)) ts kvs
  | _, _, .nil => .nil
  | _, _, .cons h q => .cons (seq_upd h ht) (prs_upd ht q)
section
variable {P : Program} {w : World} {K : PySem.W.Frag} {mg : Str → Option Value} {base : Heap}
/-! Tally.__init__ -/
def spTinit (K : PySem.W.Frag) (C : Addr) : Sp := fun vs H Q _ => ∃ (t dx s k : Addr) (r m o : Int) (ts : List Addr) (kvs : Ct), vs = [.ref t, .ref s] ∧ H t = some (.ins C dx []) ∧ SqT K H s [.int r, .int m, .int o, .ref k] ∧ Ptp H k (ts.map V.ref) ∧ Paired (PrAt K H) ts kvs ∧ NdZ kvs ∧
  ∀ H' d, (∀ b u, b ≠ t → H b = some u → H' b = some u) → H d = none → TalAt C H' t d r m o kvs → Q .non H'
theorem ok_Tinit (T : Blt mg) (L : Tal K mg) : FnOk P w K mg base CX0 1 L.fI L.dI ["self", "sketch"] (spTinit K L.C) := by
  refine L.FI.ok scTinit (fun vs H Q E h => ?_) (fun cdv A outer s H vs Q E hr h => ?_)
  · obtain ⟨t, dx, s, k, r, m, o, ts, kvs, rfl, _⟩ := h
    rfl
  · obtain ⟨t, dx, s, k, r, m, o, ts, kvs, rfl, ht, hs, hk, hp, nd, q⟩ := h
    refine ⟨_, (pss_cons (ps_asg (pv 1) (pg_tup (by rfl) (pgs_cons (pg_fld (pv 0)) (pgs_cons (pg_fld (pv 0)) (pgs_cons (pg_fld (pv 0)) (pgs_cons (pg_name (i := 2) scTinit.nd rfl (Or.inl rfl)) pgs_nil))))))
    (pss_one (ps_fld (pv 0) (pe_callTy (call_dictPT rfl) (by rfl) T.n_dict (by decide +kernel) (pa_cons (pv 2) pa_nil)) rfl))), ?_⟩
    have kt : k ≠ t := by
      obtain ⟨ob, e, _⟩ := hk
      exact ne_of e ht (by intro z; cases z)
    refine ⟨.ref s, rfl, s, _, rfl, hs, rfl, _, _, rfl, .ref t, rfl, t, L.C, dx, _, rfl, ht, L.cl, L.nR, (by show 0 < 1000; decide), ?_⟩
    refine ⟨_, _, rfl, .ref t, rfl, t, L.C, dx, _, rfl, upd_same, L.cl, L.nM, (by show 1 < 1000; decide), ?_⟩
    have l2 : (putF "seen" (V.int m) (putF "room" (V.int r) [])).length < 1000 := by
      show (if ("room" : Str) = "seen" then _ else (("room" : Str), V.int r) :: [(("seen" : Str), V.int m)]).length < 1000
      rw [if_neg k_mr]
      show 2 < 1000
      decide
    have l3 : (putF "off" (V.int o) (putF "seen" (V.int m) (putF "room" (V.int r) []))).length < 1000 := by
      show (putF "off" (V.int o) (if ("room" : Str) = "seen" then _ else (("room" : Str), V.int r) :: [(("seen" : Str), V.int m)])).length < 1000
      rw [if_neg k_mr]
      show (if ("room" : Str) = "off" then _ else (("room" : Str), V.int r) :: (if ("seen" : Str) = "off" then _ else (("seen" : Str), V.int m) :: [(("off" : Str), V.int o)])).length < 1000
      rw [if_neg k_or, if_neg k_om]
      show 3 < 1000
      decide
    refine ⟨_, _, rfl, .ref t, rfl, t, L.C, dx, _, rfl, upd_same, L.cl, L.nO, l2, ?_⟩
    rw [upd_upd, upd_upd]
    refine ⟨_, _, rfl, rfl, .ref k, rfl, k, ts, kvs.map entZ, rfl, hk.upd kt, ents_paired (prs_upd ht hp), fun d nd2 => ?_⟩
    have td : t ≠ d := ne_of_none upd_same nd2
    have nd0 : H d = none := by rw [upd_ne td.symm] at nd2; exact nd2
    refine ⟨.ref t, rfl, t, L.C, dx, _, rfl, (by rw [upd_ne td]; exact upd_same), L.cl, L.nC, l3, ?_⟩
    rw [fl_mk, show mergeK [] (kvs.map entZ) = kvs.map entZ from mergeZ kvs [] nd]
    refine q _ d (fun b u hb e => ?_) nd0 ⟨⟨dx, upd_same⟩, by rw [upd_ne td.symm]; exact upd_same⟩
    rw [upd_ne hb, upd_ne (ne_of_none e nd0), upd_ne hb]
    exact e
end
end Kb

namespace L2
section
variable {J : It} {n : Nat} {G : Hp → Prop} {Y : Nat → Hp → V → Hp → Prop}
/-- a dict comprehension over a walk -/
theorem dc_it (w : Walk J n G Y) {g : TG} {tt : TT} {tk tv : TE} {vs : List Nat} {σ : St} {H1 : Hp} {D : PySem.Addr} {Qd : Hp → Prop} (Pv : Nat → Hp → Prop) (h0 : Pv 0 (upd H1 D (.dK []))) (hG : ∀ i H, i ≤ n → Pv i H → G H)
    (hs : ∀ i x H H', i < n → Pv i H → Y i H x H' → g x (wipe σ vs) H' fun σ2 H2 => wipe σ2 vs = wipe σ vs ∧ tt σ2 H2 fun b H3 =>
      if b = true then tk σ2 H3 fun y H4 => tv σ2 H4 fun z H5 => ∃ kvs k, y = kV k ∧ H5 D = some (.dK kvs) ∧ kvs.length < PySem.sizeLine ∧ Pv (i + 1) (upd H5 D (.dK (putK kvs k z))) else Pv (i + 1) H3) (hd : ∀ H, Pv n H → Qd H) :
    ∃ W : Nat → Nat → Hp → Prop, (∃ m, W 0 m (upd H1 D (.dK []))) ∧ ∀ i m H, W i m H →
      (J.stop i H ∧ Qd H) ∨ (J.go i H ∧ ∃ Nx : Hp → Prop, (∀ H', Nx H' → ∃ m', m' < m ∧ W (i + 1) m' H') ∧ ∀ x H', J.yld i H x H' → g x (wipe σ vs) H' fun σ2 H2 => wipe σ2 vs = wipe σ vs ∧ tt σ2 H2 fun b H3 =>
        if b = true then tk σ2 H3 fun y H4 => tv σ2 H4 fun z H5 => ∃ kvs k, y = kV k ∧ H5 D = some (.dK kvs) ∧ kvs.length < PySem.sizeLine ∧ Nx (upd H5 D (.dK (putK kvs k z))) else Nx H3) := by
  refine ⟨fun i m H => m = n - i ∧ i ≤ n ∧ Pv i H, ⟨n, by simp, Nat.zero_le _, h0⟩, ?_⟩
  rintro i m H ⟨rfl, hi, p⟩
  have q := hG i H hi p
  by_cases hlt : i < n
  · refine .inr ⟨w.goes i H hlt q, Pv (i + 1), fun H' p' => ⟨n - (i + 1), by omega, rfl, hlt, p'⟩, fun x H' y => hs i x H H' hlt p (w.yields i H x H' hlt q y)⟩
  · have e : i = n := by omega
    subst e
    exact .inl ⟨w.stops H q, hd H p⟩
end
end L2
namespace Kb
open PySem PySem.Spec PyProof.Rows L2 SrtZ SrtO
def Asc (kvs : Ct) : Prop := kvs.Pairwise fun a b => ltZ a.1 b.1 = true
/-- sorted, names unlike: ascending -/
theorem asc_of {ys kvs : Ct} (h : Srtd lexZ ys) (p : ys.Perm kvs) (nd : NdZ kvs) : Asc ys := by
  have nd2 : (ys.map (·.1)).Nodup := (p.map (·.1)).nodup_iff.mpr nd
  rw [List.Nodup, List.pairwise_map] at nd2
  refine List.Pairwise.imp₂ (fun {a b} h1 h2 => ?_) h nd2
  rw [lexZ_ne (fun e => h2 e.symm)] at h1
  rcases bcase (ltZ a.1 b.1) with q | q
  · exact q
  · exact absurd (ltZ_tri q h1) h2
theorem asc_uniq {xs ys : Ct} (hx : Asc xs) (hy : Asc ys) (p : xs.Perm ys) : xs = ys :=
  List.Perm.eq_of_pairwise (le := fun (a b : Str × Int) => ltZ a.1 b.1 = true) (fun a b _ _ h1 h2 => by
    have := ltZ_asym h1
    rw [h2] at this
    cases this) hx hy p
theorem putZ_snoc {kvs : Ct} {n : Str} {v : Int} (h : n ∉ kvs.map (·.1)) : putZ kvs n v = kvs ++ [(n, v)] := putZ_new (getZ_none.mpr h)
theorem takeZ_snoc (a : Int) (kvs : Ct) (e : Str × Int) : takeZ a (kvs ++ [e]) = takeZ a kvs ++ (if a < e.2 then [(e.1, e.2 - a)] else []) := by
  unfold takeZ
  rw [List.filter_append, List.map_append]
  by_cases h : a < e.2
  · rw [if_pos h, List.filter_cons_of_pos (by simpa using h)]
    rfl
  · rw [if_neg h, List.filter_cons_of_neg (by simpa using h)]
    rfl
theorem takeZ_keys {a : Int} {kvs : Ct} {n : Str} (h : n ∈ (takeZ a kvs).map (·.1)) : n ∈ kvs.map (·.1) := by
  unfold takeZ at h
  rw [List.map_map] at h
  obtain ⟨e, he, rfl⟩ := List.mem_map.mp h
  exact List.mem_map.mpr ⟨e, (List.mem_filter.mp he).1, rfl⟩
section
variable {P : Program} {w : World} {K : PySem.W.Frag} {mg : Str → Option Value} {base : Heap}
/-! Tally.sketch -/
def spTsketch (C : Addr) : Sp := fun vs H Q _ => ∃ (t d : Addr) (r m o : Int) (kvs : Ct), vs = [.ref t] ∧ TalAt C H t d r m o kvs ∧ NdZ kvs ∧ kvs.length ≤ 1000 ∧
  ∀ H' s k (ys : Ct) (ts : List Addr), Same H H' → H s = none → H' s = some (.tup [.int r, .int m, .int o, .ref k]) → Ptp H' k (ts.map V.ref) → Paired (fun (t : Addr) (y : Str × Int) => H' t = some (.tup [.str y.1, .int y.2])) ts ys → ys.Perm kvs → Asc ys → Q (.ref s) H'
theorem ok_Tsketch (T : Blt mg) (L : Tal K mg) : FnOk P w K mg base CX0 1 L.fS L.dS ["self"] (spTsketch L.C) := by
  refine L.FS.ok scTsketch (fun vs H Q E h => ?_) (fun cdv A outer s H vs Q E hr h => ?_)
  · obtain ⟨t, d, r, m, o, kvs, rfl, _⟩ := h
    rfl
  · obtain ⟨t, d, r, m, o, kvs, rfl, ta, nd, hl, q⟩ := h
    refine ⟨_, (pss_one (ps_ret (pe_tup (pa_cons (pe_fld (pv 0) rfl) (pa_cons (pe_fld (pv 0) rfl) (pa_cons (pe_fld (pv 0) rfl) (pa_cons (pe_callTy call_tupleF (by rfl) T.n_tuple (by decide +kernel) (pa_cons (pe_callB (cr_sortedIZ rfl) (by rfl) T.n_sorted (by decide +kernel) (pa_cons (pe_bm0 PySem.F.plainAttrs_dict PySem.F.slot_dict_items PySem.F.type_dict_items mt_itemsK (pe_fld (pv 0) rfl)) pa_nil)) pa_nil)) pa_nil))))))), ?_⟩
    obtain ⟨⟨dx, ht⟩, hd⟩ := id ta
    refine ⟨.ref t, rfl, t, L.C, dx, _, _, rfl, ht, L.cl, L.nR, g_room _ _ _ _, .ref t, rfl, t, L.C, dx, _, _, rfl, ht, L.cl, L.nM, g_many _ _ _ _, .ref t, rfl, t, L.C, dx, _, _, rfl, ht, L.cl, L.nO, g_off _ _ _ _, ?_⟩
    refine ⟨.ref t, rfl, t, L.C, dx, _, _, rfl, ht, L.cl, L.nC, g_counts _ _ _ _, .inr (.inr (.inl ⟨rfl, .inl ⟨_, hd⟩⟩)), d, _, rfl, rfl, hd, fun p np => ?_⟩
    refine ⟨p, d, kvs, rfl, upd_same, (by rw [upd_ne (ne_of_none hd np)]; exact hd), fun H1 l ys ts s1 nl nts lts pm so hl1 hts => ?_⟩
    refine ⟨l, _, rfl, sql hl1, fun k ob nk ho => ⟨(by show 4 ≤ sizeLine; decide), fun s ns => ?_⟩⟩
    have sa : Same H (upd H p (DX.itemsO p d)) := same_upd np
    have sb : Same H H1 := fun b u e => s1 b u (sa b u e)
    have sc : Same H (upd H1 k (.frz ob (.tup (ts.map V.ref)))) := Same.new sb nk
    refine q _ s k ys ts (Same.new sc ns) (Same.gone sc ns) upd_same ⟨ob, ?_, ho⟩ ?_ pm (asc_of so pm nd)
    · rw [upd_ne (ne_of_none upd_same ns)]
      exact upd_same
    · have : ∀ {ts : List Addr} {ys : Ct}, Paired (fun (t : Addr) (y : Str × Int) => H1 t = some (.tup [.str y.1, .int y.2])) ts ys → Paired (fun (t : Addr) (y : Str × Int) => (upd (upd H1 k (.frz ob (.tup (ts.map V.ref)))) s (.tup [.int r, .int m, .int o, .ref k])) t = some (.tup [.str y.1, .int y.2])) ts ys := by
        intro ts ys h
        have gen : ∀ (u : HO) (ns' : (upd H1 k u) s = none) (v : HO) {ts : List Addr} {ys : Ct}, Paired (fun (t : Addr) (y : Str × Int) => H1 t = some (.tup [.str y.1, .int y.2])) ts ys → Paired (fun (t : Addr) (y : Str × Int) => (upd (upd H1 k u) s v) t = some (.tup [.str y.1, .int y.2])) ts ys := by
          intro u ns' v ts ys h
          induction h with
          | nil => exact .nil
          | cons h _ ih => exact .cons ((Same.new (same_upd nk) ns') _ _ h) ih
        exact gen _ (by
          have e : s ≠ k := (ne_of_none upd_same ns).symm
          rw [upd_ne e] at ns ⊢
          exact ns) _ h
      exact this hts
/-! Tally._take -/
def spTtake (C : Addr) : Sp := fun vs H Q _ => ∃ (t d : Addr) (r m o a : Int) (kvs : Ct), vs = [.ref t, .int a] ∧ TalAt C H t d r m o kvs ∧ NdZ kvs ∧ kvs.length ≤ 1000 ∧
  ∀ H' d', But t d H H' → H d' = none → TalAt C H' t d' r m (o + a) (takeZ a kvs) → Q .non H'
theorem ok_Ttake (T : Blt mg) (L : Tal K mg) : FnOk P w K mg base CX0 1 L.fT L.dT ["self", "amount"] (spTtake L.C) := by
  refine L.FT.ok scTtake (fun vs H Q E h => ?_) (fun cdv A outer s H vs Q E hr h => ?_)
  · obtain ⟨t, d, r, m, o, a, kvs, rfl, _⟩ := h
    rfl
  · obtain ⟨t, d, r, m, o, a, kvs, rfl, ta, nd, hl, q⟩ := h
    refine ⟨_, (pss_cons (ps_fldaug (pv 0) (pv 1) in_add)
    (pss_one (ps_fld (pv 0) (pe_lock (pe_dc rfl scTtake.nd (own := [("name", 2), ("count", 3)]) (g := gTup K 2 (gCons (gName 2) (gCons (gName 3) gNil))) (pi_items (pe_fld (pv 0) rfl)) (blkOk_by (N := NTtake) (sc := defScope sTtake) (by decide +kernel)) (fun _ _ _ _ _ => pg_tup (by rfl) (pgs_cons (pg_name (i := 2) scTtake.nd rfl (Or.inl rfl)) (pgs_cons (pg_name (i := 3) scTtake.nd rfl (Or.inl rfl)) pgs_nil))) (fun _ _ _ _ _ => pts_one (pt_cmpR op_gt (pv 3) (pv 1) (nomark _))) (fun _ _ _ _ _ => (pv 2)) (fun _ _ _ _ _ => (pe_op op_sub (pv 3) (pv 1))))) rfl))), ?_⟩
    obtain ⟨⟨dx, ht⟩, hd⟩ := id ta
    have td := ta.ne
    refine ⟨.ref t, rfl, t, L.C, dx, _, _, rfl, ht, L.cl, L.nO, g_off _ _ _ _, .int a, rfl, _, _, rfl, rfl, dx, _, ht, (by show 4 < 1000; decide), ?_⟩
    rw [fl_off]
    have hd1 : (upd H t (.ins L.C dx (fl r m (o + a) d))) d = some (.dK (kvs.map entZ)) := by rw [upd_ne td.symm]; exact hd
    refine ⟨d, _, hd1, trivial, fun od => ⟨.ref t, rfl, t, L.C, dx, _, _, rfl, (by rw [upd_ne td]; exact upd_same), L.cl, L.nC, g_counts _ _ _ _, d, od, kvs.map entZ, rfl, upd_same, fun D nD => ?_⟩⟩
    have tD : t ≠ D := ne_of_none (by rw [upd_ne td]; exact upd_same) nD
    have dD : d ≠ D := ne_of_none upd_same nD
    generalize hHl : upd (upd H t (.ins L.C dx (fl r m (o + a) d))) d (.frz od (.dK (kvs.map entZ))) = Hl at nD ⊢
    have hlt : Hl t = some (.ins L.C dx (fl r m (o + a) d)) := by rw [← hHl, upd_ne td]; exact upd_same
    have hld : Hl d = some (.frz od (.dK (kvs.map entZ))) := by rw [← hHl]; exact upd_same
    refine dc_it (walk_items (kvs := kvs.map entZ)) (fun i H3 => (∀ b u, b ≠ D → Hl b = some u → H3 b = some u) ∧ H3 D = some (.dK ((takeZ a (kvs.take i)).map entZ))) ⟨fun b u n e => by rw [upd_ne n]; exact e, upd_same⟩ (fun i H3 _ h3 => h3.1 d _ dD hld) (fun i x H3 H4 hi h3 y => ?_) (fun H3 h3 => ?_)
    · obtain ⟨Tp, x1, y1, rfl, nT, rfl, hx, hy⟩ := y
      dsimp only at hx hy
      rw [List.length_map] at hi
      have he : kvs[i]? = some kvs[i] := List.getElem?_eq_getElem hi
      generalize kvs[i] = e at he
      have hx1 : x1 = .str e.1 := by
        rw [List.getElem?_map, he] at hx
        exact (Option.some.inj hx).symm
      have hy1 : y1 = .int e.2 := by
        rw [List.getElem?_map, he] at hy
        exact (Option.some.inj hy).symm
      subst hx1 hy1
      have TD : Tp ≠ D := (ne_of_none h3.2 nT).symm
      refine ⟨Tp, _, rfl, .inl (.inl upd_same), rfl, _, _, rfl, _, _, rfl, rfl, rfl, .int e.2, rfl, .int a, rfl, _, _, rfl, rfl, _, rfl, ?_⟩
      have tk := takeZ_snoc a (kvs.take i) e
      have te : kvs.take (i + 1) = kvs.take i ++ [e] := by rw [List.take_add_one, he]; rfl
      refine ite2 (fun hgt => ?_) (fun hgt => ?_)
      · have hga : a < e.2 := of_decide_eq_true hgt
        refine ⟨.str e.1, rfl, .int e.2, rfl, .int a, rfl, _, _, rfl, rfl, _, Sum.inr e.1, rfl, (by rw [upd_ne TD.symm]; exact h3.2), ?_, fun b u nb e' => ?_, ?_⟩
        · rw [List.length_map, sizeLine_eq]
          have := takeZ_len (a := a) (kvs := kvs.take i)
          rw [List.length_take] at this
          omega
        · rw [upd_ne nb]
          by_cases hb : b = Tp
          · subst hb
            have := h3.1 b u nb e'
            rw [nT] at this
            cases this
          · rw [upd_ne hb]
            exact h3.1 b u nb e'
        · rw [upd_same, putZ_put, putZ_snoc, te, tk, if_pos hga]
          intro z
          have z2 := takeZ_keys z
          have nd2 := nd
          unfold NdZ at nd2
          rw [← List.take_append_drop i kvs, List.map_append, List.nodup_append] at nd2
          refine nd2.2.2 _ z2 e.1 (List.mem_map.mpr ⟨e, ?_, rfl⟩) rfl
          rw [List.drop_eq_getElem_cons hi]
          have := (List.getElem?_eq_some_iff.mp he).2
          rw [this]
          exact List.mem_cons_self
      · have hga : ¬ a < e.2 := fun z => hgt (decide_eq_true z)
        refine ⟨fun b u nb e' => ?_, ?_⟩
        · by_cases hb : b = Tp
          · subst hb
            have := h3.1 b u nb e'
            rw [nT] at this
            cases this
          · rw [upd_ne hb]
            exact h3.1 b u nb e'
        · rw [upd_ne TD.symm, te, tk, if_neg hga, List.append_nil]
          exact h3.2
    · have h3t := h3.1 t _ tD hlt
      have h3d := h3.1 d _ dD hld
      refine ⟨h3d, .ref t, rfl, t, L.C, dx, _, rfl, (by rw [upd_ne td]; exact h3t), L.cl, L.nC, (by show 4 < 1000; decide), ?_⟩
      rw [fl_counts]
      have h3D : H3 D = some (.dK ((takeZ a kvs).map entZ)) := by
        have := h3.2
        rw [List.length_map, List.take_length] at this
        exact this
      have nD0 : H D = none := by
        rw [← hHl, upd_ne dD.symm, upd_ne tD.symm] at nD
        exact nD
      refine q _ D (fun b u n1 n2 e => ?_) nD0 ⟨⟨dx, upd_same⟩, by rw [upd_ne tD.symm, upd_ne dD.symm]; exact h3D⟩
      rw [upd_ne n1, upd_ne n2]
      refine h3.1 b u (ne_of_none e nD0) ?_
      rw [← hHl, upd_ne n2, upd_ne n1]
      exact e
end
end Kb

namespace Kb
open PySem PySem.Spec PyProof.Rows L2 SrtZ SrtO
/-- the least count -/
def mnC : Ct → Int
  | [] => 0
  | [e] => e.2
  | e :: r => if e.2 ≤ mnC r then e.2 else mnC r
theorem mnC_spec : ∀ {kvs : Ct}, kvs ≠ [] → mnC kvs ∈ kvs.map (·.2) ∧ ∀ y ∈ kvs.map (·.2), mnC kvs ≤ y
  | [], h => absurd rfl h
  | [e], _ => ⟨by simp [mnC], fun y hy => by
    have : y = e.2 := by simpa using hy
    rw [this]
    exact Int.le_refl _⟩
  | e :: f :: r, _ => by
    obtain ⟨h1, h2⟩ := mnC_spec (kvs := f :: r) (by simp)
    show (if e.2 ≤ mnC (f :: r) then e.2 else mnC (f :: r)) ∈ _ ∧ ∀ y ∈ _, (if e.2 ≤ mnC (f :: r) then e.2 else mnC (f :: r)) ≤ y
    by_cases h : e.2 ≤ mnC (f :: r)
    · rw [if_pos h]
      refine ⟨by simp, fun y hy => ?_⟩
      rw [List.map_cons] at hy
      rcases List.mem_cons.mp hy with rfl | hy
      · exact Int.le_refl _
      · exact Int.le_trans h (h2 y hy)
    · rw [if_neg h]
      refine ⟨by rw [List.map_cons]; exact List.mem_cons_of_mem _ h1, fun y hy => ?_⟩
      rw [List.map_cons] at hy
      rcases List.mem_cons.mp hy with rfl | hy
      · omega
      · exact h2 y hy
theorem mnC_uniq {kvs : Ct} {m : Int} (h : m ∈ kvs.map (·.2)) (hm : ∀ y ∈ kvs.map (·.2), m ≤ y) : m = mnC kvs := by
  have ne : kvs ≠ [] := by
    rintro rfl
    simp at h
  obtain ⟨h1, h2⟩ := mnC_spec ne
  have a := h2 _ h
  have b := hm _ h1
  omega
/-- what a tally holds: many, off, counts -/
structure Tl where
  m : Int
  o : Int
  c : Ct
def full (r : Int) (n : Str) (kvs : Ct) : Bool := !(getZ kvs n).isSome && decide ((kvs.length : Int) = r)
def feedT (r : Int) (n : Str) (c : Int) (x : Tl) : Tl :=
  if full r n x.c = true then
    let a := if mnC x.c < c then mnC x.c else c
    ⟨x.m + c, x.o + a, if 0 < c - a then addZ (takeZ a x.c) n (c - a) else takeZ a x.c⟩
  else ⟨x.m + c, x.o, if 0 < c then addZ x.c n c else x.c⟩
def sumsZ (more kvs : Ct) : Ct := more.foldl (fun a e => addZ a e.1 e.2) kvs
def fallZ (kvs : Ct) (r : Int) : Int := ((kvs.map (·.2)).mergeSort (fun a b => decide (b ≤ a))).getD r.toNat 0
def pourT (r : Int) (y x : Tl) : Tl :=
  let all := sumsZ y.c x.c
  if r < (all.length : Int) then ⟨x.m + y.m, x.o + y.o + fallZ all r, takeZ (fallZ all r) all⟩ else ⟨x.m + y.m, x.o + y.o, all⟩
theorem fall_uniq {kvs : Ct} {ns : List Int} (p : ns.Perm (kvs.map (·.2))) (h : ns.Pairwise (· ≥ ·)) : ns = (kvs.map (·.2)).mergeSort (fun a b => decide (b ≤ a)) := by
  refine List.Perm.eq_of_pairwise (le := fun (a b : Int) => b ≤ a) (fun a b _ _ h1 h2 => Int.le_antisymm h2 h1) h ?_ (p.trans (List.mergeSort_perm _ _).symm)
  have := List.pairwise_mergeSort (le := fun (a b : Int) => decide (b ≤ a)) (fun a b c h1 h2 => by simp at *; omega) (fun a b => by simp; omega) (kvs.map (·.2))
  exact this.imp fun h => of_decide_eq_true h
theorem addZ_nd {kvs : Ct} {n : Str} {c : Int} (nd : NdZ kvs) : NdZ (addZ kvs n c) := putZ_nd nd
theorem addZ_len {kvs : Ct} {n : Str} {c : Int} : (addZ kvs n c).length ≤ kvs.length + 1 := putZ_len
theorem sumsZ_nd : ∀ {more kvs : Ct}, NdZ kvs → NdZ (sumsZ more kvs)
  | [], _, h => h
  | e :: r, kvs, h => sumsZ_nd (more := r) (addZ_nd (n := e.1) (c := e.2) h)
theorem sumsZ_len : ∀ {more kvs : Ct}, (sumsZ more kvs).length ≤ kvs.length + more.length
  | [], kvs => Nat.le_refl _
  | e :: r, kvs => by
    have h := sumsZ_len (more := r) (kvs := addZ kvs e.1 e.2)
    have h2 := addZ_len (kvs := kvs) (n := e.1) (c := e.2)
    show (sumsZ r (addZ kvs e.1 e.2)).length ≤ kvs.length + (r.length + 1)
    omega
theorem sumsZ_snoc {more kvs : Ct} {i : Nat} {e : Str × Int} (h : more[i]? = some e) : sumsZ (more.take (i + 1)) kvs = addZ (sumsZ (more.take i) kvs) e.1 e.2 := by
  unfold sumsZ
  rw [List.take_add_one, h, List.foldl_append]
  rfl
section
variable {P : Program} {w : World} {K : PySem.W.Frag} {mg : Str → Option Value} {base : Heap}
/-! Tally.feed -/
def spTfeed (C : Addr) : Sp := fun vs H Q _ => ∃ (t d : Addr) (r c : Int) (n : Str) (x : Tl), vs = [.ref t, .str n, .int c] ∧ TalAt C H t d r x.m x.o x.c ∧ NdZ x.c ∧ x.c.length ≤ 500 ∧ 1 ≤ r ∧
  ∀ H' d', But t d H H' → (d' = d ∨ H d' = none) → TalAt C H' t d' r (feedT r n c x).m (feedT r n c x).o (feedT r n c x).c → Q .non H'
theorem ok_Tfeed (T : Blt mg) (L : Tal K mg) : FnOk P w K mg base CX0 2 L.fF L.dF ["self", "name", "times"] (spTfeed L.C) := by
  have G_take : FnOk P w K mg base CX0 1 L.fT L.dT ["self", "amount"] (spTtake L.C) := ok_Ttake T L
  refine L.FF.ok scTfeed (fun vs H Q E h => ?_) (fun cdv A outer s H vs Q E hr h => ?_)
  · obtain ⟨t, d, r, c, n, x, rfl, _⟩ := h
    rfl
  · obtain ⟨t, d, r, c, n, ⟨m, o, kvs⟩, rfl, ta, nd, hl, hr1, q⟩ := h
    dsimp only at ta nd hl q
    have hu := hu_of hr
    refine ⟨_, (pss_cons (ps_fldaug (pv 0) (pv 2) in_add)
    (C8.pss_cut (ps_if (PW.pt (pw_and (pt_cmp (pc_dnotin hu (pv 1) (pe_fld (pv 0) rfl))) (pw_and1 (pt_cmpR op_eq (pe_callB call_lenD (by rfl) T.n_len (by decide +kernel) (pa_cons (pe_fld (pv 0) rfl) pa_nil)) (pe_fld (pv 0) rfl) (nomark _)))))
      (pss_cons (ps_set (i := 3) scTfeed.nd rfl (Or.inl rfl) (pe_callB (call_min2 rfl) (by rfl) T.n_min (by decide +kernel) (pa_cons (pv 2) (pa_cons (pe_callB (cr_minV rfl) (by rfl) T.n_min (by decide +kernel) (pa_cons (pe_bm0 PySem.F.plainAttrs_dict PySem.F.slot_dict_values PySem.F.type_dict_values mt_valuesK (pe_fld (pv 0) rfl)) pa_nil)) pa_nil))))
      (pss_cons (ps_expr (pe_meth (pv 0) L.cl L.mT G_take (hr.mono (by omega)) L.bT .nil pass0 (pa_cons (pv 3) pa_nil)))
      (pss_one (ps_aug (i := 2) scTfeed.nd rfl (Or.inl rfl) (pv 3) ip_sub))))
      pss_nil)
    (pss_one (ps_if (pt_cmpR op_gt (pv 2) pe_int (nomark _))
      (pss_one (ps_dput hu (pe_fld (pv 0) rfl) (pv 1) (pe_op op_add (pe_dget2 hu (pe_fld (pv 0) rfl) (pv 1) pe_int ⟨rfl, rfl, rfl, rfl⟩) (pv 2)) rfl))
      pss_nil)))), ?_⟩
    obtain ⟨⟨dx, ht⟩, hd⟩ := id ta
    have td := ta.ne
    refine ⟨.ref t, rfl, t, L.C, dx, _, _, rfl, ht, L.cl, L.nM, g_many _ _ _ _, .int c, rfl, _, _, rfl, rfl, dx, _, ht, (by show 4 < 1000; decide), ?_⟩
    rw [fl_many]
    have ta1 : TalAt L.C (upd H t (.ins L.C dx (fl r (m + c) o d))) t d r (m + c) o kvs := ⟨⟨dx, upd_same⟩, by rw [upd_ne td.symm]; exact hd⟩
    have bt1 : But t d H (upd H t (.ins L.C dx (fl r (m + c) o d))) := (But.refl t d H).upT
    generalize upd H t (.ins L.C dx (fl r (m + c) o d)) = H1 at ta1 bt1
    -- what stands behind the first if
    refine ⟨fun σ H2 => ∃ (d2 : Addr) (o2 c2 : Int) (kvs2 : Ct) (y : Option V), σ = [some (.ref t), some (.str n), some (.int c2), y] ∧ But t d H H2 ∧ (d2 = d ∨ H d2 = none) ∧ TalAt L.C H2 t d2 r (m + c) o2 kvs2 ∧ NdZ kvs2 ∧ kvs2.length ≤ 500 ∧
      feedT r n c ⟨m, o, kvs⟩ = ⟨m + c, o2, if 0 < c2 then addZ kvs2 n c2 else kvs2⟩, ?_, ?_⟩
    · obtain ⟨⟨dx1, ht1⟩, hd1⟩ := id ta1
      refine ⟨.str n, rfl, .ref t, rfl, t, L.C, dx1, _, _, rfl, ht1, L.cl, L.nC, g_counts _ _ _ _, d, _, rfl, DGet.k (k := Sum.inr n) hd1, _, rfl, ?_⟩
      rw [getZ_val]
      have stay : full r n kvs = false → ∃ (d2 : Addr) (o2 c2 : Int) (kvs2 : Ct) (y : Option V), [some (V.ref t), some (V.str n), some (V.int c), none] = [some (.ref t), some (.str n), some (.int c2), y] ∧ But t d H H1 ∧ (d2 = d ∨ H d2 = none) ∧ TalAt L.C H1 t d2 r (m + c) o2 kvs2 ∧ NdZ kvs2 ∧ kvs2.length ≤ 500 ∧
          feedT r n c ⟨m, o, kvs⟩ = ⟨m + c, o2, if 0 < c2 then addZ kvs2 n c2 else kvs2⟩ := fun hf => ⟨d, o, c, kvs, none, rfl, bt1, .inl rfl, ta1, nd, hl, by unfold feedT; rw [if_neg (by rw [hf]; decide)]⟩
      cases hg : getZ kvs n with
      | some v =>
        refine iteF ?_
        exact stay (by unfold full; rw [hg]; rfl)
      | none =>
        refine iteT ⟨.ref t, rfl, t, L.C, dx1, _, _, rfl, ht1, L.cl, L.nC, g_counts _ _ _ _, d, _, rfl, hd1, .ref t, rfl, t, L.C, dx1, _, _, rfl, ht1, L.cl, L.nR, g_room _ _ _ _, rfl, _, rfl, ?_⟩
        rw [List.length_map]
        by_cases hfull : (kvs.length : Int) = r
        · have hf : full r n kvs = true := by
            unfold full
            rw [hg, decide_eq_true hfull]
            rfl
          rw [show decide (V.int (kvs.length : Int) = V.int r) = true from decide_eq_true (by rw [hfull])]
          refine iteT ?_
          have hne : kvs ≠ [] := by
            rintro rfl
            have : (0 : Int) = r := hfull
            omega
          refine ⟨.int c, rfl, .ref t, rfl, t, L.C, dx1, _, _, rfl, ht1, L.cl, L.nC, g_counts _ _ _ _, .inr (.inr (.inl ⟨rfl, .inl ⟨_, hd1⟩⟩)), d, _, rfl, rfl, hd1, fun p np => ?_⟩
          refine ⟨p, d, kvs, rfl, upd_same, (by rw [upd_ne (ne_of_none hd1 np)]; exact hd1), List.length_pos_iff.mpr hne, fun mn h1 h2 => ?_⟩
          have emn := mnC_uniq h1 h2
          subst emn
          refine ⟨_, _, rfl, ?_⟩
          generalize ha : (if mnC kvs < c then mnC kvs else c) = a
          have ta2 : TalAt L.C (upd H1 p (valuesO p d)) t d r (m + c) o kvs := ta1.same (same_upd np)
          obtain ⟨⟨dx2, ht2⟩, _⟩ := id ta2
          refine ⟨.ref t, rfl, t, dx2, _, rfl, ht2, g_no _ _ _ _ (by decide +kernel) (by decide +kernel) (by decide +kernel) (by decide +kernel), .int a, rfl, t, d, r, m + c, o, a, kvs, rfl, ta2, nd, (by omega), fun H3 d3 b3 nd3 ta3 => ?_⟩
          refine ⟨.int c, rfl, .int a, rfl, _, _, rfl, rfl, d3, o + a, c - a, takeZ a kvs, some (.int a), rfl, ?_, .inr ?_, ta3, takeZ_nd nd, Nat.le_trans takeZ_len hl, ?_⟩
          · exact (bt1.new np).trans b3
          · have nd4 : H1 d3 = none := Same.gone (same_upd np) nd3
            cases e : H d3 with
            | none => rfl
            | some u =>
              by_cases e1 : d3 = t
              · subst e1
                rw [ht1] at nd4
                cases nd4
              · by_cases e2 : d3 = d
                · subst e2
                  rw [hd1] at nd4
                  cases nd4
                · have := bt1 d3 u e1 e2 e
                  rw [nd4] at this
                  cases this
          · unfold feedT
            rw [if_pos hf]
            dsimp only
            rw [ha]
        · have hf : full r n kvs = false := by
            unfold full
            rw [hg, decide_eq_false hfull]
            rfl
          rw [show decide (V.int (kvs.length : Int) = V.int r) = false from decide_eq_false (fun z => hfull (by injection z))]
          exact iteF (stay hf)
    · rintro σ H2 ⟨d2, o2, c2, kvs2, y, rfl, bt2, hd2, ta2, nd2, hl2, hf⟩
      rw [hf] at q
      dsimp only at q
      obtain ⟨⟨dx2, ht2⟩, hdd⟩ := id ta2
      have td2 := ta2.ne
      refine ⟨.int c2, rfl, _, _, rfl, rfl, _, rfl, ite2 (fun hp => ?_) fun hp => ?_⟩
      · have hp' : 0 < c2 := of_decide_eq_true hp
        rw [if_pos hp'] at q
        refine ⟨.ref t, rfl, t, L.C, dx2, _, _, rfl, ht2, L.cl, L.nC, g_counts _ _ _ _, d2, rfl, .inl ⟨_, .inl hdd⟩, .str n, rfl, _, DGet.k (k := Sum.inr n) hdd, ?_⟩
        rw [getZ_val]
        refine ⟨.int c2, rfl, (getZ kvs2 n).getD 0, c2, ?_, rfl, ?_⟩
        · cases getZ kvs2 n <;> rfl
        · refine ⟨.ref t, rfl, t, L.C, dx2, _, _, rfl, ht2, L.cl, L.nC, g_counts _ _ _ _, .str n, rfl, d2, _, rfl, DPut.k (k := Sum.inr n) hdd (by rw [List.length_map, sizeLine_eq]; omega), ?_⟩
          rw [putZ_put]
          refine q _ d2 (fun b u n1 n2 e => ?_) hd2 ⟨⟨dx2, by rw [upd_ne td2]; exact ht2⟩, upd_same⟩
          by_cases hb : b = d2
          · subst hb
            rcases hd2 with rfl | hd2
            · exact absurd rfl n2
            · rw [e] at hd2
              cases hd2
          · rw [upd_ne hb]
            exact bt2 b u n1 n2 e
      · have hp' : ¬ 0 < c2 := fun z => hp (decide_eq_true z)
        rw [if_neg hp'] at q
        exact q H2 d2 bt2 hd2 ta2
end
end Kb

namespace Kb
open PySem PySem.Spec PyProof.Rows L2 SrtZ SrtO
theorem seqT_but {K : PySem.W.Frag} {C : Addr} {H H' : Hp} {t d a : Addr} {r m o : Int} {kvs : Ct} {xs : List V} (h : SqT K H a xs) (ta : TalAt C H t d r m o kvs) (b : But t d H H') : SqT K H' a xs := by
  obtain ⟨⟨dx, ht⟩, hd⟩ := ta
  rcases h with (h | ⟨o, h⟩) | h
  · exact .inl (.inl (b a _ (ne_of h ht (by intro z; cases z)) (ne_of h hd (by intro z; cases z)) h))
  · exact .inl (.inr ⟨o, b a _ (ne_of h ht (by intro z; cases z)) (ne_of h hd (by intro z; cases z)) h⟩)
  · exact .inr h
theorem prs_but {K : PySem.W.Frag} {C : Addr} {H H' : Hp} {t d : Addr} {r m o : Int} {kvs : Ct} (ta : TalAt C H t d r m o kvs) (b : But t d H H') : ∀ {ts : List Addr} {ks : Ct}, Paired (PrAt K H) ts ks → Paired (PrAt K H') ts ks
  | _, _, .nil => .nil
  | _, _, .cons h q => .cons (seqT_but h ta b) (prs_but ta b q)
section
variable {P : Program} {w : World} {K : PySem.W.Frag} {mg : Str → Option Value} {base : Heap}
/-! Tally.pour -/
def spTpour (K : PySem.W.Frag) (C : Addr) : Sp := fun vs H Q _ => ∃ (t d s k : Addr) (r r2 : Int) (x y : Tl), vs = [.ref t, .ref s] ∧ TalAt C H t d r x.m x.o x.c ∧ NdZ x.c ∧ x.c.length ≤ 200 ∧ SqT K H s [.int r2, .int y.m, .int y.o, .ref k] ∧ CtAt K H k y.c ∧ y.c.length ≤ 200 ∧ 0 ≤ r ∧
  ∀ H' d', But t d H H' → (d' = d ∨ H d' = none) → TalAt C H' t d' r (pourT r y x).m (pourT r y x).o (pourT r y x).c → Q .non H'
theorem ok_Tpour (T : Blt mg) (L : Tal K mg) : FnOk P w K mg base CX0 2 L.fP L.dP ["self", "sketch"] (spTpour K L.C) := by
  have G_take : FnOk P w K mg base CX0 1 L.fT L.dT ["self", "amount"] (spTtake L.C) := ok_Ttake T L
  refine L.FP.ok scTpour (fun vs H Q E h => ?_) (fun cdv A outer s H vs Q E hr h => ?_)
  · obtain ⟨t, d, s, k, r, r2, x, y, rfl, _⟩ := h
    rfl
  · obtain ⟨t, d, s, k, r, r2, ⟨m, o, kvs⟩, ⟨m2, o2, ks⟩, rfl, ta, nd, hl, hs, ⟨ts, hS, hp⟩, hl2, hr0, q⟩ := h
    dsimp only at ta nd hl hs hp hl2 q
    have hu := hu_of hr
    obtain ⟨rn, rfl⟩ := Int.eq_ofNat_of_zero_le hr0
    refine ⟨_, (pss_cons (ps_asg (pv 1) (pg_tup (by rfl) (pgs_cons (pg_name (i := 2) scTpour.nd rfl (Or.inl rfl)) (pgs_cons (pg_name (i := 3) scTpour.nd rfl (Or.inl rfl)) (pgs_cons (pg_name (i := 4) scTpour.nd rfl (Or.inl rfl)) (pgs_cons (pg_name (i := 5) scTpour.nd rfl (Or.inl rfl)) pgs_nil))))))
    (pss_cons (ps_fldaug (pv 0) (pv 3) in_add)
    (pss_cons (ps_fldaug (pv 0) (pv 4) in_add)
    (pss_cons (ps_for PassesOwn.never rfl (pi_tup (pv 5)) (pg_tup (by rfl) (pgs_cons (pg_name (i := 6) scTpour.nd rfl (Or.inl rfl)) (pgs_cons (pg_name (i := 7) scTpour.nd rfl (Or.inl rfl)) pgs_nil)))
      (pss_one (ps_dput hu (pe_fld (pv 0) rfl) (pv 6) (pe_op op_add (pe_dget2 hu (pe_fld (pv 0) rfl) (pv 6) pe_int ⟨rfl, rfl, rfl, rfl⟩) (pv 7)) rfl)))
    (pss_one (ps_if (pt_cmpR op_gt (pe_callB call_lenD (by rfl) T.n_len (by decide +kernel) (pa_cons (pe_fld (pv 0) rfl) pa_nil)) (pe_fld (pv 0) rfl) (nomark _))
      (pss_cons (ps_set (i := 8) scTpour.nd rfl (Or.inl rfl) (pe_callBK (cr_sortedVR (b := true) rfl) (by rfl) T.n_sorted (by decide +kernel) (pa_cons (pe_bm0 PySem.F.plainAttrs_dict PySem.F.slot_dict_values PySem.F.type_dict_values mt_valuesK (pe_fld (pv 0) rfl)) pa_nil) (pk_cons pe_bl pk_nil)))
      (pss_one (ps_expr (pe_meth (pv 0) L.cl L.mT G_take (hr.mono (by omega)) L.bT .nil pass0 (pa_cons (pe_ix ix_list (pv 8) (pe_fld (pv 0) rfl) (fun _ _ => rfl)) pa_nil)))))
      pss_nil)))))), ?_⟩
    obtain ⟨⟨dx, ht⟩, hd⟩ := id ta
    have td := ta.ne
    refine ⟨.ref s, rfl, s, _, rfl, hs, rfl, _, _, rfl, _, _, rfl, _, _, rfl, _, _, rfl, rfl, ?_⟩
    refine ⟨.ref t, rfl, t, L.C, dx, _, _, rfl, ht, L.cl, L.nM, g_many _ _ _ _, .int m2, rfl, _, _, rfl, rfl, dx, _, ht, (by show 4 < 1000; decide), ?_⟩
    rw [fl_many]
    refine ⟨.ref t, rfl, t, L.C, dx, _, _, rfl, upd_same, L.cl, L.nO, g_off _ _ _ _, .int o2, rfl, _, _, rfl, rfl, dx, _, upd_same, (by show 4 < 1000; decide), ?_⟩
    rw [fl_off, upd_upd]
    have ta1 : TalAt L.C (upd H t (.ins L.C dx (fl rn (m + m2) (o + o2) d))) t d rn (m + m2) (o + o2) kvs := ⟨⟨dx, upd_same⟩, by rw [upd_ne td.symm]; exact hd⟩
    have bt1 : But t d H (upd H t (.ins L.C dx (fl rn (m + m2) (o + o2) d))) := (But.refl t d H).upT
    generalize upd H t (.ins L.C dx (fl rn (m + m2) (o + o2) d)) = H1 at ta1 bt1
    refine ⟨.ref k, rfl, k, rfl, ⟨_, seqT_but hS ta bt1⟩, for_tup (xs := ts.map V.ref) (fun i σ H3 => ∃ y6 y7 : Option V, σ = [some (.ref t), some (.ref s), some (.int r2), some (.int m2), some (.int o2), some (.ref k), y6, y7, none] ∧ But t d H H3 ∧ TalAt L.C H3 t d rn (m + m2) (o + o2) (sumsZ (ks.take i) kvs))
      ⟨none, none, rfl, bt1, ta1⟩ (fun i σ H3 _ ⟨_, _, _, b3, _⟩ => seqT_but hS ta b3) ?_ ?_⟩
    · rintro i v σ H3 hi ⟨y6, y7, rfl, b3, ta3⟩
      obtain ⟨tp, htp, rfl⟩ := map_at hi
      obtain ⟨e, he, hat⟩ := paired_at hp htp
      obtain ⟨⟨dx3, ht3⟩, hd3⟩ := id ta3
      refine ⟨tp, _, rfl, seqT_but hat ta b3, rfl, _, _, rfl, _, _, rfl, rfl, ?_⟩
      refine ⟨.ref t, rfl, t, L.C, dx3, _, _, rfl, ht3, L.cl, L.nC, g_counts _ _ _ _, d, rfl, .inl ⟨_, .inl hd3⟩, .str e.1, rfl, _, DGet.k (k := Sum.inr e.1) hd3, ?_⟩
      rw [getZ_val]
      refine ⟨.int e.2, rfl, (getZ (sumsZ (ks.take i) kvs) e.1).getD 0, e.2, ?_, rfl, ?_⟩
      · cases getZ (sumsZ (ks.take i) kvs) e.1 <;> rfl
      · have hlen := sumsZ_len (more := ks.take i) (kvs := kvs)
        rw [List.length_take] at hlen
        refine ⟨.ref t, rfl, t, L.C, dx3, _, _, rfl, ht3, L.cl, L.nC, g_counts _ _ _ _, .str e.1, rfl, d, _, rfl, DPut.k (k := Sum.inr e.1) hd3 (by rw [List.length_map, sizeLine_eq]; omega), ?_⟩
        rw [putZ_put]
        refine ⟨some (.str e.1), some (.int e.2), rfl, b3.upD, ⟨dx3, by rw [upd_ne td]; exact ht3⟩, ?_⟩
        rw [upd_same, sumsZ_snoc he]
        rfl
    · rintro σ H3 ⟨y6, y7, rfl, b3, ta3⟩
      have e1 : ks.take (ts.map V.ref).length = ks := by rw [List.length_map, Paired.length hp, List.take_length]
      rw [e1] at ta3
      obtain ⟨⟨dx3, ht3⟩, hd3⟩ := id ta3
      have hlen := sumsZ_len (more := ks) (kvs := kvs)
      have hnd := sumsZ_nd (more := ks) nd
      unfold pourT at q
      dsimp only at q
      generalize sumsZ ks kvs = all at ta3 hd3 hlen hnd q
      refine ⟨.ref t, rfl, t, L.C, dx3, _, _, rfl, ht3, L.cl, L.nC, g_counts _ _ _ _, d, _, rfl, hd3, .ref t, rfl, t, L.C, dx3, _, _, rfl, ht3, L.cl, L.nR, g_room _ _ _ _, _, _, rfl, rfl, _, rfl, ?_⟩
      rw [List.length_map]
      refine ite2 (fun hgt => ?_) fun hgt => ?_
      · have hlt : (rn : Int) < (all.length : Int) := of_decide_eq_true hgt
        rw [if_pos hlt] at q
        refine ⟨.ref t, rfl, t, L.C, dx3, _, _, rfl, ht3, L.cl, L.nC, g_counts _ _ _ _, .inr (.inr (.inl ⟨rfl, .inl ⟨_, hd3⟩⟩)), d, _, rfl, rfl, hd3, fun p np => ?_⟩
        refine ⟨p, d, all, rfl, rfl, upd_same, (by rw [upd_ne (ne_of_none hd3 np)]; exact hd3), fun ns l pm hdesc nl => ?_⟩
        have eu := fall_uniq pm hdesc
        have ta4 : TalAt L.C (upd (upd H3 p (valuesO p d)) l (.lst (ns.map V.int))) t d rn (m + m2) (o + o2) all := (ta3.same (same_upd np)).same (same_upd nl)
        obtain ⟨⟨dx4, ht4⟩, _⟩ := id ta4
        have hln : ns.length = all.length := by rw [pm.length_eq, List.length_map]
        have hat : (ns.map V.int)[rn]? = some (.int (fallZ all rn)) := by
          have h1 : rn < ns.length := by omega
          rw [List.getElem?_map, List.getElem?_eq_getElem h1]
          show some (V.int ns[rn]) = _
          unfold fallZ
          rw [← eu]
          simp [List.getD, h1]
        refine ⟨.ref t, rfl, t, dx4, _, rfl, ht4, g_no _ _ _ _ (by decide +kernel) (by decide +kernel) (by decide +kernel) (by decide +kernel), .ref l, rfl, .ref t, rfl, t, L.C, dx4, _, _, rfl, ht4, L.cl, L.nR, g_room _ _ _ _, l, _, _, _, rfl, rfl, sql upd_same, atI_nat hat, t, d, rn, m + m2, o + o2, fallZ all rn, all, rfl, ta4, hnd, (by omega), fun H5 d5 b5 nd5 ta5 => ?_⟩
        refine q H5 d5 (((b3.new np).new nl).trans b5) (.inr ?_) ta5
        have nd6 : H3 d5 = none := Same.gone (same_upd np) (Same.gone (same_upd nl) nd5)
        cases e : H d5 with
        | none => rfl
        | some u =>
          by_cases e1 : d5 = t
          · subst e1
            rw [ht3] at nd6
            cases nd6
          · by_cases e2 : d5 = d
            · subst e2
              rw [hd3] at nd6
              cases nd6
            · have := b3 d5 u e1 e2 e
              rw [nd6] at this
              cases this
      · have hlt : ¬ (rn : Int) < (all.length : Int) := fun z => hgt (decide_eq_true z)
        rw [if_neg hlt] at q
        exact q H3 d b3 (.inl rfl) ta3
end
end Kb

namespace Kb
open PySem PySem.Spec PyProof.Rows L2 SrtZ SrtO
/-! what stays true of a tally -/
structure TlOk (r : Int) (x : Tl) : Prop where
  nd : NdZ x.c
  len : (x.c.length : Int) ≤ r
  pos : ∀ e ∈ x.c, 1 ≤ e.2
  nm : ∀ e ∈ x.c, Nm e.1
theorem getZ_pos {kvs : Ct} {n : Str} (pos : ∀ e ∈ kvs, 1 ≤ e.2) : 0 ≤ (getZ kvs n).getD 0 := by
  unfold getZ
  cases h : kvs.find? fun e => decide (e.1 = n) with
  | none => exact Int.le_refl _
  | some e =>
    have := pos e (List.mem_of_find?_eq_some h)
    show 0 ≤ e.2
    omega
theorem putZ_mem {kvs : Ct} {n : Str} {v : Int} {e : Str × Int} (h : e ∈ putZ kvs n v) : e ∈ kvs ∨ e = (n, v) := by
  unfold putZ at h
  split at h
  · obtain ⟨f, hf, rfl⟩ := List.mem_map.mp h
    by_cases hn : f.1 = n
    · rw [if_pos hn]
      exact .inr (by rw [hn])
    · rw [if_neg hn]
      exact .inl hf
  · rcases List.mem_append.mp h with h | h
    · exact .inl h
    · exact .inr (List.mem_singleton.mp h)
theorem addZ_pos {kvs : Ct} {n : Str} {c : Int} (pos : ∀ e ∈ kvs, 1 ≤ e.2) (hc : 1 ≤ c) : ∀ e ∈ addZ kvs n c, 1 ≤ e.2 := fun e he => by
  rcases putZ_mem he with h | h
  · exact pos e h
  · have := getZ_pos (n := n) pos
    rw [h]
    show 1 ≤ _ + c
    omega
theorem addZ_nm {kvs : Ct} {n : Str} {c : Int} (nm : ∀ e ∈ kvs, Nm e.1) (hn : Nm n) : ∀ e ∈ addZ kvs n c, Nm e.1 := fun e he => by
  rcases putZ_mem he with h | h
  · exact nm e h
  · rw [h]
    exact hn
theorem addZ_len_old {kvs : Ct} {n : Str} {c : Int} (h : (getZ kvs n).isSome = true) : (addZ kvs n c).length = kvs.length := by
  have := congrArg List.length (putZ_keys_old (v := (getZ kvs n).getD 0 + c) h)
  rwa [List.length_map, List.length_map] at this
theorem takeZ_mem {a : Int} {kvs : Ct} {e : Str × Int} (h : e ∈ takeZ a kvs) : ∃ f ∈ kvs, a < f.2 ∧ e = (f.1, f.2 - a) := by
  unfold takeZ at h
  obtain ⟨f, hf, rfl⟩ := List.mem_map.mp h
  obtain ⟨h1, h2⟩ := List.mem_filter.mp hf
  exact ⟨f, h1, of_decide_eq_true h2, rfl⟩
theorem takeZ_pos {a : Int} {kvs : Ct} : ∀ e ∈ takeZ a kvs, 1 ≤ e.2 := fun e he => by
  obtain ⟨f, _, h, rfl⟩ := takeZ_mem he
  show 1 ≤ f.2 - a
  omega
theorem takeZ_nm {a : Int} {kvs : Ct} (nm : ∀ e ∈ kvs, Nm e.1) : ∀ e ∈ takeZ a kvs, Nm e.1 := fun e he => by
  obtain ⟨f, hf, _, rfl⟩ := takeZ_mem he
  exact nm f hf
/-- the least one goes when it is taken off -/
theorem takeZ_less {kvs : Ct} (ne : kvs ≠ []) : (takeZ (mnC kvs) kvs).length < kvs.length := by
  obtain ⟨h1, _⟩ := mnC_spec ne
  obtain ⟨e, he, h⟩ := List.mem_map.mp h1
  unfold takeZ
  rw [List.length_map]
  have h2 : (kvs.filter fun e => decide (mnC kvs < e.2)).length ≤ kvs.length := List.length_filter_le _ _
  rcases Nat.lt_or_ge (kvs.filter fun e => decide (mnC kvs < e.2)).length kvs.length with h3 | h3
  · exact h3
  · have h4 : (kvs.filter fun e => decide (mnC kvs < e.2)) = kvs := List.filter_sublist.eq_of_length (by omega)
    rw [← h4] at he
    have := of_decide_eq_true (List.mem_filter.mp he).2
    omega
theorem feedT_ok {r c : Int} {n : Str} {x : Tl} (h : TlOk r x) (hr : 1 ≤ r) (hn : Nm n) (hc : 0 ≤ c) : TlOk r (feedT r n c x) := by
  obtain ⟨nd, len, pos, nm⟩ := h
  unfold feedT
  cases hf : full r n x.c with
  | true =>
    have hfull : (x.c.length : Int) = r := by
      unfold full at hf
      rw [Bool.and_eq_true] at hf
      exact of_decide_eq_true hf.2
    have ne : x.c ≠ [] := by
      intro e
      rw [e] at hfull
      have : (0 : Int) = r := hfull
      omega
    rw [if_pos rfl]
    dsimp only
    generalize ha : (if mnC x.c < c then mnC x.c else c) = a
    by_cases hp : 0 < c - a
    · have ea : a = mnC x.c := by
        by_cases hm : mnC x.c < c
        · rw [if_pos hm] at ha
          exact ha.symm
        · rw [if_neg hm] at ha
          omega
      have hl := takeZ_less ne
      have hl2 := addZ_len (kvs := takeZ a x.c) (n := n) (c := c - a)
      refine ⟨?_, ?_, ?_, ?_⟩ <;> dsimp only <;> rw [if_pos hp]
      · exact addZ_nd (takeZ_nd nd)
      · rw [ea] at hl2 ⊢
        omega
      · exact addZ_pos takeZ_pos (by omega)
      · exact addZ_nm (takeZ_nm nm) hn
    · refine ⟨?_, ?_, ?_, ?_⟩ <;> dsimp only <;> rw [if_neg hp]
      · exact takeZ_nd nd
      · have := takeZ_len (a := a) (kvs := x.c)
        omega
      · exact takeZ_pos
      · exact takeZ_nm nm
  | false =>
    rw [if_neg (by decide)]
    by_cases hp : 0 < c
    · refine ⟨?_, ?_, ?_, ?_⟩ <;> dsimp only <;> rw [if_pos hp]
      · exact addZ_nd nd
      · cases hg : getZ x.c n with
        | some v =>
          rw [addZ_len_old (by rw [hg]; rfl)]
          exact len
        | none =>
          have h1 := addZ_len (kvs := x.c) (n := n) (c := c)
          unfold full at hf
          rw [hg] at hf
          have h2 : ¬ (x.c.length : Int) = r := by
            intro e
            rw [decide_eq_true e] at hf
            cases hf
          omega
      · exact addZ_pos pos (by omega)
      · exact addZ_nm nm hn
    · refine ⟨?_, ?_, ?_, ?_⟩ <;> dsimp only <;> rw [if_neg hp]
      · exact nd
      · exact len
      · exact pos
      · exact nm
def feedsT (r : Int) (zs : List Str) (x : Tl) : Tl := zs.foldl (fun x n => feedT r n 1 x) x
theorem feedsT_snoc {r : Int} {zs : List Str} {x : Tl} {i : Nat} {n : Str} (h : zs[i]? = some n) : feedsT r (zs.take (i + 1)) x = feedT r n 1 (feedsT r (zs.take i) x) := by
  unfold feedsT
  rw [List.take_add_one, h, List.foldl_append]
  rfl
theorem feedsT_ok {r : Int} (hr : 1 ≤ r) : ∀ {zs : List Str} {x : Tl}, TlOk r x → (∀ z ∈ zs, Nm z) → TlOk r (feedsT r zs x)
  | [], _, h, _ => h
  | z :: zs, x, h, hn => feedsT_ok (zs := zs) hr (feedT_ok h hr (hn z List.mem_cons_self) (by decide)) fun y hy => hn y (List.mem_cons_of_mem _ hy)
def tl0 : Tl := ⟨0, 0, []⟩
theorem tl0_ok {r : Int} (hr : 1 ≤ r) : TlOk r tl0 := ⟨List.nodup_nil, (by show (0 : Int) ≤ r; omega), (fun _ h => nomatch h), (fun _ h => nomatch h)⟩
theorem sumsZ_pos : ∀ {more kvs : Ct}, (∀ e ∈ more, 1 ≤ e.2) → (∀ e ∈ kvs, 1 ≤ e.2) → ∀ e ∈ sumsZ more kvs, 1 ≤ e.2
  | [], _, _, h => h
  | f :: r, kvs, hm, h => sumsZ_pos (more := r) (fun e he => hm e (List.mem_cons_of_mem _ he)) (addZ_pos h (hm f List.mem_cons_self))
theorem sumsZ_nm : ∀ {more kvs : Ct}, (∀ e ∈ more, Nm e.1) → (∀ e ∈ kvs, Nm e.1) → ∀ e ∈ sumsZ more kvs, Nm e.1
  | [], _, _, h => h
  | f :: r, kvs, hm, h => sumsZ_nm (more := r) (fun e he => hm e (List.mem_cons_of_mem _ he)) (addZ_nm h (hm f List.mem_cons_self))
/-- what is above the count at place r is at most r names -/
theorem fall_len {kvs : Ct} {r : Nat} (h : r < kvs.length) : (takeZ (fallZ kvs r) kvs).length ≤ r := by
  unfold takeZ
  rw [List.length_map]
  have hp := List.mergeSort_perm (kvs.map (·.2)) (fun a b => decide (b ≤ a))
  have hs := List.pairwise_mergeSort (le := fun (a b : Int) => decide (b ≤ a)) (fun a b c h1 h2 => by simp at *; omega) (fun a b => by simp; omega) (kvs.map (·.2))
  have e1 : (kvs.filter fun e => decide (fallZ kvs r < e.2)).length = ((kvs.map (·.2)).filter fun c => decide (fallZ kvs r < c)).length := by
    rw [List.filter_map, List.length_map]
    rfl
  rw [e1, ← (hp.filter _).length_eq]
  unfold fallZ
  rw [Int.toNat_natCast]
  generalize (kvs.map (·.2)).mergeSort (fun a b => decide (b ≤ a)) = s at hp hs
  have hl : r < s.length := by rw [hp.length_eq, List.length_map]; exact h
  have eg : s.getD r 0 = s[r] := by simp [List.getD, hl]
  rw [eg]
  generalize hv : s[r] = v
  have h1 : ((s.take r).filter fun c => decide (v < c)).length ≤ r := by
    have := List.length_filter_le (fun c => decide (v < c)) (s.take r)
    rw [List.length_take] at this
    omega
  have h2 : ((s.drop r).filter fun c => decide (v < c)) = [] := by
    rw [List.filter_eq_nil_iff]
    intro c hc z
    have z := of_decide_eq_true z
    have hd : (s.drop r).Pairwise fun a b => decide (b ≤ a) = true := hs.sublist (List.drop_sublist _ _)
    rw [List.drop_eq_getElem_cons hl] at hc hd
    rcases List.mem_cons.mp hc with e | hc
    · omega
    · have := of_decide_eq_true ((List.pairwise_cons.mp hd).1 c hc)
      omega
  have e3 : (s.filter fun c => decide (v < c)) = ((s.take r).filter fun c => decide (v < c)) ++ ((s.drop r).filter fun c => decide (v < c)) := by
    rw [← List.filter_append, List.take_append_drop]
  rw [e3, h2, List.append_nil]
  exact h1
theorem pourT_ok {r : Int} {x y : Tl} (hx : TlOk r x) (hy : TlOk r y) (hr : 0 ≤ r) : TlOk r (pourT r y x) := by
  obtain ⟨rn, rfl⟩ := Int.eq_ofNat_of_zero_le hr
  unfold pourT
  dsimp only
  have nd := sumsZ_nd (more := y.c) hx.nd
  have pos := sumsZ_pos hy.pos hx.pos
  have nm := sumsZ_nm hy.nm hx.nm
  generalize sumsZ y.c x.c = all at nd pos nm
  by_cases h : (rn : Int) < (all.length : Int)
  · rw [if_pos h]
    refine ⟨takeZ_nd nd, ?_, takeZ_pos, takeZ_nm nm⟩
    have := fall_len (kvs := all) (r := rn) (by omega)
    dsimp only
    omega
  · rw [if_neg h]
    exact ⟨nd, (by dsimp only; omega), pos, nm⟩
/-! the order of names -/
def srtZ (kvs : Ct) : Ct := kvs.mergeSort fun a b => !ltZ b.1 a.1
theorem srtZ_perm (kvs : Ct) : (srtZ kvs).Perm kvs := List.mergeSort_perm _ _
theorem srtZ_asc {kvs : Ct} (nd : NdZ kvs) : Asc (srtZ kvs) := by
  have hs := List.pairwise_mergeSort (le := fun (a b : Str × Int) => !ltZ b.1 a.1) (fun a b c h1 h2 => ?_) (fun a b => ?_) kvs
  · have nd2 : ((srtZ kvs).map (·.1)).Nodup := ((srtZ_perm kvs).map (·.1)).nodup_iff.mpr nd
    rw [List.Nodup, List.pairwise_map] at nd2
    refine List.Pairwise.imp₂ (fun {a b} h1 h2 => ?_) hs nd2
    rcases bcase (ltZ a.1 b.1) with q | q
    · exact q
    · have h3 : ltZ b.1 a.1 = false := by simpa using h1
      exact absurd (ltZ_tri q h3) h2
  · have h1 : ltZ b.1 a.1 = false := by simpa using h1
    have h2 : ltZ c.1 b.1 = false := by simpa using h2
    show (!ltZ c.1 a.1) = true
    rcases bcase (ltZ c.1 a.1) with q | q
    · rcases bcase (ltZ a.1 b.1) with p | p
      · have := ltZ_trans q p
        rw [h2] at this
        cases this
      · have e := ltZ_tri p h1
        rw [e, h2] at q
        cases q
    · rw [q]
      rfl
  · show ((!ltZ b.1 a.1) || (!ltZ a.1 b.1)) = true
    rcases bcase (ltZ b.1 a.1) with q | q
    · rw [ltZ_asym q]
      simp
    · rw [q]
      rfl
theorem srtZ_of {ys kvs : Ct} (h : Asc ys) (p : ys.Perm kvs) (nd : NdZ kvs) : ys = srtZ kvs := asc_uniq h (srtZ_asc nd) (p.trans (srtZ_perm kvs).symm)
def skT (x : Tl) : Tl := ⟨x.m, x.o, srtZ x.c⟩
theorem skT_ok {r : Int} {x : Tl} (h : TlOk r x) : TlOk r (skT x) := by
  have p := srtZ_perm x.c
  refine ⟨(p.map (·.1)).nodup_iff.mpr h.nd, ?_, fun e he => h.pos e (p.mem_iff.mp he), fun e he => h.nm e (p.mem_iff.mp he)⟩
  show ((srtZ x.c).length : Int) ≤ r
  rw [p.length_eq]
  exact h.len
/-! a tree's pile, the uppermost first -/
def stepT (r : Int) (st : List Tl) : Stp → List Tl
  | .put zs => feedsT r zs tl0 :: st
  | .pour => match st with
    | x :: y :: st => pourT r (skT x) y :: st
    | st => st
def runT (r : Int) (l : List Stp) : List Tl := l.foldl (stepT r) []
theorem runT_snoc {r : Int} {l : List Stp} {i : Nat} {t : Stp} (h : l[i]? = some t) : runT r (l.take (i + 1)) = stepT r (runT r (l.take i)) t := by
  unfold runT
  rw [List.take_add_one, h, List.foldl_append]
  rfl
end Kb

namespace Kb
open PySem PySem.Spec PyProof.Rows L2 SrtZ SrtO
abbrev sP_sketch_of : Stmt := topS 32
abbrev NP_sketch_of : List Str := ["room", "tree", "pile", "step", "tally", "name", "above"]
theorem scP_sketch_of : FnScope ["room", "tree", "pile", "step", "tally", "name", "above"] ["room", "tree"] (defScope sP_sketch_of) := ⟨rfl, rfl, rfl, by decide +kernel, rfl, by decide +kernel, by decide +kernel⟩
abbrev DnSketchOf (K : PySem.W.Frag) (mg : Str → Option Value) := Dn K mg "sketch_of" sP_sketch_of ["room", "tree"]
/-- a tally on the pile: its instance, its dict, what it holds -/
structure Pe where
  t : Addr
  d : Addr
  x : Tl
structure PileAt (C : Addr) (r : Int) (H : Hp) (l : List Pe) : Prop where
  at_ : ∀ e ∈ l, TalAt C H e.t e.d r e.x.m e.x.o e.x.c
  ok : ∀ e ∈ l, TlOk r e.x
  nt : (l.map (·.t)).Nodup
  nd : (l.map (·.d)).Nodup
theorem PileAt.same {C : Addr} {r : Int} {H H' : Hp} {l : List Pe} (h : PileAt C r H l) (s : Same H H') : PileAt C r H' l := ⟨fun e he => (h.at_ e he).same s, h.ok, h.nt, h.nd⟩
theorem TalAt.keep {C : Addr} {H H' : Hp} {t d : Addr} {r m o : Int} {kvs : Ct} (h : TalAt C H t d r m o kvs) (k : ∀ b u, (b = t ∨ b = d) → H b = some u → H' b = some u) : TalAt C H' t d r m o kvs := by
  obtain ⟨⟨dx, e⟩, e2⟩ := h
  exact ⟨⟨dx, k _ _ (.inl rfl) e⟩, k _ _ (.inr rfl) e2⟩
theorem run_len {r : Int} {l : List Stp} (two : ∀ i, l[i]? = some .pour → 2 ≤ hgt (l.take i)) : ∀ i, i ≤ l.length → ((runT r (l.take i)).length : Int) = hgt (l.take i)
  | 0, _ => rfl
  | i + 1, h => by
    have ih := run_len (r := r) two i (by omega)
    obtain ⟨t, ht⟩ : ∃ t, l[i]? = some t := ⟨l[i], List.getElem?_eq_getElem (by omega)⟩
    rw [runT_snoc ht, hgt_snoc ht]
    cases t with
    | put zs =>
      show (((feedsT r zs tl0 :: runT r (l.take i)).length : Nat) : Int) = _ + 1
      rw [List.length_cons]
      omega
    | pour =>
      have h2 := two i ht
      match hr : runT r (l.take i) with
      | [] => rw [hr] at ih; simp at ih; omega
      | [x] => rw [hr] at ih; simp at ih; omega
      | x :: y :: st =>
        rw [hr] at ih
        show (((pourT r (skT x) y :: st).length : Nat) : Int) = _ - 1
        rw [List.length_cons] at ih ⊢
        rw [List.length_cons] at ih
        omega
theorem run_short {r : Int} (l : List Stp) : (runT r l).length ≤ l.length := by
  have gen : ∀ (l : List Stp) (st : List Tl), (l.foldl (stepT r) st).length ≤ st.length + l.length := by
    intro l
    induction l with
    | nil => exact fun st => Nat.le_refl _
    | cons t l ih =>
      intro st
      have h := ih (stepT r st t)
      have h2 : (stepT r st t).length ≤ st.length + 1 := by
        cases t with
        | put zs => exact Nat.le_refl _
        | pour =>
          match st with
          | [] => exact Nat.zero_le _
          | [_] => show 1 ≤ 1 + 1; omega
          | _ :: _ :: st => show st.length + 1 ≤ st.length + 1 + 1 + 1; omega
      show (l.foldl (stepT r) (stepT r st t)).length ≤ st.length + (l.length + 1)
      omega
  have := gen l []
  simpa [runT] using this
theorem refs_rev (l : List Pe) (e : Pe) : ((e :: l).reverse.map fun e => V.ref e.t) = (l.reverse.map fun e => V.ref e.t) ++ [V.ref e.t] := by
  rw [List.reverse_cons, List.map_append]
  rfl
section
variable {P : Program} {w : World} {K : PySem.W.Frag} {mg : Str → Option Value} {base : Heap}
def spSketchOf (K : PySem.W.Frag) : Sp := fun vs H Q _ => ∃ (a : Addr) (r : Int) (l : List Stp) (x : Tl), vs = [.int r, .ref a] ∧ 1 ≤ r ∧ r ≤ 64 ∧ TreeAt K H a l ∧ Tree l ∧ (∀ zs, .put zs ∈ l → ∀ z ∈ zs, Nm z) ∧ runT r l = [x] ∧
  (TlOk r x → ∀ H' s k (ts : List Addr), Same H H' → H s = none → H' s = some (.tup [.int r, .int x.m, .int x.o, .ref k]) → Ptp H' k (ts.map V.ref) → Paired (fun (t : Addr) (y : Str × Int) => H' t = some (.tup [.str y.1, .int y.2])) ts (srtZ x.c) → Q (.ref s) H')
theorem ok_sketch_of (T : Blt mg) (cM : Cst mg "MOST_ROOM" (.int 64)) (cL : Cst mg "LONGEST_NAME" (.int 8)) (cS' : Cst mg "MOST_STEPS" (.int 5000)) (cI : Cst mg "MOST_ITEMS" (.int 50000)) (dP_is_int : DnIsInt K mg) (dP_is_room : DnIsRoom K mg) (dP_is_name : DnIsName K mg) (dP_is_stream : DnIsStream K mg)
    (dP_is_put : DnIsPut K mg) (dP_is_pour : DnIsPour K mg) (dP_is_tree : DnIsTree K mg) (dP_bare : DnBare K mg) (L : Tal K mg) (d : DnSketchOf K mg) : FnOk P w K mg base CX0 5 d.f d.fd ["room", "tree"] (spSketchOf K) := by
  have GP_is_room : FnOk P w K mg base CX0 2 dP_is_room.f dP_is_room.fd ["thing"] spIsRoom := ok_is_room T cM dP_is_int dP_is_room
  have GP_is_tree : FnOk P w K mg base CX0 4 dP_is_tree.f dP_is_tree.fd ["thing"] (spIsTree K) := ok_is_tree T cL cS' cI dP_is_name dP_is_stream dP_is_put dP_is_pour dP_is_tree
  have GP_bare : FnOk P w K mg base CX0 3 dP_bare.f dP_bare.fd ["room"] spBare := ok_bare T cM dP_is_int dP_is_room dP_bare
  have GI : FnOk P w K mg base CX0 1 L.fI L.dI ["self", "sketch"] (spTinit K L.C) := ok_Tinit T L
  have Gsketch : FnOk P w K mg base CX0 1 L.fS L.dS ["self"] (spTsketch L.C) := ok_Tsketch T L
  have Gfeed : FnOk P w K mg base CX0 2 L.fF L.dF ["self", "name", "times"] (spTfeed L.C) := ok_Tfeed T L
  have Gpour : FnOk P w K mg base CX0 2 L.fP L.dP ["self", "sketch"] (spTpour K L.C) := ok_Tpour T L
  refine d.F.ok scP_sketch_of (fun vs H Q E h => ?_) (fun cdv A outer s H vs Q E hr h => ?_)
  · obtain ⟨a, r, l, x, rfl, _⟩ := h
    rfl
  · obtain ⟨a, r, l, xe, rfl, hr1, hr2, ht, tr, hN, hrun, q⟩ := h
    refine ⟨_, (pss_cons (ps_if (pt_not (pt_val (pe_call GP_is_room (hr.mono (by omega)) (by rfl) dP_is_room.g dP_is_room.F.kp dP_is_room.b .nil pass0 (pa_cons (pv 0) pa_nil))))
      (pss_one ps_never)
      pss_nil)
    (pss_cons (ps_if (pt_not (pt_val (pe_call GP_is_tree (hr.mono (by omega)) (by rfl) dP_is_tree.g dP_is_tree.F.kp dP_is_tree.b .nil pass0 (pa_cons (pv 1) pa_nil))))
      (pss_one ps_never)
      pss_nil)
    (pss_cons (ps_set (i := 2) scP_sketch_of.nd rfl (Or.inl rfl) (pe_lst pa_nil))
    (pss_cons (ps_for PassesOwn.never rfl (pi_tup (pv 1)) (pg_name (i := 3) scP_sketch_of.nd rfl (Or.inl rfl))
      (pss_one (ps_if (pt_cmpR op_eq (pe_ix ix_tup (pv 3) pe_int (fun _ _ => rfl)) pe_str (nomark _))
        (pss_cons (ps_set (i := 4) scP_sketch_of.nd rfl (Or.inl rfl) (pe_make L.mI GI (hr.mono (by omega)) (by rfl) L.g L.bI .nil pass0 (pa_cons (pe_call GP_bare (hr.mono (by omega)) (by rfl) dP_bare.g dP_bare.F.kp dP_bare.b .nil pass0 (pa_cons (pv 0) pa_nil)) pa_nil)))
        (pss_cons (ps_for PassesOwn.never rfl (pi_tup (pe_ix ix_tup (pv 3) pe_int (fun _ _ => rfl))) (pg_name (i := 5) scP_sketch_of.nd rfl (Or.inl rfl))
          (pss_one (ps_expr (pe_meth (pv 4) L.cl L.mF Gfeed (hr.mono (by omega)) L.bF .nil pass0 (pa_cons (pv 5) (pa_cons pe_int pa_nil))))))
        (pss_one (ps_expr (pe_bm PySem.F.plainAttrs_list PySem.F.slot_list_append PySem.F.type_list_append mt_append (pv 2) (pa_cons (pv 4) pa_nil))))))
        (pss_cons (ps_set (i := 6) scP_sketch_of.nd rfl (Or.inl rfl) (pe_bm0 PySem.F.plainAttrs_list PySem.F.slot_list_pop PySem.F.type_list_pop mt_pop (pv 2)))
        (pss_one (ps_expr (pe_meth (pe_ix ix_list (pv 2) (pe_un un_neg pe_int) (fun _ _ => rfl)) L.cl L.mP Gpour (hr.mono (by omega)) L.bP .nil pass0 (pa_cons (pe_meth0 (pv 6) L.cl L.mS Gsketch (hr.mono (by omega)) L.bS .nil pass0) pa_nil))))))))
    (pss_one (ps_ret (pe_meth0 (pe_ix ix_list (pv 2) pe_int (fun _ _ => rfl)) L.cl L.mS Gsketch (hr.mono (by omega)) L.bS .nil pass0))))))), ?_⟩
    refine ⟨.int r, rfl, r, rfl, true, ?_, iteF ?_⟩
    · rw [decide_eq_true hr1, decide_eq_true hr2]
      rfl
    refine ⟨.ref a, rfl, a, l, rfl, ht, tr, fun H1 s1 => ⟨true, rfl, iteF ⟨(by show 0 ≤ sizeLine; decide), fun p np => ?_⟩⟩⟩
    have np0 : H p = none := Same.gone s1 np
    have s2 : Same H (upd H1 p (.lst [])) := Same.new s1 np
    obtain ⟨vs, hS, hp⟩ := ht
    have hl : vs.length = l.length := Paired.length hp
    refine ⟨.ref a, rfl, a, rfl, ⟨_, seqT hS s2⟩, for_tup (xs := vs) (fun i σ H3 => ∃ (pl : List Pe) (y3 y4 y5 y6 : Option V), σ = [some (.int r), some (.ref a), some (.ref p), y3, y4, y5, y6] ∧ Same H H3 ∧
      H3 p = some (.lst (pl.reverse.map fun e => V.ref e.t)) ∧ PileAt L.C r H3 pl ∧ pl.map (·.x) = runT r (l.take i) ∧ (∀ e ∈ pl, H e.t = none ∧ H e.d = none))
      ⟨[], none, none, none, none, rfl, s2, upd_same, ⟨(fun _ h => nomatch h), (fun _ h => nomatch h), List.nodup_nil, List.nodup_nil⟩, rfl, (fun _ h => nomatch h)⟩ (fun i σ H3 _ ⟨_, _, _, _, _, _, s3, _⟩ => seqT hS s3) ?_ ?_⟩
    · rintro i v σ H3 hi ⟨pl, y3, y4, y5, y6, rfl, s3, hpl, pa, hrn, hfr⟩
      obtain ⟨st, hst, hat⟩ := paired_at hp hi
      have hat3 := hat.same s3
      have hrs := runT_snoc (r := r) hst
      have hi2 : i < l.length := (List.getElem?_eq_some_iff.mp hst).1
      cases st with
      | put zs =>
        have hNz := hN zs (List.mem_of_getElem? hst)
        obtain ⟨b, c, rfl, h1, h2, _, hzl⟩ := hat3
        refine ⟨.ref b, rfl, b, _, _, _, rfl, rfl, h1, atI_nat (j := 0) rfl, rfl, true, congrArg V.bl (decide_eq_true rfl), iteT ?_⟩
        refine ⟨.int r, rfl, r, rfl, hr1, hr2, fun H4 sk k s4 nsk hsk hk t dx nt ndx hne => ?_⟩
        have s5 : Same H4 (upd (upd H4 dx (.own t)) t (.ins L.C dx [])) := Same.new (same_upd ndx) (by rw [upd_ne hne.symm]; exact nt)
        refine ⟨t, dx, sk, k, r, 0, 0, [], [], rfl, upd_same, .inl (.inl (s5 _ _ hsk)), hk.same s5, .nil, List.nodup_nil, fun H5 d5 kp5 nd5 ta5 => ⟨rfl, ?_⟩⟩
        have nt3 : H3 t = none := Same.gone s4 nt
        have s35 : Same H3 H5 := fun q u e => kp5 q u (ne_of_none e nt3) (s5 q u (s4 q u e))
        have nd53 : H3 d5 = none := Same.gone s4 (Same.gone s5 nd5)
        refine ⟨.ref b, rfl, b, _, _, _, rfl, rfl, seqT h1 s35, atI_nat (j := 1) rfl, c, rfl, ⟨_, seqT h2 s35⟩, for_tup (xs := zs.map V.str) (fun j σ H6 => ∃ (d6 : Addr) (z5 : Option V), σ = [some (.int r), some (.ref a), some (.ref p), some (.ref b), some (.ref t), z5, y6] ∧ Same H3 H6 ∧ H3 d6 = none ∧ TlOk r (feedsT r (zs.take j) tl0) ∧
          TalAt L.C H6 t d6 r (feedsT r (zs.take j) tl0).m (feedsT r (zs.take j) tl0).o (feedsT r (zs.take j) tl0).c) ⟨d5, y5, rfl, s35, nd53, tl0_ok hr1, ta5⟩ (fun j σ H6 _ ⟨_, _, _, s6, _⟩ => seqT h2 s6) ?_ ?_⟩
        · rintro j v σ H6 hj ⟨d6, z5, rfl, s6, nd6, ok6, ta6⟩
          obtain ⟨z, hz, rfl⟩ := map_at hj
          have hfs := feedsT_snoc (r := r) (x := tl0) hz
          have hok7 := feedT_ok ok6 hr1 (hNz z (List.mem_of_getElem? hz)) (c := 1) (by decide)
          rw [← hfs] at hok7
          obtain ⟨⟨dx6, ht6⟩, _⟩ := id ta6
          have hle := ok6.len
          refine ⟨.ref t, rfl, t, dx6, _, rfl, ht6, g_no _ _ _ _ (by decide +kernel) (by decide +kernel) (by decide +kernel) (by decide +kernel), .str z, rfl, t, d6, r, 1, z, feedsT r (zs.take j) tl0, rfl, ta6, ok6.nd, (by omega), hr1, fun H7 d7 b7 hd7 ta7 => ?_⟩
          rw [← hfs] at ta7
          refine ⟨d7, some (.str z), rfl, fun q u e => b7 q u (ne_of_none e nt3) (ne_of_none e nd6) (s6 q u e), ?_, hok7, ta7⟩
          rcases hd7 with rfl | hd7
          · exact nd6
          · exact Same.gone s6 hd7
        · rintro σ H6 ⟨d6, z5, rfl, s6, nd6, ok6, ta6⟩
          rw [List.length_map, List.take_length] at ok6 ta6
          have hp6 := s6 _ _ hpl
          have hplen : pl.length ≤ 5000 := by
            have h1 : (pl.map (·.x)).length = (runT r (l.take i)).length := by rw [hrn]
            rw [List.length_map] at h1
            have h2 := run_short (r := r) (l.take i)
            rw [List.length_take] at h2
            have := tr.len
            omega
          refine ⟨.ref p, rfl, .inl ⟨rfl, _, sql hp6⟩, .ref t, rfl, p, _, _, rfl, rfl, hp6, (by rw [List.length_map, List.length_reverse, sizeLine_eq]; omega), ?_⟩
          have keepT : ∀ {t d : Addr} {r m o : Int} {kvs : Ct} {u : HO}, TalAt L.C H6 t d r m o kvs → TalAt L.C (upd H6 p u) t d r m o kvs := fun {t d r m o kvs u} h => by
            obtain ⟨⟨dx, e⟩, e2⟩ := h
            exact ⟨⟨dx, by rw [upd_ne (ne_of e hp6 (by intro z; cases z))]; exact e⟩, by rw [upd_ne (ne_of e2 hp6 (by intro z; cases z))]; exact e2⟩
          have hnt : ∀ e ∈ pl, e.t ≠ t := fun e he => by
            obtain ⟨⟨dxe, e1⟩, _⟩ := pa.at_ e he
            exact ne_of_none e1 nt3
          have hndd : ∀ e ∈ pl, e.d ≠ d6 := fun e he => ne_of_none (pa.at_ e he).dc nd6
          refine ⟨⟨t, d6, feedsT r zs tl0⟩ :: pl, some (.ref b), some (.ref t), z5, y6, rfl, fun q u e => ?_, ?_, ⟨fun e he => ?_, fun e he => ?_, ?_, ?_⟩, ?_, fun e he => ?_⟩
          · rw [upd_ne (ne_of_none e np0)]
            exact s6 q u (s3 q u e)
          · rw [upd_same, refs_rev]
          · rcases List.mem_cons.mp he with rfl | he
            · exact keepT ta6
            · exact keepT ((pa.at_ e he).same s6)
          · rcases List.mem_cons.mp he with rfl | he
            · exact ok6
            · exact pa.ok e he
          · rw [List.map_cons, List.nodup_cons]
            refine ⟨fun z => ?_, pa.nt⟩
            obtain ⟨e, he, h⟩ := List.mem_map.mp z
            exact hnt e he h
          · rw [List.map_cons, List.nodup_cons]
            refine ⟨fun z => ?_, pa.nd⟩
            obtain ⟨e, he, h⟩ := List.mem_map.mp z
            exact hndd e he h
          · rw [List.map_cons, hrn, hrs]
            rfl
          · rcases List.mem_cons.mp he with rfl | he
            · exact ⟨Same.gone s3 nt3, Same.gone s3 nd6⟩
            · exact hfr e he
      | pour =>
        obtain ⟨b, rfl, h1⟩ := hat3
        have h2 := tr.two i hst
        have hlen := run_len (r := r) tr.two i (Nat.le_of_lt hi2)
        rw [← hrn, List.length_map] at hlen
        match pl, hlen, pa, hpl, hrn, hfr with
        | [], hlen, _, _, _, _ => simp at hlen; omega
        | [_], hlen, _, _, _, _ => simp at hlen; omega
        | e1 :: e2 :: pl, hlen, pa, hpl, hrn, hfr =>
          refine ⟨.ref b, rfl, b, _, _, _, rfl, rfl, h1, atI_nat (j := 0) rfl, rfl, false, congrArg V.bl (decide_eq_false stream_ne), iteF ?_⟩
          rw [refs_rev] at hpl
          refine ⟨.ref p, rfl, .inl ⟨rfl, _, sql hpl⟩, p, _, .ref e1.t, rfl, rfl, hpl, by simp, ?_⟩
          rw [List.dropLast_concat, refs_rev]
          have keepT : ∀ {t d : Addr} {r m o : Int} {kvs : Ct} {u : HO}, TalAt L.C H3 t d r m o kvs → TalAt L.C (upd H3 p u) t d r m o kvs := fun {t d r m o kvs u} h => by
            obtain ⟨⟨dx, e⟩, e2⟩ := h
            exact ⟨⟨dx, by rw [upd_ne (ne_of e hpl (by intro z; cases z))]; exact e⟩, by rw [upd_ne (ne_of e2 hpl (by intro z; cases z))]; exact e2⟩
          have m1 : e1 ∈ e1 :: e2 :: pl := List.mem_cons_self
          have m2 : e2 ∈ e1 :: e2 :: pl := List.mem_cons_of_mem _ List.mem_cons_self
          have ta1 := keepT (u := .lst ((pl.reverse.map fun e => V.ref e.t) ++ [V.ref e2.t])) (pa.at_ e1 m1)
          have ta2 := keepT (u := .lst ((pl.reverse.map fun e => V.ref e.t) ++ [V.ref e2.t])) (pa.at_ e2 m2)
          have taR : ∀ e ∈ pl, TalAt L.C (upd H3 p (.lst ((pl.reverse.map fun e => V.ref e.t) ++ [V.ref e2.t]))) e.t e.d r e.x.m e.x.o e.x.c := fun e he => keepT (pa.at_ e (List.mem_cons_of_mem _ (List.mem_cons_of_mem _ he)))
          have hp4 : (upd H3 p (.lst ((pl.reverse.map fun e => V.ref e.t) ++ [V.ref e2.t]))) p = some (.lst ((pl.reverse.map fun e => V.ref e.t) ++ [V.ref e2.t])) := upd_same
          have s4 : Same H (upd H3 p (.lst ((pl.reverse.map fun e => V.ref e.t) ++ [V.ref e2.t]))) := Same.put s3 np0
          generalize upd H3 p (.lst ((pl.reverse.map fun e => V.ref e.t) ++ [V.ref e2.t])) = H4 at ta1 ta2 taR hp4 s4
          obtain ⟨⟨dx1, ht1⟩, _⟩ := id ta1
          obtain ⟨⟨dx2, ht2⟩, hdd2⟩ := id ta2
          have ok1 := pa.ok e1 m1
          have ok2 := pa.ok e2 m2
          have l1 := ok1.len
          have l2 := ok2.len
          refine ⟨.ref p, rfl, _, rfl, p, _, _, _, rfl, rfl, sql hp4, atI_last _ _, e2.t, dx2, _, rfl, ht2, g_no _ _ _ _ (by decide +kernel) (by decide +kernel) (by decide +kernel) (by decide +kernel), ?_⟩
          refine ⟨.ref e1.t, rfl, e1.t, dx1, _, rfl, ht1, g_no _ _ _ _ (by decide +kernel) (by decide +kernel) (by decide +kernel) (by decide +kernel), e1.t, e1.d, r, e1.x.m, e1.x.o, e1.x.c, rfl, ta1, ok1.nd, (by omega), fun H5 s5 k5 ys ts sm5 ns5 hs5 hk5 hpr pm asc => ?_⟩
          have eys := srtZ_of asc pm ok1.nd
          have hpr2 : Paired (PrAt K H5) ts ys := by
            have gen : ∀ {ts : List Addr} {ys : Ct}, Paired (fun (t : Addr) (y : Str × Int) => H5 t = some (.tup [.str y.1, .int y.2])) ts ys → Paired (PrAt K H5) ts ys := by
              intro ts ys h
              induction h with
              | nil => exact .nil
              | cons h _ ih => exact .cons (.inl (.inl h)) ih
            exact gen hpr
          refine ⟨e2.t, e2.d, s5, k5, r, r, e2.x, ⟨e1.x.m, e1.x.o, ys⟩, rfl, ta2.same sm5, ok2.nd, (by omega), .inl (.inl hs5), ⟨ts, hk5.seq, hpr2⟩, (by dsimp only; rw [pm.length_eq]; omega), (by omega), fun H6 d6 b6 hd6 ta6 => ?_⟩
          subst eys
          have skeq : (⟨e1.x.m, e1.x.o, srtZ e1.x.c⟩ : Tl) = skT e1.x := rfl
          rw [skeq] at ta6
          have okp := pourT_ok ok2 (skT_ok ok1) (by omega)
          have np2 : p ≠ e2.t := ne_of hp4 ht2 (by intro z; cases z)
          have npd2 : p ≠ e2.d := ne_of hp4 hdd2 (by intro z; cases z)
          have nt' := pa.nt
          have nd' := pa.nd
          rw [List.map_cons, List.map_cons, List.nodup_cons, List.nodup_cons] at nt' nd'
          have fr2 := hfr e2 m2
          have nd6 : H d6 = none := by
            rcases hd6 with rfl | hd6
            · exact fr2.2
            · exact Same.gone s4 (Same.gone sm5 hd6)
          refine ⟨⟨e2.t, d6, pourT r (skT e1.x) e2.x⟩ :: pl, some (.ref b), y4, y5, some (.ref e1.t), rfl, fun q u e => b6 q u (ne_of_none e fr2.1) (ne_of_none e fr2.2) (sm5 q u (s4 q u e)), ?_, ⟨fun e he => ?_, fun e he => ?_, ?_, ?_⟩, ?_, fun e he => ?_⟩
          · rw [refs_rev]
            exact b6 p _ np2 npd2 (sm5 _ _ hp4)
          · rcases List.mem_cons.mp he with rfl | he
            · exact ta6
            · have te := (taR e he).same sm5
              obtain ⟨⟨dxe, hte⟩, hde⟩ := id te
              have n1 : e.t ≠ e2.t := fun z => nt'.2.1 (List.mem_map.mpr ⟨e, he, z⟩)
              have n2 : e.t ≠ e2.d := ne_of hte (sm5 _ _ hdd2) (by intro z; cases z)
              have n3 : e.d ≠ e2.t := ne_of hde (sm5 _ _ ht2) (by intro z; cases z)
              have n4 : e.d ≠ e2.d := fun z => nd'.2.1 (List.mem_map.mpr ⟨e, he, z⟩)
              exact ⟨⟨dxe, b6 _ _ n1 n2 hte⟩, b6 _ _ n3 n4 hde⟩
          · rcases List.mem_cons.mp he with rfl | he
            · exact okp
            · exact pa.ok e (List.mem_cons_of_mem _ (List.mem_cons_of_mem _ he))
          · rw [List.map_cons, List.nodup_cons]
            exact nt'.2
          · rw [List.map_cons, List.nodup_cons]
            refine ⟨fun z => ?_, nd'.2.2⟩
            obtain ⟨e, he, h⟩ := List.mem_map.mp z
            rcases hd6 with rfl | hd6
            · exact nd'.2.1 (List.mem_map.mpr ⟨e, he, h⟩)
            · have := ((taR e he).same sm5).dc
              rw [show e.d = d6 from h, hd6] at this
              cases this
          · rw [List.map_cons, hrs, ← hrn]
            rfl
          · rcases List.mem_cons.mp he with rfl | he
            · exact ⟨fr2.1, nd6⟩
            · exact hfr e (List.mem_cons_of_mem _ (List.mem_cons_of_mem _ he))
    · rintro σ H3 ⟨pl, y3, y4, y5, y6, rfl, s3, hpl, pa, hrn, hfr⟩
      rw [hl, List.take_length, hrun] at hrn
      match pl, pa, hpl, hrn, hfr with
      | [e], pa, hpl, hrn, hfr =>
        have ex : e.x = xe := by simpa using hrn
        have m1 : e ∈ [e] := List.mem_cons_self
        have ta := pa.at_ e m1
        have ok := pa.ok e m1
        obtain ⟨⟨dx, hte⟩, _⟩ := id ta
        have l1 := ok.len
        refine ⟨.ref p, rfl, p, _, _, _, rfl, rfl, sql hpl, atI_nat (j := 0) rfl, e.t, dx, _, rfl, hte, g_no _ _ _ _ (by decide +kernel) (by decide +kernel) (by decide +kernel) (by decide +kernel), e.t, e.d, r, e.x.m, e.x.o, e.x.c, rfl, ta, ok.nd, (by omega), fun H5 s5 k5 ys ts sm5 ns5 hs5 hk5 hpr pm asc => ?_⟩
        have eys := srtZ_of asc pm ok.nd
        subst eys
        rw [ex] at ok hs5 hpr
        exact q ok H5 s5 k5 ts (fun b u z => sm5 b u (s3 b u z)) (Same.gone s3 ns5) hs5 hk5 hpr
end
end Kb


namespace Kb
open PySem PySem.Spec PyProof.Rows L2 SrtZ SrtO
abbrev smixed : Stmt := topS 54
abbrev Nmixed : List Str := ["_law_number_here"]
theorem scmixed : FnScope ["_law_number_here"] ["_law_number_here"] (defScope smixed) := ⟨rfl, rfl, rfl, by decide +kernel, rfl, by decide +kernel, by decide +kernel⟩
abbrev swell : Stmt := topS 55
abbrev Nwell : List Str := ["_law_script", "_law_cell"]
theorem scwell : FnScope ["_law_script", "_law_cell"] ["_law_script"] (defScope swell) := ⟨rfl, rfl, rfl, by decide +kernel, rfl, by decide +kernel, by decide +kernel⟩
abbrev sfilled : Stmt := topS 56
abbrev Nfilled : List Str := ["_law_well_here", "_law_cell"]
theorem scfilled : FnScope ["_law_well_here", "_law_cell"] ["_law_well_here"] (defScope sfilled) := ⟨rfl, rfl, rfl, by decide +kernel, rfl, by decide +kernel, by decide +kernel⟩
abbrev sdraw : Stmt := topS 57
abbrev Ndraw : List Str := ["_law_well_here", "_law_many", "_law_told"]
theorem scdraw : FnScope ["_law_well_here", "_law_many", "_law_told"] ["_law_well_here", "_law_many"] (defScope sdraw) := ⟨rfl, rfl, rfl, by decide +kernel, rfl, by decide +kernel, by decide +kernel⟩
abbrev Dnmixed (K : PySem.W.Frag) (mg : Str → Option Value) := Dn K mg "_law_mixed" smixed ["_law_number_here"]
abbrev Dnwell (K : PySem.W.Frag) (mg : Str → Option Value) := Dn K mg "_law_well" swell ["_law_script"]
abbrev Dnfilled (K : PySem.W.Frag) (mg : Str → Option Value) := Dn K mg "_law_filled" sfilled ["_law_well_here"]
abbrev Dndraw (K : PySem.W.Frag) (mg : Str → Option Value) := Dn K mg "_law_draw" sdraw ["_law_well_here", "_law_many"]
/-- the well that is drawn from: its list, its cells -/
structure Wl (a c : Addr) (H : Hp) : Prop where
  ac : a ≠ c
  ex : ∃ (ns : List Int) (t u z : Int), H a = some (.lst [.ref c, .int t, .int u, .int z]) ∧ H c = some (.lst (ns.map V.int)) ∧ 0 ≤ t ∧ 0 ≤ u ∧ 0 ≤ z ∧ z < 2147483629
/-- all but the well stays -/
def Exw (a : Addr) (H H' : Hp) : Prop := ∀ b o, b ≠ a → H b = some o → H' b = some o
theorem Exw.refl (a : Addr) (H : Hp) : Exw a H H := fun _ _ _ h => h
theorem Exw.trans {a : Addr} {H H1 H2 : Hp} (x : Exw a H H1) (y : Exw a H1 H2) : Exw a H H2 := fun b o n h => y b o n (x b o n h)
theorem Exw.up {a : Addr} {H H1 : Hp} {u : HO} (x : Exw a H H1) : Exw a H (upd H1 a u) := fun b o n h => by
  rw [upd_ne n]
  exact x b o n h
theorem Exw.same {a : Addr} {H H1 H2 : Hp} (x : Exw a H H1) (y : Same H1 H2) : Exw a H H2 := fun b o n h => y b o (x b o n h)
theorem Same.exw {a : Addr} {H H1 : Hp} (x : Same H H1) : Exw a H H1 := fun b o _ h => x b o h
theorem Wl.same {a c : Addr} {H H' : Hp} (h : Wl a c H) (y : Same H H') : Wl a c H' := by
  obtain ⟨n1, ns, t, u, z, e1, e2, r⟩ := h
  exact ⟨n1, ns, t, u, z, y _ _ e1, y _ _ e2, r⟩
theorem Wl.nea {a c p : Addr} {H : Hp} (h : Wl a c H) (hp : H p = none) : p ≠ a := by
  obtain ⟨_, ns, t, u, z, e1, e2, _⟩ := h
  exact (ne_of_none e1 hp).symm
/-- what is no list of the well's form stays -/
theorem Exw.at {a c b : Addr} {H H' : Hp} {o : HO} (x : Exw a H H') (h : Wl a c H) (hb : H b = some o) (hl : ∀ xs, o ≠ .lst xs) : H' b = some o := by
  obtain ⟨_, ns, t, u, z, e1, e2, _⟩ := h
  exact x b o (ne_of hb e1 (hl _)) hb
/-- a list of texts is not the well's -/
theorem Exw.strs {a c b : Addr} {H H' : Hp} {zs : List Str} (x : Exw a H H') (h : Wl a c H) (hb : H b = some (.lst (zs.map V.str))) : H' b = some (.lst (zs.map V.str)) := by
  obtain ⟨_, ns, t, u, z, e1, e2, _⟩ := h
  refine x b _ (fun e => ?_) hb
  subst e
  rw [hb] at e1
  have := HO.lst.inj (Option.some.inj e1)
  cases zs with
  | nil => cases this
  | cons y ys => cases this
theorem Exw.tup {K : PySem.W.Frag} {a c b : Addr} {H H' : Hp} {xs : List V} (x : Exw a H H') (h : Wl a c H) (hb : SqT K H b xs) : SqT K H' b xs := by
  rcases hb with (hb | ⟨o, hb⟩) | hb
  · exact .inl (.inl (x.at h hb (by intro _ z; cases z)))
  · exact .inl (.inr ⟨o, x.at h hb (by intro _ z; cases z)⟩)
  · exact .inr hb
theorem Exw.new {a p : Addr} {H H1 : Hp} {u : HO} (x : Exw a H H1) (h : H1 p = none) : Exw a H (upd H1 p u) := x.same (same_upd h)
theorem Exw.gone {a p : Addr} {H H1 : Hp} (x : Exw a H H1) (ne : p ≠ a) (h : H1 p = none) : H p = none := by
  cases e : H p with
  | none => rfl
  | some o => rw [x _ _ ne e] at h; cases h
/-- an object that was new is stored anew -/
theorem Exw.put {a p : Addr} {H H1 : Hp} {u : HO} (x : Exw a H H1) (h : H p = none) : Exw a H (upd H1 p u) := fun b o n e => by
  rw [upd_ne (ne_of_none e h)]
  exact x b o n e
theorem rd_ix {K : PySem.W.Frag} {σ : L2.St} {H : Hp} {Q : VK} {a : Addr} {xs : List V} {v : V} {n : Nat} (k : Nat) (h0 : σ[n]? = some (some (.ref a))) (hS : SqL K H a xs) (hv : xs[k]? = some v) (q : Q v H) :
    tOp (rIxL K) (tVar n) (tC (.int (k : Int))) σ H Q := ⟨.ref a, h0, a, xs, k, v, rfl, rfl, hS, atI_nat hv, q⟩
theorem rd_set {H : Hp} {σ : L2.St} {a : Addr} {xs : List V} {v : V} {n : Nat} (k : Nat) {R : L2.St → Hp → Prop} (h0 : σ[n]? = some (some (.ref a))) (h : H a = some (.lst xs)) (hk : k < xs.length) (q : R σ (upd H a (.lst (xs.set k v)))) :
    gSub (tVar n) (tC (.int (k : Int))) rSetL v σ H R := ⟨.ref a, h0, a, xs, k, k, rfl, rfl, h, by unfold ixN; rw [if_pos (by omega), if_pos (by omega)]; simp, q⟩
theorem cut63 {xs : List V} (h : xs.length ≤ 63) : cutV xs none (some 63) = xs := by
  unfold cutV
  rw [show HT.sIx xs.length xs.length (some 63) = min 63 xs.length from HT.sIx_nat xs.length xs.length 63, HT.sIx_none, List.drop_zero, Nat.sub_zero]
  exact List.take_of_length_le (by omega)
section
variable {P : Program} {w : World} {K : PySem.W.Frag} {mg : Str → Option Value} {base : Heap}
/-! _law_mixed -/
def spMixed : Sp := fun vs H Q _ => ∃ n : Int, vs = [.int n] ∧ ∀ r : Int, 0 ≤ r → Q (.int r) H
theorem ok_mixed (T : Blt mg) (d : Dnmixed K mg) : FnOk P w K mg base CX0 1 d.f d.fd ["_law_number_here"] spMixed := by
  refine d.F.ok scmixed (fun vs H Q E h => ?_) (fun cdv A outer s H vs Q E hr h => ?_)
  · obtain ⟨n, rfl, _⟩ := h
    rfl
  · obtain ⟨n, rfl, q⟩ := h
    refine ⟨_, (pss_cons (ps_set (i := 0) scmixed.nd rfl (Or.inl rfl) (pe_op op_modB (pe_callTy call_int1 (by rfl) T.n_int (by decide +kernel) (pa_cons (pe_op op_add (pe_op op_mul (pv 0) pe_int) pe_int) pa_nil)) pe_int))
    (pss_cons (ps_set (i := 0) scmixed.nd rfl (Or.inl rfl) (pe_op op_modB (pe_callTy call_int1 (by rfl) T.n_int (by decide +kernel) (pa_cons (pe_op op_add (pe_op op_mul (pv 0) (pe_op op_add (pe_op op_fdiv (pv 0) pe_int) pe_int)) pe_int) pa_nil)) pe_int))
    (pss_one (ps_ret (pe_op op_add (pe_op op_mul (pv 0) pe_int) (pe_op op_modB (pe_callTy call_int1 (by rfl) T.n_int (by decide +kernel) (pa_cons (pe_op op_add (pe_op op_mul (pv 0) (pe_op op_add (pe_op op_fdiv (pv 0) pe_int) pe_int)) pe_int) pa_nil)) pe_int)))))), ?_⟩
    refine ⟨.int n, rfl, _, _, rfl, rfl, cmulR (by decide) (by decide), _, _, rfl, rfl, .inl ⟨_, rfl, _, _, rfl, rfl, (by show (0 : Int) < 2147483647; decide), fun x1 a0 a1 _ => ?_⟩⟩
    refine ⟨.int x1, rfl, .int x1, rfl, _, _, rfl, rfl, ⟨by decide, by decide⟩, _, _, rfl, rfl, _, _, rfl, rfl, cmulL a0 (by omega), _, _, rfl, rfl, .inl ⟨_, rfl, _, _, rfl, rfl, (by show (0 : Int) < 2147483647; decide), fun x2 b0 b1 _ => ?_⟩⟩
    refine ⟨.int x2, rfl, _, _, rfl, rfl, cmulL b0 (by omega), .int x2, rfl, .int x2, rfl, _, _, rfl, rfl, ⟨by decide, by decide⟩, _, _, rfl, rfl, _, _, rfl, rfl, cmulL b0 (by omega), _, _, rfl, rfl, .inl ⟨_, rfl, _, _, rfl, rfl, (by show (0 : Int) < 2147483399; decide), fun x3 c0 c1 _ => ?_⟩⟩
    exact ⟨_, _, rfl, rfl, q _ (by have : 0 ≤ x2 * 2147483399 := Int.mul_nonneg b0 (by decide); omega)⟩
/-! _law_well -/
def spWell (K : PySem.W.Frag) : Sp := fun vs H Q _ => ∃ (a : Addr) (ns : List Int), vs = [.ref a] ∧ SqL K H a (ns.map V.int) ∧ ns.length ≤ 63 ∧ ∀ H' p c, Same H H' → H p = none → Wl p c H' → Q (.ref p) H'
theorem ok_well (T : Blt mg) (d : Dnwell K mg) : FnOk P w K mg base CX0 1 d.f d.fd ["_law_script"] (spWell K) := by
  refine d.F.ok scwell (fun vs H Q E h => ?_) (fun cdv A outer s H vs Q E hr h => ?_)
  · obtain ⟨a, ns, rfl, _⟩ := h
    rfl
  · obtain ⟨a, ns, rfl, hS, hlen, q⟩ := h
    refine ⟨_, (pss_one (ps_ret (pe_lst (pa_cons (pe_lc (own := [("_law_cell", 1)]) (g := gName 1) (tt := tYes) rfl scwell.nd (pi_list (pe_slice sl_list (pv 0) po_none (po_some pe_int))) (blkOk_by (N := Nwell) (sc := defScope swell) (by decide +kernel)) (fun _ _ _ _ _ => pg_name (i := 1) scwell.nd rfl (Or.inl rfl)) (fun _ _ _ _ _ => pts_nil) (fun _ _ _ _ _ => (pe_callTy call_int1 (by rfl) T.n_int (by decide +kernel) (pa_cons (pv 1) pa_nil)))) (pa_cons pe_int (pa_cons pe_int (pa_cons pe_int pa_nil))))))), ?_⟩
    refine ⟨.ref a, rfl, 63, rfl, a, _, rfl, hS, fun c nc => ?_⟩
    rw [cut63 (by rw [List.length_map]; exact hlen)]
    refine ⟨c, rfl, ⟨_, sql upd_same⟩, fun D nD => lc_list (xs := ns.map V.int) (fun i H3 => Same H H3 ∧ H3 c = some (.lst (ns.map V.int)) ∧ H3 D = some (.lst ((ns.take i).map V.int)))
      ⟨Same.new (same_upd nc) nD, by rw [upd_ne (ne_of_none upd_same nD)]; exact upd_same, upd_same⟩ (fun i H3 _ h3 => sql h3.2.1) (fun i x H3 hx h3 => ?_) (fun H3 h3 => ?_)⟩
    · obtain ⟨x, hx', rfl⟩ := map_at hx
      have cD : c ≠ D := ne_of_none upd_same nD
      have nD0 : H D = none := Same.gone (same_upd nc) nD
      refine ⟨rfl, .int x, rfl, .inl ⟨_, rfl, _, h3.2.2, ?_, Same.put h3.1 nD0, by rw [upd_ne cD]; exact h3.2.1, ?_⟩⟩
      · rw [List.length_map, List.length_take, sizeLine_eq]
        omega
      · rw [upd_same, List.take_add_one, hx', List.map_append]
        rfl
    · obtain ⟨s3, hc3, hD3⟩ := h3
      rw [List.length_map, List.take_length] at hD3
      refine ⟨(by show 4 ≤ sizeLine; decide), fun p np => ?_⟩
      have Dp : D ≠ p := ne_of_none hD3 np
      exact q _ p D (Same.new s3 np) (Same.gone s3 np) ⟨Dp.symm, ns, 0, 0, 1, upd_same, by rw [upd_ne Dp]; exact hD3, by decide, by decide, by decide, by decide⟩
/-! _law_filled -/
def spFilled : Sp := fun vs H Q _ => ∃ (a c : Addr), vs = [.ref a] ∧ Wl a c H ∧ ∀ H' (r : Int), Exw a H H' → Wl a c H' → 0 ≤ r → Q (.int r) H'
theorem ok_filled (T : Blt mg) (dmixed : Dnmixed K mg) (d : Dnfilled K mg) : FnOk P w K mg base CX0 2 d.f d.fd ["_law_well_here"] spFilled := by
  have Gmixed : FnOk P w K mg base CX0 1 dmixed.f dmixed.fd ["_law_number_here"] spMixed := ok_mixed T dmixed
  refine d.F.ok scfilled (fun vs H Q E h => ?_) (fun cdv A outer s H vs Q E hr h => ?_)
  · obtain ⟨a, c, rfl, _⟩ := h
    rfl
  · obtain ⟨a, c, rfl, ⟨nac, ns, t, u, z, ea, ec, t0, u0, z0, z1⟩, q⟩ := h
    refine ⟨_, (pss_cons (ps_asg (pe_op op_add (pe_ix ix_list (pv 0) pe_int (fun _ _ => rfl)) pe_int) (pg_sub (pv 0) pe_int set_list))
    (pss_cons (ps_if (pt_cmpR op_le (pe_ix ix_list (pv 0) pe_int (fun _ _ => rfl)) (pe_callB call_len_seq (by rfl) T.n_len (by decide +kernel) (pa_cons (pe_ix ix_list (pv 0) pe_int (fun _ _ => rfl)) pa_nil)) (nomark _))
      (pss_cons (ps_set (i := 1) scfilled.nd rfl (Or.inl rfl) (pe_ix ix_list (pe_ix ix_list (pv 0) pe_int (fun _ _ => rfl)) (pe_op op_sub (pe_ix ix_list (pv 0) pe_int (fun _ _ => rfl)) pe_int) (fun _ _ => rfl)))
      (pss_cons (ps_asg (pe_op op_modB (pe_callTy call_int1 (by rfl) T.n_int (by decide +kernel) (pa_cons (pe_op op_add (pe_op op_add (pe_op op_mul (pe_ix ix_list (pv 0) pe_int (fun _ _ => rfl)) pe_int) (pv 1)) pe_int) pa_nil)) pe_int) (pg_sub (pv 0) pe_int set_list))
      (pss_cons (ps_if (pt_cmpR op_ge (pv 1) (pe_op op_pow pe_int pe_int) (nomark _))
        (pss_one (ps_ret (pv 1)))
        pss_nil)
      (pss_one (ps_ret (pe_call Gmixed (hr.mono (by omega)) (by rfl) dmixed.g dmixed.F.kp dmixed.b .nil pass0 (pa_cons (pe_op op_add (pv 1) (pe_op op_mul pe_int (pe_ix ix_list (pv 0) pe_int (fun _ _ => rfl)))) pa_nil)))))))
      pss_nil)
    (pss_one (ps_ret (pe_call Gmixed (hr.mono (by omega)) (by rfl) dmixed.g dmixed.F.kp dmixed.b .nil pass0 (pa_cons (pe_op op_add (pe_ix ix_list (pv 0) pe_int (fun _ _ => rfl)) (pe_op op_mul pe_int (pe_ix ix_list (pv 0) pe_int (fun _ _ => rfl)))) pa_nil)))))), ?_⟩
    refine rd_ix 1 rfl (sql ea) rfl ⟨_, _, rfl, rfl, rd_set 1 rfl ea (by decide : 1 < 4) ?_⟩
    have ea1 : (upd H a (.lst ([V.ref c, V.int t, V.int u, V.int z].set 1 (V.int (t + 1))))) a = some (.lst [.ref c, .int (t + 1), .int u, .int z]) := upd_same
    have ec1 : (upd H a (.lst ([V.ref c, V.int t, V.int u, V.int z].set 1 (V.int (t + 1))))) c = some (.lst (ns.map V.int)) := by rw [upd_ne nac.symm]; exact ec
    have ex1 : Exw a H (upd H a (.lst ([V.ref c, V.int t, V.int u, V.int z].set 1 (V.int (t + 1))))) := (Exw.refl a H).up
    generalize upd H a (.lst ([V.ref c, V.int t, V.int u, V.int z].set 1 (V.int (t + 1)))) = H1 at ea1 ec1 ex1
    refine rd_ix 1 rfl (sql ea1) rfl (rd_ix 0 rfl (sql ea1) rfl ⟨c, _, rfl, .inl (sql ec1), _, _, rfl, rfl, _, rfl, ite2 (fun hp => ?_) fun _ => ?_⟩)
    · have hl := of_decide_eq_true hp
      rw [List.length_map] at hl
      obtain ⟨k, rfl⟩ := Int.eq_ofNat_of_zero_le t0
      have hk : k < ns.length := by omega
      have hx : (ns.map V.int)[k]? = some (.int ns[k]) := by rw [List.getElem?_map, List.getElem?_eq_getElem hk]; rfl
      refine rd_ix 0 rfl (sql ea1) rfl (rd_ix 1 rfl (sql ea1) rfl ⟨_, _, rfl, rfl, c, _, _, _, rfl, rfl, sql ec1, (by rw [show (k : Int) + 1 - 1 = (k : Int) by omega]; exact atI_nat hx), ?_⟩)
      refine rd_ix 3 rfl (sql ea1) rfl ⟨_, _, rfl, rfl, cmulR (by decide) (by decide), .int ns[k], rfl, _, _, rfl, rfl, _, _, rfl, rfl, .inl ⟨_, rfl, _, _, rfl, rfl, (by show (0 : Int) < 2147483629; decide), fun z2 z20 z21 _ => ?_⟩⟩
      refine rd_set 3 rfl ea1 (by decide : 3 < 4) ?_
      have ea2 : (upd H1 a (.lst ([V.ref c, V.int (k + 1), V.int u, V.int z].set 3 (V.int z2)))) a = some (.lst [.ref c, .int (k + 1), .int u, .int z2]) := upd_same
      have ec2 : (upd H1 a (.lst ([V.ref c, V.int (k + 1), V.int u, V.int z].set 3 (V.int z2)))) c = some (.lst (ns.map V.int)) := by rw [upd_ne nac.symm]; exact ec1
      have ex2 : Exw a H (upd H1 a (.lst ([V.ref c, V.int (k + 1), V.int u, V.int z].set 3 (V.int z2)))) := ex1.up
      generalize upd H1 a (.lst ([V.ref c, V.int (k + 1), V.int u, V.int z].set 3 (V.int z2))) = H2 at ea2 ec2 ex2
      have wl2 : Wl a c H2 := ⟨nac, ns, k + 1, u, z2, ea2, ec2, by omega, u0, z20, z21⟩
      refine ⟨.int ns[k], rfl, _, _, rfl, rfl, ⟨by decide, by decide, by decide⟩, _, _, rfl, rfl, _, rfl, ite2 (fun hb => ?_) fun _ => ?_⟩
      · exact ⟨.int ns[k], rfl, q H2 _ ex2 wl2 (by have h := of_decide_eq_true hb; simp at h; omega)⟩
      · refine ⟨.int ns[k], rfl, rd_ix 1 rfl (sql ea2) rfl ⟨_, _, rfl, rfl, cmulL (by decide) (by decide), _, _, rfl, rfl, _, rfl, fun r r0 => q H2 r ex2 wl2 r0⟩⟩
    · have wl1 : Wl a c H1 := ⟨nac, ns, t + 1, u, z, ea1, ec1, by omega, u0, z0, z1⟩
      exact rd_ix 3 rfl (sql ea1) rfl (rd_ix 1 rfl (sql ea1) rfl ⟨_, _, rfl, rfl, cmulL (by decide) (by decide), _, _, rfl, rfl, _, rfl, fun r r0 => q H1 r ex1 wl1 r0⟩)
/-! _law_draw -/
def spDraw : Sp := fun vs H Q _ => ∃ (a c : Addr) (n : Int), vs = [.ref a, .int n] ∧ Wl a c H ∧ 0 < n ∧ n < 1073741824 ∧ ∀ H' (r : Int), Exw a H H' → Wl a c H' → 0 ≤ r → r < n → Q (.int r) H'
theorem ok_draw (T : Blt mg) (dmixed : Dnmixed K mg) (dfilled : Dnfilled K mg) (d : Dndraw K mg) : FnOk P w K mg base CX0 3 d.f d.fd ["_law_well_here", "_law_many"] spDraw := by
  have Gfilled : FnOk P w K mg base CX0 2 dfilled.f dfilled.fd ["_law_well_here"] spFilled := ok_filled T dmixed dfilled
  refine d.F.ok scdraw (fun vs H Q E h => ?_) (fun cdv A outer s H vs Q E hr h => ?_)
  · obtain ⟨a, c, n, rfl, _⟩ := h
    rfl
  · obtain ⟨a, c, n, rfl, hw, hn0, hn1, q⟩ := h
    refine ⟨_, (C8.pss_cut (ps_if (pt_cmpR op_eq (pe_ix ix_list (pv 0) pe_int (fun _ _ => rfl)) pe_int (nomark _))
      (pss_one (ps_asg (pe_call Gfilled (hr.mono (by omega)) (by rfl) dfilled.g dfilled.F.kp dfilled.b .nil pass0 (pa_cons (pv 0) pa_nil)) (pg_sub (pv 0) pe_int set_list)))
      pss_nil)
    (pss_cons (ps_set (i := 2) scdraw.nd rfl (Or.inl rfl) (pe_op op_modB (pe_callTy call_int1 (by rfl) T.n_int (by decide +kernel) (pa_cons (pe_ix ix_list (pv 0) pe_int (fun _ _ => rfl)) pa_nil)) (pv 1)))
    (pss_cons (ps_asg (pe_op op_fdiv (pe_callTy call_int1 (by rfl) T.n_int (by decide +kernel) (pa_cons (pe_ix ix_list (pv 0) pe_int (fun _ _ => rfl)) pa_nil)) (pv 1)) (pg_sub (pv 0) pe_int set_list))
    (pss_one (ps_ret (pv 2)))))), ?_⟩
    refine ⟨fun σ H3 => σ = [some (.ref a), some (.int n), none] ∧ Exw a H H3 ∧ Wl a c H3, ?_, ?_⟩
    · obtain ⟨nac, ns, t, u, z, ea, ec, t0, u0, z0, z1⟩ := id hw
      refine rd_ix 2 rfl (sql ea) rfl ⟨rfl, _, rfl, ite2 (fun _ => ?_) fun _ => ?_⟩
      · refine ⟨.ref a, rfl, a, c, rfl, hw, fun H1 r x1 w1 r0 => ?_⟩
        obtain ⟨nac, ns, t, u, z, ea, ec, t0, u0, z0, z1⟩ := w1
        refine rd_set 2 rfl ea (by decide : 2 < 4) ⟨rfl, x1.up, nac, ns, t, r, z, upd_same, by rw [upd_ne nac.symm]; exact ec, t0, r0, z0, z1⟩
      · exact ⟨rfl, Exw.refl a H, hw⟩
    · rintro σ H3 ⟨rfl, x3, nac, ns, t, u, z, ea, ec, t0, u0, z0, z1⟩
      refine rd_ix 2 rfl (sql ea) rfl (.inl ⟨_, rfl, .int n, rfl, _, _, rfl, rfl, hn0, fun r r0 r1 _ => ?_⟩)
      refine rd_ix 2 rfl (sql ea) rfl (.inl ⟨_, rfl, .int n, rfl, _, _, rfl, rfl, ⟨hn0, hn1⟩, ?_⟩)
      refine rd_set 2 rfl ea (by decide : 2 < 4) ⟨.int r, rfl, ?_⟩
      exact q _ r x3.up ⟨nac, ns, t, u / n, z, upd_same, by rw [upd_ne nac.symm]; exact ec, t0, Int.ediv_nonneg u0 (by omega), z0, z1⟩ r0 r1
end
end Kb


namespace Kb
open PySem PySem.Spec PyProof.Rows L2 SrtZ SrtO
abbrev sname : Stmt := topS 59
abbrev Nname : List Str := ["_law_well_here", "_law_many", "_law_k"]
theorem scname : FnScope ["_law_well_here", "_law_many", "_law_k"] ["_law_well_here"] (defScope sname) := ⟨rfl, rfl, rfl, by decide +kernel, rfl, by decide +kernel, by decide +kernel⟩
abbrev sunlike : Stmt := topS 60
abbrev Nunlike : List Str := ["_law_things", "_law_found", "_law_thing"]
theorem scunlike : FnScope ["_law_things", "_law_found", "_law_thing"] ["_law_things"] (defScope sunlike) := ⟨rfl, rfl, rfl, by decide +kernel, rfl, by decide +kernel, by decide +kernel⟩
abbrev snames : Stmt := topS 61
abbrev Nnames : List Str := ["_law_well_here", "_law_most", "_law_k"]
theorem scnames : FnScope ["_law_well_here", "_law_most", "_law_k"] ["_law_well_here", "_law_most"] (defScope snames) := ⟨rfl, rfl, rfl, by decide +kernel, rfl, by decide +kernel, by decide +kernel⟩
abbrev sroom : Stmt := topS 62
abbrev Nroom : List Str := ["_law_well_here"]
theorem scroom : FnScope ["_law_well_here"] ["_law_well_here"] (defScope sroom) := ⟨rfl, rfl, rfl, by decide +kernel, rfl, by decide +kernel, by decide +kernel⟩
abbrev Dnname (K : PySem.W.Frag) (mg : Str → Option Value) := Dn K mg "_law_name" sname ["_law_well_here"]
abbrev Dnunlike (K : PySem.W.Frag) (mg : Str → Option Value) := Dn K mg "_law_unlike" sunlike ["_law_things"]
abbrev Dnnames (K : PySem.W.Frag) (mg : Str → Option Value) := Dn K mg "_law_names" snames ["_law_well_here", "_law_most"]
abbrev Dnroom (K : PySem.W.Frag) (mg : Str → Option Value) := Dn K mg "_law_room" sroom ["_law_well_here"]
/-! texts by their signs -/
def S (l : List Nat) : Str := ⟨l.toArray⟩
theorem cs_S (l : List Nat) : cs (S l) = l := by simp [cs, S]
theorem S_cs (z : Str) : S (cs z) = z := by cases z; simp [cs, S]
theorem S_len (l : List Nat) : (S l).length = l.length := by simp [S, Str.length]
theorem cs_app (a b : Str) : cs (a ++ b) = cs a ++ cs b := by
  show (a.cps ++ b.cps).toList = _
  simp [cs]
theorem join0 : ∀ ys : List Str, Str.join (S []) ys = S (ys.map cs).flatten
  | [] => rfl
  | [x] => by
    show x = _
    simp [S_cs]
  | x :: y :: r => by
    show x ++ S [] ++ Str.join (S []) (y :: r) = _
    rw [join0 (y :: r)]
    apply cs_inj
    rw [cs_app, cs_app, cs_S, cs_S, cs_S]
    simp
theorem join_signs (l : List Nat) : Txt.join (S []) (l.map fun c => S [c]) = S l := by
  rw [show Txt.join (S []) (l.map fun c => S [c]) = Str.join (S []) (l.map fun c => S [c]) from PySem.StrLaws.glued_eq_join _ _, join0]
  congr 1
  induction l with
  | nil => rfl
  | cons c l ih =>
    rw [List.map_cons, List.map_cons, List.flatten_cons, ih, cs_S]
    rfl
theorem signs_len (l : List Nat) : ((List.map ((fun x => x.length) ∘ fun c => S [c]) l)).sum = l.length := by
  induction l with
  | nil => rfl
  | cons x r ih =>
    rw [List.map_cons, List.sum_cons, ih, List.length_cons]
    show 1 + _ = _
    omega
theorem abc_at : ∀ m : Fin 26, (Str.ofString "abcdefghijklmnopqrstuvwxyz").cps.toList[m.val]? = some (97 + m.val) := by decide +kernel
theorem Wl.ne2 {a c p : Addr} {H : Hp} (h : Wl a c H) (hp : H p = none) : p ≠ a ∧ p ≠ c := by
  obtain ⟨_, ns, t, u, z, e1, e2, _⟩ := h
  exact ⟨(ne_of_none e1 hp).symm, (ne_of_none e2 hp).symm⟩
theorem Wl.put {a c p : Addr} {H : Hp} {u : HO} (h : Wl a c H) (n : p ≠ a ∧ p ≠ c) : Wl a c (upd H p u) := by
  obtain ⟨n1, ns, t, v, z, e1, e2, r⟩ := h
  exact ⟨n1, ns, t, v, z, by rw [upd_ne n.1.symm]; exact e1, by rw [upd_ne n.2.symm]; exact e2, r⟩
theorem inV_str {z : Str} {fs : List Str} : inV (V.str z) (fs.map V.str) = decide (z ∈ fs) := by
  unfold inV
  rw [List.any_map]
  by_cases h : z ∈ fs
  · rw [decide_eq_true h]
    refine List.any_eq_true.mpr ⟨z, h, ?_⟩
    show (z == z) = true
    exact beq_self_eq_true z
  · rw [decide_eq_false h]
    refine List.any_eq_false.mpr fun y hy => ?_
    show ¬ (y == z) = true
    intro e
    exact h (eq_of_beq e ▸ hy)
theorem flat_strs (fs : List Str) : (fs.map V.str).all flatV = true := List.all_eq_true.mpr fun v hv => by
  obtain ⟨z, _, rfl⟩ := List.mem_map.mp hv
  rfl
theorem asc_strs {ys : List Str} (h : Srtd ltZ ys) (nd : ys.Nodup) : ys.Pairwise fun a b => ltZ a b = true := by
  refine List.Pairwise.imp₂ (fun a b (h1 : ltZ b a = false) (h2 : a ≠ b) => ?_) h nd
  rcases bcase (ltZ a b) with q | q
  · exact q
  · exact absurd (ltZ_tri q h1) h2
section
variable {P : Program} {w : World} {K : PySem.W.Frag} {mg : Str → Option Value} {base : Heap}
/-! _law_name -/
def spName : Sp := fun vs H Q _ => ∃ (a c : Addr), vs = [.ref a] ∧ Wl a c H ∧ ∀ H' z, Exw a H H' → Wl a c H' → Nm z → Q (.str z) H'
theorem ok_name (T : Blt mg) (dmixed : Dnmixed K mg) (dfilled : Dnfilled K mg) (ddraw : Dndraw K mg) (d : Dnname K mg) : FnOk P w K mg base CX0 4 d.f d.fd ["_law_well_here"] spName := by
  have Gdraw : FnOk P w K mg base CX0 3 ddraw.f ddraw.fd ["_law_well_here", "_law_many"] spDraw := ok_draw T dmixed dfilled ddraw
  refine d.F.ok scname (fun vs H Q E h => ?_) (fun cdv A outer s H vs Q E hr h => ?_)
  · obtain ⟨a, c, rfl, _⟩ := h
    rfl
  · obtain ⟨a, c, rfl, hw, q⟩ := h
    refine ⟨_, (pss_cons (ps_set (i := 1) scname.nd rfl (Or.inl rfl) (pe_op op_add pe_int (pe_call Gdraw (hr.mono (by omega)) (by rfl) ddraw.g ddraw.F.kp ddraw.b .nil pass0 (pa_cons (pv 0) (pa_cons pe_int pa_nil)))))
    (C8.pss_cut (ps_if (pt_cmpR op_eq (pe_call Gdraw (hr.mono (by omega)) (by rfl) ddraw.g ddraw.F.kp ddraw.b .nil pass0 (pa_cons (pv 0) (pa_cons pe_int pa_nil))) pe_int (nomark _))
      (pss_one (ps_set (i := 1) scname.nd rfl (Or.inl rfl) (pe_op op_add pe_int (pe_call Gdraw (hr.mono (by omega)) (by rfl) ddraw.g ddraw.F.kp ddraw.b .nil pass0 (pa_cons (pv 0) (pa_cons pe_int pa_nil))))))
      pss_nil)
    (pss_one (ps_ret (pe_join pe_str (pe_lc (own := [("_law_k", 2)]) (g := gName 2) (tt := tYes) rfl scname.nd (pi_range1 (by rfl) T.n_range (pa_cons (pv 1) pa_nil)) (blkOk_by (N := Nname) (sc := defScope sname) (by decide +kernel)) (fun _ _ _ _ _ => pg_name (i := 2) scname.nd rfl (Or.inl rfl)) (fun _ _ _ _ _ => pts_nil) (fun _ _ _ _ _ => (pe_ix ix_str pe_str (pe_call Gdraw (hr.mono (by omega)) (by rfl) ddraw.g ddraw.F.kp ddraw.b .nil pass0 (pa_cons (pv 0) (pa_cons pe_int pa_nil))) (fun _ _ => rfl))))))))), ?_⟩
    refine ⟨.ref a, rfl, a, c, 2, rfl, hw, (by decide), (by decide), fun H1 k x1 w1 k0 k1 => ⟨_, _, rfl, rfl, ?_⟩⟩
    refine ⟨fun σ H3 => ∃ m : Nat, 1 ≤ m ∧ m ≤ 8 ∧ σ = [some (.ref a), some (.int (m : Int)), none] ∧ Exw a H H3 ∧ Wl a c H3, ?_, ?_⟩
    · refine ⟨.ref a, rfl, a, c, 4, rfl, w1, (by decide), (by decide), fun H2 j x2 w2 j0 j1 => ⟨rfl, _, rfl, ite2 (fun _ => ?_) fun _ => ?_⟩⟩
      · refine ⟨.ref a, rfl, a, c, 8, rfl, w2, (by decide), (by decide), fun H3 i x3 w3 i0 i1 => ⟨_, _, rfl, rfl, ?_⟩⟩
        obtain ⟨n, rfl⟩ := Int.eq_ofNat_of_zero_le i0
        exact ⟨1 + n, by omega, by omega, by push_cast; rfl, (x1.trans x2).trans x3, w3⟩
      · obtain ⟨n, rfl⟩ := Int.eq_ofNat_of_zero_le k0
        exact ⟨1 + n, by omega, by omega, by push_cast; rfl, x1.trans x2, w2⟩
    · rintro σ H3 ⟨m, m1, m8, rfl, x3, w3⟩
      refine ⟨⟨_, rfl⟩, .int (m : Int), rfl, (m : Int), rfl, (by omega), (by omega), fun D nD => ?_⟩
      rw [Int.toNat_natCast]
      have hD := w3.ne2 nD
      refine lc_range (lo := 0) (n := m) (fun i H8 => Exw a H3 H8 ∧ Wl a c H8 ∧ ∃ l : List Nat, H8 D = some (.lst (l.map fun c => V.str (S [c]))) ∧ l.length = i ∧ ∀ c ∈ l, nmC c = true) ⟨(Exw.refl a H3).put nD, w3.same (same_upd nD), [], upd_same, rfl, fun _ h => nomatch h⟩ (fun i H8 hi h8 => ?_) (fun H8 h8 => ?_)
      · obtain ⟨x8, p8, l, hD8, hl, hc⟩ := h8
        refine ⟨rfl, .ref a, rfl, a, c, 26, rfl, p8, (by decide), (by decide), fun H9 c' x9 p9 c0 c26 => ?_⟩
        obtain ⟨c', rfl⟩ := Int.eq_ofNat_of_zero_le c0
        have hc26 : c' < 26 := by omega
        have hz : (Str.ofString "abcdefghijklmnopqrstuvwxyz").length ≤ sizeLine := by
          rw [show (Str.ofString "abcdefghijklmnopqrstuvwxyz").length = 26 by decide +kernel, sizeLine_eq]
          decide
        refine ⟨_, _, _, rfl, rfl, hz, atI_nat (abc_at ⟨c', hc26⟩), _, x9 D _ hD.1 hD8, ?_, (x8.trans x9).put nD, p9.put hD, l ++ [97 + c'], ?_, ?_, fun u hu => ?_⟩
        · rw [List.length_map, hl, sizeLine_eq]
          omega
        · rw [upd_same, List.map_append]
          rfl
        · rw [List.length_append, hl]
          rfl
        · rcases List.mem_append.mp hu with hu | hu
          · exact hc u hu
          · rw [List.mem_singleton.mp hu]
            unfold nmC
            simp
            omega
      obtain ⟨x8, p8, l, hD8, hl, hc⟩ := h8
      have ej : Txt.join (Str.ofString "") (l.map fun c => S [c]) = S l := join_signs l
      refine ⟨_, D, l.map fun c => S [c], rfl, rfl, .inl (sql (by rw [hD8, List.map_map]; rfl)), ?_, ?_⟩
      · rw [List.map_map, List.length_map, signs_len]
        show l.length + l.length * 0 ≤ 16777216
        omega
      · rw [ej]
        exact q H8 _ (x3.trans x8) p8 ⟨by rw [S_len]; omega, by rw [S_len]; omega, by rw [cs_S]; exact hc⟩
/-! _law_unlike -/
def spUnlike : Sp := fun vs H Q _ => ∃ (l : Addr) (zs : List Str), vs = [.ref l] ∧ H l = some (.lst (zs.map V.str)) ∧ zs.length ≤ 1000 ∧
  ∀ H' p (ys : List Str), Same H H' → H p = none → H' p = some (.lst (ys.map V.str)) → (ys.Pairwise fun a b => ltZ a b = true) → (∀ y, y ∈ ys ↔ y ∈ zs) → ys.length ≤ zs.length → Q (.ref p) H'
theorem ok_unlike (T : Blt mg) (d : Dnunlike K mg) : FnOk P w K mg base CX0 1 d.f d.fd ["_law_things"] spUnlike := by
  refine d.F.ok scunlike (fun vs H Q E h => ?_) (fun cdv A outer s H vs Q E hr h => ?_)
  · obtain ⟨l, zs, rfl, _⟩ := h
    rfl
  · obtain ⟨l, zs, rfl, hl, hlen, q⟩ := h
    refine ⟨_, (pss_cons (ps_set (i := 1) scunlike.nd rfl (Or.inl rfl) (pe_lst pa_nil))
    (pss_cons (ps_for PassesOwn.never rfl (pi_list (pv 0)) (pg_name (i := 2) scunlike.nd rfl (Or.inl rfl))
      (pss_one (ps_if (pt_cmpR op_notIn_seq (pv 2) (pv 1) rfl)
        (pss_one (ps_expr (pe_bm PySem.F.plainAttrs_list PySem.F.slot_list_append PySem.F.type_list_append mt_append (pv 1) (pa_cons (pv 2) pa_nil))))
        pss_nil)))
    (pss_one (ps_ret (pe_callB cr_sortedSL (by rfl) T.n_sorted (by decide +kernel) (pa_cons (pv 1) pa_nil)))))), ?_⟩
    refine ⟨(by show 0 ≤ sizeLine; exact Nat.zero_le _), fun D nD => ?_⟩
    have lD : l ≠ D := ne_of_none hl nD
    refine ⟨.ref l, rfl, l, rfl, ⟨_, sql (same_upd nD _ _ hl)⟩, for_list (xs := zs.map V.str) (fun i σ H3 => ∃ x, σ = [some (.ref l), some (.ref D), x] ∧ Same H H3 ∧ ∃ fs : List Str, H3 D = some (.lst (fs.map V.str)) ∧ fs.Nodup ∧ fs.length ≤ i ∧ ∀ y, y ∈ fs ↔ y ∈ zs.take i) ⟨none, rfl, same_upd nD, [], upd_same, List.nodup_nil, Nat.le_refl _, fun y => by simp⟩ (fun i σ H3 _ ⟨_, _, s3, _⟩ => sql (s3 _ _ hl)) ?_ ?_⟩
    · rintro i v σ H3 hi ⟨x, rfl, s3, fs, hD3, nd, fl, mem⟩
      obtain ⟨z, hz, rfl⟩ := map_at hi
      have hil := (List.getElem?_eq_some_iff.mp hz).1
      refine ⟨.str z, rfl, .ref D, rfl, D, _, rfl, .inl (sql hD3), rfl, flat_strs fs, _, rfl, ?_⟩
      rw [inV_str]
      by_cases h : z ∈ fs
      · rw [decide_eq_true h]
        refine iteF ⟨some (.str z), rfl, s3, fs, hD3, nd, by omega, fun y => ?_⟩
        rw [List.take_add_one, hz, mem y]
        constructor
        · intro hy
          exact List.mem_append.mpr (.inl hy)
        · intro hy
          rcases List.mem_append.mp hy with hy | hy
          · exact hy
          · rw [List.mem_singleton.mp hy]
            exact (mem z).mp h
      · rw [decide_eq_false h]
        refine iteT ⟨.ref D, rfl, .inl ⟨rfl, _, sql hD3⟩, .str z, rfl, D, _, _, rfl, rfl, hD3, ?_, some (.str z), rfl, Same.put s3 nD, fs ++ [z], ?_, ?_, ?_, fun y => ?_⟩
        · rw [List.length_map, sizeLine_eq]
          omega
        · rw [upd_same, List.map_append]
          rfl
        · exact List.nodup_append.mpr ⟨nd, (by simp), fun a ha b hb e => by rw [List.mem_singleton.mp hb] at e; exact h (e ▸ ha)⟩
        · rw [List.length_append]
          show fs.length + 1 ≤ i + 1
          omega
        · rw [List.take_add_one, hz]
          constructor
          · intro hy
            rcases List.mem_append.mp hy with hy | hy
            · exact List.mem_append.mpr (.inl ((mem y).mp hy))
            · exact List.mem_append.mpr (.inr hy)
          · intro hy
            rcases List.mem_append.mp hy with hy | hy
            · exact List.mem_append.mpr (.inl ((mem y).mpr hy))
            · exact List.mem_append.mpr (.inr hy)
    · rintro σ H3 ⟨x, rfl, s3, fs, hD3, nd, fl, mem⟩
      rw [List.length_map] at fl mem
      rw [List.take_length] at mem
      refine ⟨.ref D, rfl, D, fs, rfl, sql hD3, fun ys p pm so np => ?_⟩
      exact q _ p ys (Same.new s3 np) (Same.gone s3 np) upd_same (asc_strs so (pm.nodup_iff.mpr nd)) (fun y => (pm.mem_iff).trans (mem y)) (by rw [pm.length_eq]; exact fl)
/-! _law_names -/
def spNames : Sp := fun vs H Q _ => ∃ (a c : Addr) (n : Int), vs = [.ref a, .int n] ∧ Wl a c H ∧ 0 < n ∧ n ≤ 900 ∧
  ∀ H' p (ys : List Str), Exw a H H' → Wl a c H' → H p = none → p ≠ a → p ≠ c → H' p = some (.lst (ys.map V.str)) → (ys.Pairwise fun a b => ltZ a b = true) → (∀ y ∈ ys, Nm y) → 0 < ys.length → (ys.length : Int) ≤ n → Q (.ref p) H'
theorem ok_names (T : Blt mg) (dmixed : Dnmixed K mg) (dfilled : Dnfilled K mg) (ddraw : Dndraw K mg) (dname : Dnname K mg) (dunlike : Dnunlike K mg) (d : Dnnames K mg) : FnOk P w K mg base CX0 5 d.f d.fd ["_law_well_here", "_law_most"] spNames := by
  have Gdraw : FnOk P w K mg base CX0 3 ddraw.f ddraw.fd ["_law_well_here", "_law_many"] spDraw := ok_draw T dmixed dfilled ddraw
  have Gname : FnOk P w K mg base CX0 4 dname.f dname.fd ["_law_well_here"] spName := ok_name T dmixed dfilled ddraw dname
  have Gunlike : FnOk P w K mg base CX0 1 dunlike.f dunlike.fd ["_law_things"] spUnlike := ok_unlike T dunlike
  refine d.F.ok scnames (fun vs H Q E h => ?_) (fun cdv A outer s H vs Q E hr h => ?_)
  · obtain ⟨a, c, n, rfl, _⟩ := h
    rfl
  · obtain ⟨a, c, n, rfl, hw, n0, n1, q⟩ := h
    refine ⟨_, (pss_one (ps_ret (pe_call Gunlike (hr.mono (by omega)) (by rfl) dunlike.g dunlike.F.kp dunlike.b .nil pass0 (pa_cons (pe_lc (own := [("_law_k", 2)]) (g := gName 2) (tt := tYes) rfl scnames.nd (pi_range1 (by rfl) T.n_range (pa_cons (pe_op op_add pe_int (pe_call Gdraw (hr.mono (by omega)) (by rfl) ddraw.g ddraw.F.kp ddraw.b .nil pass0 (pa_cons (pv 0) (pa_cons (pv 1) pa_nil)))) pa_nil)) (blkOk_by (N := Nnames) (sc := defScope snames) (by decide +kernel)) (fun _ _ _ _ _ => pg_name (i := 2) scnames.nd rfl (Or.inl rfl)) (fun _ _ _ _ _ => pts_nil) (fun _ _ _ _ _ => (pe_call Gname (hr.mono (by omega)) (by rfl) dname.g dname.F.kp dname.b .nil pass0 (pa_cons (pv 0) pa_nil)))) pa_nil)))), ?_⟩
    refine ⟨.ref a, rfl, .int n, rfl, a, c, n, rfl, hw, n0, (by omega), fun H1 k x1 w1 k0 k1 => ⟨_, _, rfl, rfl, 1 + k, rfl, (by omega), (by omega), fun D nD => ?_⟩⟩
    have hD := w1.ne2 nD
    obtain ⟨kn, rfl⟩ := Int.eq_ofNat_of_zero_le k0
    rw [show (1 + (kn : Int)).toNat = 1 + kn by omega]
    refine lc_range (lo := 0) (n := 1 + kn) (fun i H8 => Exw a H1 H8 ∧ Wl a c H8 ∧ ∃ zs : List Str, H8 D = some (.lst (zs.map V.str)) ∧ zs.length = i ∧ ∀ z ∈ zs, Nm z) ⟨(Exw.refl a H1).put nD, w1.same (same_upd nD), [], upd_same, rfl, fun _ h => nomatch h⟩ (fun i H8 hi h8 => ?_) (fun H8 h8 => ?_)
    · obtain ⟨x8, p8, zs, hD8, hl, hc⟩ := h8
      refine ⟨rfl, .ref a, rfl, a, c, rfl, p8, fun H9 z x9 p9 hz => ⟨_, x9 D _ hD.1 hD8, ?_, (x8.trans x9).put nD, p9.put hD, zs ++ [z], ?_, ?_, fun u hu => ?_⟩⟩
      · rw [List.length_map, hl, sizeLine_eq]
        omega
      · rw [upd_same, List.map_append]
        rfl
      · rw [List.length_append, hl]
        rfl
      · rcases List.mem_append.mp hu with hu | hu
        · exact hc u hu
        · rw [List.mem_singleton.mp hu]
          exact hz
    · obtain ⟨x8, p8, zs, hD8, hl, hc⟩ := h8
      refine ⟨D, zs, rfl, hD8, by omega, fun H9 p ys s9 np hp9 so mem len => ?_⟩
      have hp := p8.ne2 np
      refine q H9 p ys ((x1.trans x8).same s9) (p8.same s9) (Exw.gone (x1.trans x8) hp.1 np) hp.1 hp.2 hp9 so (fun y hy => hc y ((mem y).mp hy)) ?_ (by omega)
      cases ys with
      | cons _ _ => exact Nat.succ_pos _
      | nil =>
        cases zs with
        | nil => exact absurd hl (by simp; omega)
        | cons z r => exact nomatch (mem z).mpr List.mem_cons_self
/-! _law_room -/
def spRoom : Sp := fun vs H Q _ => ∃ (a c : Addr), vs = [.ref a] ∧ Wl a c H ∧ ∀ H' (r : Int), Exw a H H' → Wl a c H' → 1 ≤ r → r ≤ 64 → Q (.int r) H'
theorem ok_room (T : Blt mg) (dmixed : Dnmixed K mg) (dfilled : Dnfilled K mg) (ddraw : Dndraw K mg) (d : Dnroom K mg) : FnOk P w K mg base CX0 4 d.f d.fd ["_law_well_here"] spRoom := by
  have Gdraw : FnOk P w K mg base CX0 3 ddraw.f ddraw.fd ["_law_well_here", "_law_many"] spDraw := ok_draw T dmixed dfilled ddraw
  refine d.F.ok scroom (fun vs H Q E h => ?_) (fun cdv A outer s H vs Q E hr h => ?_)
  · obtain ⟨a, c, rfl, _⟩ := h
    rfl
  · obtain ⟨a, c, rfl, hw, q⟩ := h
    refine ⟨_, (pss_one (ps_ret (pe_op op_add pe_int (pe_call Gdraw (hr.mono (by omega)) (by rfl) ddraw.g ddraw.F.kp ddraw.b .nil pass0 (pa_cons (pv 0) (pa_cons (pe_ix ix_list (pe_lst (pa_cons pe_int (pa_cons pe_int (pa_cons pe_int (pa_cons pe_int pa_nil))))) (pe_call Gdraw (hr.mono (by omega)) (by rfl) ddraw.g ddraw.F.kp ddraw.b .nil pass0 (pa_cons (pv 0) (pa_cons pe_int pa_nil))) (fun _ _ => rfl)) pa_nil)))))), ?_⟩
    refine ⟨.ref a, rfl, (by show 4 ≤ sizeLine; decide), fun l nl => ?_⟩
    have hl := hw.ne2 nl
    refine ⟨.ref a, rfl, a, c, 4, rfl, hw.same (same_upd nl), (by decide), (by decide), fun H1 k x1 w1 k0 k1 => ?_⟩
    obtain ⟨kn, rfl⟩ := Int.eq_ofNat_of_zero_le k0
    have hk : kn < 4 := by omega
    obtain ⟨m, hm, m0, m1⟩ : ∃ m : Int, [V.int 4, V.int 4, V.int 8, V.int 64][kn]? = some (.int m) ∧ 0 < m ∧ m ≤ 64 := by
      match kn, hk with
      | 0, _ => exact ⟨4, rfl, by decide, by decide⟩
      | 1, _ => exact ⟨4, rfl, by decide, by decide⟩
      | 2, _ => exact ⟨8, rfl, by decide, by decide⟩
      | 3, _ => exact ⟨64, rfl, by decide, by decide⟩
      | n + 4, h => exact absurd h (by omega)
    refine ⟨l, _, _, _, rfl, rfl, sql (x1 _ _ hl.1 upd_same), atI_nat hm, a, c, m, rfl, w1, m0, (by omega), fun H2 r x2 w2 r0 r1 => ⟨_, _, rfl, rfl, ?_⟩⟩
    exact q H2 _ (((Same.exw (same_upd nl)).trans x1).trans x2) w2 (by omega) (by omega)
end
end Kb


namespace Kb
open PySem PySem.Spec PyProof.Rows L2 SrtZ SrtO
abbrev salike : Stmt := topS 73
abbrev Nalike : List Str := ["_law_told", "_law_due", "_law_k"]
theorem scalike : FnScope ["_law_told", "_law_due", "_law_k"] ["_law_told", "_law_due"] (defScope salike) := ⟨rfl, rfl, rfl, by decide +kernel, rfl, by decide +kernel, by decide +kernel⟩
abbrev Dnalike (K : PySem.W.Frag) (mg : Str → Option Value) := Dn K mg "_law_alike" salike ["_law_told", "_law_due"]
/-! data that are alike -/
def Leq (x y : V) : Prop := (∃ i : Int, x = .int i ∧ y = .int i) ∨ ∃ z : Str, x = .str z ∧ y = .str z
def Eqv (K : PySem.W.Frag) : Nat → Hp → V → V → Prop
  | 0, _, x, y => Leq x y
  | n + 1, H, x, y => Leq x y ∨ ∃ (a b : Addr) (xs ys : List V), x = .ref a ∧ y = .ref b ∧ SqT K H a xs ∧ SqT K H b ys ∧ xs.length = ys.length ∧ xs.length ≤ 1000 ∧ ∀ (i : Nat) (u v : V), xs[i]? = some u → ys[i]? = some v → Eqv K n H u v
theorem Eqv.same {K : PySem.W.Frag} {H H' : Hp} (s : Same H H') : ∀ {n : Nat} {x y : V}, Eqv K n H x y → Eqv K n H' x y
  | 0, _, _, h => h
  | n + 1, x, y, h => by
    rcases h with h | ⟨a, b, xs, ys, e1, e2, h1, h2, h3, h4, h5⟩
    · exact .inl h
    · exact .inr ⟨a, b, xs, ys, e1, e2, seqT h1 s, seqT h2 s, h3, h4, fun i u v hu hv => Eqv.same s (h5 i u v hu hv)⟩
def spAlike (K : PySem.W.Frag) (n : Nat) : Sp := fun vs H Q _ => ∃ x y : V, vs = [x, y] ∧ Eqv K n H x y ∧ ∀ H', Same H H' → Q (.bl true) H'
def spAlike' (K : PySem.W.Frag) : Nat → Sp
  | 0 => fun _ _ _ _ => False
  | n + 1 => spAlike K n
theorem Eqv.cases {K : PySem.W.Frag} {n : Nat} {H : Hp} {x y : V} (h : Eqv K n H x y) : Leq x y ∨ ∃ m, n = m + 1 ∧ ∃ (a b : Addr) (xs ys : List V), x = .ref a ∧ y = .ref b ∧ SqT K H a xs ∧ SqT K H b ys ∧ xs.length = ys.length ∧ xs.length ≤ 1000 ∧ ∀ (i : Nat) (u v : V), xs[i]? = some u → ys[i]? = some v → Eqv K m H u v := by
  cases n with
  | zero => exact .inl h
  | succ n =>
    rcases h with h | h
    · exact .inl h
    · exact .inr ⟨n, rfl, h⟩
section
variable {P : Program} {w : World} {K : PySem.W.Frag} {mg : Str → Option Value} {base : Heap}
theorem ok_alike' (T : Blt mg) (dalike : Dnalike K mg) (n : Nat) (Galike : FnOk P w K mg base CX0 (n + 1) dalike.f dalike.fd ["_law_told", "_law_due"] (spAlike' K n)) : FnOk P w K mg base CX0 (n + 2) dalike.f dalike.fd ["_law_told", "_law_due"] (spAlike K n) := by
  refine dalike.F.ok scalike (fun vs H Q E h => ?_) (fun cdv A outer s H vs Q E hr h => ?_)
  · obtain ⟨x, y, rfl, _⟩ := h
    rfl
  · obtain ⟨x, y, rfl, he, q⟩ := h
    refine ⟨_, (pss_cons (ps_if (pt_val (pe_callB call_isi (by rfl) T.n_isinstance (by decide +kernel) (pa_cons (pv 1) (pa_cons (pe_bltn (v := .ty "tuple") (by rfl) T.n_tuple (by decide +kernel) rfl) pa_nil))))
      (pss_cons (ps_if (PW.pt (pw_or (pt_not (pt_val (pe_callB call_isi (by rfl) T.n_isinstance (by decide +kernel) (pa_cons (pv 0) (pa_cons (pe_bltn (v := .ty "tuple") (by rfl) T.n_tuple (by decide +kernel) rfl) pa_nil))))) (pw_or1 (pt_cmpR op_ne (pe_callB call_len_seq (by rfl) T.n_len (by decide +kernel) (pa_cons (pv 0) pa_nil)) (pe_callB call_len_seq (by rfl) T.n_len (by decide +kernel) (pa_cons (pv 1) pa_nil)) (nomark _)))))
        (pss_one (ps_ret pe_bl))
        pss_nil)
      (pss_one (ps_ret (pe_callB (cr_all rfl) (by rfl) T.n_all (by decide +kernel) (pa_cons (pe_lc (own := [("_law_k", 2)]) (g := gName 2) (tt := tYes) rfl scalike.nd (pi_range1 (by rfl) T.n_range (pa_cons (pe_callB call_len_seq (by rfl) T.n_len (by decide +kernel) (pa_cons (pv 1) pa_nil)) pa_nil)) (blkOk_by (N := Nalike) (sc := defScope salike) (by decide +kernel)) (fun _ _ _ _ _ => pg_name (i := 2) scalike.nd rfl (Or.inl rfl)) (fun _ _ _ _ _ => pts_nil) (fun _ _ _ _ _ => (pe_call Galike (hr.mono (by omega)) (by rfl) dalike.g dalike.F.kp dalike.b .nil pass0 (pa_cons (pe_ix (r := rIxT K) ix_tup (pv 0) (pv 2) (fun _ _ => rfl)) (pa_cons (pe_ix (r := rIxT K) ix_tup (pv 1) (pv 2) (fun _ _ => rfl)) pa_nil))))) pa_nil)))))
      pss_nil)
    (pss_cons (ps_if (pt_cmpR op_isN (pv 1) pe_non (nomark _))
      (pss_one (ps_ret (pe_cmpR op_isN (pv 0) pe_non (nomark _))))
      pss_nil)
    (pss_cons (ps_if (pt_val (pe_callB call_isi (by rfl) T.n_isinstance (by decide +kernel) (pa_cons (pv 1) (pa_cons (pe_bltn (v := .ty "str") (by rfl) T.n_str (by decide +kernel) rfl) pa_nil))))
      (pss_one (ps_ret (pe_and (pe_callB call_isi (by rfl) T.n_isinstance (by decide +kernel) (pa_cons (pv 0) (pa_cons (pe_bltn (v := .ty "str") (by rfl) T.n_str (by decide +kernel) rfl) pa_nil))) (pe_one (pe_cmpR op_eq (pv 0) (pv 1) (nomark _))))))
      pss_nil)
    (pss_one (ps_ret (pe_and (pe_callB call_isi (by rfl) T.n_isinstance (by decide +kernel) (pa_cons (pv 0) (pa_cons (pe_bltn (v := .ty "int") (by rfl) T.n_int (by decide +kernel) rfl) pa_nil))) (pe_and (pe_not (pe_callB call_isi (by rfl) T.n_isinstance (by decide +kernel) (pa_cons (pv 0) (pa_cons (pe_bltn (v := .ty "bool") (by rfl) T.n_bool (by decide +kernel) rfl) pa_nil)))) (pe_one (pe_cmpR op_eq (pv 0) (pv 1) (nomark _)))))))))), ?_⟩
    rcases he.cases with (⟨i, rfl, rfl⟩ | ⟨z, rfl, rfl⟩) | ⟨m, rfl, a, b, xs, ys, rfl, rfl, g1, g2, hl, hl2, h5⟩
    · refine ⟨.int i, rfl, .int i, _, _, _, false, rfl, .ty "tuple", .base (.int i), kit_ty (by decide +kernel), false, rfl, iteF ?_⟩
      refine ⟨.int i, rfl, rfl, false, rfl, iteF ?_⟩
      refine ⟨.int i, rfl, .int i, _, _, _, false, rfl, .ty "str", .base (.int i), kit_ty (by decide +kernel), false, rfl, iteF ?_⟩
      refine ⟨.int i, rfl, .int i, _, _, _, true, rfl, .ty "int", .base (.int i), kit_ty (by decide +kernel), true, rfl, iteT ?_⟩
      refine ⟨.int i, rfl, .int i, _, _, _, false, rfl, .ty "bool", .base (.int i), kit_ty (by decide +kernel), false, rfl, true, rfl, iteT ⟨.int i, rfl, .int i, rfl, rfl, ?_⟩⟩
      rw [decide_eq_true rfl]
      exact q _ (Same.refl H)
    · refine ⟨.str z, rfl, .str z, _, _, _, false, rfl, .ty "tuple", .base (.str z), kit_ty (by decide +kernel), false, rfl, iteF ?_⟩
      refine ⟨.str z, rfl, rfl, false, rfl, iteF ?_⟩
      refine ⟨.str z, rfl, .str z, _, _, _, true, rfl, .ty "str", .base (.str z), kit_ty (by decide +kernel), true, rfl, iteT ?_⟩
      refine ⟨.str z, rfl, .str z, _, _, _, true, rfl, .ty "str", .base (.str z), kit_ty (by decide +kernel), true, rfl, iteT ⟨.str z, rfl, .str z, rfl, rfl, ?_⟩⟩
      rw [decide_eq_true rfl]
      exact q _ (Same.refl H)
    · refine ⟨.ref b, rfl, .ref b, _, _, _, true, rfl, .ty "tuple", tyT g2, kit_ty (by decide +kernel), true, rfl, iteT ?_⟩
      refine ⟨.ref a, rfl, .ref a, _, _, _, true, rfl, .ty "tuple", tyT g1, kit_ty (by decide +kernel), true, rfl, iteF ?_⟩
      refine ⟨.ref a, rfl, a, _, rfl, .inr g1, .ref b, rfl, b, _, rfl, .inr g2, rfl, false, congrArg V.bl (by rw [hl]; simp), iteF ?_⟩
      refine ⟨.ref b, rfl, b, _, rfl, .inr g2, ys.length, rfl, by omega, by omega, fun D nD => ?_⟩
      rw [Int.toNat_natCast]
      refine lc_range (lo := 0) (n := ys.length) (fun i H3 => Same H H3 ∧ H3 D = some (.lst ((List.range i).map fun _ => V.bl true))) ⟨same_upd nD, upd_same⟩ (fun i H3 hi h3 => ?_) (fun H3 h3 => ?_)
      · have hxi : xs[i]? = some (xs[i]'(by omega)) := List.getElem?_eq_getElem (by omega)
        have hyi : ys[i]? = some ys[i] := List.getElem?_eq_getElem hi
        have ev := Eqv.same h3.1 (h5 i _ _ hxi hyi)
        refine ⟨rfl, .ref a, rfl, .int (0 + (i : Int)), rfl, a, _, _, _, rfl, rfl, seqT g1 h3.1, (by rw [Int.zero_add]; exact atI_nat hxi), .ref b, rfl, .int (0 + (i : Int)), rfl, b, _, _, _, rfl, rfl, seqT g2 h3.1, (by rw [Int.zero_add]; exact atI_nat hyi), _, _, rfl, ev, fun H4 s4 => ⟨_, s4 _ _ h3.2, ?_, ?_, ?_⟩⟩
        · rw [List.length_map, List.length_range, sizeLine_eq]
          omega
        · exact Same.put (fun b u e => s4 b u (h3.1 b u e)) nD
        · rw [upd_same, List.range_succ, List.map_append]
          rfl
      · refine ⟨D, (List.range ys.length).map fun _ => true, rfl, sql (by rw [h3.2, List.map_map]; rfl), ?_⟩
        rw [show (((List.range ys.length).map fun _ => true).all id) = true by simp]
        exact q H3 h3.1
theorem ok_alike (T : Blt mg) (dalike : Dnalike K mg) : ∀ n : Nat, FnOk P w K mg base CX0 (n + 1) dalike.f dalike.fd ["_law_told", "_law_due"] (spAlike' K n)
  | 0 => dalike.F.ok scalike (fun _ _ _ _ h => h.elim) (fun _ _ _ _ _ _ _ _ _ h => h.elim)
  | n + 1 => ok_alike' T dalike n (ok_alike T dalike n)
end
end Kb


namespace Kb
open PySem PySem.Spec PyProof.Rows L2 SrtZ SrtO
abbrev sitem : Stmt := topS 63
abbrev Nitem : List Str := ["_law_well_here", "_law_names_here"]
theorem scitem : FnScope ["_law_well_here", "_law_names_here"] ["_law_well_here", "_law_names_here"] (defScope sitem) := ⟨rfl, rfl, rfl, by decide +kernel, rfl, by decide +kernel, by decide +kernel⟩
abbrev Dnitem (K : PySem.W.Frag) (mg : Str → Option Value) := Dn K mg "_law_item" sitem ["_law_well_here", "_law_names_here"]
section
variable {P : Program} {w : World} {K : PySem.W.Frag} {mg : Str → Option Value} {base : Heap}
def spItem : Sp := fun vs H Q _ => ∃ (a c l : Addr) (ys : List Str), vs = [.ref a, .ref l] ∧ Wl a c H ∧ H l = some (.lst (ys.map V.str)) ∧ 0 < ys.length ∧ ys.length ≤ 1000 ∧ ∀ H' z, Exw a H H' → Wl a c H' → z ∈ ys → Q (.str z) H'
theorem ok_item (T : Blt mg) (dmixed : Dnmixed K mg) (dfilled : Dnfilled K mg) (ddraw : Dndraw K mg) (d : Dnitem K mg) : FnOk P w K mg base CX0 4 d.f d.fd ["_law_well_here", "_law_names_here"] spItem := by
  have Gdraw : FnOk P w K mg base CX0 3 ddraw.f ddraw.fd ["_law_well_here", "_law_many"] spDraw := ok_draw T dmixed dfilled ddraw
  refine d.F.ok scitem (fun vs H Q E h => ?_) (fun cdv A outer s H vs Q E hr h => ?_)
  · obtain ⟨a, c, l, ys, rfl, _⟩ := h
    rfl
  · obtain ⟨a, c, l, ys, rfl, hw, hl, y0, y1, q⟩ := h
    refine ⟨_, (pss_one (ps_ret (pe_ix ix_list (pv 1) (pe_callB (call_min2 rfl) (by rfl) T.n_min (by decide +kernel) (pa_cons (pe_call Gdraw (hr.mono (by omega)) (by rfl) ddraw.g ddraw.F.kp ddraw.b .nil pass0 (pa_cons (pv 0) (pa_cons (pe_callB call_len_seq (by rfl) T.n_len (by decide +kernel) (pa_cons (pv 1) pa_nil)) pa_nil))) (pa_cons (pe_call Gdraw (hr.mono (by omega)) (by rfl) ddraw.g ddraw.F.kp ddraw.b .nil pass0 (pa_cons (pv 0) (pa_cons (pe_callB call_len_seq (by rfl) T.n_len (by decide +kernel) (pa_cons (pv 1) pa_nil)) pa_nil))) pa_nil))) (fun _ _ => rfl)))), ?_⟩
    refine ⟨.ref l, rfl, .ref a, rfl, .ref l, rfl, l, _, rfl, .inl (sql hl), a, c, _, rfl, hw, (by rw [List.length_map]; omega), (by rw [List.length_map]; omega), fun H1 i x1 w1 i0 i1 => ?_⟩
    have hl1 := x1.strs hw hl
    refine ⟨.ref a, rfl, .ref l, rfl, l, _, rfl, .inl (sql hl1), a, c, _, rfl, w1, (by rw [List.length_map]; omega), (by rw [List.length_map]; omega), fun H2 j x2 w2 j0 j1 => ?_⟩
    have hl2 := x2.strs w1 hl1
    rw [List.length_map] at i1 j1
    obtain ⟨m, hm, m1⟩ : ∃ m : Nat, (if j < i then j else i) = (m : Int) ∧ m < ys.length := by
      obtain ⟨i', rfl⟩ := Int.eq_ofNat_of_zero_le i0
      obtain ⟨j', rfl⟩ := Int.eq_ofNat_of_zero_le j0
      split
      · exact ⟨j', rfl, by omega⟩
      · exact ⟨i', rfl, by omega⟩
    refine ⟨_, _, rfl, l, _, _, .str ys[m], rfl, rfl, sql hl2, (by rw [hm]; exact atI_nat (by rw [List.getElem?_map, List.getElem?_eq_getElem m1]; rfl)), q H2 _ (x1.trans x2) w2 (List.getElem_mem m1)⟩
end
end Kb


namespace Kb
open PySem PySem.Spec PyProof.Rows L2 SrtZ SrtO
/-- the pair that a tuple of the heap holds -/
def rdP (H : Hp) (t : Addr) : Str × Int := match H t with
  | some (.tup [.str x, .int y]) => (x, y)
  | _ => (⟨#[]⟩, 0)
theorem rdP_of {H : Hp} {t : Addr} {e : Str × Int} (h : H t = some (.tup [.str e.1, .int e.2])) : rdP H t = e := by
  unfold rdP
  rw [h]
theorem paired_snoc {α β : Type} {F : α → β → Prop} : ∀ {xs : List α} {ys : List β} {x : α} {y : β}, Paired F xs ys → F x y → Paired F (xs ++ [x]) (ys ++ [y])
  | _, _, _, _, .nil, h => .cons h .nil
  | _, _, _, _, .cons h t, k => .cons h (paired_snoc t k)
theorem paired_imp {α β : Type} {F G : α → β → Prop} (h : ∀ a b, F a b → G a b) : ∀ {xs : List α} {ys : List β}, Paired F xs ys → Paired G xs ys
  | _, _, .nil => .nil
  | _, _, .cons a t => .cons (h _ _ a) (paired_imp h t)
theorem paired_rd {H : Hp} : ∀ {ts : List Addr} {kvs : Ct}, Paired (fun (t : Addr) (e : Str × Int) => H t = some (.tup [.str e.1, .int e.2])) ts kvs → ts.map (rdP H) = kvs ∧ ∀ t ∈ ts, H t = some (.tup [.str (rdP H t).1, .int (rdP H t).2])
  | _, _, .nil => ⟨rfl, fun _ h => nomatch h⟩
  | _, _, .cons h t => by
    obtain ⟨h1, h2⟩ := paired_rd t
    have e := rdP_of h
    refine ⟨by rw [List.map_cons, h1, e], fun u hu => ?_⟩
    rcases List.mem_cons.mp hu with rfl | hu
    · rw [e]
      exact h
    · exact h2 u hu
theorem paired_map {H : Hp} {k : Addr → Str × Int} : ∀ {ts : List Addr}, (∀ t ∈ ts, H t = some (.tup [.str (k t).1, .int (k t).2])) → Paired (fun (t : Addr) (e : Str × Int) => H t = some (.tup [.str e.1, .int e.2])) ts (ts.map k)
  | [], _ => .nil
  | t :: ts, h => .cons (h t List.mem_cons_self) (paired_map fun u hu => h u (List.mem_cons_of_mem _ hu))
theorem getZ_self {kvs : Ct} {i : Nat} {e : Str × Int} (nd : NdZ kvs) (h : kvs[i]? = some e) : getZ kvs e.1 = some e.2 := by
  have hm := List.mem_of_getElem? h
  clear h
  unfold getZ
  induction kvs with
  | nil => cases hm
  | cons f r ih =>
    unfold NdZ at nd
    rw [List.map_cons, List.nodup_cons] at nd
    rcases List.mem_cons.mp hm with rfl | hm
    · simp
    · have : ¬ f.1 = e.1 := fun z => nd.1 (List.mem_map.mpr ⟨e, hm, z.symm⟩)
      rw [List.find?_cons_of_neg (by simpa using this)]
      exact ih nd.2 hm
theorem getZ_mem {kvs : Ct} {e : Str × Int} (nd : NdZ kvs) (h : e ∈ kvs) : getZ kvs e.1 = some e.2 := by
  obtain ⟨i, hi⟩ := List.mem_iff_getElem?.mp h
  exact getZ_self nd hi
theorem getZ_in {kvs : Ct} {n : Str} {v : Int} (h : getZ kvs n = some v) : (n, v) ∈ kvs := by
  unfold getZ at h
  cases e : kvs.find? fun e => decide (e.1 = n) with
  | none => rw [e] at h; cases h
  | some x =>
    rw [e] at h
    have h1 := List.mem_of_find?_eq_some e
    have h2 : x.1 = n := of_decide_eq_true (List.find?_some (p := fun e : Str × Int => decide (e.1 = n)) e)
    have h3 : x.2 = v := Option.some.inj h
    rw [← h2, ← h3]
    exact h1
end Kb



namespace Kb
open PySem PySem.Spec PyProof.Rows L2 SrtZ SrtO
/-! sketches on the heap -/
abbrev PrT (H : Hp) (t : Addr) (y : Str × Int) : Prop := H t = some (.tup [.str y.1, .int y.2])
theorem eqv_pair {K : PySem.W.Frag} {H : Hp} {t t2 : Addr} {e : Str × Int} (h1 : PrT H t e) (h2 : PrT H t2 e) : Eqv K 1 H (.ref t) (.ref t2) :=
  .inr ⟨t, t2, _, _, rfl, rfl, .inl (.inl h1), .inl (.inl h2), rfl, (by show 2 ≤ 1000; decide), fun i u v hu hv => by
    match i, hu, hv with
    | 0, hu, hv =>
      cases hu
      cases hv
      exact .inr ⟨_, rfl, rfl⟩
    | 1, hu, hv =>
      cases hu
      cases hv
      exact .inl ⟨_, rfl, rfl⟩
    | i + 2, hu, hv => simp at hu⟩
theorem eqv_counts {K : PySem.W.Frag} {H : Hp} {k k2 : Addr} {ts ts2 : List Addr} {ys : Ct} (h1 : SqT K H k (ts.map V.ref)) (h2 : SqT K H k2 (ts2.map V.ref)) (p1 : Paired (PrT H) ts ys) (p2 : Paired (PrT H) ts2 ys) (hl : ys.length ≤ 1000) : Eqv K 2 H (.ref k) (.ref k2) :=
  .inr ⟨k, k2, _, _, rfl, rfl, h1, h2, (by rw [List.length_map, List.length_map, Paired.length p1, Paired.length p2]), (by rw [List.length_map, Paired.length p1]; exact hl), fun i u v hu hv => by
    obtain ⟨t, ht, rfl⟩ := map_at hu
    obtain ⟨t2, ht2, rfl⟩ := map_at hv
    obtain ⟨e, he, f⟩ := paired_at p1 ht
    obtain ⟨e2, he2, f2⟩ := paired_at p2 ht2
    rw [he] at he2
    cases he2
    exact eqv_pair f f2⟩
theorem eqv_sketch {K : PySem.W.Frag} {H : Hp} {s s2 k k2 : Addr} {r m o : Int} {ts ts2 : List Addr} {ys : Ct} (g1 : H s = some (.tup [.int r, .int m, .int o, .ref k])) (g2 : H s2 = some (.tup [.int r, .int m, .int o, .ref k2])) (h1 : SqT K H k (ts.map V.ref)) (h2 : SqT K H k2 (ts2.map V.ref)) (p1 : Paired (PrT H) ts ys) (p2 : Paired (PrT H) ts2 ys) (hl : ys.length ≤ 1000) : Eqv K 3 H (.ref s) (.ref s2) :=
  .inr ⟨s, s2, _, _, rfl, rfl, .inl (.inl g1), .inl (.inl g2), rfl, (by show 4 ≤ 1000; decide), fun i u v hu hv => by
    match i, hu, hv with
    | 0, hu, hv =>
      cases hu
      cases hv
      exact .inl (.inl ⟨_, rfl, rfl⟩)
    | 1, hu, hv =>
      cases hu
      cases hv
      exact .inl (.inl ⟨_, rfl, rfl⟩)
    | 2, hu, hv =>
      cases hu
      cases hv
      exact .inl (.inl ⟨_, rfl, rfl⟩)
    | 3, hu, hv =>
      cases hu
      cases hv
      exact eqv_counts h1 h2 p1 p2 hl
    | i + 4, hu, hv => simp at hu⟩
def SkAt (H : Hp) (s : Addr) (r : Int) (x : Tl) : Prop := ∃ (k : Addr) (ts : List Addr), H s = some (.tup [.int r, .int x.m, .int x.o, .ref k]) ∧ Ptp H k (ts.map V.ref) ∧ Paired (PrT H) ts (srtZ x.c)
theorem SkAt.same {H H' : Hp} {s : Addr} {r : Int} {x : Tl} (h : SkAt H s r x) (y : Same H H') : SkAt H' s r x := by
  obtain ⟨k, ts, h1, h2, h3⟩ := h
  exact ⟨k, ts, y _ _ h1, h2.same y, paired_imp (fun t e h => y _ _ h) h3⟩
theorem SkAt.congr {H : Hp} {s : Addr} {r : Int} {x y : Tl} (h : SkAt H s r x) (e : skT x = skT y) : SkAt H s r y := by
  obtain ⟨m, o, c⟩ := x
  obtain ⟨m2, o2, c2⟩ := y
  unfold skT at e
  injection e with e1 e2 e3
  dsimp only at e1 e2 e3
  subst e1 e2
  obtain ⟨k, ts, h1, h2, h3⟩ := h
  exact ⟨k, ts, h1, h2, by dsimp only at h3 ⊢; rw [← e3]; exact h3⟩
theorem eqv_sk {K : PySem.W.Frag} {H : Hp} {s s2 : Addr} {r : Int} {x : Tl} (h : SkAt H s r x) (h2 : SkAt H s2 r x) (hl : x.c.length ≤ 1000) : Eqv K 3 H (.ref s) (.ref s2) := by
  obtain ⟨k, ts, a1, a2, a3⟩ := h
  obtain ⟨k2, ts2, b1, b2, b3⟩ := h2
  exact eqv_sketch a1 b1 a2.seq b2.seq a3 b3 (by rw [(srtZ_perm x.c).length_eq]; exact hl)
/-! the order in which counts stand means nothing -/
theorem getZ_perm {a b : Ct} (p : a.Perm b) (nd : NdZ a) (n : Str) : getZ a n = getZ b n := by
  have ndb : NdZ b := by
    unfold NdZ
    exact (p.map (·.1)).nodup_iff.mp nd
  cases ha : getZ a n with
  | none =>
    have := getZ_none.mp ha
    exact (getZ_none.mpr fun h => this ((p.map (·.1)).mem_iff.mpr h)).symm
  | some v =>
    have : ∃ e ∈ a, e.1 = n ∧ e.2 = v := by
      unfold getZ at ha
      cases h : a.find? fun e => decide (e.1 = n) with
      | none => rw [h] at ha; cases ha
      | some e =>
        rw [h] at ha
        exact ⟨e, List.mem_of_find?_eq_some h, of_decide_eq_true (List.find?_some (p := fun e : Str × Int => decide (e.1 = n)) h), Option.some.inj ha⟩
    obtain ⟨e, he, rfl, rfl⟩ := this
    obtain ⟨i, hi⟩ := List.mem_iff_getElem?.mp (p.mem_iff.mp he)
    exact (getZ_self ndb hi).symm
theorem putZ_perm {a b : Ct} (p : a.Perm b) (n : Str) (v : Int) : (putZ a n v).Perm (putZ b n v) := by
  have e : (a.any fun e => decide (e.1 = n)) = (b.any fun e => decide (e.1 = n)) := by
    rw [Bool.eq_iff_iff, List.any_eq_true, List.any_eq_true]
    exact ⟨fun ⟨x, h, k⟩ => ⟨x, p.mem_iff.mp h, k⟩, fun ⟨x, h, k⟩ => ⟨x, p.mem_iff.mpr h, k⟩⟩
  unfold putZ
  rw [e]
  split
  · exact p.map _
  · exact p.append_right _
theorem addZ_perm {a b : Ct} (p : a.Perm b) (nd : NdZ a) (n : Str) (c : Int) : (addZ a n c).Perm (addZ b n c) := by
  unfold addZ
  rw [getZ_perm p nd]
  exact putZ_perm p _ _
theorem takeZ_perm {a b : Ct} (p : a.Perm b) (k : Int) : (takeZ k a).Perm (takeZ k b) := (p.filter _).map _
theorem mnC_perm {a b : Ct} (p : a.Perm b) : mnC a = mnC b := by
  by_cases h : a = []
  · subst h
    have := p.symm.eq_nil
    subst this
    rfl
  · obtain ⟨h1, h2⟩ := mnC_spec h
    have q := p.map (·.2)
    exact mnC_uniq (q.mem_iff.mp h1) fun y hy => h2 y (q.mem_iff.mpr hy)
theorem full_perm {a b : Ct} (p : a.Perm b) (nd : NdZ a) (r : Int) (n : Str) : full r n a = full r n b := by
  unfold full
  rw [getZ_perm p nd, p.length_eq]
theorem srtZ_eq {a b : Ct} (p : a.Perm b) (nd : NdZ a) : srtZ a = srtZ b := by
  have ndb : NdZ b := by
    unfold NdZ
    exact (p.map (·.1)).nodup_iff.mp nd
  exact srtZ_of (srtZ_asc nd) ((srtZ_perm a).trans p) ndb
theorem feed_skT {r c : Int} {n : Str} {x : Tl} (nd : NdZ x.c) : skT (feedT r n c (skT x)) = skT (feedT r n c x) := by
  obtain ⟨m, o, kvs⟩ := x
  have p := srtZ_perm kvs
  have nds : NdZ (srtZ kvs) := (p.map (·.1)).nodup_iff.mpr nd
  unfold feedT skT
  dsimp only
  rw [full_perm p nds, mnC_perm p]
  by_cases hf : full r n kvs = true
  · rw [if_pos hf, if_pos hf]
    dsimp only
    generalize (if mnC kvs < c then mnC kvs else c) = a
    have e : srtZ (if 0 < c - a then addZ (takeZ a (srtZ kvs)) n (c - a) else takeZ a (srtZ kvs)) = srtZ (if 0 < c - a then addZ (takeZ a kvs) n (c - a) else takeZ a kvs) := by
      have pt := takeZ_perm p a
      have ndt : NdZ (takeZ a (srtZ kvs)) := takeZ_nd nds
      split
      · exact srtZ_eq (addZ_perm pt ndt _ _) (addZ_nd ndt)
      · exact srtZ_eq pt ndt
    rw [e]
  · rw [if_neg hf, if_neg hf]
    dsimp only
    have e : srtZ (if 0 < c then addZ (srtZ kvs) n c else srtZ kvs) = srtZ (if 0 < c then addZ kvs n c else kvs) := by
      split
      · exact srtZ_eq (addZ_perm p nds _ _) (addZ_nd nds)
      · exact srtZ_eq p nds
    rw [e]
theorem skT_skT {x : Tl} (nd : NdZ x.c) : skT (skT x) = skT x := by
  obtain ⟨m, o, kvs⟩ := x
  unfold skT
  dsimp only
  rw [srtZ_eq (srtZ_perm kvs) ((srtZ_perm kvs).map (·.1) |>.nodup_iff.mpr nd)]
end Kb


namespace Kb
open PySem PySem.Spec PyProof.Rows L2 SrtZ SrtO
/-! counts, read behind a change -/
theorem getZ_cons (e : Str × Int) (kvs : Ct) (k : Str) : getZ (e :: kvs) k = if e.1 = k then some e.2 else getZ kvs k := by
  unfold getZ
  by_cases h : e.1 = k
  · rw [List.find?_cons_of_pos (by simpa using h), if_pos h]
    rfl
  · rw [List.find?_cons_of_neg (by simpa using h), if_neg h]
theorem getZ_app (a b : Ct) (k : Str) : getZ (a ++ b) k = (getZ a k).or (getZ b k) := by
  induction a with
  | nil => simp [getZ]
  | cons e a ih =>
    rw [List.cons_append, getZ_cons, getZ_cons, ih]
    split <;> rfl
theorem getZ_repl (kvs : Ct) (n : Str) (v : Int) (k : Str) : getZ (kvs.map fun e => if e.1 = n then (e.1, v) else e) k = if k = n then (getZ kvs n).map fun _ => v else getZ kvs k := by
  induction kvs with
  | nil => simp [getZ]
  | cons e r ih =>
    rw [List.map_cons, getZ_cons, getZ_cons, ih, getZ_cons]
    by_cases h1 : e.1 = n
    · rw [if_pos h1]
      dsimp only
      by_cases h2 : e.1 = k
      · rw [if_pos h2, if_pos (h2.symm.trans h1), if_pos h1]
        rfl
      · rw [if_neg h2, if_neg h2]
        by_cases h3 : k = n
        · exact absurd (h1.trans h3.symm) h2
        · rw [if_neg h3, if_neg h3]
    · rw [if_neg h1]
      by_cases h2 : e.1 = k
      · rw [if_pos h2, if_neg (fun z => h1 (h2.trans z)), if_pos h2]
      · rw [if_neg h2, if_neg h2, if_neg h1]
theorem getZ_put (kvs : Ct) (n : Str) (v : Int) (k : Str) : getZ (putZ kvs n v) k = if k = n then some v else getZ kvs k := by
  unfold putZ
  rw [any_getZ]
  cases h : getZ kvs n with
  | some u =>
    rw [if_pos (show (some u).isSome = true from rfl), getZ_repl, h]
    rfl
  | none =>
    rw [if_neg (show ¬ (none : Option Int).isSome = true by decide), getZ_app]
    by_cases e : k = n
    · subst e
      rw [h, if_pos rfl, getZ_cons, if_pos rfl]
      rfl
    · rw [if_neg e, getZ_cons, if_neg (Ne.symm e)]
      cases getZ kvs k <;> rfl
theorem getZ_take {a : Int} : ∀ {kvs : Ct}, NdZ kvs → ∀ k, getZ (takeZ a kvs) k = (getZ kvs k).bind fun v => if a < v then some (v - a) else none
  | [], _, k => rfl
  | e :: r, nd, k => by
    unfold NdZ at nd
    rw [List.map_cons, List.nodup_cons] at nd
    have ih := getZ_take (a := a) (kvs := r) nd.2 k
    have hno : e.1 = k → getZ r k = none := fun h => getZ_none.mpr (h ▸ nd.1)
    unfold takeZ at ih ⊢
    by_cases h : a < e.2
    · rw [List.filter_cons_of_pos (by simpa using h), List.map_cons, getZ_cons, getZ_cons]
      by_cases h2 : e.1 = k
      · rw [if_pos h2, if_pos h2]
        show some (e.2 - a) = if a < e.2 then _ else _
        rw [if_pos h]
      · rw [if_neg h2, if_neg h2]
        exact ih
    · rw [List.filter_cons_of_neg (by simpa using h), ih, getZ_cons]
      by_cases h2 : e.1 = k
      · rw [if_pos h2, hno h2]
        show none = if a < e.2 then _ else _
        rw [if_neg h]
      · rw [if_neg h2]
theorem putZ_putZ (kvs : Ct) (n : Str) (u v : Int) : putZ (putZ kvs n u) n v = putZ kvs n v := by
  cases h : getZ kvs n with
  | some g =>
    have e : ∀ w : Int, putZ kvs n w = kvs.map fun e => if e.1 = n then (e.1, w) else e := fun w => by
      unfold putZ
      rw [any_getZ, h, if_pos (show (some g).isSome = true from rfl)]
    rw [e u, e v]
    unfold putZ
    rw [any_getZ, getZ_repl, if_pos rfl, h, if_pos (show ((some g).map fun _ => u).isSome = true from rfl), List.map_map]
    refine List.map_congr_left fun e _ => ?_
    show (if (if e.1 = n then (e.1, u) else e).1 = n then ((if e.1 = n then (e.1, u) else e).1, v) else (if e.1 = n then (e.1, u) else e)) = _
    by_cases h1 : e.1 = n
    · rw [if_pos h1, if_pos h1, if_pos h1]
    · rw [if_neg h1, if_neg h1]
  | none =>
    rw [putZ_new h, putZ_new h]
    have hz := getZ_none.mp h
    unfold putZ
    rw [any_getZ, getZ_app, h, getZ_cons, if_pos rfl, if_pos (show ((none : Option Int).or (some u)).isSome = true from rfl), List.map_append]
    congr 1
    · have : ∀ e ∈ kvs, (if e.1 = n then (e.1, v) else e) = e := fun e he => by
        rw [if_neg (fun q => hz (List.mem_map.mpr ⟨e, he, q⟩))]
      rw [List.map_congr_left this, List.map_id']
    · show [if n = n then (n, v) else (n, u)] = _
      rw [if_pos rfl]
theorem addZ_addZ (kvs : Ct) (n : Str) (c e : Int) : addZ (addZ kvs n c) n e = addZ kvs n (c + e) := by
  unfold addZ
  rw [getZ_put, if_pos rfl, putZ_putZ]
  show putZ kvs n ((getZ kvs n).getD 0 + c + e) = _
  rw [Int.add_assoc]
theorem takeZ_takeZ {a b : Int} (hb : 0 ≤ b) : ∀ kvs : Ct, takeZ b (takeZ a kvs) = takeZ (a + b) kvs
  | [] => rfl
  | e :: r => by
    have ih := takeZ_takeZ hb (a := a) r
    unfold takeZ at ih ⊢
    by_cases h : a < e.2
    · rw [List.filter_cons_of_pos (by simpa using h), List.map_cons]
      by_cases h2 : a + b < e.2
      · rw [List.filter_cons_of_pos (by simp; omega), List.map_cons, ih, List.filter_cons_of_pos (by simpa using h2), List.map_cons]
        congr 2
        show e.2 - a - b = e.2 - (a + b)
        omega
      · rw [List.filter_cons_of_neg (by simp; omega), ih, List.filter_cons_of_neg (by simpa using h2)]
    · rw [List.filter_cons_of_neg (by simpa using h), ih, List.filter_cons_of_neg (by simp; omega)]
theorem takeZ_zero : ∀ {kvs : Ct}, (∀ e ∈ kvs, 1 ≤ e.2) → takeZ 0 kvs = kvs
  | [], _ => rfl
  | e :: r, h => by
    have ih := takeZ_zero (kvs := r) fun f hf => h f (List.mem_cons_of_mem _ hf)
    have h1 := h e List.mem_cons_self
    unfold takeZ at ih ⊢
    rw [List.filter_cons_of_pos (by simp; omega), List.map_cons, ih]
    congr 1
    show (e.1, e.2 - 0) = e
    rw [Int.sub_zero]
/-- less than the least is taken off: all stay -/
theorem takeZ_all : ∀ {kvs : Ct} {c : Int}, (∀ e ∈ kvs, c < e.2) → takeZ c kvs = kvs.map fun e => (e.1, e.2 - c)
  | [], _, _ => rfl
  | e :: r, c, h => by
    have ih := takeZ_all (kvs := r) (c := c) fun f hf => h f (List.mem_cons_of_mem _ hf)
    unfold takeZ at ih ⊢
    rw [List.filter_cons_of_pos (by simpa using h e List.mem_cons_self), List.map_cons, ih]
    rfl
theorem sumC_cons' (e : Str × Int) (kvs : Ct) : sumC (e :: kvs) = e.2 + sumC kvs := by
  unfold sumC
  rw [List.map_cons, List.sum_cons]
theorem sumC_perm' {a b : Ct} (p : a.Perm b) : sumC a = sumC b := by
  induction p with
  | nil => rfl
  | cons x _ ih => rw [sumC_cons', sumC_cons', ih]
  | swap x y l =>
    rw [sumC_cons', sumC_cons', sumC_cons', sumC_cons']
    omega
  | trans _ _ ih1 ih2 => rw [ih1, ih2]
theorem sumC_app : ∀ a b : Ct, sumC (a ++ b) = sumC a + sumC b
  | [], b => by show sumC b = 0 + sumC b; omega
  | e :: a, b => by
    rw [List.cons_append, sumC_cons', sumC_cons', sumC_app a b]
    omega
theorem sumC_repl {n : Str} {v : Int} : ∀ {kvs : Ct} {g : Int}, NdZ kvs → getZ kvs n = some g → sumC (kvs.map fun e => if e.1 = n then (e.1, v) else e) = sumC kvs + (v - g)
  | [], _, _, h => by cases h
  | e :: r, g, nd, h => by
    unfold NdZ at nd
    rw [List.map_cons, List.nodup_cons] at nd
    rw [getZ_cons] at h
    rw [List.map_cons, sumC_cons', sumC_cons']
    by_cases h1 : e.1 = n
    · rw [if_pos h1] at h ⊢
      have : ∀ f ∈ r, (if f.1 = n then (f.1, v) else f) = f := fun f hf => by
        rw [if_neg (fun q => nd.1 (List.mem_map.mpr ⟨f, hf, q.trans h1.symm⟩))]
      rw [List.map_congr_left this, List.map_id']
      have := Option.some.inj h
      show v + _ = _
      omega
    · rw [if_neg h1] at h ⊢
      rw [sumC_repl nd.2 h]
      omega
theorem sumC_add {kvs : Ct} {n : Str} {c : Int} (nd : NdZ kvs) : sumC (addZ kvs n c) = sumC kvs + c := by
  unfold addZ putZ
  rw [any_getZ]
  cases h : getZ kvs n with
  | some g =>
    rw [if_pos (show (some g).isSome = true from rfl), sumC_repl nd h]
    show _ + (g + c - g) = _
    omega
  | none =>
    rw [if_neg (show ¬ (none : Option Int).isSome = true by decide), sumC_app]
    show sumC kvs + (0 + c + 0) = _
    omega
theorem sumC_take1 : ∀ {kvs : Ct}, (∀ e ∈ kvs, 1 ≤ e.2) → sumC (takeZ 1 kvs) = sumC kvs - (kvs.length : Int)
  | [], _ => rfl
  | e :: r, h => by
    have ih := sumC_take1 (kvs := r) fun f hf => h f (List.mem_cons_of_mem _ hf)
    have h1 := h e List.mem_cons_self
    rw [sumC_cons', List.length_cons]
    unfold takeZ at ih ⊢
    by_cases h2 : 1 < e.2
    · rw [List.filter_cons_of_pos (by simpa using h2), List.map_cons, sumC_cons', ih]
      show e.2 - 1 + _ = _
      omega
    · rw [List.filter_cons_of_neg (by simpa using h2), ih]
      omega
theorem full_of {r : Int} {n : Str} {kvs : Ct} (h : full r n kvs = true) : getZ kvs n = none ∧ (kvs.length : Int) = r := by
  unfold full at h
  rw [Bool.and_eq_true] at h
  refine ⟨?_, of_decide_eq_true h.2⟩
  cases e : getZ kvs n with
  | none => rfl
  | some _ =>
    rw [e] at h
    exact absurd h.1 (by intro z; cases z)
theorem full_yes {r : Int} {n : Str} {kvs : Ct} (h : getZ kvs n = none) (h2 : (kvs.length : Int) = r) : full r n kvs = true := by
  unfold full
  rw [h, decide_eq_true h2]
  rfl
theorem full_no' {r : Int} {n : Str} {kvs : Ct} (h : (getZ kvs n).isSome = true ∨ ¬ (kvs.length : Int) = r) : full r n kvs = false := by
  unfold full
  rcases h with h | h
  · rw [h]
    rfl
  · rw [decide_eq_false h, Bool.and_false]
theorem mn_pos {kvs : Ct} (ne : kvs ≠ []) (pos : ∀ e ∈ kvs, 1 ≤ e.2) : 1 ≤ mnC kvs := by
  obtain ⟨h, _⟩ := mnC_spec ne
  obtain ⟨e, he, h⟩ := List.mem_map.mp h
  rw [← h]
  exact pos e he
theorem ne_of_full {r : Int} {kvs : Ct} (hr : 1 ≤ r) (h : (kvs.length : Int) = r) : kvs ≠ [] := by
  rintro rfl
  have : (0 : Int) = r := h
  omega
theorem feed_lt {r c m o : Int} {n : Str} {kvs : Ct} (hf : full r n kvs = true) (hc : c ≤ mnC kvs) : feedT r n c ⟨m, o, kvs⟩ = ⟨m + c, o + c, takeZ c kvs⟩ := by
  unfold feedT
  dsimp only
  rw [hf, if_pos rfl, if_neg (show ¬ mnC kvs < c by omega), if_neg (show ¬ 0 < c - c by omega)]
theorem feed_gt {r c m o : Int} {n : Str} {kvs : Ct} (hf : full r n kvs = true) (hc : mnC kvs < c) : feedT r n c ⟨m, o, kvs⟩ = ⟨m + c, o + mnC kvs, addZ (takeZ (mnC kvs) kvs) n (c - mnC kvs)⟩ := by
  unfold feedT
  dsimp only
  rw [hf, if_pos rfl, if_pos hc, if_pos (show 0 < c - mnC kvs by omega)]
theorem feed_add {r c m o : Int} {n : Str} {kvs : Ct} (hf : full r n kvs = false) (hc : 0 < c) : feedT r n c ⟨m, o, kvs⟩ = ⟨m + c, o, addZ kvs n c⟩ := by
  unfold feedT
  dsimp only
  rw [hf, if_neg (by decide), if_pos hc]
theorem feed_zero {r : Int} {n : Str} {x : Tl} (ok : TlOk r x) (hr : 1 ≤ r) : feedT r n 0 x = x := by
  obtain ⟨m, o, kvs⟩ := x
  cases hf : full r n kvs with
  | true =>
    obtain ⟨_, hl⟩ := full_of hf
    have h1 := mn_pos (ne_of_full hr hl) ok.pos
    rw [feed_lt hf (by omega), takeZ_zero ok.pos, Int.add_zero, Int.add_zero]
  | false =>
    unfold feedT
    dsimp only
    rw [hf, if_neg (by decide), if_neg (by decide), Int.add_zero]
theorem full_added {r c : Int} {n : Str} {kvs : Ct} : full r n (addZ kvs n c) = false := full_no' (.inl (by unfold addZ; rw [getZ_put, if_pos rfl]; rfl))
theorem full_less {r : Int} {n : Str} {kvs : Ct} (hr : 1 ≤ r) (hl : (kvs.length : Int) = r) : full r n (takeZ (mnC kvs) kvs) = false := full_no' (.inr (by have := takeZ_less (ne_of_full hr hl); omega))
theorem feed_iter {r c : Int} {n : Str} {x : Tl} (ok : TlOk r x) (hr : 1 ≤ r) (hc : 0 ≤ c) : feedT r n (c + 1) x = feedT r n 1 (feedT r n c x) := by
  obtain ⟨m, o, kvs⟩ := x
  have ok0 := ok
  obtain ⟨nd, len, pos, nm⟩ := ok
  dsimp only at nd len pos nm
  have e0 : m + (c + 1) = m + c + 1 := by omega
  by_cases h0 : 0 < c
  · cases hf : full r n kvs with
    | false => rw [feed_add hf (by omega), feed_add hf h0, feed_add full_added (by decide), addZ_addZ, e0]
    | true =>
      obtain ⟨hg, hl⟩ := full_of hf
      have ne := ne_of_full hr hl
      obtain ⟨hm, hle⟩ := mnC_spec ne
      by_cases hcm : c < mnC kvs
      · have hall : ∀ e ∈ kvs, c < e.2 := fun e he => by
          have := hle e.2 (List.mem_map.mpr ⟨e, he, rfl⟩)
          omega
        have ht := takeZ_all hall
        have hy : full r n (takeZ c kvs) = true := full_yes (by rw [getZ_take nd, hg]; rfl) (by rw [ht, List.length_map]; exact hl)
        have hmn : mnC (takeZ c kvs) = mnC kvs - c := by
          refine (mnC_uniq ?_ fun y hy => ?_).symm
          · rw [ht, List.map_map]
            obtain ⟨e, he, h⟩ := List.mem_map.mp hm
            exact List.mem_map.mpr ⟨e, he, by show e.2 - c = _; rw [h]⟩
          · rw [ht, List.map_map] at hy
            obtain ⟨e, he, rfl⟩ := List.mem_map.mp hy
            have := hle e.2 (List.mem_map.mpr ⟨e, he, rfl⟩)
            show mnC kvs - c ≤ e.2 - c
            omega
        rw [feed_lt hf (by omega), feed_lt hf (by omega), feed_lt hy (by omega), takeZ_takeZ (by decide), e0, Int.add_assoc o c 1]
      · by_cases hcm2 : c = mnC kvs
        · rw [feed_gt hf (by omega), feed_lt hf (by omega), hcm2, feed_add (full_less hr hl) (by decide), ← hcm2, e0]
          congr 2
          omega
        · rw [feed_gt hf (by omega), feed_gt hf (by omega), feed_add full_added (by decide), addZ_addZ, e0]
          congr 2
          omega
  · have : c = 0 := by omega
    subst this
    rw [feed_zero ok0 hr]
    rfl
/-! what feeding leaves true -/
/-- of an exact stream: so much was taken off -/
structure Fd (r : Int) (x : Tl) : Prop where
  lost : x.m - sumC x.c = (r + 1) * x.o
  off : 0 ≤ x.o
theorem fd0 (r : Int) : Fd r tl0 := ⟨by show (0 : Int) - 0 = (r + 1) * 0; rw [Int.mul_zero]; rfl, Int.le_refl _⟩
theorem fd_feed {r : Int} {n : Str} {x : Tl} (ok : TlOk r x) (hr : 1 ≤ r) (h : Fd r x) : Fd r (feedT r n 1 x) := by
  obtain ⟨m, o, kvs⟩ := x
  obtain ⟨hl, ho⟩ := h
  dsimp only at hl ho
  cases hf : full r n kvs with
  | false =>
    rw [feed_add hf (by decide)]
    refine ⟨?_, ho⟩
    show m + 1 - sumC (addZ kvs n 1) = _
    rw [sumC_add (show NdZ kvs from ok.nd)]
    show _ = (r + 1) * o
    omega
  | true =>
    obtain ⟨hg, hlen⟩ := full_of hf
    have m1 := mn_pos (ne_of_full hr hlen) ok.pos
    rw [feed_lt hf (by omega)]
    refine ⟨?_, by dsimp only; omega⟩
    show m + 1 - sumC (takeZ 1 kvs) = (r + 1) * (o + 1)
    rw [sumC_take1 (show ∀ e ∈ kvs, 1 ≤ e.2 from ok.pos), Int.mul_add, ← hl, hlen]
    omega
theorem fd_sk {r : Int} {x : Tl} (ok : TlOk r x) (hr1 : 1 ≤ r) (hr2 : r ≤ 64) (h : Fd r x) (hm : 0 ≤ x.m) : skB r x.m x.o (srtZ x.c) = true := by
  have p := srtZ_perm x.c
  have es : sumC (srtZ x.c) = sumC x.c := sumC_perm' p
  have hl := h.lost
  have ho := h.off
  have h2 : (r + 1) * x.o ≤ 2 * r * x.o := Int.mul_le_mul_of_nonneg_right (by omega) ho
  have hlen : ((srtZ x.c).length : Int) ≤ r := by rw [p.length_eq]; exact ok.len
  unfold skB
  rw [es, hl, decide_eq_true hr1, decide_eq_true hr2, decide_eq_true hm, decide_eq_true ho, decide_eq_true hlen, decide_eq_true (Int.le_refl _), decide_eq_true h2]
  rfl
def gd (kvs : Ct) (k : Str) : Int := (getZ kvs k).getD 0
theorem gd_add (kvs : Ct) (n : Str) (c : Int) (k : Str) : gd (addZ kvs n c) k = gd kvs k + if k = n then c else 0 := by
  unfold gd addZ
  rw [getZ_put]
  by_cases h : k = n
  · subst h
    rw [if_pos rfl, if_pos rfl]
    rfl
  · rw [if_neg h, if_neg h, Int.add_zero]
theorem gd_take1 {kvs : Ct} (nd : NdZ kvs) (pos : ∀ e ∈ kvs, 1 ≤ e.2) (k : Str) : gd (takeZ 1 kvs) k = if 0 < gd kvs k then gd kvs k - 1 else 0 := by
  unfold gd
  rw [getZ_take nd]
  cases h : getZ kvs k with
  | none => rfl
  | some v =>
    have hv : 1 ≤ v := by
      have := getZ_pos (n := k) pos
      unfold getZ at h
      cases hh : kvs.find? fun e => decide (e.1 = k) with
      | none => rw [hh] at h; cases h
      | some e =>
        rw [hh] at h
        have h1 := pos e (List.mem_of_find?_eq_some hh)
        have h2 := Option.some.inj h
        have h3 : e.2 = v := h2
        omega
    show (if 1 < v then some (v - 1) else none).getD 0 = if 0 < v then v - 1 else 0
    rw [if_pos (show 0 < v by omega)]
    by_cases h1 : 1 < v
    · rw [if_pos h1]
      rfl
    · rw [if_neg h1]
      show (0 : Int) = v - 1
      omega
/-- the true counts lie from the kept ones to off above -/
def Tru (kc : Ct) (x : Tl) : Prop := ∀ k, 0 ≤ gd kc k - gd x.c k ∧ gd kc k - gd x.c k ≤ x.o
theorem tru0 : Tru [] tl0 := fun k => ⟨Int.le_refl _, Int.le_refl _⟩
theorem tru_feed {r : Int} {n : Str} {x : Tl} {kc : Ct} (ok : TlOk r x) (hr : 1 ≤ r) (h : Tru kc x) : Tru (addZ kc n 1) (feedT r n 1 x) := by
  obtain ⟨m, o, kvs⟩ := x
  intro k
  obtain ⟨a, b⟩ := h k
  dsimp only at a b
  rw [gd_add]
  cases hf : full r n kvs with
  | false =>
    rw [feed_add hf (by decide)]
    dsimp only
    rw [gd_add]
    omega
  | true =>
    obtain ⟨hg, hlen⟩ := full_of hf
    have m1 := mn_pos (ne_of_full hr hlen) ok.pos
    rw [feed_lt hf (by omega)]
    dsimp only
    rw [gd_take1 (show NdZ kvs from ok.nd) (show ∀ e ∈ kvs, 1 ≤ e.2 from ok.pos)]
    have hp : 0 ≤ gd kvs k := getZ_pos ok.pos
    by_cases hk : k = n
    · subst hk
      have : gd kvs k = 0 := by
        unfold gd
        rw [hg]
        rfl
      rw [if_pos rfl, this, if_neg (by decide)]
      omega
    · rw [if_neg hk]
      split <;> omega
end Kb

namespace Kb
open PySem PySem.Spec PyProof.Rows L2 SrtZ SrtO
abbrev sP_asked : Stmt := topS 34
abbrev NP_asked : List Str := ["question", "part"]
theorem scP_asked : FnScope ["question", "part"] ["question"] (defScope sP_asked) := ⟨rfl, rfl, rfl, by decide +kernel, rfl, by decide +kernel, by decide +kernel⟩
abbrev sP_parted : Stmt := topS 36
abbrev NP_parted : List Str := ["amount", "size", "groups", "part", "many"]
theorem scP_parted : FnScope ["amount", "size", "groups", "part", "many"] ["amount", "size"] (defScope sP_parted) := ⟨rfl, rfl, rfl, by decide +kernel, rfl, by decide +kernel, by decide +kernel⟩
abbrev sP_filled : Stmt := topS 38
abbrev NP_filled : List Str := ["sketch", "question", "names", "size", "off", "left", "taken", "name"]
theorem scP_filled : FnScope ["sketch", "question", "names", "size", "off", "left", "taken", "name"] ["sketch", "question", "names", "size"] (defScope sP_filled) := ⟨rfl, rfl, rfl, by decide +kernel, rfl, by decide +kernel, by decide +kernel⟩
abbrev DnAsked (K : PySem.W.Frag) (mg : Str → Option Value) := Dn K mg "asked" sP_asked ["question"]
abbrev DnParted (K : PySem.W.Frag) (mg : Str → Option Value) := Dn K mg "parted" sP_parted ["amount", "size"]
abbrev DnFilled (K : PySem.W.Frag) (mg : Str → Option Value) := Dn K mg "_filled" sP_filled ["sketch", "question", "names", "size"]
/-! plans as mathematics -/
abbrev qCount : V := .str (Str.ofString "count")
/-- pairs of ints on the heap -/
abbrev PrI (H : Hp) (t : Addr) (e : Int × Int) : Prop := H t = some (.tup [.int e.1, .int e.2])
def groupsZ (a sz : Int) : List (Int × Int) := [(sz, a / sz), (a % sz, 1)]
def okG (e : Int × Int) : Bool := decide (0 < e.1) && decide (0 < e.2)
def partedZ (a sz : Int) : List (Int × Int) := if a = 0 then [] else (groupsZ a sz).filter okG
theorem partedZ_len (a sz : Int) : (partedZ a sz).length ≤ 2 := by
  unfold partedZ
  split
  · exact Nat.zero_le _
  · exact Nat.le_trans (List.length_filter_le _ _) (Nat.le_refl 2)
/-- what is taken from these names, one behind another, and what is left -/
def fillZ (off : Int) : List Str → Ct × Int → Ct × Int
  | [], x => x
  | n :: r, x => fillZ off r (putZ x.1 n (if x.2 < off then x.2 else off), x.2 - (if x.2 < off then x.2 else off))
def nullZ : List Str → Ct → Ct
  | [], d => d
  | n :: r, d => nullZ r (putZ d n 0)
theorem nullZ_snoc (n : Str) : ∀ (zs : List Str) (d : Ct), nullZ (zs ++ [n]) d = putZ (nullZ zs d) n 0
  | [], _ => rfl
  | z :: r, d => nullZ_snoc n r (putZ d z 0)
theorem fillZ_snoc (off : Int) (n : Str) : ∀ (zs : List Str) (x : Ct × Int), fillZ off (zs ++ [n]) x = fillZ off [n] (fillZ off zs x)
  | [], _ => rfl
  | z :: r, x => fillZ_snoc off n r _
theorem nullZ_len : ∀ (zs : List Str) (d : Ct), (nullZ zs d).length ≤ d.length + zs.length
  | [], _ => Nat.le_refl _
  | z :: r, d => by
    have := nullZ_len r (putZ d z 0)
    have := putZ_len (kvs := d) (n := z) (v := 0)
    show (nullZ r (putZ d z 0)).length ≤ d.length + (r.length + 1)
    omega
theorem fillZ_len (off : Int) : ∀ (zs : List Str) (x : Ct × Int), (fillZ off zs x).1.length ≤ x.1.length + zs.length
  | [], _ => Nat.le_refl _
  | z :: r, x => by
    have := fillZ_len off r (putZ x.1 z (if x.2 < off then x.2 else off), x.2 - (if x.2 < off then x.2 else off))
    have := putZ_len (kvs := x.1) (n := z) (v := if x.2 < off then x.2 else off)
    dsimp only at *
    show (fillZ off r _).1.length ≤ x.1.length + (r.length + 1)
    omega
theorem fillZ_left {off : Int} (h0 : 0 ≤ off) : ∀ (zs : List Str) (x : Ct × Int), 0 ≤ x.2 → 0 ≤ (fillZ off zs x).2 ∧ (fillZ off zs x).2 ≤ x.2
  | [], x, h => ⟨h, Int.le_refl _⟩
  | z :: r, x, h => by
    have := fillZ_left h0 r (putZ x.1 z (if x.2 < off then x.2 else off), x.2 - (if x.2 < off then x.2 else off)) (by dsimp only; split <;> omega)
    dsimp only at this
    show 0 ≤ (fillZ off r _).2 ∧ (fillZ off r _).2 ≤ x.2
    refine ⟨this.1, ?_⟩
    have h2 := this.2
    split at h2 <;> omega
/-- a sketch on the heap, anywhere -/
structure SkC (K : PySem.W.Frag) (H : Hp) (s : Addr) (r m o : Int) (kvs : Ct) : Prop where
  ob : ∃ (k : Addr) (ts : List Addr), SqT K H s [.int r, .int m, .int o, .ref k] ∧ Ptp H k (ts.map V.ref) ∧ Paired (PrAt K H) ts kvs
theorem SkC.same {K : PySem.W.Frag} {H H' : Hp} {s : Addr} {r m o : Int} {kvs : Ct} (h : SkC K H s r m o kvs) (y : Same H H') : SkC K H' s r m o kvs := by
  obtain ⟨k, ts, h1, h2, h3⟩ := h.ob
  exact ⟨k, ts, seqT h1 y, h2.same y, paired_imp (fun t e h => seqT h y) h3⟩
/-- it is a sketch -/
structure SkG (r m o : Int) (kvs : Ct) : Prop where
  r1 : 1 ≤ r
  r64 : r ≤ 64
  m0 : 0 ≤ m
  o0 : 0 ≤ o
  cts : Cts kvs
  len : (kvs.length : Int) ≤ r
  lo : (r + 1) * o ≤ m - sumC kvs
  hi : m - sumC kvs ≤ 2 * r * o
  big : m < 2 ^ 100
theorem SkC.of {K : PySem.W.Frag} {H : Hp} {s : Addr} {r : Int} {x : Tl} (h : SkAt H s r x) : SkC K H s r x.m x.o (srtZ x.c) := by
  obtain ⟨k, ts, h1, h2, h3⟩ := h
  exact ⟨k, ts, .inl (.inl h1), h2, paired_imp (fun t e h => .inl (.inl h)) h3⟩
section
variable {P : Program} {w : World} {K : PySem.W.Frag} {mg : Str → Option Value} {base : Heap}
/-! asked, of count questions -/
def spAsked (K : PySem.W.Frag) : Sp := fun vs H Q _ => ∃ (q : Addr) (z : Str), vs = [.ref q] ∧ SqT K H q [qCount, .str z] ∧ ∀ H' p, Same H H' → H' p = some (.tup [.str z]) → Q (.ref p) H'
theorem ok_asked (T : Blt mg) (d : DnAsked K mg) : FnOk P w K mg base CX0 1 d.f d.fd ["question"] (spAsked K) := by
  refine d.F.ok scP_asked (fun vs H Q E h => ?_) (fun cdv A outer s H vs Q E hr h => ?_)
  · obtain ⟨q, z, rfl, _⟩ := h
    rfl
  · obtain ⟨q, z, rfl, hq, k⟩ := h
    refine ⟨_, (pss_cons (ps_if (pt_cmpR op_eq (pe_ix ix_tup (pv 0) pe_int (fun _ _ => rfl)) pe_str (nomark _))
      (pss_one ps_never)
      pss_nil)
    (pss_one (ps_ret (pe_callTy call_tuple_of (by rfl) T.n_tuple (by decide +kernel) (pa_cons (pe_lc (own := [("part", 1)]) (g := gName 1) rfl scP_asked.nd (pi_tup (pe_slice sl_tup (pv 0) (po_some pe_int) po_none)) (blkOk_by (N := NP_asked) (sc := defScope sP_asked) (by decide +kernel)) (fun _ _ _ _ _ => pg_name (i := 1) scP_asked.nd rfl (Or.inl rfl)) (fun _ _ _ _ _ => pts_one (pt_val (pe_callB (r := rIsi K) call_isi (by rfl) T.n_isinstance (show bootBuiltins (Str.ofString "isinstance") = some (Value.builtin "isinstance") by decide +kernel) (pa_cons (pv 1) (pa_cons (pe_bltn (v := .ty "str") (by rfl) T.n_str (by decide +kernel) rfl) pa_nil))))) (fun _ _ _ _ _ => (pv 1))) pa_nil))))), ?_⟩
    refine ⟨.ref q, rfl, q, _, _, _, rfl, rfl, hq, atI_nat (j := 0) rfl, rfl, false, congrArg V.bl (decide_eq_false (by decide +kernel)), iteF ?_⟩
    refine ⟨.ref q, rfl, 1, rfl, q, _, rfl, hq, fun z => absurd (show HT.sIx 2 0 (some 1) = 0 from z.1) (by decide +kernel), fun p np => ?_⟩
    rw [show cutV [qCount, V.str z] (some 1) none = [V.str z] from rfl]
    refine ⟨p, rfl, ⟨_, .inl (.inl upd_same)⟩, fun D nD => ?_⟩
    have pD : p ≠ D := ne_of_none upd_same nD
    have s1 : Same H (upd (upd H p (.tup [.str z])) D (.lst [])) := Same.new (same_upd np) nD
    have hp1 : (upd (upd H p (.tup [.str z])) D (.lst [])) p = some (.tup [.str z]) := by rw [upd_ne pD]; exact upd_same
    refine lc_tup (xs := [.str z]) (fun i H3 => Same H H3 ∧ H3 p = some (.tup [.str z]) ∧ H3 D = some (.lst (([V.str z]).take i))) ⟨s1, hp1, upd_same⟩ (fun i H3 _ h3 => .inl (.inl h3.2.1)) (fun i x H3 hx h3 => ?_) (fun H3 h3 => ?_)
    · match i, hx with
      | 0, hx =>
        cases hx
        refine ⟨rfl, .str z, rfl, .str z, _, _, _, true, rfl, .ty "str", .base (.str z), kit_ty (by decide +kernel), true, rfl, iteT ?_⟩
        refine ⟨.str z, rfl, _, h3.2.2, (by show 0 < sizeLine; decide), fun b o e => ?_, by rw [upd_ne pD]; exact h3.2.1, by rw [upd_same]; rfl⟩
        rw [upd_ne (ne_of_none e (Same.gone (same_upd np) nD))]
        exact h3.1 b o e
      | i + 1, hx => simp at hx
    · refine ⟨D, _, rfl, .inl ⟨sql h3.2.2, fun u nu => ?_⟩⟩
      exact k _ u (Same.new h3.1 nu) upd_same
/-! parted -/
def spParted : Sp := fun vs H Q _ => ∃ (a sz : Int), vs = [.int a, .int sz] ∧ 0 ≤ a ∧ (a = 0 ∨ (0 < sz ∧ sz < 2 ^ 100)) ∧ ∀ H' p (ts : List Addr), Same H H' → H p = none → H' p = some (.lst (ts.map V.ref)) → Paired (PrI H') ts (partedZ a sz) → Q (.ref p) H'
theorem ok_parted (T : Blt mg) (d : DnParted K mg) : FnOk P w K mg base CX0 1 d.f d.fd ["amount", "size"] spParted := by
  refine d.F.ok scP_parted (fun vs H Q E h => ?_) (fun cdv A outer s H vs Q E hr h => ?_)
  · obtain ⟨a, sz, rfl, _⟩ := h
    rfl
  · obtain ⟨a, sz, rfl, ha, hsz, k⟩ := h
    refine ⟨_, (pss_cons (ps_if (pt_cmpR op_eq (pv 0) pe_int (nomark _))
      (pss_one (ps_ret (pe_lst pa_nil)))
      pss_nil)
    (pss_cons (ps_set (i := 2) scP_parted.nd rfl (Or.inl rfl) (pe_lst (pa_cons (pe_tup (pa_cons (pv 1) (pa_cons (pe_op op_fdivW (pv 0) (pv 1)) pa_nil))) (pa_cons (pe_tup (pa_cons (pe_op op_mod (pv 0) (pv 1)) (pa_cons pe_int pa_nil))) pa_nil))))
    (pss_one (ps_ret (pe_lc (own := [("part", 3), ("many", 4)]) (g := gTup K 2 (gCons (gName 3) (gCons (gName 4) gNil))) rfl scP_parted.nd (pi_list (pv 2)) (blkOk_by (N := NP_parted) (sc := defScope sP_parted) (by decide +kernel)) (fun _ _ _ _ _ => pg_tup (by rfl) (pgs_cons (pg_name (i := 3) scP_parted.nd rfl (Or.inl rfl)) (pgs_cons (pg_name (i := 4) scP_parted.nd rfl (Or.inl rfl)) pgs_nil))) (fun _ _ _ _ _ => pts_one (PW.pt (pw_and (pt_cmpR op_gt (pv 3) pe_int (nomark _)) (pw_and1 (pt_cmpR op_gt (pv 4) pe_int (nomark _)))))) (fun _ _ _ _ _ => (pe_tup (pa_cons (pv 3) (pa_cons (pv 4) pa_nil))))))))), ?_⟩
    refine ⟨.int a, rfl, rfl, _, rfl, ?_⟩
    by_cases h0 : a = 0
    · rw [show decide (V.int a = V.int 0) = true from decide_eq_true (by rw [h0])]
      refine iteT ⟨(by show 0 ≤ sizeLine; decide), fun p np => k _ p [] (same_upd np) np upd_same ?_⟩
      unfold partedZ
      rw [if_pos h0]
      exact .nil
    · rw [show decide (V.int a = V.int 0) = false from decide_eq_false (by intro z; injection z with z; exact h0 z)]
      obtain ⟨h1, h2⟩ : 0 < sz ∧ sz < 2 ^ 100 := by
        rcases hsz with h | h
        · exact absurd h h0
        · exact h
      refine iteF ⟨.int sz, rfl, .int a, rfl, .int sz, rfl, _, _, rfl, rfl, wide_div (b := 100) h1 (by omega) (by decide) (by decide), (by show 2 ≤ sizeLine; decide), fun t1 n1 => ?_⟩
      refine ⟨.int a, rfl, .int sz, rfl, _, _, rfl, rfl, h1, (by show 2 ≤ sizeLine; decide), fun t2 n2 => ⟨(by show 2 ≤ sizeLine; decide), fun l nl => ?_⟩⟩
      have s1 : Same H (upd (upd (upd H t1 (.tup [.int sz, .int (a / sz)])) t2 (.tup [.int (a % sz), .int 1])) l (.lst [.ref t1, .ref t2])) := Same.new (Same.new (same_upd n1) n2) nl
      have g1 := Same.new (o := .lst [.ref t1, .ref t2]) (same_upd (o := .tup [.int (a % sz), .int 1]) n2) nl t1 _ upd_same
      have g2 := same_upd (o := .lst [.ref t1, .ref t2]) nl t2 _ (upd_same (H := upd H t1 (.tup [.int sz, .int (a / sz)])))
      have gl : (upd (upd (upd H t1 (.tup [.int sz, .int (a / sz)])) t2 (.tup [.int (a % sz), .int 1])) l (.lst [.ref t1, .ref t2])) l = some (.lst [.ref t1, .ref t2]) := upd_same
      generalize upd (upd (upd H t1 (.tup [.int sz, .int (a / sz)])) t2 (.tup [.int (a % sz), .int 1])) l (.lst [.ref t1, .ref t2]) = H1 at s1 g1 g2 gl ⊢
      refine ⟨.ref l, rfl, l, rfl, ⟨_, sql gl⟩, fun D nD => ?_⟩
      have nD0 : H D = none := Same.gone s1 nD
      have hp : Paired (PrI H1) [t1, t2] (groupsZ a sz) := .cons g1 (.cons g2 .nil)
      refine lc_list (xs := [.ref t1, .ref t2]) (fun i H3 => Same H1 H3 ∧ ∃ ts : List Addr, H3 D = some (.lst (ts.map V.ref)) ∧ Paired (PrI H3) ts (((groupsZ a sz).take i).filter okG)) ⟨same_upd nD, [], upd_same, .nil⟩ (fun i H3 _ h3 => sql (h3.1 _ _ gl)) (fun i x H3 hx h3 => ?_) (fun H3 h3 => ?_)
      · obtain ⟨s3, ts, hD, hts⟩ := h3
        obtain ⟨t, ht, rfl⟩ := map_at (f := V.ref) (xs := [t1, t2]) hx
        obtain ⟨e, he, hat⟩ := paired_at hp ht
        have hat3 : PrI H3 t e := s3 _ _ hat
        have hi : i < 2 := (List.getElem?_eq_some_iff.mp ht).1
        have tk : (groupsZ a sz).take (i + 1) = (groupsZ a sz).take i ++ [e] := by rw [List.take_add_one, he]; rfl
        have hl2 : ts.length ≤ 2 := by
          rw [Paired.length hts]
          refine Nat.le_trans (List.length_filter_le _ _) ?_
          rw [List.length_take]
          omega
        have no : okG e = false → (((groupsZ a sz).take (i + 1)).filter okG) = (((groupsZ a sz).take i).filter okG) := fun h => by
          rw [tk, List.filter_append, List.filter_cons_of_neg (by rw [h]; decide)]
          exact List.append_nil _
        refine ⟨t, _, rfl, .inl (.inl hat3), rfl, _, _, rfl, _, _, rfl, rfl, rfl, .int e.1, rfl, _, _, rfl, rfl, _, rfl, ?_⟩
        refine ite2 (fun h1 => ?_) fun h1 => ?_
        · refine ⟨.int e.2, rfl, _, _, rfl, rfl, _, rfl, ?_⟩
          refine ite2 (fun h2 => ?_) fun h2 => ?_
          · refine ⟨.int e.1, rfl, .int e.2, rfl, (by show 2 ≤ sizeLine; decide), fun u nu => ?_⟩
            have hk : okG e = true := by
              unfold okG
              rw [Bool.and_eq_true]
              exact ⟨h1, h2⟩
            have uD : u ≠ D := (ne_of_none hD nu).symm
            refine ⟨_, by rw [upd_ne uD.symm]; exact hD, by rw [List.length_map, sizeLine_eq]; omega, fun b o e' => ?_, ts ++ [u], by rw [upd_same, List.map_append]; rfl, ?_⟩
            · rw [upd_ne (ne_of_none e' nD), upd_ne (ne_of_none (s3 _ _ e') nu)]
              exact s3 _ _ e'
            · rw [tk, List.filter_append, List.filter_cons_of_pos (by exact hk)]
              refine paired_snoc (paired_imp (fun t' e' h => ?_) hts) ?_
              · show upd _ D _ t' = _
                rw [upd_ne (ne_of h hD (by intro z; cases z)), upd_ne (ne_of_none h nu)]
                exact h
              · show upd _ D _ u = _
                rw [upd_ne uD]
                exact upd_same
          · exact ⟨s3, ts, hD, by rw [no (by unfold okG; rw [show decide (0 < e.2) = false by simpa using h2, Bool.and_false])]; exact hts⟩
        · exact ⟨s3, ts, hD, by rw [no (by unfold okG; rw [show decide (0 < e.1) = false by simpa using h1, Bool.false_and])]; exact hts⟩
      · obtain ⟨s3, ts, hD, hts⟩ := h3
        refine k H3 D ts (fun b o e => s3 _ _ (s1 _ _ e)) nD0 hD ?_
        unfold partedZ
        rw [if_neg h0]
        exact hts
end
end Kb

namespace Kb
open PySem PySem.Spec PyProof.Rows L2 SrtZ SrtO
/-- a plan on the heap: what is taken, and parts -/
structure PlanAt (H : Hp) (p : Addr) (tk : Ct) (ps : List (Int × Int)) : Prop where
  ob : ∃ (d l : Addr) (ts : List Addr), H p = some (.tup [.ref d, .ref l]) ∧ H d = some (.dK (tk.map entZ)) ∧ H l = some (.lst (ts.map V.ref)) ∧ Paired (PrI H) ts ps
theorem PlanAt.same {H H' : Hp} {p : Addr} {tk : Ct} {ps : List (Int × Int)} (h : PlanAt H p tk ps) (y : Same H H') : PlanAt H' p tk ps := by
  obtain ⟨d, l, ts, h1, h2, h3, h4⟩ := h.ob
  exact ⟨d, l, ts, y _ _ h1, y _ _ h2, y _ _ h3, paired_imp (fun t e h => y _ _ h) h4⟩
def planZ (kvs : Ct) (m off size : Int) (zs ys : List Str) : Ct × List (Int × Int) := ((fillZ off ys (nullZ zs [], m - sumC kvs)).1, partedZ (fillZ off ys (nullZ zs [], m - sumC kvs)).2 size)
section
variable {P : Program} {w : World} {K : PySem.W.Frag} {mg : Str → Option Value} {base : Heap}
/-! _filled -/
def spPFilled (K : PySem.W.Frag) : Sp := fun vs H Q _ => ∃ (s q n : Addr) (r m off size : Int) (kvs : Ct) (z : Str) (ys : List Str), vs = [.ref s, .ref q, .ref n, .int size] ∧ SkC K H s r m off kvs ∧ SkG r m off kvs ∧ SqT K H q [qCount, .str z] ∧ SqT K H n (ys.map V.str) ∧ ys.length ≤ 100 ∧ size < 2 ^ 100 ∧ (0 < size ∨ (fillZ off ys (nullZ [z] [], m - sumC kvs)).2 = 0) ∧
  ∀ H' p, Same H H' → H p = none → PlanAt H' p (planZ kvs m off size [z] ys).1 (planZ kvs m off size [z] ys).2 → Q (.ref p) H'
theorem ok_pfilled (T : Blt mg) (dP_lost_of : DnLostOf K mg) (dP_asked : DnAsked K mg) (dP_parted : DnParted K mg) (d : DnFilled K mg) : FnOk P w K mg base CX0 2 d.f d.fd ["sketch", "question", "names", "size"] (spPFilled K) := by
  have GP_lost_of : FnOk P w K mg base CX0 1 dP_lost_of.f dP_lost_of.fd ["sketch"] (spLostOf K) := ok_lost_of T dP_lost_of
  have GP_asked : FnOk P w K mg base CX0 1 dP_asked.f dP_asked.fd ["question"] (spAsked K) := ok_asked T dP_asked
  have GP_parted : FnOk P w K mg base CX0 1 dP_parted.f dP_parted.fd ["amount", "size"] spParted := ok_parted T dP_parted
  refine d.F.ok scP_filled (fun vs H Q E h => ?_) (fun cdv A outer s H vs Q E hr h => ?_)
  · obtain ⟨s, q, n, r, m, off, size, kvs, z, ys, rfl, _⟩ := h
    rfl
  · obtain ⟨sk, q, n, r, m, off, size, kvs, z, ys, rfl, hs, hg, hq, hn, hyl, hs100, hsz, k⟩ := h
    have hu := hu_of hr
    refine ⟨_, (pss_cons (ps_set (i := 4) scP_filled.nd rfl (Or.inl rfl) (pe_ix ix_tup (pv 0) pe_int (fun _ _ => rfl)))
    (pss_cons (ps_set (i := 5) scP_filled.nd rfl (Or.inl rfl) (pe_call GP_lost_of (hr.mono (by omega)) (by rfl) dP_lost_of.g dP_lost_of.F.kp dP_lost_of.b .nil pass0 (pa_cons (pv 0) pa_nil)))
    (pss_cons (ps_setDc (i := 6) (own := [("name", 7)]) (g := gName 7) (tt := tYes) rfl scP_filled.nd rfl rfl (sw_trueD rfl rfl rfl (by decide +kernel)) (pi_tup (pe_call GP_asked (hr.mono (by omega)) (by rfl) dP_asked.g dP_asked.F.kp dP_asked.b .nil pass0 (pa_cons (pv 1) pa_nil))) (blkOk_by (N := NP_filled) (sc := defScope sP_filled) (by decide +kernel)) (fun _ _ _ _ _ => pg_name (i := 7) scP_filled.nd rfl (Or.inl rfl)) (fun _ _ _ _ _ => pts_nil) (fun _ _ _ _ _ => (pv 7)) (fun _ _ _ _ _ => pe_int))
    (pss_cons (ps_for PassesOwn.never rfl (pi_tup (pv 2)) (pg_name (i := 7) scP_filled.nd rfl (Or.inl rfl))
      (pss_cons (ps_dput hu (pv 6) (pv 7) (pe_callB (call_min2 rfl) (by rfl) T.n_min (by decide +kernel) (pa_cons (pv 4) (pa_cons (pv 5) pa_nil))) rfl)
      (pss_one (ps_aug (i := 5) scP_filled.nd rfl (Or.inl rfl) (pe_dget hu (pv 6) (pv 7) (fun _ _ => rfl)) ip_sub))))
    (pss_one (ps_ret (pe_tup (pa_cons (pv 6) (pa_cons (pe_call GP_parted (hr.mono (by omega)) (by rfl) dP_parted.g dP_parted.F.kp dP_parted.b .nil pass0 (pa_cons (pv 5) (pa_cons (pv 3) pa_nil))) pa_nil))))))))), ?_⟩
    obtain ⟨kk, ts, h1, h2, h3⟩ := hs.ob
    have hlen := hg.len
    have hr64 := hg.r64
    refine ⟨.ref sk, rfl, sk, _, _, _, rfl, rfl, h1, atI_nat (j := 2) rfl, ?_⟩
    refine ⟨.ref sk, rfl, sk, kk, r, m, off, kvs, rfl, h1, ⟨ts, h2.seq, h3⟩, by omega, fun H1 s1 => ?_⟩
    refine ⟨.ref q, rfl, q, z, rfl, seqT hq s1, fun H2 a s2 ha => ?_⟩
    refine ⟨a, rfl, ⟨_, .inl (.inl ha)⟩, fun D nD => ?_⟩
    have s12 : Same H H2 := fun b u e => s2 _ _ (s1 _ _ e)
    have nD0 : H D = none := Same.gone s12 nD
    have aD : a ≠ D := ne_of_none ha nD
    refine dc_it (walk_tup (K := K) (xs := [.str z])) (fun i H3 => Same H2 H3 ∧ H3 D = some (.dK ((nullZ (([z] : List Str).take i) []).map entZ))) ⟨same_upd nD, upd_same⟩ (fun i H3 _ h3 => .inl (.inl (h3.1 _ _ ha))) (fun i x H3 H3' hi h3 y => ?_) (fun H3 h3 => ?_)
    · obtain ⟨rfl, hx⟩ := y
      match i, hx with
      | 0, hx =>
        cases hx
        refine ⟨rfl, .str z, rfl, [], Sum.inr z, rfl, h3.2, by decide, fun b o e => ?_, by rw [upd_same]; rfl⟩
        rw [upd_ne (ne_of_none e nD)]
        exact h3.1 b o e
      | i + 1, hx => simp at hx
    · obtain ⟨s3, hD⟩ := h3
      have s03 : Same H H3 := fun b u e => s3 _ _ (s12 _ _ e)
      refine ⟨.ref n, rfl, n, rfl, ⟨_, seqT hn s03⟩, for_tup (xs := ys.map V.str) (fun i σ H4 => ∃ y7, σ = [some (.ref sk), some (.ref q), some (.ref n), some (.int size), some (.int off), some (.int (fillZ off (ys.take i) (nullZ [z] [], m - sumC kvs)).2), some (.ref D), y7] ∧ Same H H4 ∧ H4 D = some (.dK ((fillZ off (ys.take i) (nullZ [z] [], m - sumC kvs)).1.map entZ)))
        ⟨none, rfl, s03, hD⟩ (fun i σ H4 _ ⟨_, _, s4, _⟩ => seqT hn s4) ?_ ?_⟩
      · rintro i v σ H4 hi ⟨y7, rfl, s4, hD4⟩
        obtain ⟨y, hy, rfl⟩ := map_at hi
        have tk : ys.take (i + 1) = ys.take i ++ [y] := by rw [List.take_add_one, hy]; rfl
        have hlt := (List.getElem?_eq_some_iff.mp hy).1
        have hll := fillZ_len off (ys.take i) (nullZ [z] [], m - sumC kvs)
        rw [List.length_take] at hll
        have h1l : (nullZ [z] []).length ≤ 1 := nullZ_len [z] []
        dsimp only at hll
        have st := fillZ_snoc off y (ys.take i) (nullZ [z] [], m - sumC kvs)
        rw [← tk] at st
        generalize fillZ off (ys.take i) (nullZ [z] [], m - sumC kvs) = x at hD4 hll st ⊢
        have st : fillZ off (ys.take (i + 1)) (nullZ [z] [], m - sumC kvs) = (putZ x.1 y (if x.2 < off then x.2 else off), x.2 - (if x.2 < off then x.2 else off)) := st
        refine ⟨.int off, rfl, .int x.2, rfl, off, x.2, rfl, ?_⟩
        refine ⟨.ref D, rfl, .str y, rfl, D, _, rfl, DPut.k (k := Sum.inr y) hD4 (by rw [List.length_map, sizeLine_eq]; omega), ?_⟩
        rw [putZ_put]
        generalize hw : (if x.2 < off then x.2 else off) = w at st ⊢
        have hD5 : (upd H4 D (.dK ((putZ x.1 y w).map entZ))) D = some (.dK ((putZ x.1 y w).map entZ)) := upd_same
        have s5 : Same H (upd H4 D (.dK ((putZ x.1 y w).map entZ))) := Same.put s4 nD0
        generalize upd H4 D (.dK ((putZ x.1 y w).map entZ)) = H5 at hD5 s5 ⊢
        have gv : valV ((putZ x.1 y w).map entZ) (Sum.inr y : Key) = some (.int w) := by
          rw [getZ_val, getZ_put, if_pos rfl]
          rfl
        have dg : DGet H5 D (.str y) (some (.int w)) := by
          rw [← gv]
          exact DGet.k (k := Sum.inr y) hD5
        refine ⟨.int x.2, rfl, .ref D, rfl, .str y, rfl, D, _, rfl, dg, _, _, rfl, rfl, some (.str y), by rw [st]; rfl, s5, by rw [st]; exact hD5⟩
      · rintro σ H4 ⟨y7, rfl, s4, hD4⟩
        rw [List.length_map, List.take_length] at hD4 ⊢
        have hlo := hg.lo
        have ho := hg.o0
        have hr1 := hg.r1
        have hl0 : 0 ≤ m - sumC kvs := Int.le_trans (Int.mul_nonneg (by omega) ho) hlo
        have hf := fillZ_left ho ys (nullZ [z] [], m - sumC kvs) hl0
        refine ⟨.ref D, rfl, .int _, rfl, .int size, rfl, _, size, rfl, hf.1, ?_, fun H5 l us s5 nl hl hus => ⟨(by show 2 ≤ sizeLine; decide), fun p np => ?_⟩⟩
        · rcases hsz with h | h
          · exact .inr ⟨h, hs100⟩
          · exact .inl h
        · have s45 : Same H4 (upd H5 p (.tup [.ref D, .ref l])) := Same.new s5 np
          have lp : l ≠ p := ne_of_none hl np
          refine k _ p (fun b u e => s45 _ _ (s4 _ _ e)) (Same.gone s4 (Same.gone s5 np)) ⟨D, l, us, upd_same, s45 _ _ hD4, by rw [upd_ne lp]; exact hl, paired_imp (fun t e h => ?_) hus⟩
          show upd H5 p _ t = _
          rw [upd_ne (ne_of_none h np)]
          exact h
end
end Kb

namespace Kb
open PySem PySem.Spec PyProof.Rows L2 SrtZ SrtO
abbrev sP_plans_of : Stmt := topS 37
theorem scP_plans_of : FnScope ["sketch", "question", "off", "word", "spread", "lumped"] ["sketch", "question"] (defScope sP_plans_of) := ⟨rfl, rfl, rfl, by decide +kernel, rfl, by decide +kernel, by decide +kernel⟩
abbrev sP_is_question : Stmt := topS 42
theorem scP_is_question : FnScope ["thing", "word"] ["thing"] (defScope sP_is_question) := ⟨rfl, rfl, rfl, by decide +kernel, rfl, by decide +kernel, by decide +kernel⟩
abbrev sP_worth : Stmt := topS 44
abbrev NP_worth : List Str := ["named", "parts", "question", "word", "groups", "mine", "count", "many", "name", "_"]
theorem scP_worth : FnScope ["named", "parts", "question", "word", "groups", "mine", "count", "many", "name", "_"] ["named", "parts", "question"] (defScope sP_worth) := ⟨rfl, rfl, rfl, by decide +kernel, rfl, by decide +kernel, by decide +kernel⟩
abbrev sP_need_both : Stmt := topS 46
theorem scP_need_both : FnScope ["sketch", "question"] ["sketch", "question"] (defScope sP_need_both) := ⟨rfl, rfl, rfl, by decide +kernel, rfl, by decide +kernel, by decide +kernel⟩
abbrev sP_named : Stmt := topS 47
abbrev NP_named : List Str := ["sketch", "taken", "named", "name", "amount"]
theorem scP_named : FnScope ["sketch", "taken", "named", "name", "amount"] ["sketch", "taken"] (defScope sP_named) := ⟨rfl, rfl, rfl, by decide +kernel, rfl, by decide +kernel, by decide +kernel⟩
abbrev sP_ends : Stmt := topS 48
abbrev NP_ends : List Str := ["sketch", "question", "low", "high", "taken", "parts"]
theorem scP_ends : FnScope ["sketch", "question", "low", "high", "taken", "parts"] ["sketch", "question"] (defScope sP_ends) := ⟨rfl, rfl, rfl, by decide +kernel, rfl, by decide +kernel, by decide +kernel⟩
abbrev DnPlansOf (K : PySem.W.Frag) (mg : Str → Option Value) := Dn K mg "plans_of" sP_plans_of ["sketch", "question"]
abbrev DnIsQuestion (K : PySem.W.Frag) (mg : Str → Option Value) := Dn K mg "is_question" sP_is_question ["thing"]
abbrev DnWorth (K : PySem.W.Frag) (mg : Str → Option Value) := Dn K mg "_worth" sP_worth ["named", "parts", "question"]
abbrev DnNeedBoth (K : PySem.W.Frag) (mg : Str → Option Value) := Dn K mg "_need_both" sP_need_both ["sketch", "question"]
abbrev DnNamed (K : PySem.W.Frag) (mg : Str → Option Value) := Dn K mg "_named" sP_named ["sketch", "taken"]
abbrev DnEnds (K : PySem.W.Frag) (mg : Str → Option Value) := Dn K mg "ends" sP_ends ["sketch", "question"]
/-- what was locked is free again -/
theorem unlock_same {H H3 : Hp} {d : Addr} {u : HO} {od : Obj} (hd : H d = some u) (s : Same (upd H d (.frz od u)) H3) : Same H (upd H3 d u) := fun b o e => by
  by_cases h : b = d
  · subst h
    rw [hd] at e
    cases e
    exact upd_same
  · rw [upd_ne h]
    exact s b o (by rw [upd_ne h]; exact e)
def namedZ (kvs tk : Ct) : Ct := tk.foldl (fun a e => addZ a e.1 e.2) kvs
theorem namedZ_snoc (kvs tk : Ct) (e : Str × Int) : namedZ kvs (tk ++ [e]) = addZ (namedZ kvs tk) e.1 e.2 := by
  unfold namedZ
  rw [List.foldl_append]
  rfl
theorem addZ_len1 {kvs : Ct} {n : Str} {c : Int} : (addZ kvs n c).length ≤ kvs.length + 1 := putZ_len
theorem namedZ_len : ∀ (tk kvs : Ct), (namedZ kvs tk).length ≤ kvs.length + tk.length
  | [], _ => Nat.le_refl _
  | e :: r, kvs => by
    have := namedZ_len r (addZ kvs e.1 e.2)
    have := addZ_len1 (kvs := kvs) (n := e.1) (c := e.2)
    show (namedZ (addZ kvs e.1 e.2) r).length ≤ kvs.length + (r.length + 1)
    omega
theorem dget_of {H : Hp} {d : Addr} {kvs : Ct} {y : Str} {v : Int} (h : H d = some (.dK (kvs.map entZ))) (g : getZ kvs y = some v) : DGet H d (.str y) (some (.int v)) := by
  have gv : valV (kvs.map entZ) (Sum.inr y : Key) = some (.int v) := by
    rw [getZ_val, g]
    rfl
  rw [← gv]
  exact DGet.k (k := Sum.inr y) h
/-- the bounds of a count -/
def lowZ (kvs : Ct) (z : Str) : Int := (getZ kvs z).getD 0
section
variable {P : Program} {w : World} {K : PySem.W.Frag} {mg : Str → Option Value} {base : Heap}
/-! plans_of, of count questions -/
def spPlansOf (K : PySem.W.Frag) : Sp := fun vs H Q _ => ∃ (s q : Addr) (r m off : Int) (kvs : Ct) (z : Str), vs = [.ref s, .ref q] ∧ SkC K H s r m off kvs ∧ SkG r m off kvs ∧ SqT K H q [qCount, .str z] ∧
  ∀ H' p p1 p2, Same H H' → H' p = some (.tup [.ref p1, .ref p2]) → PlanAt H' p1 (planZ kvs m off off [z] []).1 (planZ kvs m off off [z] []).2 → PlanAt H' p2 (planZ kvs m off off [z] [z]).1 (planZ kvs m off off [z] [z]).2 → Q (.ref p) H'
theorem ok_plans_of (T : Blt mg) (dP_lost_of : DnLostOf K mg) (dP_asked : DnAsked K mg) (dP_parted : DnParted K mg) (dP_filled : DnFilled K mg) (d : DnPlansOf K mg) : FnOk P w K mg base CX0 3 d.f d.fd ["sketch", "question"] (spPlansOf K) := by
  have GP_filled : FnOk P w K mg base CX0 2 dP_filled.f dP_filled.fd ["sketch", "question", "names", "size"] (spPFilled K) := ok_pfilled T dP_lost_of dP_asked dP_parted dP_filled
  have GP_asked : FnOk P w K mg base CX0 1 dP_asked.f dP_asked.fd ["question"] (spAsked K) := ok_asked T dP_asked
  refine d.F.ok scP_plans_of (fun vs H Q E h => ?_) (fun cdv A outer s H vs Q E hr h => ?_)
  · obtain ⟨s, q, r, m, off, kvs, z, rfl, _⟩ := h
    rfl
  · obtain ⟨sk, q, r, m, off, kvs, z, rfl, hs, hg, hq, k⟩ := h
    refine ⟨_, (pss_cons (ps_set (i := 2) scP_plans_of.nd rfl (Or.inl rfl) (pe_ix ix_tup (pv 0) pe_int (fun _ _ => rfl)))
    (pss_cons (ps_set (i := 3) scP_plans_of.nd rfl (Or.inl rfl) (pe_ix ix_tup (pv 1) pe_int (fun _ _ => rfl)))
    (pss_cons (ps_set (i := 4) scP_plans_of.nd rfl (Or.inl rfl) (pe_call GP_filled (hr.mono (by omega)) (by rfl) dP_filled.g dP_filled.F.kp dP_filled.b .nil pass0 (pa_cons (pv 0) (pa_cons (pv 1) (pa_cons (pe_tup pa_nil) (pa_cons pe_int pa_nil))))))
    (pss_cons (ps_if (pt_cmpR op_in_seq (pv 3) (pe_tup (pa_cons pe_str (pa_cons pe_str (pa_cons pe_str pa_nil)))) rfl)
      (pss_cons ps_never (pss_one ps_never))
      pss_nil)
    (pss_cons (ps_if (pt_cmpR op_eq (pv 3) pe_str (nomark _))
      (pss_one ps_never)
      pss_nil)
    (pss_cons (ps_if (pt_cmpR op_eq (pv 3) pe_str (nomark _))
      (pss_one ps_never)
      pss_nil)
    (pss_one (ps_ret (pe_tup (pa_cons (pe_call GP_filled (hr.mono (by omega)) (by rfl) dP_filled.g dP_filled.F.kp dP_filled.b .nil pass0 (pa_cons (pv 0) (pa_cons (pv 1) (pa_cons (pe_tup pa_nil) (pa_cons (pv 2) pa_nil))))) (pa_cons (pe_call GP_filled (hr.mono (by omega)) (by rfl) dP_filled.g dP_filled.F.kp dP_filled.b .nil pass0 (pa_cons (pv 0) (pa_cons (pv 1) (pa_cons (pe_call GP_asked (hr.mono (by omega)) (by rfl) dP_asked.g dP_asked.F.kp dP_asked.b .nil pass0 (pa_cons (pv 1) pa_nil)) (pa_cons (pv 2) pa_nil))))) pa_nil))))))))))), ?_⟩
    obtain ⟨kk, ts, h1, h2, h3⟩ := hs.ob
    have ho := hg.o0
    have hlo := hg.lo
    have hhi := hg.hi
    have hr1 := hg.r1
    have hr64 := hg.r64
    have hbig := hg.big
    have hl0 : 0 ≤ m - sumC kvs := Int.le_trans (Int.mul_nonneg (by omega) ho) hlo
    have hom : off ≤ m - sumC kvs := by
      have : 1 * off ≤ (r + 1) * off := Int.mul_le_mul_of_nonneg_right (by omega) ho
      omega
    have hz : off = 0 → m - sumC kvs = 0 := fun e => by
      rw [e, Int.mul_zero] at hhi
      omega
    have hsc : 0 ≤ sumC kvs := by
      have := hg.cts.pos
      unfold sumC
      have go : ∀ l : Ct, (∀ e ∈ l, 1 ≤ e.2) → 0 ≤ (l.map (·.2)).sum := by
        intro l
        induction l with
        | nil => intro _; exact Int.le_refl _
        | cons e l ih =>
          intro h
          have h1 := h e List.mem_cons_self
          have h2 := ih fun x hx => h x (List.mem_cons_of_mem _ hx)
          rw [List.map_cons, List.sum_cons]
          omega
      exact go kvs this
    refine ⟨.ref sk, rfl, sk, _, _, _, rfl, rfl, h1, atI_nat (j := 2) rfl, ?_⟩
    refine ⟨.ref q, rfl, q, _, _, _, rfl, rfl, hq, atI_nat (j := 0) rfl, ?_⟩
    refine ⟨.ref sk, rfl, .ref q, rfl, (by show 0 ≤ sizeLine; decide), fun e0 ne0 => ?_⟩
    have s0 : Same H (upd H e0 (.tup [])) := same_upd ne0
    have he0 : (upd H e0 (.tup [])) e0 = some (.tup (([] : List Str).map V.str)) := upd_same
    generalize upd H e0 (.tup []) = H1 at s0 he0 ⊢
    refine ⟨sk, q, e0, r, m, off, 1, kvs, z, [], rfl, hs.same s0, hg, seqT hq s0, .inl (.inl he0), by decide, by decide, .inl (by decide), fun H2 p0 s2 np0 pl0 => ?_⟩
    have s02 : Same H H2 := fun b u e => s2 _ _ (s0 _ _ e)
    refine ⟨qCount, rfl, (by show 3 ≤ sizeLine; decide), fun t0 nt0 => ⟨t0, _, rfl, .inr (.inl (.inl upd_same)), rfl, rfl, false, congrArg V.bl (by decide +kernel), iteF ?_⟩⟩
    have s3 : Same H (upd H2 t0 (.tup [.str (Str.ofString "first"), .str (Str.ofString "unlike"), .str (Str.ofString "squares")])) := Same.new s02 nt0
    generalize upd H2 t0 (.tup [.str (Str.ofString "first"), .str (Str.ofString "unlike"), .str (Str.ofString "squares")]) = H3 at s3 ⊢
    refine ⟨qCount, rfl, rfl, false, congrArg V.bl (decide_eq_false (by decide +kernel)), iteF ?_⟩
    refine ⟨qCount, rfl, rfl, false, congrArg V.bl (decide_eq_false (by decide +kernel)), iteF ?_⟩
    refine ⟨.ref sk, rfl, .ref q, rfl, ⟨(by show 0 ≤ sizeLine; decide), fun e1 ne1 => ?_⟩⟩
    have s4 : Same H (upd H3 e1 (.tup [])) := Same.new s3 ne1
    have he1 : (upd H3 e1 (.tup [])) e1 = some (.tup (([] : List Str).map V.str)) := upd_same
    generalize upd H3 e1 (.tup []) = H4 at s4 he1 ⊢
    refine ⟨.int off, rfl, sk, q, e1, r, m, off, off, kvs, z, [], rfl, hs.same s4, hg, seqT hq s4, .inl (.inl he1), by decide, by omega, ?_, fun H5 p1 s5 np1 pl1 => ?_⟩
    · by_cases e : off = 0
      · exact .inr (hz e)
      · exact .inl (by omega)
    have s05 : Same H H5 := fun b u e => s5 _ _ (s4 _ _ e)
    refine ⟨.ref sk, rfl, .ref q, rfl, .ref q, rfl, q, z, rfl, seqT hq s05, fun H6 a s6 ha => ?_⟩
    have s06 : Same H H6 := fun b u e => s6 _ _ (s05 _ _ e)
    refine ⟨.int off, rfl, sk, q, a, r, m, off, off, kvs, z, [z], rfl, hs.same s06, hg, seqT hq s06, .inl (.inl ha), (by show 1 ≤ 100; decide), by omega, ?_, fun H7 p2 s7 np2 pl2 => ⟨(by show 2 ≤ sizeLine; decide), fun p np => ?_⟩⟩
    · by_cases e : off = 0
      · refine .inr ?_
        show m - sumC kvs - (if m - sumC kvs < off then m - sumC kvs else off) = 0
        rw [hz e, e]
        rfl
      · exact .inl (by omega)
    have s8 : Same H7 (upd H7 p (.tup [.ref p1, .ref p2])) := same_upd np
    exact k _ p p1 p2 (fun b u e => s8 _ _ (s7 _ _ (s06 _ _ e))) upd_same (pl1.same fun b u e => s8 _ _ (s7 _ _ (s6 _ _ e))) (pl2.same s8)
end
end Kb

namespace Kb
open PySem PySem.Spec PyProof.Rows L2 SrtZ SrtO
section
variable {P : Program} {w : World} {K : PySem.W.Frag} {mg : Str → Option Value} {base : Heap}
/-! is_question, of count questions -/
def spIsQuestion (K : PySem.W.Frag) : Sp := fun vs H Q _ => ∃ (q : Addr) (z : Str), vs = [.ref q] ∧ SqT K H q [qCount, .str z] ∧ Nm z ∧ ∀ H', Same H H' → Q (.bl true) H'
theorem ok_is_question (T : Blt mg) (cL : Cst mg "LONGEST_NAME" (.int 8)) (dP_is_name : DnIsName K mg) (d : DnIsQuestion K mg) : FnOk P w K mg base CX0 2 d.f d.fd ["thing"] (spIsQuestion K) := by
  have GP_is_name : FnOk P w K mg base CX0 1 dP_is_name.f dP_is_name.fd ["thing"] spIsName := ok_is_name T cL dP_is_name
  refine d.F.ok scP_is_question (fun vs H Q E h => ?_) (fun cdv A outer s H vs Q E hr h => ?_)
  · obtain ⟨q, z, rfl, _⟩ := h
    rfl
  · obtain ⟨q, z, rfl, hq, nm, k⟩ := h
    refine ⟨_, (pss_cons (ps_if (PW.pt (pw_or (pt_not (pt_val (pe_callB call_isi (by rfl) T.n_isinstance (by decide +kernel) (pa_cons (pv 0) (pa_cons (pe_bltn (v := .ty "tuple") (by rfl) T.n_tuple (by decide +kernel) rfl) pa_nil))))) (pw_or (pt_not (pt_truth (pv 0) (by intro _; rfl))) (pw_or1 (pt_not (pt_val (pe_callB call_isi (by rfl) T.n_isinstance (by decide +kernel) (pa_cons (pe_ix ix_tup (pv 0) pe_int (fun _ _ => rfl)) (pa_cons (pe_bltn (v := .ty "str") (by rfl) T.n_str (by decide +kernel) rfl) pa_nil)))))))))
      (pss_one (ps_ret pe_bl))
      pss_nil)
    (pss_cons (ps_set (i := 1) scP_is_question.nd rfl (Or.inl rfl) (pe_ix ix_tup (pv 0) pe_int (fun _ _ => rfl)))
    (pss_cons (ps_if (pt_cmpR op_in_seq (pv 1) (pe_tup (pa_cons pe_str (pa_cons pe_str pa_nil))) rfl)
      (pss_one ps_never)
      pss_nil)
    (pss_cons (ps_if (pt_cmpR op_eq (pv 1) pe_str (nomark _))
      (pss_one ps_never)
      pss_nil)
    (pss_cons (ps_if (pt_cmpR op_ne (pe_callB call_len_seq (by rfl) T.n_len (by decide +kernel) (pa_cons (pv 0) pa_nil)) pe_int (nomark _))
      (pss_one (ps_ret pe_bl))
      pss_nil)
    (pss_cons (ps_if (pt_cmpR op_in_seq (pv 1) (pe_tup (pa_cons pe_str (pa_cons pe_str pa_nil))) rfl)
      (pss_one (ps_ret (pe_call GP_is_name (hr.mono (by omega)) (by rfl) dP_is_name.g dP_is_name.F.kp dP_is_name.b .nil pass0 (pa_cons (pe_ix ix_tup (pv 0) pe_int (fun _ _ => rfl)) pa_nil))))
      pss_nil)
    (pss_cons (ps_if (pt_cmpR op_eq (pv 1) pe_str (nomark _))
      (pss_one ps_never)
      pss_nil)
    (pss_one ps_never)))))))), ?_⟩
    refine ⟨.ref q, rfl, .ref q, _, _, _, true, rfl, .ty "tuple", tyT hq, kit_ty (by decide +kernel), true, rfl, iteF ?_⟩
    refine ⟨.ref q, rfl, true, .inr (.inl ⟨_, hq, rfl⟩), iteF ?_⟩
    refine ⟨.ref q, rfl, q, _, _, _, rfl, rfl, hq, atI_nat (j := 0) rfl, qCount, _, _, _, true, rfl, .ty "str", .base (.str _), kit_ty (by decide +kernel), true, rfl, iteF ?_⟩
    refine ⟨.ref q, rfl, q, _, _, _, rfl, rfl, hq, atI_nat (j := 0) rfl, ?_⟩
    refine ⟨qCount, rfl, (by show 2 ≤ sizeLine; decide), fun t0 nt0 => ⟨t0, _, rfl, .inr (.inl (.inl upd_same)), rfl, rfl, false, congrArg V.bl (by decide +kernel), iteF ?_⟩⟩
    have s1 : Same H (upd H t0 (.tup [.str (Str.ofString "unlike"), .str (Str.ofString "squares")])) := same_upd nt0
    generalize upd H t0 (.tup [.str (Str.ofString "unlike"), .str (Str.ofString "squares")]) = H1 at s1 ⊢
    refine ⟨qCount, rfl, rfl, false, congrArg V.bl (decide_eq_false (by decide +kernel)), iteF ?_⟩
    refine ⟨.ref q, rfl, q, _, rfl, .inr (seqT hq s1), rfl, false, rfl, iteF ?_⟩
    refine ⟨qCount, rfl, (by show 2 ≤ sizeLine; decide), fun t1 nt1 => ⟨t1, _, rfl, .inr (.inl (.inl upd_same)), rfl, rfl, true, congrArg V.bl (by decide +kernel), iteT ?_⟩⟩
    have s2 : Same H (upd H1 t1 (.tup [.str (Str.ofString "count"), .str (Str.ofString "place")])) := Same.new s1 nt1
    refine ⟨.ref q, rfl, q, _, _, _, rfl, rfl, seqT hq s2, atI_nat (j := 1) rfl, z, rfl, nm, fun H3 s3 => k H3 fun b u e => s3 _ _ (s2 _ _ e)⟩
/-! _worth, of count questions -/
def spWorth (K : PySem.W.Frag) : Sp := fun vs H Q _ => ∃ (dd l q : Addr) (kvs : Ct) (ts : List Addr) (z : Str), vs = [.ref dd, .ref l, .ref q] ∧ H dd = some (.dK (kvs.map entZ)) ∧ kvs.length ≤ 1000 ∧ H l = some (.lst (ts.map V.ref)) ∧ ts.length ≤ 1000 ∧ SqT K H q [qCount, .str z] ∧ ∀ H', Same H H' → Q (.int (lowZ kvs z)) H'
theorem ok_worth (T : Blt mg) (d : DnWorth K mg) : FnOk P w K mg base CX0 1 d.f d.fd ["named", "parts", "question"] (spWorth K) := by
  refine d.F.ok scP_worth (fun vs H Q E h => ?_) (fun cdv A outer s H vs Q E hr h => ?_)
  · obtain ⟨dd, l, q, kvs, ts, z, rfl, _⟩ := h
    rfl
  · obtain ⟨dd, l, q, kvs, ts, z, rfl, hd, hk, hl, hts, hq, k⟩ := h
    have hu := hu_of hr
    refine ⟨_, (pss_cons (ps_set (i := 3) scP_worth.nd rfl (Or.inl rfl) (pe_ix ix_tup (pv 2) pe_int (fun _ _ => rfl)))
    (pss_cons (ps_set (i := 4) scP_worth.nd rfl (Or.inl rfl) (pe_op op_cat (pe_lock (pe_lc (own := [("count", 6)]) (g := gName 6) rfl scP_worth.nd (pi_values (pv 0)) (blkOk_by (N := NP_worth) (sc := defScope sP_worth) (by decide +kernel)) (fun _ _ _ _ _ => pg_name (i := 6) scP_worth.nd rfl (Or.inl rfl)) (fun _ _ _ _ _ => pts_one (pt_cmpR op_gt (pv 6) pe_int (nomark _))) (fun _ _ _ _ _ => (pe_tup (pa_cons (pv 6) (pa_cons pe_int pa_nil)))))) (pv 1)))
    (pss_cons (ps_if (pt_cmpR op_eq (pv 3) pe_str (nomark _))
      (pss_one (ps_ret (pe_dget2 hu (pv 0) (pe_ix ix_tup (pv 2) pe_int (fun _ _ => rfl)) pe_int ⟨rfl, rfl, rfl, rfl⟩)))
      pss_nil)
    (pss_cons (ps_if (pt_cmpR op_eq (pv 3) pe_str (nomark _)) (pss_one ps_never) pss_nil)
    (pss_cons (ps_if (pt_cmpR op_eq (pv 3) pe_str (nomark _)) (pss_one ps_never) pss_nil)
    (pss_cons (ps_if (pt_cmpR op_eq (pv 3) pe_str (nomark _)) (pss_cons ps_never (pss_one ps_never)) pss_nil)
    (pss_cons (ps_if (pt_cmpR op_eq (pv 3) pe_str (nomark _)) (pss_one ps_never) pss_nil)
    (pss_cons (ps_if (pt_cmpR op_eq (pv 3) pe_str (nomark _)) (pss_one ps_never) pss_nil)
    (pss_one ps_never))))))))), ?_⟩
    refine ⟨.ref q, rfl, q, _, _, _, rfl, rfl, hq, atI_nat (j := 0) rfl, ?_⟩
    refine ⟨dd, _, hd, trivial, fun od => ⟨.ref dd, rfl, dd, od, kvs.map entZ, rfl, upd_same, fun D nD => ?_⟩⟩
    have dD : dd ≠ D := ne_of_none upd_same nD
    have nD0 : H D = none := by
      rw [upd_ne dD.symm] at nD
      exact nD
    generalize hHl : upd H dd (.frz od (.dK (kvs.map entZ))) = Hl at nD ⊢
    have hld : Hl dd = some (.frz od (.dK (kvs.map entZ))) := by rw [← hHl]; exact upd_same
    refine lc_it (walk_values (kvs := kvs.map entZ)) (fun i H3 => Same Hl H3 ∧ ∃ us : List Addr, us.length ≤ i ∧ H3 D = some (.lst (us.map V.ref))) ⟨same_upd nD, [], Nat.le_refl _, upd_same⟩ (fun i H3 _ h3 => h3.1 _ _ hld) (fun i x H3 H4 hi h3 y => ?_) (fun H3 h3 => ?_)
    · obtain ⟨s3, us, hul, hD⟩ := h3
      obtain ⟨rfl, kk, hx⟩ := y
      rw [List.getElem?_map] at hx
      obtain ⟨e, rfl⟩ : ∃ e : Str × Int, x = .int e.2 := by
        cases he : kvs[i]? with
        | none => rw [he] at hx; cases hx
        | some e =>
          rw [he] at hx
          injection hx with hx
          injection hx with _ hx
          exact ⟨e, hx.symm⟩
      rw [List.length_map] at hi
      refine ⟨rfl, .int e.2, rfl, _, _, rfl, rfl, _, rfl, ite2 (fun h1 => ?_) fun h1 => ⟨s3, us, by omega, hD⟩⟩
      refine ⟨.int e.2, rfl, (by show 2 ≤ sizeLine; decide), fun u nu => ?_⟩
      have uD : D ≠ u := ne_of_none hD nu
      refine ⟨_, by rw [upd_ne uD]; exact hD, by rw [List.length_map, sizeLine_eq]; omega, fun b o e' => ?_, us ++ [u], by rw [List.length_append]; exact Nat.succ_le_succ hul, by rw [upd_same, List.map_append]; rfl⟩
      rw [upd_ne (ne_of_none e' nD), upd_ne (ne_of_none (s3 _ _ e') nu)]
      exact s3 _ _ e'
    · obtain ⟨s3, us, hul, hD⟩ := h3
      rw [List.length_map] at hul
      refine ⟨s3 _ _ hld, ?_⟩
      have s4 : Same H (upd H3 dd (.dK (kvs.map entZ))) := unlock_same hd (by rw [hHl]; exact s3)
      have hD4 : (upd H3 dd (.dK (kvs.map entZ))) D = some (.lst (us.map V.ref)) := by rw [upd_ne dD.symm]; exact hD
      generalize upd H3 dd (.dK (kvs.map entZ)) = H4 at s4 hD4 ⊢
      refine ⟨.ref l, rfl, _, _, _, _, rfl, rfl, hD4, s4 _ _ hl, (by rw [List.length_map, List.length_map, sizeLine_eq]; omega), fun p np => ?_⟩
      have s5 := Same.new (o := .lst (us.map V.ref ++ ts.map V.ref)) s4 np
      generalize upd H4 p (.lst (us.map V.ref ++ ts.map V.ref)) = H5 at s5 ⊢
      refine ⟨qCount, rfl, rfl, true, congrArg V.bl (decide_eq_true rfl), iteT ?_⟩
      refine ⟨.ref dd, rfl, dd, rfl, .inl ⟨_, .inl (s5 _ _ hd)⟩, .ref q, rfl, q, _, _, _, rfl, rfl, seqT hq s5, atI_nat (j := 1) rfl, _, DGet.k (k := Sum.inr z) (s5 _ _ hd), ?_⟩
      rw [getZ_val]
      unfold lowZ at k
      cases hgz : getZ kvs z with
      | none => rw [hgz] at k; exact k H5 s5
      | some v => rw [hgz] at k; exact k H5 s5
end
end Kb

namespace Kb
open PySem PySem.Spec PyProof.Rows L2 SrtZ SrtO
theorem asc_nd {kvs : Ct} (h : kvs.Pairwise fun a b => ltZ a.1 b.1 = true) : NdZ kvs := by
  unfold NdZ
  rw [List.Nodup, List.pairwise_map]
  refine h.imp fun {a b} h e => ?_
  rw [e] at h
  have := ltZ_asym h
  rw [h] at this
  cases this
theorem SkG.yes {r m o : Int} {kvs : Ct} (g : SkG r m o kvs) : skB r m o kvs = true := by
  unfold skB
  rw [decide_eq_true g.r1, decide_eq_true g.r64, decide_eq_true g.m0, decide_eq_true g.o0, decide_eq_true g.len, decide_eq_true g.lo, decide_eq_true g.hi]
  rfl
theorem SkG.off_le {r m o : Int} {kvs : Ct} (g : SkG r m o kvs) : o ≤ m - sumC kvs := by
  have h1 := g.lo
  have h2 : 1 * o ≤ (r + 1) * o := Int.mul_le_mul_of_nonneg_right (by have := g.r1; omega) g.o0
  omega
theorem low_low {r m o : Int} {kvs : Ct} {z : Str} : lowZ (namedZ kvs (planZ kvs m o o [z] []).1) z = lowZ kvs z := by
  show ((getZ (addZ kvs z 0) z)).getD 0 = _
  unfold addZ
  rw [getZ_put, if_pos rfl]
  show (getZ kvs z).getD 0 + 0 = _
  rw [Int.add_zero]
  rfl
theorem low_high {r m o : Int} {kvs : Ct} {z : Str} (g : SkG r m o kvs) : lowZ (namedZ kvs (planZ kvs m o o [z] [z]).1) z = lowZ kvs z + o := by
  have e : (planZ kvs m o o [z] [z]).1 = [(z, o)] := by
    show putZ (putZ [] z 0) z (if m - sumC kvs < o then m - sumC kvs else o) = _
    rw [if_neg (by have := g.off_le; omega)]
    show putZ [(z, 0)] z o = _
    unfold putZ
    rw [if_pos (by simp)]
    simp
  rw [e]
  show ((getZ (addZ kvs z o) z)).getD 0 = _
  unfold addZ
  rw [getZ_put, if_pos rfl]
  rfl
section
variable {P : Program} {w : World} {K : PySem.W.Frag} {mg : Str → Option Value} {base : Heap}
/-! _need_both -/
def spNeedBoth (K : PySem.W.Frag) : Sp := fun vs H Q _ => ∃ (s q : Addr) (r m off : Int) (kvs : Ct) (z : Str), vs = [.ref s, .ref q] ∧ SkC K H s r m off kvs ∧ SkG r m off kvs ∧ SqT K H q [qCount, .str z] ∧ Nm z ∧ ∀ H', Same H H' → Q .non H'
theorem ok_need_both (T : Blt mg) (cM : Cst mg "MOST_ROOM" (.int 64)) (cL : Cst mg "LONGEST_NAME" (.int 8)) (dP_is_int : DnIsInt K mg) (dP_is_number : DnIsNumber K mg) (dP_is_room : DnIsRoom K mg) (dP_is_name : DnIsName K mg) (dP_is_counted : DnIsCounted K mg) (dP_are_counts : DnAreCounts K mg)
    (dP_lost_of : DnLostOf K mg) (dP_is_sketch : DnIsSketch K mg) (dP_is_question : DnIsQuestion K mg) (d : DnNeedBoth K mg) : FnOk P w K mg base CX0 5 d.f d.fd ["sketch", "question"] (spNeedBoth K) := by
  have GP_is_sketch : FnOk P w K mg base CX0 4 dP_is_sketch.f dP_is_sketch.fd ["thing"] (spIsSketch K) := ok_is_sketch T cM cL dP_is_int dP_is_number dP_is_room dP_is_name dP_is_counted dP_are_counts dP_lost_of dP_is_sketch
  have GP_is_question : FnOk P w K mg base CX0 2 dP_is_question.f dP_is_question.fd ["thing"] (spIsQuestion K) := ok_is_question T cL dP_is_name dP_is_question
  refine d.F.ok scP_need_both (fun vs H Q E h => ?_) (fun cdv A outer s H vs Q E hr h => ?_)
  · obtain ⟨s, q, r, m, off, kvs, z, rfl, _⟩ := h
    rfl
  · obtain ⟨sk, q, r, m, off, kvs, z, rfl, hs, hg, hq, nm, k⟩ := h
    refine ⟨_, (pss_cons (ps_if (pt_not (pt_val (pe_call GP_is_sketch (hr.mono (by omega)) (by rfl) dP_is_sketch.g dP_is_sketch.F.kp dP_is_sketch.b .nil pass0 (pa_cons (pv 0) pa_nil))))
      (pss_one ps_never)
      pss_nil)
    (pss_one (ps_if (pt_not (pt_val (pe_call GP_is_question (hr.mono (by omega)) (by rfl) dP_is_question.g dP_is_question.F.kp dP_is_question.b .nil pass0 (pa_cons (pv 1) pa_nil))))
      (pss_one ps_never)
      pss_nil))), ?_⟩
    obtain ⟨kk, ts, h1, h2, h3⟩ := hs.ob
    have hlen := hg.len
    have hr64 := hg.r64
    refine ⟨.ref sk, rfl, sk, kk, r, m, off, kvs, rfl, h1, ⟨ts, h2.seq, h3⟩, hg.cts, by omega, fun H1 s1 => ?_⟩
    rw [hg.yes]
    refine ⟨true, rfl, iteF ⟨.ref q, rfl, q, z, rfl, seqT hq s1, nm, fun H2 s2 => ⟨true, rfl, iteF ?_⟩⟩⟩
    exact k H2 fun b u e => s2 _ _ (s1 _ _ e)
/-! _named -/
def spNamed (K : PySem.W.Frag) : Sp := fun vs H Q _ => ∃ (s dd : Addr) (r m off : Int) (kvs tk : Ct), vs = [.ref s, .ref dd] ∧ SkC K H s r m off kvs ∧ SkG r m off kvs ∧ H dd = some (.dK (tk.map entZ)) ∧ tk.length ≤ 500 ∧
  ∀ H' p, Same H H' → H p = none → H' p = some (.dK ((namedZ kvs tk).map entZ)) → Q (.ref p) H'
theorem ok_named (T : Blt mg) (d : DnNamed K mg) : FnOk P w K mg base CX0 1 d.f d.fd ["sketch", "taken"] (spNamed K) := by
  refine d.F.ok scP_named (fun vs H Q E h => ?_) (fun cdv A outer s H vs Q E hr h => ?_)
  · obtain ⟨s, dd, r, m, off, kvs, tk, rfl, _⟩ := h
    rfl
  · obtain ⟨sk, dd, r, m, off, kvs, tk, rfl, hs, hg, hd, htk, k⟩ := h
    have hu := hu_of hr
    refine ⟨_, (pss_cons (ps_set (i := 2) scP_named.nd rfl (Or.inl rfl) (pe_callTy (call_dictPT rfl) (by rfl) T.n_dict (by decide +kernel) (pa_cons (pe_ix ix_tup (pv 0) pe_int (fun _ _ => rfl)) pa_nil)))
    (pss_cons (ps_lock (ps_for PassesOwn.never rfl (pi_items (pv 1)) (pg_tup (by rfl) (pgs_cons (pg_name (i := 3) scP_named.nd rfl (Or.inl rfl)) (pgs_cons (pg_name (i := 4) scP_named.nd rfl (Or.inl rfl)) pgs_nil)))
      (pss_one (ps_dput hu (pv 2) (pv 3) (pe_op op_add (pe_dget2 hu (pv 2) (pv 3) pe_int ⟨rfl, rfl, rfl, rfl⟩) (pv 4)) rfl))))
    (pss_one (ps_ret (pv 2))))), ?_⟩
    obtain ⟨kk, ts, h1, h2, h3⟩ := hs.ob
    have hlen := hg.len
    have hr64 := hg.r64
    have nd : NdZ kvs := asc_nd hg.cts.asc
    refine ⟨.ref sk, rfl, sk, _, _, _, rfl, rfl, h1, atI_nat (j := 3) rfl, kk, ts, kvs.map entZ, rfl, h2, ents_paired h3, fun p np => ?_⟩
    rw [show mergeK [] (kvs.map entZ) = kvs.map entZ from mergeZ kvs [] nd]
    have dp : dd ≠ p := ne_of_none hd np
    have hd1 : (upd H p (.dK (kvs.map entZ))) dd = some (.dK (tk.map entZ)) := by rw [upd_ne dp]; exact hd
    refine ⟨dd, _, hd1, trivial, fun od => ?_⟩
    have hp1 : (upd (upd H p (.dK (kvs.map entZ))) dd (.frz od (.dK (tk.map entZ)))) p = some (.dK (kvs.map entZ)) := by rw [upd_ne dp.symm]; exact upd_same
    have hd2 : (upd (upd H p (.dK (kvs.map entZ))) dd (.frz od (.dK (tk.map entZ)))) dd = some (.frz od (.dK (tk.map entZ))) := upd_same
    have kp1 : ∀ b u, b ≠ p → b ≠ dd → H b = some u → (upd (upd H p (.dK (kvs.map entZ))) dd (.frz od (.dK (tk.map entZ)))) b = some u := fun b u n1 n2 e => by rw [upd_ne n2, upd_ne n1]; exact e
    generalize upd (upd H p (.dK (kvs.map entZ))) dd (.frz od (.dK (tk.map entZ))) = H1 at hp1 hd2 kp1 ⊢
    refine ⟨.ref dd, rfl, dd, od, tk.map entZ, rfl, hd2, for_it (walk_items (kvs := tk.map entZ)) (fun i σ H3 => ∃ y3 y4, σ = [some (.ref sk), some (.ref dd), some (.ref p), y3, y4] ∧ (∀ b u, b ≠ p → H1 b = some u → H3 b = some u) ∧ H3 p = some (.dK ((namedZ kvs (tk.take i)).map entZ)))
      ⟨none, none, rfl, fun _ _ _ e => e, hp1⟩ (fun i σ H3 _ ⟨_, _, _, k3, _⟩ => k3 _ _ dp hd2) (fun i x σ H3 H4 hi h3 y => ?_) (fun σ H3 h3 => ?_)⟩
    · obtain ⟨y3, y4, rfl, k3, hp3⟩ := h3
      obtain ⟨Tp, x1, y1, rfl, nT, rfl, hx, hy⟩ := y
      dsimp only at hx hy
      rw [List.length_map] at hi
      have he : tk[i]? = some tk[i] := List.getElem?_eq_getElem hi
      generalize tk[i] = e at he
      have hx1 : x1 = .str e.1 := by
        rw [List.getElem?_map, he] at hx
        exact (Option.some.inj hx).symm
      have hy1 : y1 = .int e.2 := by
        rw [List.getElem?_map, he] at hy
        exact (Option.some.inj hy).symm
      subst hx1 hy1
      have pT : p ≠ Tp := ne_of_none hp3 nT
      have te : tk.take (i + 1) = tk.take i ++ [e] := by rw [List.take_add_one, he]; rfl
      have hp4 : (upd H3 Tp (.tup [.str e.1, .int e.2])) p = some (.dK ((namedZ kvs (tk.take i)).map entZ)) := by rw [upd_ne pT]; exact hp3
      have hnl := namedZ_len (tk.take i) kvs
      rw [List.length_take] at hnl
      refine ⟨Tp, _, rfl, .inl (.inl upd_same), rfl, _, _, rfl, _, _, rfl, rfl, ?_⟩
      refine ⟨.ref p, rfl, p, rfl, .inl ⟨_, .inl hp4⟩, .str e.1, rfl, _, DGet.k (k := Sum.inr e.1) hp4, ?_⟩
      rw [getZ_val]
      refine ⟨.int e.2, rfl, (getZ (namedZ kvs (tk.take i)) e.1).getD 0, e.2, ?_, rfl, ?_⟩
      · cases getZ (namedZ kvs (tk.take i)) e.1 <;> rfl
      · refine ⟨.ref p, rfl, .str e.1, rfl, p, _, rfl, DPut.k (k := Sum.inr e.1) hp4 (by rw [List.length_map, sizeLine_eq]; omega), ?_⟩
        rw [putZ_put]
        refine ⟨some (.str e.1), some (.int e.2), rfl, fun b u n e' => ?_, by rw [upd_same, te, namedZ_snoc]; rfl⟩
        rw [upd_ne n, upd_ne (ne_of_none (k3 _ _ n e') nT)]
        exact k3 _ _ n e'
    · obtain ⟨y3, y4, rfl, k3, hp3⟩ := h3
      rw [List.length_map, List.take_length] at hp3
      refine ⟨k3 _ _ dp hd2, .ref p, rfl, k _ p (fun b u e => ?_) np ?_⟩
      · by_cases hb : b = dd
        · subst hb
          rw [hd] at e
          cases e
          exact upd_same
        · rw [upd_ne hb]
          have n := ne_of_none e np
          exact k3 _ _ n (kp1 _ _ n hb e)
      · rw [upd_ne dp.symm]
        exact hp3
/-! ends, of count questions -/
def spEnds (K : PySem.W.Frag) : Sp := fun vs H Q _ => ∃ (s q : Addr) (r m off : Int) (kvs : Ct) (z : Str), vs = [.ref s, .ref q] ∧ SkC K H s r m off kvs ∧ SkG r m off kvs ∧ SqT K H q [qCount, .str z] ∧ Nm z ∧
  ∀ H' p, Same H H' → H p = none → H' p = some (.tup [.int (lowZ kvs z), .int (lowZ kvs z + off)]) → Q (.ref p) H'
structure DefsE (K : PySem.W.Frag) (mg : Str → Option Value) where
  T : Blt mg
  cM : Cst mg "MOST_ROOM" (.int 64)
  cL : Cst mg "LONGEST_NAME" (.int 8)
  dP_is_int : DnIsInt K mg
  dP_is_number : DnIsNumber K mg
  dP_is_room : DnIsRoom K mg
  dP_is_name : DnIsName K mg
  dP_is_counted : DnIsCounted K mg
  dP_are_counts : DnAreCounts K mg
  dP_lost_of : DnLostOf K mg
  dP_is_sketch : DnIsSketch K mg
  dP_asked : DnAsked K mg
  dP_parted : DnParted K mg
  dP_filled : DnFilled K mg
  dP_plans_of : DnPlansOf K mg
  dP_is_question : DnIsQuestion K mg
  dP_worth : DnWorth K mg
  dP_need_both : DnNeedBoth K mg
  dP_named : DnNamed K mg
  dP_ends : DnEnds K mg
theorem ok_ends (D : DefsE K mg) : FnOk P w K mg base CX0 6 D.dP_ends.f D.dP_ends.fd ["sketch", "question"] (spEnds K) := by
  obtain ⟨T, cM, cL, dP_is_int, dP_is_number, dP_is_room, dP_is_name, dP_is_counted, dP_are_counts, dP_lost_of, dP_is_sketch, dP_asked, dP_parted, dP_filled, dP_plans_of, dP_is_question, dP_worth, dP_need_both, dP_named, d⟩ := D
  show FnOk P w K mg base CX0 6 d.f d.fd ["sketch", "question"] (spEnds K)
  have GP_need_both : FnOk P w K mg base CX0 5 dP_need_both.f dP_need_both.fd ["sketch", "question"] (spNeedBoth K) := ok_need_both T cM cL dP_is_int dP_is_number dP_is_room dP_is_name dP_is_counted dP_are_counts dP_lost_of dP_is_sketch dP_is_question dP_need_both
  have GP_plans_of : FnOk P w K mg base CX0 3 dP_plans_of.f dP_plans_of.fd ["sketch", "question"] (spPlansOf K) := ok_plans_of T dP_lost_of dP_asked dP_parted dP_filled dP_plans_of
  have GP_worth : FnOk P w K mg base CX0 1 dP_worth.f dP_worth.fd ["named", "parts", "question"] (spWorth K) := ok_worth T dP_worth
  have GP_named : FnOk P w K mg base CX0 1 dP_named.f dP_named.fd ["sketch", "taken"] (spNamed K) := ok_named T dP_named
  refine d.F.ok scP_ends (fun vs H Q E h => ?_) (fun cdv A outer s H vs Q E hr h => ?_)
  · obtain ⟨s, q, r, m, off, kvs, z, rfl, _⟩ := h
    rfl
  · obtain ⟨sk, q, r, m, off, kvs, z, rfl, hs, hg, hq, nm, k⟩ := h
    refine ⟨_, (pss_cons (ps_expr (pe_call GP_need_both (hr.mono (by omega)) (by rfl) dP_need_both.g dP_need_both.F.kp dP_need_both.b .nil pass0 (pa_cons (pv 0) (pa_cons (pv 1) pa_nil))))
    (pss_cons (ps_asg (pe_lc (own := [("taken", 4), ("parts", 5)]) (g := gTup K 2 (gCons (gName 4) (gCons (gName 5) gNil))) (tt := tYes) rfl scP_ends.nd (pi_tup (pe_call GP_plans_of (hr.mono (by omega)) (by rfl) dP_plans_of.g dP_plans_of.F.kp dP_plans_of.b .nil pass0 (pa_cons (pv 0) (pa_cons (pv 1) pa_nil)))) (blkOk_by (N := NP_ends) (sc := defScope sP_ends) (by decide +kernel)) (fun _ _ _ _ _ => pg_tup (by rfl) (pgs_cons (pg_name (i := 4) scP_ends.nd rfl (Or.inl rfl)) (pgs_cons (pg_name (i := 5) scP_ends.nd rfl (Or.inl rfl)) pgs_nil))) (fun _ _ _ _ _ => pts_nil) (fun _ _ _ _ _ => (pe_call GP_worth (hr.mono (by omega)) (by rfl) dP_worth.g dP_worth.F.kp dP_worth.b .nil pass0 (pa_cons (pe_call GP_named (hr.mono (by omega)) (by rfl) dP_named.g dP_named.F.kp dP_named.b .nil pass0 (pa_cons (pv 0) (pa_cons (pv 4) pa_nil))) (pa_cons (pv 5) (pa_cons (pv 1) pa_nil)))))) (pg_unl (by rfl) (pgs_cons (pg_name (i := 2) scP_ends.nd rfl (Or.inl rfl)) (pgs_cons (pg_name (i := 3) scP_ends.nd rfl (Or.inl rfl)) pgs_nil))))
    (pss_one (ps_ret (pe_tup (pa_cons (pv 2) (pa_cons (pv 3) pa_nil))))))), ?_⟩
    refine ⟨.ref sk, rfl, .ref q, rfl, sk, q, r, m, off, kvs, z, rfl, hs, hg, hq, nm, fun H1 s1 => ?_⟩
    refine ⟨.ref sk, rfl, .ref q, rfl, sk, q, r, m, off, kvs, z, rfl, hs.same s1, hg, seqT hq s1, fun H2 p p1 p2 s2 hp pl1 pl2 => ?_⟩
    have s02 : Same H H2 := fun b u e => s2 _ _ (s1 _ _ e)
    refine ⟨p, rfl, ⟨_, .inl (.inl hp)⟩, fun D nD => ?_⟩
    have nD0 : H D = none := Same.gone s02 nD
    have pD : p ≠ D := ne_of_none hp nD
    refine lc_tup (xs := [.ref p1, .ref p2]) (fun i H3 => Same H2 H3 ∧ H3 D = some (.lst (([V.int (lowZ kvs z), V.int (lowZ kvs z + off)]).take i))) ⟨same_upd nD, upd_same⟩ (fun i H3 _ h3 => .inl (.inl (h3.1 _ _ hp))) (fun i x H3 hx h3 => ?_) (fun H3 h3 => ?_)
    · obtain ⟨s3, hD⟩ := h3
      obtain ⟨pp, tk, ps, hl, rfl, pl, htk, hval⟩ : ∃ pp tk ps, tk.length ≤ 2 ∧ x = .ref pp ∧ PlanAt H2 pp tk ps ∧ ps.length ≤ 2 ∧ ([V.int (lowZ kvs z), V.int (lowZ kvs z + off)])[i]? = some (.int (lowZ (namedZ kvs tk) z)) := by
        match i, hx with
        | 0, hx =>
          cases hx
          exact ⟨p1, (planZ kvs m off off [z] []).1, (planZ kvs m off off [z] []).2, Nat.le_trans (fillZ_len off [] _) (by have := nullZ_len [z] []; dsimp only [List.length] at this ⊢; omega), rfl, pl1, partedZ_len _ _, by rw [low_low (r := r)]; rfl⟩
        | 1, hx =>
          cases hx
          exact ⟨p2, (planZ kvs m off off [z] [z]).1, (planZ kvs m off off [z] [z]).2, Nat.le_trans (fillZ_len off [z] _) (by have := nullZ_len [z] []; dsimp only [List.length] at this ⊢; omega), rfl, pl2, partedZ_len _ _, by rw [low_high hg]; rfl⟩
        | i + 2, hx => simp at hx
      have hi : i < 2 := (List.getElem?_eq_some_iff.mp hval).1
      obtain ⟨dd, l, ts, hpp, hdd, hll, hts⟩ := pl.ob
      have s03 : Same H H3 := fun b u e => s3 _ _ (s02 _ _ e)
      refine ⟨pp, _, rfl, .inl (.inl (s3 _ _ hpp)), rfl, _, _, rfl, _, _, rfl, rfl, rfl, ?_⟩
      refine ⟨.ref sk, rfl, .ref dd, rfl, sk, dd, r, m, off, kvs, tk, rfl, hs.same s03, hg, s3 _ _ hdd, by omega, fun H4 nd s4 nnd hnd => ?_⟩
      have hnl := namedZ_len tk kvs
      have hlen := hg.len
      have hr64 := hg.r64
      refine ⟨.ref l, rfl, .ref q, rfl, nd, l, q, namedZ kvs tk, ts, z, rfl, hnd, by omega, s4 _ _ (s3 _ _ hll), by rw [Paired.length hts]; omega, seqT hq fun b u e => s4 _ _ (s03 _ _ e), fun H5 s5 => ?_⟩
      have hD5 := s5 _ _ (s4 _ _ hD)
      refine ⟨_, hD5, by rw [List.length_take, sizeLine_eq]; omega, fun b u e => ?_, by rw [upd_same, List.take_add_one, hval]; rfl⟩
      rw [upd_ne (ne_of_none e nD)]
      exact s5 _ _ (s4 _ _ (s3 _ _ e))
    · obtain ⟨s3, hD⟩ := h3
      refine ⟨D, _, rfl, sql hD, rfl, _, _, rfl, _, _, rfl, rfl, ?_⟩
      refine ⟨.int _, rfl, .int _, rfl, (by show 2 ≤ sizeLine; decide), fun u nu => ?_⟩
      exact k _ u (Same.new (fun b o e => s3 _ _ (s02 _ _ e)) nu) (Same.gone s02 (Same.gone s3 nu)) upd_same
end
end Kb

namespace Kb
open PySem PySem.Spec PyProof.Rows L2 SrtZ SrtO
abbrev sP_are_sketches : Stmt := topS 51
abbrev NP_are_sketches : List Str := ["thing", "sketch"]
theorem scP_are_sketches : FnScope ["thing", "sketch"] ["thing"] (defScope sP_are_sketches) := ⟨rfl, rfl, rfl, by decide +kernel, rfl, by decide +kernel, by decide +kernel⟩
abbrev sP_sum_ends : Stmt := topS 52
abbrev NP_sum_ends : List Str := ["sketches", "name", "pairs", "sketch", "low", "_", "high"]
theorem scP_sum_ends : FnScope ["sketches", "name", "pairs", "sketch", "low", "_", "high"] ["sketches", "name"] (defScope sP_sum_ends) := ⟨rfl, rfl, rfl, by decide +kernel, rfl, by decide +kernel, by decide +kernel⟩
abbrev DnAreSketches (K : PySem.W.Frag) (mg : Str → Option Value) := Dn K mg "_are_sketches" sP_are_sketches ["thing"]
abbrev DnSumEnds (K : PySem.W.Frag) (mg : Str → Option Value) := Dn K mg "sum_ends" sP_sum_ends ["sketches", "name"]
/-- a sketch as data -/
structure Sk where
  r : Int
  m : Int
  o : Int
  c : Ct
abbrev SkX (K : PySem.W.Frag) (H : Hp) (s : Addr) (x : Sk) : Prop := SkC K H s x.r x.m x.o x.c
abbrev SkV (x : Sk) : Prop := SkG x.r x.m x.o x.c
def lowS (xs : List Sk) (z : Str) : Int := (xs.map fun x => lowZ x.c z).sum
def highS (xs : List Sk) (z : Str) : Int := (xs.map fun x => lowZ x.c z + x.o).sum
section
variable {P : Program} {w : World} {K : PySem.W.Frag} {mg : Str → Option Value} {base : Heap}
def spAreSketches (K : PySem.W.Frag) : Sp := fun vs H Q _ => ∃ (t : Addr) (ss : List Addr) (xs : List Sk), vs = [.ref t] ∧ SqT K H t (ss.map V.ref) ∧ Paired (SkX K H) ss xs ∧ (∀ x ∈ xs, SkV x) ∧ xs.length ≤ 100 ∧ ∀ H', Same H H' → Q (.bl true) H'
theorem ok_are_sketches (D : DefsE K mg) (cK : Cst mg "MOST_SKETCHES" (.int 100)) (d : DnAreSketches K mg) : FnOk P w K mg base CX0 5 d.f d.fd ["thing"] (spAreSketches K) := by
  obtain ⟨T, cM, cL, dP_is_int, dP_is_number, dP_is_room, dP_is_name, dP_is_counted, dP_are_counts, dP_lost_of, dP_is_sketch, dP_asked, dP_parted, dP_filled, dP_plans_of, dP_is_question, dP_worth, dP_need_both, dP_named, dP_ends⟩ := D
  have GP_is_sketch : FnOk P w K mg base CX0 4 dP_is_sketch.f dP_is_sketch.fd ["thing"] (spIsSketch K) := ok_is_sketch T cM cL dP_is_int dP_is_number dP_is_room dP_is_name dP_is_counted dP_are_counts dP_lost_of dP_is_sketch
  refine d.F.ok scP_are_sketches (fun vs H Q E h => ?_) (fun cdv A outer s H vs Q E hr h => ?_)
  · obtain ⟨t, ss, xs, rfl, _⟩ := h
    rfl
  · obtain ⟨t, ss, xs, rfl, ht, hp, hv, hl, k⟩ := h
    have hsl : ss.length = xs.length := Paired.length hp
    refine ⟨_, (pss_cons (ps_if (PW.pt (pw_or (pt_not (pt_val (pe_callB call_isi (by rfl) T.n_isinstance (by decide +kernel) (pa_cons (pv 0) (pa_cons (pe_bltn (v := .ty "tuple") (by rfl) T.n_tuple (by decide +kernel) rfl) pa_nil))))) (pw_or1 (pt_cmpR op_gt (pe_callB call_len_seq (by rfl) T.n_len (by decide +kernel) (pa_cons (pv 0) pa_nil)) (pe_glob rfl cK.g cK.r) (nomark _)))))
      (pss_one (ps_ret pe_bl))
      pss_nil)
    (pss_one (ps_ret (pe_callB (cr_all rfl) (by rfl) T.n_all (by decide +kernel) (pa_cons (pe_lc (own := [("sketch", 1)]) (g := gName 1) (tt := tYes) rfl scP_are_sketches.nd (pi_tup (pv 0)) (blkOk_by (N := NP_are_sketches) (sc := defScope sP_are_sketches) (by decide +kernel)) (fun _ _ _ _ _ => pg_name (i := 1) scP_are_sketches.nd rfl (Or.inl rfl)) (fun _ _ _ _ _ => pts_nil) (fun _ _ _ _ _ => (pe_call GP_is_sketch (hr.mono (by omega)) (by rfl) dP_is_sketch.g dP_is_sketch.F.kp dP_is_sketch.b .nil pass0 (pa_cons (pv 1) pa_nil)))) pa_nil))))), ?_⟩
    refine ⟨.ref t, rfl, .ref t, _, _, _, true, rfl, .ty "tuple", tyT ht, kit_ty (by decide +kernel), true, rfl, iteF ?_⟩
    refine ⟨.ref t, rfl, t, _, rfl, .inr ht, _, _, rfl, rfl, false, congrArg V.bl (decide_eq_false (by rw [List.length_map]; omega)), iteF ?_⟩
    refine ⟨.ref t, rfl, t, rfl, ⟨_, ht⟩, fun D nD => lc_tup (xs := ss.map V.ref) (fun i H3 => Same H H3 ∧ H3 D = some (.lst ((ss.take i).map fun _ => V.bl true))) ⟨same_upd nD, upd_same⟩ (fun i H3 _ h3 => seqT ht h3.1) (fun i x H3 hx h3 => ?_) (fun H3 h3 => ?_)⟩
    · obtain ⟨s, hs, rfl⟩ := map_at hx
      obtain ⟨y, hy, hat⟩ := paired_at hp hs
      have hg := hv y (List.mem_of_getElem? hy)
      obtain ⟨kk, ts, h1, h2, h4⟩ := (hat.same h3.1).ob
      have hlen := hg.len
      have hr64 := hg.r64
      refine ⟨rfl, .ref s, rfl, s, kk, y.r, y.m, y.o, y.c, rfl, h1, ⟨ts, h2.seq, h4⟩, hg.cts, by omega, fun H4 s4 => ⟨_, s4 _ _ h3.2, ?_, fun b o e => ?_, ?_⟩⟩
      · rw [List.length_map, List.length_take, sizeLine_eq]
        omega
      · rw [upd_ne (ne_of_none e nD)]
        exact s4 b o (h3.1 b o e)
      · rw [upd_same, List.take_add_one, hs, List.map_append, hg.yes]
        rfl
    · refine ⟨D, ss.map fun _ => true, rfl, sql ?_, ?_⟩
      · rw [h3.2, List.length_map, List.take_length, List.map_map]
        rfl
      · rw [show ((ss.map fun _ => true).all id) = true by simp]
        exact k H3 h3.1
def spSumEnds (K : PySem.W.Frag) : Sp := fun vs H Q _ => ∃ (t : Addr) (z : Str) (ss : List Addr) (xs : List Sk), vs = [.ref t, .str z] ∧ SqT K H t (ss.map V.ref) ∧ Paired (SkX K H) ss xs ∧ (∀ x ∈ xs, SkV x) ∧ xs.length ≤ 100 ∧ Nm z ∧
  ∀ H' p, Same H H' → H p = none → H' p = some (.tup [.int (lowS xs z), .int (highS xs z)]) → Q (.ref p) H'
theorem ok_sum_ends (D : DefsE K mg) (cK : Cst mg "MOST_SKETCHES" (.int 100)) (dP_are_sketches : DnAreSketches K mg) (d : DnSumEnds K mg) : FnOk P w K mg base CX0 7 d.f d.fd ["sketches", "name"] (spSumEnds K) := by
  have GP_ends : FnOk P w K mg base CX0 6 D.dP_ends.f D.dP_ends.fd ["sketch", "question"] (spEnds K) := ok_ends D
  have GP_are_sketches : FnOk P w K mg base CX0 5 dP_are_sketches.f dP_are_sketches.fd ["thing"] (spAreSketches K) := ok_are_sketches D cK dP_are_sketches
  obtain ⟨T, cM, cL, dP_is_int, dP_is_number, dP_is_room, dP_is_name, dP_is_counted, dP_are_counts, dP_lost_of, dP_is_sketch, dP_asked, dP_parted, dP_filled, dP_plans_of, dP_is_question, dP_worth, dP_need_both, dP_named, dP_ends⟩ := D
  have GP_ends : FnOk P w K mg base CX0 6 dP_ends.f dP_ends.fd ["sketch", "question"] (spEnds K) := GP_ends
  have GP_is_name : FnOk P w K mg base CX0 1 dP_is_name.f dP_is_name.fd ["thing"] spIsName := ok_is_name T cL dP_is_name
  refine d.F.ok scP_sum_ends (fun vs H Q E h => ?_) (fun cdv A outer s H vs Q E hr h => ?_)
  · obtain ⟨t, z, ss, xs, rfl, _⟩ := h
    rfl
  · obtain ⟨t, z, ss, xs, rfl, ht, hp, hv, hl, nm, k⟩ := h
    have hsl : ss.length = xs.length := Paired.length hp
    refine ⟨_, (pss_cons (ps_if (pt_not (pt_val (pe_call GP_are_sketches (hr.mono (by omega)) (by rfl) dP_are_sketches.g dP_are_sketches.F.kp dP_are_sketches.b .nil pass0 (pa_cons (pv 0) pa_nil))))
      (pss_one ps_never)
      pss_nil)
    (pss_cons (ps_if (pt_not (pt_val (pe_call GP_is_name (hr.mono (by omega)) (by rfl) dP_is_name.g dP_is_name.F.kp dP_is_name.b .nil pass0 (pa_cons (pv 1) pa_nil))))
      (pss_one ps_never)
      pss_nil)
    (pss_cons (ps_setLc (i := 2) (own := [("sketch", 3)]) (g := gName 3) (tt := tYes) rfl scP_sum_ends.nd rfl rfl (sw_true rfl rfl rfl (by decide +kernel)) (pi_tup (pv 0)) (blkOk_by (N := NP_sum_ends) (sc := defScope sP_sum_ends) (by decide +kernel)) (fun _ _ _ _ _ => pg_name (i := 3) scP_sum_ends.nd rfl (Or.inl rfl)) (fun _ _ _ _ _ => pts_nil) (fun _ _ _ _ _ => (pe_call GP_ends (hr.mono (by omega)) (by rfl) dP_ends.g dP_ends.F.kp dP_ends.b .nil pass0 (pa_cons (pv 3) (pa_cons (pe_tup (pa_cons pe_str (pa_cons (pv 1) pa_nil))) pa_nil)))))
    (pss_one (ps_ret (pe_tup (pa_cons (pe_callB (cr_sum rfl) (by rfl) T.n_sum (by decide +kernel) (pa_cons (pe_lc (own := [("low", 4), ("_", 5)]) (g := gTup K 2 (gCons (gName 4) (gCons (gName 5) gNil))) (tt := tYes) rfl scP_sum_ends.nd (pi_list (pv 2)) (blkOk_by (N := NP_sum_ends) (sc := defScope sP_sum_ends) (by decide +kernel)) (fun _ _ _ _ _ => pg_tup (by rfl) (pgs_cons (pg_name (i := 4) scP_sum_ends.nd rfl (Or.inl rfl)) (pgs_cons (pg_name (i := 5) scP_sum_ends.nd rfl (Or.inl rfl)) pgs_nil))) (fun _ _ _ _ _ => pts_nil) (fun _ _ _ _ _ => (pv 4))) pa_nil)) (pa_cons (pe_callB (cr_sum rfl) (by rfl) T.n_sum (by decide +kernel) (pa_cons (pe_lc (own := [("_", 5), ("high", 6)]) (g := gTup K 2 (gCons (gName 5) (gCons (gName 6) gNil))) (tt := tYes) rfl scP_sum_ends.nd (pi_list (pv 2)) (blkOk_by (N := NP_sum_ends) (sc := defScope sP_sum_ends) (by decide +kernel)) (fun _ _ _ _ _ => pg_tup (by rfl) (pgs_cons (pg_name (i := 5) scP_sum_ends.nd rfl (Or.inl rfl)) (pgs_cons (pg_name (i := 6) scP_sum_ends.nd rfl (Or.inl rfl)) pgs_nil))) (fun _ _ _ _ _ => pts_nil) (fun _ _ _ _ _ => (pv 6))) pa_nil)) pa_nil)))))))), ?_⟩
    refine ⟨.ref t, rfl, t, ss, xs, rfl, ht, hp, hv, hl, fun H1 s1 => ⟨true, rfl, iteF ?_⟩⟩
    refine ⟨.str z, rfl, z, rfl, nm, fun H2 s2 => ⟨true, rfl, iteF ?_⟩⟩
    have s02 : Same H H2 := fun b u e => s2 _ _ (s1 _ _ e)
    refine ⟨.ref t, rfl, t, rfl, ⟨_, seqT ht s02⟩, fun D nD => ?_⟩
    have nD0 : H D = none := Same.gone s02 nD
    have lw := hl
    refine lc_tup (xs := ss.map V.ref) (fun i H3 => Same H2 H3 ∧ ∃ us : List Addr, H3 D = some (.lst (us.map V.ref)) ∧ Paired (fun u (x : Sk) => H3 u = some (.tup [.int (lowZ x.c z), .int (lowZ x.c z + x.o)])) us (xs.take i)) ⟨same_upd nD, [], upd_same, .nil⟩ (fun i H3 _ h3 => seqT ht fun b u e => h3.1 _ _ (s02 _ _ e)) (fun i x H3 hx h3 => ?_) (fun H3 h3 => ?_)
    · obtain ⟨s3, us, hD, hus⟩ := h3
      have s03 : Same H H3 := fun b u e => s3 _ _ (s02 _ _ e)
      obtain ⟨s, hs, rfl⟩ := map_at hx
      obtain ⟨y, hy, hat⟩ := paired_at hp hs
      have hg := hv y (List.mem_of_getElem? hy)
      refine ⟨rfl, .ref s, rfl, .str z, rfl, (by show 2 ≤ sizeLine; decide), fun q nq => ?_⟩
      have s4 : Same H3 (upd H3 q (.tup [qCount, .str z])) := same_upd nq
      have hq : (upd H3 q (.tup [qCount, .str z])) q = some (.tup [qCount, .str z]) := upd_same
      generalize upd H3 q (.tup [qCount, .str z]) = H4 at s4 hq ⊢
      refine ⟨s, q, y.r, y.m, y.o, y.c, z, rfl, hat.same fun b u e => s4 _ _ (s03 _ _ e), hg, .inl (.inl hq), nm, fun H5 p s5 np hpp => ?_⟩
      have hD5 := s5 _ _ (s4 _ _ hD)
      have pD : p ≠ D := (ne_of_none (s4 _ _ hD) np).symm
      have hul : us.length ≤ 100 := by
        rw [Paired.length hus, List.length_take]
        omega
      refine ⟨_, hD5, by rw [List.length_map, sizeLine_eq]; omega, fun b u e => ?_, us ++ [p], by rw [upd_same, List.map_append]; rfl, ?_⟩
      · rw [upd_ne (ne_of_none e nD)]
        exact s5 _ _ (s4 _ _ (s3 _ _ e))
      · rw [List.take_add_one, hy]
        refine paired_snoc (paired_imp (fun u x h => ?_) hus) ?_
        · rw [upd_ne (ne_of h hD (by intro z; cases z))]
          exact s5 _ _ (s4 _ _ h)
        · rw [upd_ne pD]
          exact hpp
    · obtain ⟨s3, us, hD, hus⟩ := h3
      have hlx : (ss.map V.ref).length = xs.length := by rw [List.length_map, hsl]
      rw [hlx, List.take_length] at hus
      have s03 : Same H H3 := fun b u e => s3 _ _ (s02 _ _ e)
      have hul : us.length ≤ 100 := by
        rw [Paired.length hus]
        exact hl
      refine ⟨.ref D, rfl, D, rfl, ⟨_, sql hD⟩, fun D2 nD2 => ?_⟩
      refine lc_list (xs := us.map V.ref) (fun i H4 => Same H3 H4 ∧ H4 D2 = some (.lst ((xs.take i).map fun x => V.int (lowZ x.c z)))) ⟨same_upd nD2, upd_same⟩ (fun i H4 _ h4 => sql (h4.1 _ _ hD)) (fun i x H4 hx h4 => ?_) (fun H4 h4 => ?_)
      · obtain ⟨u, hu, rfl⟩ := map_at hx
        obtain ⟨y, hy, hat⟩ := paired_at hus hu
        have hi := (List.getElem?_eq_some_iff.mp hy).1
        refine ⟨u, _, rfl, .inl (.inl (h4.1 _ _ hat)), rfl, _, _, rfl, _, _, rfl, rfl, rfl, .int (lowZ y.c z), rfl, _, h4.2, by rw [List.length_map, List.length_take, sizeLine_eq]; omega, fun b o e => ?_, by rw [upd_same, List.take_add_one, hy, List.map_append]; rfl⟩
        rw [upd_ne (ne_of_none e nD2)]
        exact h4.1 _ _ e
      · obtain ⟨s4, hD2⟩ := h4
        rw [List.length_map, Paired.length hus, List.take_length] at hD2
        refine ⟨D2, xs.map fun x => lowZ x.c z, rfl, sql (by rw [hD2, List.map_map]; rfl), ?_⟩
        refine ⟨.ref D, rfl, D, rfl, ⟨_, sql (s4 _ _ hD)⟩, fun D3 nD3 => ?_⟩
        refine lc_list (xs := us.map V.ref) (fun i H5 => Same H4 H5 ∧ H5 D3 = some (.lst ((xs.take i).map fun x => V.int (lowZ x.c z + x.o)))) ⟨same_upd nD3, upd_same⟩ (fun i H5 _ h5 => sql (h5.1 _ _ (s4 _ _ hD))) (fun i x H5 hx h5 => ?_) (fun H5 h5 => ?_)
        · obtain ⟨u, hu, rfl⟩ := map_at hx
          obtain ⟨y, hy, hat⟩ := paired_at hus hu
          have hi := (List.getElem?_eq_some_iff.mp hy).1
          refine ⟨u, _, rfl, .inl (.inl (h5.1 _ _ (s4 _ _ hat))), rfl, _, _, rfl, _, _, rfl, rfl, rfl, .int (lowZ y.c z + y.o), rfl, _, h5.2, by rw [List.length_map, List.length_take, sizeLine_eq]; omega, fun b o e => ?_, by rw [upd_same, List.take_add_one, hy, List.map_append]; rfl⟩
          rw [upd_ne (ne_of_none e nD3)]
          exact h5.1 _ _ e
        · obtain ⟨s5, hD3⟩ := h5
          rw [List.length_map, Paired.length hus, List.take_length] at hD3
          refine ⟨D3, xs.map fun x => lowZ x.c z + x.o, rfl, sql (by rw [hD3, List.map_map]; rfl), (by show 2 ≤ sizeLine; decide), fun p np => ?_⟩
          have s05 : Same H H5 := fun b u e => s5 _ _ (s4 _ _ (s03 _ _ e))
          exact k _ p (Same.new s05 np) (Same.gone s05 np) upd_same
end
end Kb

namespace Kb
open PySem PySem.Spec PyProof.Rows L2 SrtZ SrtO
abbrev sP_counts_of : Stmt := topS 25
theorem scP_counts_of : FnScope ["tree", "many", "step", "name"] ["tree"] (defScope sP_counts_of) := ⟨rfl, rfl, rfl, by decide +kernel, rfl, by decide +kernel, by decide +kernel⟩
abbrev DnCountsOf (K : PySem.W.Frag) (mg : Str → Option Value) := Dn K mg "counts_of" sP_counts_of ["tree"]
/-- how often each name stands in the streams -/
def cntZ (zs : List Str) (kc : Ct) : Ct := zs.foldl (fun k n => addZ k n 1) kc
def cntS (kc : Ct) : Stp → Ct
  | .put zs => cntZ zs kc
  | .pour => kc
def cntT (l : List Stp) : Ct := l.foldl cntS []
theorem cntZ_snoc {zs : List Str} {kc : Ct} {i : Nat} {n : Str} (h : zs[i]? = some n) : cntZ (zs.take (i + 1)) kc = addZ (cntZ (zs.take i) kc) n 1 := by
  unfold cntZ
  rw [List.take_add_one, h, List.foldl_append]
  rfl
theorem cntT_snoc {l : List Stp} {i : Nat} {t : Stp} (h : l[i]? = some t) : cntT (l.take (i + 1)) = cntS (cntT (l.take i)) t := by
  unfold cntT
  rw [List.take_add_one, h, List.foldl_append]
  rfl
theorem cntZ_nd : ∀ {zs : List Str} {kc : Ct}, NdZ kc → NdZ (cntZ zs kc)
  | [], _, h => h
  | z :: zs, kc, h => cntZ_nd (zs := zs) (addZ_nd (n := z) (c := 1) h)
theorem cntZ_len : ∀ {zs : List Str} {kc : Ct}, (cntZ zs kc).length ≤ kc.length + zs.length
  | [], _ => Nat.le_refl _
  | z :: zs, kc => by
    have h := cntZ_len (zs := zs) (kc := addZ kc z 1)
    have h2 := addZ_len (kvs := kc) (n := z) (c := 1)
    show (cntZ zs (addZ kc z 1)).length ≤ kc.length + (zs.length + 1)
    omega
theorem cntS_nd {kc : Ct} {t : Stp} (h : NdZ kc) : NdZ (cntS kc t) := by
  cases t with
  | put zs => exact cntZ_nd h
  | pour => exact h
theorem cntT_nd (l : List Stp) : NdZ (cntT l) := by
  have gen : ∀ (l : List Stp) (kc : Ct), NdZ kc → NdZ (l.foldl cntS kc) := by
    intro l
    induction l with
    | nil => exact fun _ h => h
    | cons t l ih => exact fun kc h => ih _ (cntS_nd h)
  exact gen l [] List.nodup_nil
theorem mny_mono (l : List Stp) (i : Nat) : mny (l.take i) ≤ mny l := by
  have gen : ∀ (l : List Stp) (m : Int), m ≤ l.foldl cS m := by
    intro l
    induction l with
    | nil => exact fun m => Int.le_refl _
    | cons t l ih =>
      intro m
      have h := ih (cS m t)
      have h2 : m ≤ cS m t := by
        cases t with
        | put zs => show m ≤ m + (zs.length : Nat); omega
        | pour => exact Int.le_refl _
      exact Int.le_trans h2 h
  unfold mny
  have := gen (l.drop i) ((l.take i).foldl cS 0)
  rw [← List.foldl_append, List.take_append_drop] at this
  exact this
theorem cntT_len : ∀ l : List Stp, ((cntT l).length : Int) ≤ mny l := by
  have gen : ∀ (l : List Stp) (kc : Ct) (m : Int), (kc.length : Int) ≤ m → ((l.foldl cntS kc).length : Int) ≤ l.foldl cS m := by
    intro l
    induction l with
    | nil => exact fun _ _ h => h
    | cons t l ih =>
      intro kc m h
      refine ih _ _ ?_
      cases t with
      | put zs =>
        have := cntZ_len (zs := zs) (kc := kc)
        show ((cntZ zs kc).length : Int) ≤ m + (zs.length : Nat)
        omega
      | pour => exact h
  exact fun l => gen l [] 0 (Int.le_refl _)
theorem cts_of {r : Int} {x : Tl} (ok : TlOk r x) : Cts (srtZ x.c) := by
  have p := srtZ_perm x.c
  exact ⟨fun e he => ok.nm e (p.mem_iff.mp he), fun e he => ok.pos e (p.mem_iff.mp he), srtZ_asc ok.nd⟩
section
variable {P : Program} {w : World} {K : PySem.W.Frag} {mg : Str → Option Value} {base : Heap}
/-! counts_of -/
def spCountsOf (K : PySem.W.Frag) : Sp := fun vs H Q _ => ∃ (a : Addr) (l : List Stp), vs = [.ref a] ∧ TreeAt K H a l ∧ Tree l ∧
  ∀ H' k (ts : List Addr), Same H H' → Ptp H' k (ts.map V.ref) → Paired (PrT H') ts (srtZ (cntT l)) → Q (.ref k) H'
theorem ok_counts_of (T : Blt mg) (cL : Cst mg "LONGEST_NAME" (.int 8)) (cS' : Cst mg "MOST_STEPS" (.int 5000)) (cI : Cst mg "MOST_ITEMS" (.int 50000)) (dP_is_name : DnIsName K mg) (dP_is_stream : DnIsStream K mg) (dP_is_put : DnIsPut K mg) (dP_is_pour : DnIsPour K mg) (dP_is_tree : DnIsTree K mg) (d : DnCountsOf K mg) :
    FnOk P w K mg base CX0 5 d.f d.fd ["tree"] (spCountsOf K) := by
  have GP_is_tree : FnOk P w K mg base CX0 4 dP_is_tree.f dP_is_tree.fd ["thing"] (spIsTree K) := ok_is_tree T cL cS' cI dP_is_name dP_is_stream dP_is_put dP_is_pour dP_is_tree
  refine d.F.ok scP_counts_of (fun vs H Q E h => ?_) (fun cdv A outer s H vs Q E hr h => ?_)
  · obtain ⟨a, l, rfl, _⟩ := h
    rfl
  · obtain ⟨a, l, rfl, ht, tr, q⟩ := h
    have hu := hu_of hr
    refine ⟨_, (pss_cons (ps_if (pt_not (pt_val (pe_call GP_is_tree (hr.mono (by omega)) (by rfl) dP_is_tree.g dP_is_tree.F.kp dP_is_tree.b .nil pass0 (pa_cons (pv 0) pa_nil))))
      (pss_one ps_never)
      pss_nil)
    (pss_cons (ps_set (i := 1) scP_counts_of.nd rfl (Or.inl rfl) pe_dnewK)
    (pss_cons (ps_for PassesOwn.never rfl (pi_tup (pv 0)) (pg_name (i := 2) scP_counts_of.nd rfl (Or.inl rfl))
      (pss_one (ps_if (pt_cmpR op_eq (pe_ix ix_tup (pv 2) pe_int (fun _ _ => rfl)) pe_str (nomark _))
        (pss_one (ps_for PassesOwn.never rfl (pi_tup (pe_ix ix_tup (pv 2) pe_int (fun _ _ => rfl))) (pg_name (i := 3) scP_counts_of.nd rfl (Or.inl rfl))
          (pss_one (ps_dput hu (pv 1) (pv 3) (pe_op op_add (pe_dget2 hu (pv 1) (pv 3) pe_int ⟨rfl, rfl, rfl, rfl⟩) pe_int) rfl))))
        pss_nil)))
    (pss_one (ps_ret (pe_callTy call_tupleF (by rfl) T.n_tuple (by decide +kernel) (pa_cons (pe_callB (cr_sortedIZ rfl) (by rfl) T.n_sorted (by decide +kernel) (pa_cons (pe_bm0 PySem.F.plainAttrs_dict PySem.F.slot_dict_items PySem.F.type_dict_items mt_itemsK (pv 1)) pa_nil)) pa_nil))))))), ?_⟩
    refine ⟨.ref a, rfl, a, l, rfl, ht, tr, fun H1 s1 => ⟨true, rfl, iteF fun c nc => ?_⟩⟩
    obtain ⟨vs, hS, hp⟩ := ht
    have hl : vs.length = l.length := Paired.length hp
    have nc0 : H c = none := Same.gone s1 nc
    have s2 : Same H (upd H1 c (.dK [])) := Same.new s1 nc
    have few := tr.few
    refine ⟨.ref a, rfl, a, rfl, ⟨_, seqT hS s2⟩, for_tup (xs := vs) (fun i σ H3 => ∃ y2 y3 : Option V, σ = [some (.ref a), some (.ref c), y2, y3] ∧ Same H H3 ∧ H3 c = some (.dK ((cntT (l.take i)).map entZ))) ⟨none, none, rfl, s2, upd_same⟩ (fun i σ H3 _ ⟨_, _, _, s3, _⟩ => seqT hS s3) ?_ ?_⟩
    · rintro i v σ H3 hi ⟨y2, y3, rfl, s3, hc3⟩
      obtain ⟨st, hst, hat⟩ := paired_at hp hi
      have hat3 := hat.same s3
      have snoc := cntT_snoc hst
      have l0 := cntT_len (l.take i)
      have m0 := mny_mono l i
      have m1 := mny_mono l (i + 1)
      cases st with
      | put zs =>
        obtain ⟨b, t, rfl, h1, h2, _, hzl⟩ := hat3
        refine ⟨.ref b, rfl, b, _, _, _, rfl, rfl, h1, atI_nat (j := 0) rfl, rfl, true, congrArg V.bl (decide_eq_true rfl), iteT ?_⟩
        refine ⟨.ref b, rfl, b, _, _, _, rfl, rfl, h1, atI_nat (j := 1) rfl, t, rfl, ⟨_, h2⟩, for_tup (xs := zs.map V.str) (fun j σ H6 => ∃ z5 : Option V, σ = [some (.ref a), some (.ref c), some (.ref b), z5] ∧ Same H H6 ∧ SqT K H6 t (zs.map V.str) ∧ H6 c = some (.dK ((cntZ (zs.take j) (cntT (l.take i))).map entZ))) ⟨y3, rfl, s3, h2, hc3⟩ (fun j σ H6 _ ⟨_, _, _, h, _⟩ => h) ?_ ?_⟩
        · rintro j v σ H6 hj ⟨z5, rfl, s6, h6, hc6⟩
          obtain ⟨z, hz, rfl⟩ := map_at hj
          have lj := cntZ_len (zs := zs.take j) (kc := cntT (l.take i))
          rw [List.length_take] at lj
          refine ⟨.ref c, rfl, c, rfl, .inl ⟨_, .inl hc6⟩, .str z, rfl, _, DGet.k (k := Sum.inr z) hc6, ?_⟩
          rw [getZ_val]
          refine ⟨(getZ (cntZ (zs.take j) (cntT (l.take i))) z).getD 0, 1, ?_, rfl, ?_⟩
          · cases getZ (cntZ (zs.take j) (cntT (l.take i))) z <;> rfl
          refine ⟨.ref c, rfl, .str z, rfl, c, _, rfl, DPut.k (k := Sum.inr z) hc6 (by rw [List.length_map, sizeLine_eq]; omega), ?_⟩
          rw [putZ_put]
          refine ⟨some (.str z), rfl, Same.put s6 nc0, ?_, ?_⟩
          · rcases h6 with (h | ⟨o', h⟩) | h
            · exact .inl (.inl (by rw [upd_ne (ne_of h hc6 (by intro z; cases z))]; exact h))
            · exact .inl (.inr ⟨o', by rw [upd_ne (ne_of h hc6 (by intro z; cases z))]; exact h⟩)
            · exact .inr h
          · rw [upd_same, cntZ_snoc hz]
            rfl
        · rintro σ H6 ⟨z5, rfl, s6, h6, hc6⟩
          rw [List.length_map, List.take_length] at hc6
          refine ⟨_, _, rfl, s6, ?_⟩
          rw [snoc]
          exact hc6
      | pour =>
        obtain ⟨b, rfl, h1⟩ := hat3
        refine ⟨.ref b, rfl, b, _, _, _, rfl, rfl, h1, atI_nat (j := 0) rfl, rfl, false, congrArg V.bl (decide_eq_false stream_ne), iteF ?_⟩
        refine ⟨_, _, rfl, s3, ?_⟩
        rw [snoc]
        exact hc3
    · rintro σ H3 ⟨y2, y3, rfl, s3, hc3⟩
      rw [hl, List.take_length] at hc3
      refine ⟨.ref c, rfl, .inr (.inr (.inl ⟨rfl, .inl ⟨_, hc3⟩⟩)), c, _, rfl, rfl, hc3, fun p np => ?_⟩
      refine ⟨p, c, cntT l, rfl, upd_same, (by rw [upd_ne (ne_of_none hc3 np)]; exact hc3), fun H4 l4 ys ts s4 nl nts lts pm so hl4 hts => ?_⟩
      refine ⟨l4, _, rfl, sql hl4, fun k ob nk ho => ?_⟩
      have s5 : Same H H4 := fun b u e => s4 b u (Same.new s3 np b u e)
      have eys := srtZ_of (asc_of so pm (cntT_nd l)) pm (cntT_nd l)
      subst eys
      exact q _ k ts (Same.new s5 nk) ⟨ob, upd_same, ho⟩ (paired_imp (fun t e h => same_upd nk _ _ h) hts)
/-! need_two, poured -/
def spNeedTwo : Sp := fun vs H Q _ => ∃ (s1 s2 : Addr) (r : Int) (x y : Tl), vs = [.ref s1, .ref s2] ∧ SkAt H s1 r x ∧ SkAt H s2 r y ∧ r ≤ 64 ∧ TlOk r x ∧ TlOk r y ∧ skB r x.m x.o (srtZ x.c) = true ∧ skB r y.m y.o (srtZ y.c) = true ∧ ∀ H', Same H H' → Q .non H'
def spPoured : Sp := fun vs H Q _ => ∃ (s1 s2 : Addr) (r : Int) (x y : Tl), vs = [.ref s1, .ref s2] ∧ SkAt H s1 r x ∧ SkAt H s2 r y ∧ 1 ≤ r ∧ r ≤ 64 ∧ TlOk r x ∧ TlOk r y ∧ skB r x.m x.o (srtZ x.c) = true ∧ skB r y.m y.o (srtZ y.c) = true ∧
  ∀ H' s', Same H H' → H s' = none → SkAt H' s' r (pourT r (skT y) (skT x)) → Q (.ref s') H'
end
end Kb

namespace Kb
open PySem PySem.Spec PyProof.Rows L2 SrtZ SrtO
/-! pouring, in any order of the counts -/
theorem mem_getZ {kvs : Ct} (nd : NdZ kvs) (e : Str × Int) : e ∈ kvs ↔ getZ kvs e.1 = some e.2 := by
  constructor
  · intro h
    obtain ⟨i, hi⟩ := List.mem_iff_getElem?.mp h
    exact getZ_self nd hi
  · intro h
    unfold getZ at h
    cases hf : kvs.find? fun f => decide (f.1 = e.1) with
    | none => rw [hf] at h; cases h
    | some f =>
      rw [hf] at h
      have h1 : f.1 = e.1 := of_decide_eq_true (List.find?_some (p := fun f : Str × Int => decide (f.1 = e.1)) hf)
      have h2 : f.2 = e.2 := Option.some.inj h
      have : f = e := Prod.ext h1 h2
      rw [← this]
      exact List.mem_of_find?_eq_some hf
theorem nd_nodup {kvs : Ct} (nd : NdZ kvs) : kvs.Nodup := by
  unfold NdZ at nd
  rw [List.Nodup, List.pairwise_map] at nd
  exact nd.imp fun h e => h (by rw [e])
theorem perm_of_getZ {a b : Ct} (na : NdZ a) (nb : NdZ b) (h : ∀ k, getZ a k = getZ b k) : a.Perm b :=
  (List.perm_ext_iff_of_nodup (nd_nodup na) (nd_nodup nb)).mpr fun e => by rw [mem_getZ na, mem_getZ nb, h]
theorem getZ_sums : ∀ {more kvs : Ct}, NdZ more → ∀ k, getZ (sumsZ more kvs) k = match getZ more k with | none => getZ kvs k | some c => some (gd kvs k + c)
  | [], kvs, _, k => rfl
  | e :: r, kvs, nd, k => by
    unfold NdZ at nd
    rw [List.map_cons, List.nodup_cons] at nd
    have ih := getZ_sums (more := r) (kvs := addZ kvs e.1 e.2) nd.2 k
    show getZ (sumsZ r (addZ kvs e.1 e.2)) k = _
    rw [ih, getZ_cons]
    by_cases h : e.1 = k
    · rw [if_pos h, getZ_none.mpr (h ▸ nd.1)]
      show getZ (addZ kvs e.1 e.2) k = some (gd kvs k + e.2)
      unfold addZ gd
      rw [getZ_put, if_pos h.symm, h]
    · rw [if_neg h]
      have e1 : getZ (addZ kvs e.1 e.2) k = getZ kvs k := by
        unfold addZ
        rw [getZ_put, if_neg (Ne.symm h)]
      have e2 : gd (addZ kvs e.1 e.2) k = gd kvs k := by
        unfold gd
        rw [e1]
      rw [e1, e2]
theorem gd_sums {more kvs : Ct} (nd : NdZ more) (k : Str) : gd (sumsZ more kvs) k = gd kvs k + gd more k := by
  unfold gd
  rw [getZ_sums nd]
  cases getZ more k with
  | none => exact (Int.add_zero _).symm
  | some c => rfl
theorem sums_perm {a a' b b' : Ct} (pa : a.Perm a') (pb : b.Perm b') (na : NdZ a) (nb : NdZ b) : (sumsZ a b).Perm (sumsZ a' b') := by
  have na' : NdZ a' := (pa.map (·.1)).nodup_iff.mp na
  have nb' : NdZ b' := (pb.map (·.1)).nodup_iff.mp nb
  refine perm_of_getZ (sumsZ_nd nb) (sumsZ_nd nb') fun k => ?_
  rw [getZ_sums na, getZ_sums na', getZ_perm pa na, getZ_perm pb nb]
  unfold gd
  rw [getZ_perm pb nb]
theorem fall_perm {a b : Ct} (p : a.Perm b) (r : Int) : fallZ a r = fallZ b r := by
  have hs := List.pairwise_mergeSort (le := fun (a b : Int) => decide (b ≤ a)) (fun a b c h1 h2 => by simp at *; omega) (fun a b => by simp; omega) (a.map (·.2))
  have := fall_uniq (kvs := b) (ns := (a.map (·.2)).mergeSort fun a b => decide (b ≤ a)) ((List.mergeSort_perm _ _).trans (p.map (·.2))) (hs.imp fun h => of_decide_eq_true h)
  unfold fallZ
  rw [this]
theorem skT_eq {x x' : Tl} (nd : NdZ x.c) (h : skT x = skT x') : x.m = x'.m ∧ x.o = x'.o ∧ x.c.Perm x'.c := by
  obtain ⟨m, o, c⟩ := x
  obtain ⟨m', o', c'⟩ := x'
  unfold skT at h
  injection h with e1 e2 e3
  dsimp only at e1 e2 e3
  exact ⟨e1, e2, (srtZ_perm c).symm.trans (by rw [e3]; exact srtZ_perm c')⟩
theorem pour_skT {r : Int} {x x' y y' : Tl} (nx : NdZ x.c) (ny : NdZ y.c) (hx : skT x = skT x') (hy : skT y = skT y') : skT (pourT r y x) = skT (pourT r y' x') := by
  obtain ⟨x1, x2, x3⟩ := skT_eq nx hx
  obtain ⟨y1, y2, y3⟩ := skT_eq ny hy
  have p := sums_perm y3 x3 ny nx
  have nd := sumsZ_nd (more := y.c) nx
  unfold pourT
  dsimp only
  rw [p.length_eq, fall_perm p, x1, x2, y1, y2]
  split
  · unfold skT
    dsimp only
    rw [srtZ_eq (takeZ_perm p _) (takeZ_nd nd)]
  · unfold skT
    dsimp only
    rw [srtZ_eq p nd]
/-! two runs: the program's and the law's own -/
def stepL (r : Int) (st : List Tl) : Stp → List Tl
  | .put zs => feedsT r zs tl0 :: st
  | .pour => match st with
    | x :: y :: st => pourT r x y :: st
    | st => st
def runL (r : Int) (l : List Stp) : List Tl := l.foldl (stepL r) []
theorem runL_snoc {r : Int} {l : List Stp} {i : Nat} {t : Stp} (h : l[i]? = some t) : runL r (l.take (i + 1)) = stepL r (runL r (l.take i)) t := by
  unfold runL
  rw [List.take_add_one, h, List.foldl_append]
  rfl
theorem runL_ok {r : Int} (hr : 1 ≤ r) : ∀ {l : List Stp} {st : List Tl}, (∀ zs, .put zs ∈ l → ∀ z ∈ zs, Nm z) → (∀ x ∈ st, TlOk r x) → ∀ x ∈ l.foldl (stepL r) st, TlOk r x
  | [], _, _, h => h
  | t :: l, st, hn, h => by
    refine runL_ok hr (l := l) (fun zs hz => hn zs (List.mem_cons_of_mem _ hz)) ?_
    cases t with
    | put zs =>
      intro x hx
      rcases List.mem_cons.mp hx with rfl | hx
      · exact feedsT_ok hr (tl0_ok hr) (hn zs List.mem_cons_self)
      · exact h x hx
    | pour =>
      match st, h with
      | [], h => exact h
      | [_], h => exact h
      | a :: b :: st, h =>
        intro x hx
        rcases List.mem_cons.mp hx with rfl | hx
        · exact pourT_ok (h b (List.mem_cons_of_mem _ List.mem_cons_self)) (h a List.mem_cons_self) (by omega)
        · exact h x (List.mem_cons_of_mem _ (List.mem_cons_of_mem _ hx))
theorem runTL {r : Int} (hr : 1 ≤ r) : ∀ {l : List Stp} {st st' : List Tl}, (∀ zs, .put zs ∈ l → ∀ z ∈ zs, Nm z) → (∀ x ∈ st, TlOk r x) → (∀ x ∈ st', TlOk r x) → st.map skT = st'.map skT → (l.foldl (stepT r) st).map skT = (l.foldl (stepL r) st').map skT
  | [], _, _, _, _, _, h => h
  | t :: l, st, st', hn, h1, h2, h => by
    have hn' : ∀ zs, .put zs ∈ l → ∀ z ∈ zs, Nm z := fun zs hz => hn zs (List.mem_cons_of_mem _ hz)
    cases t with
    | put zs =>
      have ok := feedsT_ok hr (tl0_ok hr) (hn zs List.mem_cons_self)
      refine runTL hr (l := l) hn' (fun x hx => ?_) (fun x hx => ?_) ?_
      · rcases List.mem_cons.mp hx with rfl | hx
        · exact ok
        · exact h1 x hx
      · rcases List.mem_cons.mp hx with rfl | hx
        · exact ok
        · exact h2 x hx
      · show skT _ :: st.map skT = skT _ :: st'.map skT
        rw [h]
    | pour =>
      match st, st', h, h1, h2 with
      | [], [], h, h1, h2 => exact runTL hr (l := l) hn' h1 h2 h
      | [a], [b], h, h1, h2 => exact runTL hr (l := l) hn' h1 h2 h
      | [_], _ :: _ :: _, h, _, _ => simp at h
      | _ :: _ :: _, [_], h, _, _ => simp at h
      | a :: b :: st, a' :: b' :: st', h, h1, h2 =>
        injection h with e1 h
        injection h with e2 h
        have oa := h1 a List.mem_cons_self
        have ob := h1 b (List.mem_cons_of_mem _ List.mem_cons_self)
        have oa' := h2 a' List.mem_cons_self
        have ob' := h2 b' (List.mem_cons_of_mem _ List.mem_cons_self)
        refine runTL hr (l := l) hn' (fun x hx => ?_) (fun x hx => ?_) ?_
        · rcases List.mem_cons.mp hx with rfl | hx
          · exact pourT_ok ob (skT_ok oa) (by omega)
          · exact h1 x (List.mem_cons_of_mem _ (List.mem_cons_of_mem _ hx))
        · rcases List.mem_cons.mp hx with rfl | hx
          · exact pourT_ok ob' oa' (by omega)
          · exact h2 x (List.mem_cons_of_mem _ (List.mem_cons_of_mem _ hx))
        · show skT (pourT r (skT a) b) :: st.map skT = skT (pourT r a' b') :: st'.map skT
          rw [pour_skT ob.nd (skT_ok oa).nd e2 ((skT_skT oa.nd).trans e1), h]
/-! what pouring leaves true -/
def minS (f : Int) (cs : List Int) : Int := (cs.map fun c => if f < c then f else c).sum
theorem minS_cons (f c : Int) (cs : List Int) : minS f (c :: cs) = (if f < c then f else c) + minS f cs := by
  unfold minS
  rw [List.map_cons, List.sum_cons]
theorem minS_perm {f : Int} {a b : List Int} (p : a.Perm b) : minS f a = minS f b := by
  induction p with
  | nil => rfl
  | cons x _ ih => rw [minS_cons, minS_cons, ih]
  | swap x y l =>
    rw [minS_cons, minS_cons, minS_cons, minS_cons]
    omega
  | trans _ _ ih1 ih2 => rw [ih1, ih2]
theorem sumC_take {f : Int} : ∀ kvs : Ct, sumC (takeZ f kvs) = sumC kvs - minS f (kvs.map (·.2))
  | [] => rfl
  | e :: r => by
    have ih := sumC_take (f := f) r
    rw [sumC_cons', List.map_cons, minS_cons]
    unfold takeZ at ih ⊢
    by_cases h : f < e.2
    · rw [List.filter_cons_of_pos (by simpa using h), List.map_cons, sumC_cons', ih, if_pos h]
      show e.2 - f + _ = _
      omega
    · rw [List.filter_cons_of_neg (by simpa using h), ih, if_neg h]
      omega
theorem minS_le {f : Int} : ∀ cs : List Int, minS f cs ≤ (cs.length : Int) * f
  | [] => by show (0 : Int) ≤ 0 * f; omega
  | c :: cs => by
    have ih := minS_le (f := f) cs
    rw [minS_cons, List.length_cons]
    have e : ((cs.length + 1 : Nat) : Int) * f = (cs.length : Int) * f + f := by push_cast; rw [Int.add_mul, Int.one_mul]
    rw [e]
    split <;> omega
theorem minS_ge {f : Int} (hf : 0 ≤ f) : ∀ {cs : List Int} {n : Nat}, (∀ c ∈ cs, 0 ≤ c) → (∀ i c, i < n → cs[i]? = some c → f ≤ c) → n ≤ cs.length → (n : Int) * f ≤ minS f cs
  | [], n, _, _, hn => by
    have : n = 0 := by simpa using hn
    subst this
    show (0 : Int) * f ≤ 0
    omega
  | c :: cs, 0, h0, _, _ => by
    have ih := minS_ge hf (cs := cs) (n := 0) (fun c hc => h0 c (List.mem_cons_of_mem _ hc)) (fun i c h => absurd h (by omega)) (Nat.zero_le _)
    rw [minS_cons]
    have h1 := h0 c List.mem_cons_self
    split <;> omega
  | c :: cs, n + 1, h0, hc, hn => by
    have ih := minS_ge hf (cs := cs) (n := n) (fun c hc => h0 c (List.mem_cons_of_mem _ hc)) (fun i c h e => hc (i + 1) c (by omega) (by simpa using e)) (by rw [List.length_cons] at hn; omega)
    have h1 := hc 0 c (by omega) rfl
    rw [minS_cons]
    have e : ((n + 1 : Nat) : Int) * f = (n : Int) * f + f := by push_cast; rw [Int.add_mul, Int.one_mul]
    rw [e]
    split <;> omega
theorem fall_spec {kvs : Ct} {r : Nat} (h : r < kvs.length) (pos : ∀ e ∈ kvs, 1 ≤ e.2) : 1 ≤ fallZ kvs r ∧ ((r : Int) + 1) * fallZ kvs r ≤ minS (fallZ kvs r) (kvs.map (·.2)) := by
  have hp := List.mergeSort_perm (kvs.map (·.2)) (fun a b => decide (b ≤ a))
  have hs := List.pairwise_mergeSort (le := fun (a b : Int) => decide (b ≤ a)) (fun a b c h1 h2 => by simp at *; omega) (fun a b => by simp; omega) (kvs.map (·.2))
  have p1 : ∀ c ∈ (kvs.map (·.2)).mergeSort (fun a b => decide (b ≤ a)), 1 ≤ c := fun c hc => by
    obtain ⟨e, he, rfl⟩ := List.mem_map.mp (hp.mem_iff.mp hc)
    exact pos e he
  rw [← minS_perm hp]
  unfold fallZ
  rw [Int.toNat_natCast]
  have hl : r < ((kvs.map (·.2)).mergeSort (fun a b => decide (b ≤ a))).length := by rw [hp.length_eq, List.length_map]; exact h
  generalize (kvs.map (·.2)).mergeSort (fun a b => decide (b ≤ a)) = s at hs p1 hl
  have eg : s.getD r 0 = s[r] := by simp [List.getD, hl]
  rw [eg]
  have h1 := p1 _ (List.getElem_mem hl)
  refine ⟨h1, ?_⟩
  have := minS_ge (f := s[r]) (by omega) (cs := s) (n := r + 1) (fun c hc => by have := p1 c hc; omega) (fun i c hi hc => ?_) (by omega)
  · push_cast at this
    exact this
  · obtain ⟨hil, rfl⟩ := List.getElem?_eq_some_iff.mp hc
    by_cases e : i = r
    · subst e
      exact Int.le_refl _
    · exact of_decide_eq_true (List.pairwise_iff_getElem.mp hs i r hil hl (by omega))
theorem sumC_sums : ∀ {more kvs : Ct}, NdZ kvs → sumC (sumsZ more kvs) = sumC kvs + sumC more
  | [], kvs, _ => by show sumC kvs = sumC kvs + 0; omega
  | e :: r, kvs, nd => by
    show sumC (sumsZ r (addZ kvs e.1 e.2)) = _
    rw [sumC_sums (more := r) (addZ_nd nd), sumC_add nd, sumC_cons']
    omega
/-- within the bounds -/
structure Bd (r : Int) (x : Tl) : Prop where
  low : (r + 1) * x.o ≤ x.m - sumC x.c
  high : x.m - sumC x.c ≤ 2 * r * x.o
  off : 0 ≤ x.o
  many : 0 ≤ x.m
theorem bd_pour {r : Int} {x y : Tl} (hr : 1 ≤ r) (ox : TlOk r x) (oy : TlOk r y) (hx : Bd r x) (hy : Bd r y) : Bd r (pourT r y x) := by
  obtain ⟨rn, rfl⟩ := Int.eq_ofNat_of_zero_le (show 0 ≤ r by omega)
  have es := sumC_sums (more := y.c) ox.nd
  have ll := sumsZ_len (more := y.c) (kvs := x.c)
  have pos := sumsZ_pos oy.pos ox.pos
  have lx := ox.len
  have ly := oy.len
  obtain ⟨a1, a2, a3, a4⟩ := hx
  obtain ⟨b1, b2, b3, b4⟩ := hy
  unfold pourT
  dsimp only
  generalize sumsZ y.c x.c = all at es ll pos
  have d1 : ((rn : Int) + 1) * (x.o + y.o) = ((rn : Int) + 1) * x.o + ((rn : Int) + 1) * y.o := Int.mul_add _ _ _
  have d2 : 2 * (rn : Int) * (x.o + y.o) = 2 * (rn : Int) * x.o + 2 * (rn : Int) * y.o := Int.mul_add _ _ _
  split
  · rename_i h
    obtain ⟨f1, f2⟩ := fall_spec (kvs := all) (r := rn) (by omega) pos
    have f3 := minS_le (f := fallZ all rn) (all.map (·.2))
    rw [List.length_map] at f3
    have f4 : (all.length : Int) * fallZ all rn ≤ 2 * (rn : Int) * fallZ all rn := Int.mul_le_mul_of_nonneg_right (by omega) (by omega)
    have d3 : ((rn : Int) + 1) * (x.o + y.o + fallZ all rn) = ((rn : Int) + 1) * (x.o + y.o) + ((rn : Int) + 1) * fallZ all rn := Int.mul_add _ _ _
    have d4 : 2 * (rn : Int) * (x.o + y.o + fallZ all rn) = 2 * (rn : Int) * (x.o + y.o) + 2 * (rn : Int) * fallZ all rn := Int.mul_add _ _ _
    refine ⟨?_, ?_, ?_, ?_⟩ <;> dsimp only
    · rw [sumC_take, d3]
      omega
    · rw [sumC_take, d4]
      omega
    · omega
    · omega
  · refine ⟨?_, ?_, ?_, ?_⟩ <;> dsimp only <;> omega
theorem bd_feeds {r : Int} (hr : 1 ≤ r) : ∀ {zs : List Str} {x : Tl}, TlOk r x → Fd r x → 0 ≤ x.m → (∀ z ∈ zs, Nm z) → Fd r (feedsT r zs x) ∧ (feedsT r zs x).m = x.m + (zs.length : Int)
  | [], x, _, f, _, _ => ⟨f, by show x.m = x.m + 0; omega⟩
  | z :: zs, x, ok, f, hm, hn => by
    have em : (feedT r z 1 x).m = x.m + 1 := by
      unfold feedT
      split <;> rfl
    obtain ⟨a, b⟩ := bd_feeds hr (zs := zs) (x := feedT r z 1 x) (feedT_ok ok hr (hn z List.mem_cons_self) (by decide)) (fd_feed ok hr f) (by rw [em]; omega) fun y hy => hn y (List.mem_cons_of_mem _ hy)
    refine ⟨a, ?_⟩
    show (feedsT r zs (feedT r z 1 x)).m = _
    rw [b, em, List.length_cons]
    push_cast
    omega
theorem bd_stream {r : Int} {zs : List Str} (hr : 1 ≤ r) (hn : ∀ z ∈ zs, Nm z) : Bd r (feedsT r zs tl0) ∧ (feedsT r zs tl0).m = (zs.length : Int) := by
  obtain ⟨f, e⟩ := bd_feeds hr (tl0_ok hr) (fd0 r) (Int.le_refl _) hn
  have e : (feedsT r zs tl0).m = (zs.length : Int) := by rw [e]; show 0 + _ = _; omega
  have ho := f.off
  have h2 : (r + 1) * (feedsT r zs tl0).o ≤ 2 * r * (feedsT r zs tl0).o := Int.mul_le_mul_of_nonneg_right (by omega) ho
  exact ⟨⟨by rw [f.lost]; exact Int.le_refl _, by rw [f.lost]; exact h2, ho, by rw [e]; omega⟩, e⟩
/-- the true counts, as a function -/
def TruF (f : Str → Int) (x : Tl) : Prop := ∀ k, 0 ≤ f k - gd x.c k ∧ f k - gd x.c k ≤ x.o
theorem gd_take {a : Int} {kvs : Ct} (nd : NdZ kvs) (ha : 0 ≤ a) (k : Str) (pos : ∀ e ∈ kvs, 1 ≤ e.2) : gd (takeZ a kvs) k = if a < gd kvs k then gd kvs k - a else 0 := by
  unfold gd
  rw [getZ_take nd]
  cases getZ kvs k with
  | none =>
    show 0 = if a < 0 then _ else 0
    rw [if_neg (by omega)]
  | some v =>
    show (if a < v then some (v - a) else none).getD 0 = if a < v then v - a else 0
    split <;> rfl
theorem tru_pour {r : Int} {x y : Tl} {f g : Str → Int} (hr : 1 ≤ r) (ox : TlOk r x) (oy : TlOk r y) (hf : TruF f x) (hg : TruF g y) : TruF (fun k => f k + g k) (pourT r y x) := by
  obtain ⟨rn, rfl⟩ := Int.eq_ofNat_of_zero_le (show 0 ≤ r by omega)
  intro k
  obtain ⟨a1, a2⟩ := hf k
  obtain ⟨b1, b2⟩ := hg k
  have es := gd_sums (kvs := x.c) oy.nd k
  have pos := sumsZ_pos oy.pos ox.pos
  have nd := sumsZ_nd (more := y.c) ox.nd
  unfold pourT
  dsimp only
  generalize sumsZ y.c x.c = all at es pos nd
  have hp : 0 ≤ gd all k := getZ_pos pos
  split
  · rename_i h
    obtain ⟨f1, _⟩ := fall_spec (kvs := all) (r := rn) (by omega) pos
    dsimp only
    rw [gd_take nd (by omega) k pos]
    split <;> omega
  · dsimp only
    omega
theorem gd_cntZ : ∀ (zs : List Str) (kc : Ct) (k : Str), gd (cntZ zs kc) k = gd kc k + gd (cntZ zs []) k
  | [], kc, k => by show gd kc k = gd kc k + 0; omega
  | z :: zs, kc, k => by
    show gd (cntZ zs (addZ kc z 1)) k = gd kc k + gd (cntZ zs (addZ [] z 1)) k
    rw [gd_cntZ zs (addZ kc z 1) k, gd_cntZ zs (addZ [] z 1) k, gd_add, gd_add]
    show _ = _ + (0 + _ + _)
    omega
theorem tru_stream {r : Int} (hr : 1 ≤ r) : ∀ {zs : List Str} {x : Tl} {kc : Ct}, TlOk r x → Tru kc x → (∀ z ∈ zs, Nm z) → Tru (cntZ zs kc) (feedsT r zs x)
  | [], _, _, _, h, _ => h
  | z :: zs, x, kc, ok, h, hn => tru_stream hr (zs := zs) (feedT_ok ok hr (hn z List.mem_cons_self) (by decide)) (tru_feed ok hr h) fun y hy => hn y (List.mem_cons_of_mem _ hy)
theorem sum_cnt : ∀ (l : List Stp) (kc : Ct) (m : Int), NdZ kc → sumC kc = m → sumC (l.foldl cntS kc) = l.foldl cS m
  | [], _, _, _, e => e
  | .put zs :: l, kc, m, nd, e => by
    have gen : ∀ (zs : List Str) (kc : Ct), NdZ kc → sumC (cntZ zs kc) = sumC kc + (zs.length : Int) := by
      intro zs
      induction zs with
      | nil => exact fun kc _ => by show sumC kc = sumC kc + 0; omega
      | cons z zs ih =>
        intro kc nd
        show sumC (cntZ zs (addZ kc z 1)) = _
        rw [ih _ (addZ_nd nd), sumC_add nd, List.length_cons]
        push_cast
        omega
    exact sum_cnt l (cntZ zs kc) (m + (zs.length : Nat)) (cntZ_nd nd) (by rw [gen zs kc nd, e])
  | .pour :: l, kc, m, nd, e => sum_cnt l kc m nd e
end Kb

namespace Kb
open PySem PySem.Spec PyProof.Rows L2 SrtZ SrtO
/-- the steps of the law's layers -/
def szL (on ln k : Nat) : Nat := ln / on + if k < ln % on then 1 else 0
theorem paired_app {α β : Type} {F : α → β → Prop} : ∀ {xs xs' : List α} {ys ys' : List β}, Paired F xs ys → Paired F xs' ys' → Paired F (xs ++ xs') (ys ++ ys')
  | _, _, _, _, .nil, h => h
  | _, _, _, _, .cons h t, k => .cons h (paired_app t k)
theorem cut_to {xs : List V} {n : Nat} : cutV xs none (some (n : Int)) = xs.take n := by
  unfold cutV
  rw [HT.sIx_nat, HT.sIx_none, List.drop_zero, Nat.sub_zero]
  by_cases h : n ≤ xs.length
  · rw [Nat.min_eq_left h]
  · rw [Nat.min_eq_right (by omega), List.take_of_length_le (Nat.le_refl _), List.take_of_length_le (by omega)]
theorem cut_from {xs : List V} {n : Nat} : cutV xs (some (n : Int)) none = xs.drop n := by
  unfold cutV
  rw [HT.sIx_nat, HT.sIx_none]
  by_cases h : n ≤ xs.length
  · rw [Nat.min_eq_left h, List.take_of_length_le (by rw [List.length_drop]; omega)]
  · rw [Nat.min_eq_right (by omega), List.drop_of_length_le (Nat.le_refl _), List.drop_of_length_le (by omega), List.take_nil]
section
variable {P : Program} {w : World} {K : PySem.W.Frag} {mg : Str → Option Value} {base : Heap}
/-! _law_name_of -/
/-! _law_kept -/
/-! _law_layers -/
theorem sz_le (on ln k : Nat) : szL on ln k ≤ ln + 1 := by
  unfold szL
  have := Nat.div_le_self ln on
  split <;> omega
end
end Kb

namespace Kb
open PySem PySem.Spec PyProof.Rows L2 SrtZ SrtO
/-! what the law's tree leads to -/
def spread (kvs : Ct) : List Str := kvs.flatMap fun e => List.replicate e.2.toNat e.1
theorem getZ_app_new {kvs : Ct} {z : Str} {k : Int} (h : z ∉ kvs.map (·.1)) : getZ (kvs ++ [(z, k)]) z = some k := by
  unfold getZ
  rw [List.find?_append, List.find?_eq_none.mpr (fun e he q => h (List.mem_map.mpr ⟨e, he, of_decide_eq_true q⟩))]
  simp
theorem addZ_app {kvs : Ct} {z : Str} {k c : Int} (h : z ∉ kvs.map (·.1)) : addZ (kvs ++ [(z, k)]) z c = kvs ++ [(z, k + c)] := by
  unfold addZ
  rw [getZ_app_new h]
  unfold putZ
  rw [any_getZ, getZ_app_new h, if_pos (show (some k).isSome = true from rfl), List.map_append]
  congr 1
  · have : ∀ e ∈ kvs, (if e.1 = z then (e.1, (some k).getD 0 + c) else e) = e := fun e he => by
      rw [if_neg (fun q => h (List.mem_map.mpr ⟨e, he, q⟩))]
    rw [List.map_congr_left this, List.map_id']
  · simp
theorem full_no {r : Int} {n : Str} {kvs : Ct} (h : (getZ kvs n).isSome = true ∨ ¬ (kvs.length : Int) = r) : full r n kvs = false := by
  unfold full
  rcases h with h | h
  · rw [h]
    rfl
  · rw [decide_eq_false h, Bool.and_false]
theorem feed_new {r m o : Int} {z : Str} {kvs : Ct} (h : z ∉ kvs.map (·.1)) (hl : (kvs.length : Int) < r) : feedT r z 1 ⟨m, o, kvs⟩ = ⟨m + 1, o, kvs ++ [(z, 1)]⟩ := by
  unfold feedT
  dsimp only
  rw [full_no (.inr (by omega)), if_neg (by decide), if_pos (by decide)]
  unfold addZ
  rw [getZ_none.mpr h, putZ_snoc h]
  rfl
theorem feed_old {r m o k : Int} {z : Str} {kvs : Ct} (h : z ∉ kvs.map (·.1)) : feedT r z 1 ⟨m, o, kvs ++ [(z, k)]⟩ = ⟨m + 1, o, kvs ++ [(z, k + 1)]⟩ := by
  unfold feedT
  dsimp only
  rw [full_no (.inl (by rw [getZ_app_new h]; rfl)), if_neg (by decide), if_pos (by decide), addZ_app h]
theorem feeds_old {r o : Int} {z : Str} {kvs : Ct} (h : z ∉ kvs.map (·.1)) : ∀ (n : Nat) (m k : Int), feedsT r (List.replicate n z) ⟨m, o, kvs ++ [(z, k)]⟩ = ⟨m + n, o, kvs ++ [(z, k + n)]⟩
  | 0, m, k => by simp [feedsT]
  | n + 1, m, k => by
    show feedsT r (List.replicate n z) (feedT r z 1 ⟨m, o, kvs ++ [(z, k)]⟩) = _
    rw [feed_old h, feeds_old h n]
    have e1 : m + 1 + (n : Int) = m + ((n + 1 : Nat) : Int) := by omega
    have e2 : k + 1 + (n : Int) = k + ((n + 1 : Nat) : Int) := by omega
    rw [e1, e2]
theorem feeds_app {r : Int} (a b : List Str) (x : Tl) : feedsT r (a ++ b) x = feedsT r b (feedsT r a x) := by
  unfold feedsT
  rw [List.foldl_append]
theorem feeds_spread {r o : Int} : ∀ (ks kvs : Ct) (m : Int), NdZ (kvs ++ ks) → (∀ e ∈ ks, 1 ≤ e.2) → ((kvs ++ ks).length : Int) ≤ r → feedsT r (spread ks) ⟨m, o, kvs⟩ = ⟨m + sumC ks, o, kvs ++ ks⟩
  | [], kvs, m, _, _, _ => by
    show (⟨m, o, kvs⟩ : Tl) = ⟨m + 0, o, kvs ++ []⟩
    rw [List.append_nil, Int.add_zero]
  | e :: ks, kvs, m, nd, pos, len => by
    have hz : e.1 ∉ kvs.map (·.1) := fun z => by
      unfold NdZ at nd
      rw [List.map_append, List.nodup_append] at nd
      exact nd.2.2 _ z _ (List.mem_map.mpr ⟨e, List.mem_cons_self, rfl⟩) rfl
    have h1 := pos e List.mem_cons_self
    obtain ⟨n, hn⟩ : ∃ n : Nat, e.2.toNat = n + 1 := ⟨e.2.toNat - 1, by omega⟩
    have hl : (kvs.length : Int) < r := by
      rw [List.length_append, List.length_cons] at len
      omega
    have e0 : spread (e :: ks) = List.replicate e.2.toNat e.1 ++ spread ks := by
      unfold spread
      rw [List.flatMap_cons]
    rw [e0, feeds_app, hn]
    show feedsT r (spread ks) (feedsT r (List.replicate n e.1) (feedT r e.1 1 ⟨m, o, kvs⟩)) = _
    rw [feed_new hz hl, feeds_old hz n]
    have e1 : (1 : Int) + (n : Int) = e.2 := by omega
    rw [e1]
    have e2 : kvs ++ (e.1, e.2) :: ks = kvs ++ [(e.1, e.2)] ++ ks := by rw [List.append_assoc]; rfl
    rw [feeds_spread ks (kvs ++ [(e.1, e.2)]) (m + 1 + n) (by rw [← e2]; exact nd) (fun f hf => pos f (List.mem_cons_of_mem _ hf)) (by rw [← e2]; exact len)]
    have e3 : m + 1 + (n : Int) + sumC ks = m + sumC (e :: ks) := by
      unfold sumC
      rw [List.map_cons, List.sum_cons]
      omega
    rw [e3, ← e2]
def ones (l : List Str) : Ct := l.map fun z => (z, 1)
theorem spread_ones : ∀ l : List Str, spread (ones l) = l
  | [] => rfl
  | z :: l => by
    have := spread_ones l
    unfold spread ones at this ⊢
    rw [List.map_cons, List.flatMap_cons, this]
    rfl
theorem ones_keys (l : List Str) : (ones l).map (·.1) = l := by
  unfold ones
  rw [List.map_map]
  exact List.map_id' l
theorem sum_ones : ∀ l : List Str, sumC (ones l) = (l.length : Int)
  | [] => rfl
  | z :: l => by
    have := sum_ones l
    unfold sumC ones at this ⊢
    rw [List.map_cons, List.map_cons, List.sum_cons, this, List.length_cons]
    show 1 + (l.length : Int) = ((l.length + 1 : Nat) : Int)
    omega
theorem feeds_ones {r : Int} {l : List Str} (nd : l.Nodup) (hl : (l.length : Int) ≤ r) : feedsT r l tl0 = ⟨(l.length : Int), 0, ones l⟩ := by
  have h := feeds_spread (r := r) (o := 0) (ones l) [] 0 (by unfold NdZ; rw [List.nil_append, ones_keys]; exact nd) (fun e he => by
    obtain ⟨z, _, rfl⟩ := List.mem_map.mp he
    exact Int.le_refl _) (by rw [List.nil_append]; unfold ones; rw [List.length_map]; exact hl)
  rw [spread_ones, List.nil_append, Int.zero_add, sum_ones] at h
  exact h
theorem sumsZ_new : ∀ (more kvs : Ct), NdZ (kvs ++ more) → sumsZ more kvs = kvs ++ more
  | [], kvs, _ => (List.append_nil _).symm
  | e :: more, kvs, nd => by
    have hz : e.1 ∉ kvs.map (·.1) := fun z => by
      unfold NdZ at nd
      rw [List.map_append, List.nodup_append] at nd
      exact nd.2.2 _ z _ (List.mem_map.mpr ⟨e, List.mem_cons_self, rfl⟩) rfl
    show sumsZ more (addZ kvs e.1 e.2) = _
    have e1 : addZ kvs e.1 e.2 = kvs ++ [e] := by
      unfold addZ
      rw [getZ_none.mpr hz, putZ_snoc hz]
      show kvs ++ [(e.1, 0 + e.2)] = _
      rw [Int.zero_add]
    have e2 : kvs ++ e :: more = kvs ++ [e] ++ more := by rw [List.append_assoc]; rfl
    rw [e1, e2, sumsZ_new more (kvs ++ [e]) (by rw [← e2]; exact nd)]
theorem mem_ones {l : List Str} {e : Str × Int} (h : e ∈ ones l) : e.2 = 1 := by
  obtain ⟨z, _, rfl⟩ := List.mem_map.mp h
  rfl
/-- two streams of unlike names, together above room, poured: nothing is kept, one is taken off -/
theorem layer_pour {rn : Nat} {l : List Str} (nd : l.Nodup) (h1 : rn < l.length) : pourT rn (skT ⟨((l.drop rn).length : Int), 0, ones (l.drop rn)⟩) ⟨((l.take rn).length : Int), 0, ones (l.take rn)⟩ = ⟨(l.length : Int), 1, []⟩ := by
  have ndo : NdZ (ones (l.drop rn)) := by unfold NdZ; rw [ones_keys]; exact nd.sublist (List.drop_sublist _ _)
  have hp := srtZ_perm (ones (l.drop rn))
  have nd2 : NdZ (ones (l.take rn) ++ srtZ (ones (l.drop rn))) := by
    unfold NdZ
    have : ((ones (l.take rn) ++ srtZ (ones (l.drop rn))).map (·.1)).Perm l := by
      rw [List.map_append, ones_keys]
      have h2 := hp.map (·.1)
      rw [ones_keys] at h2
      have h3 := List.Perm.append_left (l.take rn) h2
      rw [List.take_append_drop] at h3
      exact h3
    exact this.nodup_iff.mpr nd
  unfold pourT skT
  dsimp only
  rw [sumsZ_new _ _ nd2]
  have hlen : (ones (l.take rn) ++ srtZ (ones (l.drop rn))).length = l.length := by
    rw [List.length_append, hp.length_eq]
    unfold ones
    rw [List.length_map, List.length_map, List.length_take, List.length_drop]
    omega
  have hall : ∀ e ∈ ones (l.take rn) ++ srtZ (ones (l.drop rn)), e.2 = 1 := fun e he => by
    rcases List.mem_append.mp he with h | h
    · exact mem_ones h
    · exact mem_ones (hp.mem_iff.mp h)
  generalize ones (l.take rn) ++ srtZ (ones (l.drop rn)) = all at hlen hall
  rw [if_pos (by omega)]
  have hf : fallZ all rn = 1 := by
    unfold fallZ
    rw [Int.toNat_natCast]
    have hpm := List.mergeSort_perm (all.map (·.2)) (fun a b => decide (b ≤ a))
    have hl : rn < ((all.map (·.2)).mergeSort (fun a b => decide (b ≤ a))).length := by rw [hpm.length_eq, List.length_map]; omega
    have eg : ((all.map (·.2)).mergeSort (fun a b => decide (b ≤ a))).getD rn 0 = ((all.map (·.2)).mergeSort (fun a b => decide (b ≤ a)))[rn] := by
      rw [List.getD_eq_getElem?_getD, List.getElem?_eq_getElem hl]
      rfl
    rw [eg]
    have hm := hpm.mem_iff.mp (List.getElem_mem hl)
    obtain ⟨e, he, h⟩ := List.mem_map.mp hm
    rw [← h]
    exact hall e he
  rw [hf]
  have ht : takeZ 1 all = [] := by
    unfold takeZ
    rw [List.filter_eq_nil_iff.mpr (fun e he q => by
      have := of_decide_eq_true q
      rw [hall e he] at this
      omega)]
    rfl
  rw [ht]
  have e1 : ((l.take rn).length : Int) + ((l.drop rn).length : Int) = (l.length : Int) := by
    rw [List.length_take, List.length_drop]
    omega
  rw [e1]
  rfl
theorem layer_base {r : Int} {m o : Int} {kvs : Ct} {n : Int} (h : (kvs.length : Int) ≤ r) : pourT r (skT ⟨n, 1, []⟩) ⟨m, o, kvs⟩ = ⟨m + n, o + 1, kvs⟩ := by
  unfold pourT skT
  dsimp only
  have e : srtZ [] = [] := List.Perm.eq_nil (srtZ_perm [])
  rw [e]
  show (if r < (kvs.length : Int) then _ else _) = _
  rw [if_neg (by omega)]
  rfl
def totL (on ln k : Nat) : Nat := k * (ln / on) + min k (ln % on)
theorem totL_succ (on ln k : Nat) : totL on ln (k + 1) = totL on ln k + szL on ln k := by
  unfold totL szL
  rw [Nat.succ_mul]
  by_cases h : k < ln % on
  · rw [if_pos h, Nat.min_eq_left (by omega), Nat.min_eq_left (by omega)]
    omega
  · rw [if_neg h, Nat.min_eq_right (by omega), Nat.min_eq_right (by omega)]
    omega
theorem totL_all {on ln : Nat} (h : on = 0 → ln = 0) : totL on ln on = ln := by
  unfold totL
  by_cases h0 : on = 0
  · rw [h h0, h0]
    rfl
  · have h1 := Nat.mod_lt ln (Nat.pos_of_ne_zero h0)
    rw [Nat.min_eq_right (by omega)]
    exact Nat.div_add_mod ln on
/-! the tree is one -/
def Vl : Int → List Stp → Prop
  | _, [] => True
  | h, .put _ :: l => Vl (h + 1) l
  | h, .pour :: l => 2 ≤ h ∧ Vl (h - 1) l
theorem vl_at : ∀ {l : List Stp} {h : Int} {i : Nat}, Vl h l → l[i]? = some .pour → 2 ≤ (l.take i).foldl hS h
  | [], _, i, _, e => by simp at e
  | .put zs :: l, h, 0, v, e => by cases e
  | .pour :: l, h, 0, v, _ => v.1
  | .put zs :: l, h, i + 1, v, e => vl_at (l := l) (h := h + 1) v (by simpa using e)
  | .pour :: l, h, i + 1, v, e => vl_at (l := l) (h := h - 1) v.2 (by simpa using e)
theorem vl_app : ∀ {l l' : List Stp} {h : Int}, Vl h l → Vl (l.foldl hS h) l' → Vl h (l ++ l')
  | [], _, _, _, v => v
  | .put zs :: l, l', h, v, w => vl_app (l := l) (h := h + 1) v w
  | .pour :: l, l', h, v, w => ⟨v.1, vl_app (l := l) (h := h - 1) v.2 w⟩
theorem sz_bounds {rn on ln : Nat} (h1 : (rn + 1) * on ≤ ln) (h2 : ln ≤ 2 * rn * on) : ∀ k, k < on → rn < szL on ln k ∧ szL on ln k ≤ 2 * rn := fun k hk => by
  have hon : 0 < on := by omega
  have a1 : rn + 1 ≤ ln / on := (Nat.le_div_iff_mul_le hon).mpr h1
  have hm := Nat.div_add_mod ln on
  have hml := Nat.mod_lt ln hon
  unfold szL
  refine ⟨by split <;> omega, ?_⟩
  have a2 : ln / on ≤ 2 * rn := Nat.div_le_of_le_mul (by rw [Nat.mul_comm]; exact h2)
  split
  · rename_i h
    have : ln / on < 2 * rn := by
      rcases Nat.lt_or_ge (ln / on) (2 * rn) with h3 | h3
      · exact h3
      · have h4 : ln / on = 2 * rn := by omega
        rw [h4] at hm
        have h5 : on * (2 * rn) = 2 * rn * on := Nat.mul_comm _ _
        omega
    omega
  · omega
theorem spread_len : ∀ {kvs : Ct}, (∀ e ∈ kvs, 1 ≤ e.2) → ((spread kvs).length : Int) = sumC kvs
  | [], _ => rfl
  | e :: kvs, h => by
    have ih := spread_len (kvs := kvs) fun f hf => h f (List.mem_cons_of_mem _ hf)
    have h1 := h e List.mem_cons_self
    unfold spread sumC at ih ⊢
    rw [List.flatMap_cons, List.length_append, List.length_replicate, List.map_cons, List.sum_cons, ← ih]
    omega
theorem spread_mem {kvs : Ct} {z : Str} (h : z ∈ spread kvs) : ∃ e ∈ kvs, e.1 = z := by
  unfold spread at h
  obtain ⟨e, he, h⟩ := List.mem_flatMap.mp h
  exact ⟨e, he, (List.eq_of_mem_replicate h).symm⟩
theorem sumC_cons (e : Str × Int) (kvs : Ct) : sumC (e :: kvs) = e.2 + sumC kvs := by
  unfold sumC
  rw [List.map_cons, List.sum_cons]
theorem sumC_perm {a b : Ct} (p : a.Perm b) : sumC a = sumC b := by
  induction p with
  | nil => rfl
  | cons x _ ih => rw [sumC_cons, sumC_cons, ih]
  | swap x y l =>
    rw [sumC_cons, sumC_cons, sumC_cons, sumC_cons]
    omega
  | trans _ _ ih1 ih2 => rw [ih1, ih2]
/-- the sum of counts of at most six -/
theorem sumC_le : ∀ {kvs : Ct}, (∀ e ∈ kvs, 1 ≤ e.2 ∧ e.2 ≤ 6) → 0 ≤ sumC kvs ∧ sumC kvs ≤ 6 * (kvs.length : Int)
  | [], _ => ⟨Int.le_refl _, Int.le_refl _⟩
  | e :: kvs, h => by
    obtain ⟨a, b⟩ := sumC_le (kvs := kvs) fun f hf => h f (List.mem_cons_of_mem _ hf)
    obtain ⟨c, d⟩ := h e List.mem_cons_self
    unfold sumC at a b ⊢
    rw [List.map_cons, List.sum_cons, List.length_cons]
    omega
end Kb

namespace Kb
open PySem PySem.Spec PyProof.Rows L2 SrtZ SrtO
/-! layers of any lists of names -/
def layG (rn : Nat) (l : List Str) : List Stp := [.put (l.take rn), .put (l.drop rn), .pour, .pour]
def laysG (rn : Nat) : List (List Str) → List Stp
  | [] => []
  | l :: ls => layG rn l ++ laysG rn ls
theorem laysG_snoc (rn : Nat) (l : List Str) : ∀ ls, laysG rn (ls ++ [l]) = laysG rn ls ++ layG rn l
  | [] => by
    show layG rn l ++ [] = _
    rw [List.append_nil]
    rfl
  | x :: ls => by
    show layG rn x ++ laysG rn (ls ++ [l]) = _
    rw [laysG_snoc rn l ls, ← List.append_assoc]
    rfl
theorem laysG_len (rn : Nat) : ∀ ls : List (List Str), (laysG rn ls).length = 4 * ls.length
  | [] => rfl
  | l :: ls => by
    show (layG rn l ++ laysG rn ls).length = _
    rw [List.length_append, laysG_len rn ls, List.length_cons]
    show 4 + _ = _
    omega
def lnG (ls : List (List Str)) : Int := (ls.map fun l => (l.length : Int)).sum
theorem lnG_cons (l : List Str) (ls : List (List Str)) : lnG (l :: ls) = (l.length : Int) + lnG ls := by
  unfold lnG
  rw [List.map_cons, List.sum_cons]
def LayOk (rn : Nat) (l : List Str) : Prop := l.Nodup ∧ rn < l.length ∧ l.length ≤ 2 * rn
theorem run_layG {rn : Nat} {l : List Str} {m o : Int} {kvs : Ct} (h : LayOk rn l) (hl : (kvs.length : Int) ≤ rn) : (layG rn l).foldl (stepT rn) [⟨m, o, kvs⟩] = [⟨m + (l.length : Int), o + 1, kvs⟩] := by
  obtain ⟨nd, h1, h2⟩ := h
  show [pourT rn (skT (pourT rn (skT (feedsT rn (l.drop rn) tl0)) (feedsT rn (l.take rn) tl0))) ⟨m, o, kvs⟩] = _
  rw [feeds_ones (nd.sublist (List.drop_sublist _ _)) (by rw [List.length_drop]; omega), feeds_ones (nd.sublist (List.take_sublist _ _)) (by rw [List.length_take]; omega), layer_pour nd h1, layer_base hl]
theorem run_laysG {rn : Nat} {kvs : Ct} (hl : (kvs.length : Int) ≤ rn) : ∀ {ls : List (List Str)} {m o : Int}, (∀ l ∈ ls, LayOk rn l) → (laysG rn ls).foldl (stepT rn) [⟨m, o, kvs⟩] = [⟨m + lnG ls, o + (ls.length : Int), kvs⟩]
  | [], m, o, _ => by
    show [(⟨m, o, kvs⟩ : Tl)] = [⟨m + 0, o + 0, kvs⟩]
    rw [Int.add_zero, Int.add_zero]
  | l :: ls, m, o, h => by
    show (layG rn l ++ laysG rn ls).foldl (stepT rn) [⟨m, o, kvs⟩] = _
    rw [List.foldl_append, run_layG (h l List.mem_cons_self) hl, run_laysG hl fun x hx => h x (List.mem_cons_of_mem _ hx), lnG_cons, List.length_cons]
    congr 2
    · omega
    · push_cast
      omega
theorem layG_vl (rn : Nat) (l : List Str) : Vl 1 (layG rn l) ∧ (layG rn l).foldl hS 1 = 1 := ⟨⟨by decide, by decide, trivial⟩, rfl⟩
theorem laysG_vl (rn : Nat) : ∀ ls, Vl 1 (laysG rn ls) ∧ (laysG rn ls).foldl hS 1 = 1
  | [] => ⟨trivial, rfl⟩
  | l :: ls => by
    obtain ⟨h1, h2⟩ := layG_vl rn l
    obtain ⟨g1, g2⟩ := laysG_vl rn ls
    refine ⟨vl_app h1 (by rw [h2]; exact g1), ?_⟩
    show (layG rn l ++ laysG rn ls).foldl hS 1 = 1
    rw [List.foldl_append, h2, g2]
theorem laysG_cs (rn : Nat) : ∀ (ls : List (List Str)) (m : Int), (laysG rn ls).foldl cS m = m + lnG ls
  | [], m => by show m = m + 0; omega
  | l :: ls, m => by
    show (layG rn l ++ laysG rn ls).foldl cS m = _
    rw [List.foldl_append]
    have e : (layG rn l).foldl cS m = m + (l.length : Int) := by
      show m + ((l.take rn).length : Nat) + ((l.drop rn).length : Nat) = _
      rw [List.length_take, List.length_drop]
      omega
    rw [e, laysG_cs rn ls, lnG_cons]
    omega
theorem treeG {items : List Str} {rn : Nat} {ls : List (List Str)} (hm : (items.length : Int) + lnG ls ≤ 50000) (hl : ls.length ≤ 1000) : Tree (.put items :: laysG rn ls) := by
  obtain ⟨v, h⟩ := laysG_vl rn ls
  refine ⟨fun i e => ?_, h, ?_, ?_⟩
  · exact vl_at (l := .put items :: laysG rn ls) (h := 0) (show Vl (0 + 1) (laysG rn ls) from v) e
  · show (laysG rn ls).foldl cS (0 + (items.length : Int)) ≤ 50000
    rw [laysG_cs]
    omega
  · rw [List.length_cons, laysG_len]
    omega
theorem laysG_mem {rn : Nat} {zs : List Str} : ∀ {ls : List (List Str)}, Stp.put zs ∈ laysG rn ls → ∃ l ∈ ls, ∀ z ∈ zs, z ∈ l
  | [], h => by cases h
  | l :: ls, h => by
    rcases List.mem_append.mp h with h | h
    · have h4 : zs = l.take rn ∨ zs = l.drop rn := by
        simp [layG] at h
        exact h
      refine ⟨l, List.mem_cons_self, fun z hz => ?_⟩
      rcases h4 with h | h
      · rw [h] at hz
        exact List.mem_of_mem_take hz
      · rw [h] at hz
        exact List.mem_of_mem_drop hz
    · obtain ⟨x, hx, g⟩ := laysG_mem h
      exact ⟨x, List.mem_cons_of_mem _ hx, g⟩
/-! how often a name stands there -/
theorem cnt_count (k : Str) : ∀ zs : List Str, gd (cntZ zs []) k = (zs.count k : Nat)
  | [] => rfl
  | z :: zs => by
    have h := gd_cntZ zs (addZ [] z 1) k
    have ih := cnt_count k zs
    show gd (cntZ zs (addZ [] z 1)) k = _
    rw [h, ih, gd_add, List.count_cons]
    show (0 : Int) + (if k = z then 1 else 0) + _ = _
    by_cases e : k = z
    · rw [if_pos e, if_pos (by rw [e]; exact beq_self_eq_true z)]
      omega
    · rw [if_neg e, if_neg (by intro q; exact e (eq_of_beq q).symm)]
      omega
theorem cnt_laysG (rn : Nat) (k : Str) : ∀ (ls : List (List Str)) (kc : Ct), gd ((laysG rn ls).foldl cntS kc) k = gd kc k + (ls.map fun l => ((l.count k : Nat) : Int)).sum
  | [], kc => by show gd kc k = gd kc k + 0; omega
  | l :: ls, kc => by
    show gd ((layG rn l ++ laysG rn ls).foldl cntS kc) k = _
    rw [List.foldl_append, cnt_laysG rn k ls, List.map_cons, List.sum_cons]
    have e : gd ((layG rn l).foldl cntS kc) k = gd kc k + ((l.count k : Nat) : Int) := by
      show gd (cntZ (l.drop rn) (cntZ (l.take rn) kc)) k = _
      rw [gd_cntZ, gd_cntZ (l.take rn), cnt_count, cnt_count]
      have : l.count k = (l.take rn).count k + (l.drop rn).count k := by
        rw [← List.count_append, List.take_append_drop]
      omega
    rw [e]
    omega
theorem cnt_treeG (items : List Str) (rn : Nat) (ls : List (List Str)) (k : Str) : gd (cntT (.put items :: laysG rn ls)) k = ((items.count k : Nat) : Int) + (ls.map fun l => ((l.count k : Nat) : Int)).sum := by
  show gd ((laysG rn ls).foldl cntS (cntZ items [])) k = _
  rw [cnt_laysG, cnt_count]
theorem count_spread (k : Str) : ∀ {kvs : Ct}, NdZ kvs → (∀ e ∈ kvs, 1 ≤ e.2) → (((spread kvs).count k : Nat) : Int) = gd kvs k
  | [], _, _ => rfl
  | e :: r, nd, pos => by
    unfold NdZ at nd
    rw [List.map_cons, List.nodup_cons] at nd
    have ih := count_spread k (kvs := r) nd.2 fun x hx => pos x (List.mem_cons_of_mem _ hx)
    have p := pos e List.mem_cons_self
    show (((List.replicate e.2.toNat e.1 ++ spread r).count k : Nat) : Int) = _
    rw [List.count_append, List.count_replicate]
    push_cast
    rw [ih]
    unfold gd
    rw [getZ_cons]
    by_cases h : e.1 = k
    · have hn : getZ r k = none := getZ_none.mpr (by rw [← h]; exact nd.1)
      rw [if_pos (by rw [h]; exact beq_self_eq_true k), if_pos h, hn]
      show ((e.2.toNat : Nat) : Int) + 0 = e.2
      omega
    · rw [if_neg (by intro q; exact h (eq_of_beq q)), if_neg h]
      omega
/-! two letters, the second one a q -/
def qs (c : Nat) : Str := (⟨#[c]⟩ : Str) ++ Str.ofString "q"
theorem cs_qs (c : Nat) : cs (qs c) = [c, 113] := by
  show ((#[c] ++ (Str.ofString "q").cps).toList) = _
  rw [Array.toList_append, show (Str.ofString "q").cps.toList = [113] by decide +kernel]
  rfl
theorem qs_inj {a b : Nat} (h : qs a = qs b) : a = b := by
  have h2 := congrArg cs h
  rw [cs_qs, cs_qs] at h2
  injection h2
theorem qs_nm {c : Nat} (h1 : 97 ≤ c) (h2 : c ≤ 122) : Nm (qs c) := by
  have hl : (qs c).length = 2 := by rw [← cs_len, cs_qs]; rfl
  refine ⟨by rw [hl]; decide, by rw [hl]; decide, fun x hx => ?_⟩
  rw [cs_qs] at hx
  unfold nmC
  rcases List.mem_cons.mp hx with rfl | hx
  · rw [show decide (x < 97) = false from decide_eq_false (by omega), show decide (122 < x) = false from decide_eq_false (by omega)]
    rfl
  · rw [List.mem_singleton.mp hx]
    rfl
def qAll (n : Nat) : List Str := (List.range n).map fun i => qs (97 + i)
theorem qAll_nd (n : Nat) : (qAll n).Nodup := by
  unfold qAll
  rw [List.Nodup, List.pairwise_map]
  refine (List.nodup_range (n := n)).imp fun {a b} h e => h ?_
  have := qs_inj e
  omega
def oth (z : Str) : List Str := (qAll 26).filter (· != z)
theorem oth_len (z : Str) : 25 ≤ (oth z).length ∧ (oth z).length ≤ 26 := by
  have hl : (qAll 26).length = 26 := by unfold qAll; rw [List.length_map, List.length_range]
  unfold oth
  rw [← List.Nodup.erase_eq_filter (qAll_nd 26) z, List.length_erase, hl]
  split <;> omega
theorem oth_nd (z : Str) : (oth z).Nodup := (qAll_nd 26).sublist List.filter_sublist
theorem oth_not (z : Str) : z ∉ oth z := fun h => by
  have := (List.mem_filter.mp h).2
  simp at this
theorem oth_nm {z y : Str} (h : y ∈ oth z) : Nm y := by
  obtain ⟨i, hi, rfl⟩ := List.mem_map.mp (List.mem_filter.mp h).1
  have := List.mem_range.mp hi
  exact qs_nm (by omega) (by omega)
/-- a layer -/
def layZ (z : Str) (there : Bool) (n : Nat) : List Str := ((if there then [z] else []) ++ oth z).take n
theorem layZ_len {z : Str} {there : Bool} {n : Nat} (h : n ≤ 25) : (layZ z there n).length = n := by
  have := oth_len z
  unfold layZ
  rw [List.length_take, List.length_append]
  cases there
  · show min n (0 + _) = n
    omega
  · show min n (1 + _) = n
    omega
theorem all_nd (z : Str) (there : Bool) : ((if there then [z] else []) ++ oth z).Nodup := by
  cases there
  · exact oth_nd z
  · show (z :: oth z).Nodup
    rw [List.nodup_cons]
    exact ⟨oth_not z, oth_nd z⟩
theorem layZ_ok {z : Str} {there : Bool} {n rn : Nat} (h1 : rn < n) (h2 : n ≤ 2 * rn) (h3 : n ≤ 25) : LayOk rn (layZ z there n) :=
  ⟨(all_nd z there).sublist (List.take_sublist _ _), by rw [layZ_len h3]; exact h1, by rw [layZ_len h3]; exact h2⟩
theorem layZ_nm {z y : Str} {there : Bool} {n : Nat} (hz : Nm z) (h : y ∈ layZ z there n) : Nm y := by
  have := List.mem_of_mem_take h
  rcases List.mem_append.mp this with h | h
  · cases there
    · cases h
    · rw [List.mem_singleton.mp h]
      exact hz
  · exact oth_nm h
theorem layZ_count {z : Str} {there : Bool} {n : Nat} (hn : 1 ≤ n) : (layZ z there n).count z = if there then 1 else 0 := by
  unfold layZ
  cases there
  · exact List.count_eq_zero.mpr fun h => oth_not z (List.mem_of_mem_take h)
  · obtain ⟨k, rfl⟩ : ∃ k, n = k + 1 := ⟨n - 1, by omega⟩
    show (z :: (oth z).take k).count z = 1
    rw [List.count_cons_self, List.count_eq_zero.mpr fun h => oth_not z (List.mem_of_mem_take h)]
end Kb

namespace Kb
open PySem PySem.Spec PyProof.Rows L2 SrtZ SrtO
abbrev snumber : Stmt := topS 58
theorem scnumber : FnScope ["_law_well_here", "_law_kind"] ["_law_well_here"] (defScope snumber) := ⟨rfl, rfl, rfl, by decide +kernel, rfl, by decide +kernel, by decide +kernel⟩
abbrev skept : Stmt := topS 71
theorem sckept : FnScope ["_law_well_here", "_law_names_here", "_law_room_here", "_law_small", "_law_kept_here", "_law_name_here"] ["_law_well_here", "_law_names_here", "_law_room_here", "_law_small"] (defScope skept) := ⟨rfl, rfl, rfl, by decide +kernel, rfl, by decide +kernel, by decide +kernel⟩
abbrev ssum : Stmt := topS 69
abbrev Nsum : List Str := ["_law_counts", "_law_pair"]
theorem scsum : FnScope ["_law_counts", "_law_pair"] ["_law_counts"] (defScope ssum) := ⟨rfl, rfl, rfl, by decide +kernel, rfl, by decide +kernel, by decide +kernel⟩
abbrev ssketch : Stmt := topS 72
theorem scsketch : FnScope ["_law_well_here", "_law_names_here", "_law_room_here", "_law_small", "_law_kept_here", "_law_off", "_law_least", "_law_most", "_law_lost"] ["_law_well_here", "_law_names_here", "_law_room_here", "_law_small"] (defScope ssketch) := ⟨rfl, rfl, rfl, by decide +kernel, rfl, by decide +kernel, by decide +kernel⟩
abbrev sothers : Stmt := topS 74
theorem scothers : FnScope ["_law_name_here", "_law_found", "_law_one"] ["_law_name_here"] (defScope sothers) := ⟨rfl, rfl, rfl, by decide +kernel, rfl, by decide +kernel, by decide +kernel⟩
abbrev Dnnumber (K : PySem.W.Frag) (mg : Str → Option Value) := Dn K mg "_law_number" snumber ["_law_well_here"]
abbrev Dnkept (K : PySem.W.Frag) (mg : Str → Option Value) := Dn K mg "_law_kept" skept ["_law_well_here", "_law_names_here", "_law_room_here", "_law_small"]
abbrev Dnsum (K : PySem.W.Frag) (mg : Str → Option Value) := Dn K mg "_law_sum" ssum ["_law_counts"]
abbrev Dnsketch (K : PySem.W.Frag) (mg : Str → Option Value) := Dn K mg "_law_sketch" ssketch ["_law_well_here", "_law_names_here", "_law_room_here", "_law_small"]
abbrev Dnothers (K : PySem.W.Frag) (mg : Str → Option Value) := Dn K mg "_law_others" sothers ["_law_name_here"]
theorem prt_exw {a c : Addr} {H H' : Hp} (x : Exw a H H') (w : Wl a c H) : ∀ {ts : List Addr} {kvs : Ct}, Paired (PrT H) ts kvs → Paired (PrT H') ts kvs
  | _, _, .nil => .nil
  | _, _, .cons h t => .cons (x.at w h (by intro _ z; cases z)) (prt_exw x w t)
theorem ptp_exw {a c k : Addr} {H H' : Hp} {xs : List V} (x : Exw a H H') (w : Wl a c H) (h : Ptp H k xs) : Ptp H' k xs := by
  obtain ⟨o, e, d⟩ := h
  exact ⟨o, x.at w e (by intro _ z; cases z), d⟩
section
variable {P : Program} {w : World} {K : PySem.W.Frag} {mg : Str → Option Value} {base : Heap}
/-! _law_number -/
def spNumber : Sp := fun vs H Q _ => ∃ (a c : Addr), vs = [.ref a] ∧ Wl a c H ∧ ∀ H' (r : Int), Exw a H H' → Wl a c H' → 0 ≤ r → r < 1000000000 → Q (.int r) H'
theorem ok_number (T : Blt mg) (dmixed : Dnmixed K mg) (dfilled : Dnfilled K mg) (ddraw : Dndraw K mg) (d : Dnnumber K mg) : FnOk P w K mg base CX0 4 d.f d.fd ["_law_well_here"] spNumber := by
  have Gdraw : FnOk P w K mg base CX0 3 ddraw.f ddraw.fd ["_law_well_here", "_law_many"] spDraw := ok_draw T dmixed dfilled ddraw
  refine d.F.ok scnumber (fun vs H Q E h => ?_) (fun cdv A outer s H vs Q E hr h => ?_)
  · obtain ⟨a, c, rfl, _⟩ := h
    rfl
  · obtain ⟨a, c, rfl, hw, q⟩ := h
    refine ⟨_, (pss_cons (ps_set (i := 1) scnumber.nd rfl (Or.inl rfl) (pe_call Gdraw (hr.mono (by omega)) (by rfl) ddraw.g ddraw.F.kp ddraw.b .nil pass0 (pa_cons (pv 0) (pa_cons pe_int pa_nil))))
    (pss_cons (ps_if (pt_cmpR op_eq (pv 1) pe_int (nomark _))
      (pss_one (ps_ret (pe_call Gdraw (hr.mono (by omega)) (by rfl) ddraw.g ddraw.F.kp ddraw.b .nil pass0 (pa_cons (pv 0) (pa_cons (pe_op op_pow pe_int pe_int) pa_nil)))))
      pss_nil)
    (pss_one (ps_ret (pe_call Gdraw (hr.mono (by omega)) (by rfl) ddraw.g ddraw.F.kp ddraw.b .nil pass0 (pa_cons (pv 0) (pa_cons (pe_ix ix_list (pe_lst (pa_cons pe_int (pa_cons pe_int (pa_cons (pe_op op_pow pe_int pe_int) pa_nil)))) (pv 1) (fun _ _ => rfl)) pa_nil))))))), ?_⟩
    refine ⟨.ref a, rfl, a, c, 4, rfl, hw, (by decide), (by decide), fun H1 k x1 w1 k0 k1 => ?_⟩
    refine ⟨.int k, rfl, rfl, _, rfl, ?_⟩
    by_cases h3 : k = 3
    · rw [show decide (V.int k = V.int 3) = true from decide_eq_true (by rw [h3])]
      refine iteT ⟨.ref a, rfl, _, _, rfl, rfl, ⟨by decide, by decide, by decide⟩, a, c, 1000000000, rfl, w1, by decide, by decide, fun H2 r x2 w2 r0 r1 => ?_⟩
      exact q H2 r (x1.trans x2) w2 r0 r1
    · rw [show decide (V.int k = V.int 3) = false from decide_eq_false (by intro z; injection z with z; exact h3 z)]
      refine iteF ⟨.ref a, rfl, _, _, rfl, rfl, ⟨by decide, by decide, by decide⟩, (by show 3 ≤ sizeLine; decide), fun l nl => ?_⟩
      have hl := w1.ne2 nl
      obtain ⟨kn, rfl⟩ := Int.eq_ofNat_of_zero_le k0
      have hk : kn < 3 := by omega
      obtain ⟨m, hm, m0, m1⟩ : ∃ m : Int, [V.int 3, V.int 40, V.int (10 ^ (6 : Int).toNat)][kn]? = some (.int m) ∧ 0 < m ∧ m ≤ 1000000 := by
        match kn, hk with
        | 0, _ => exact ⟨3, rfl, by decide, by decide⟩
        | 1, _ => exact ⟨40, rfl, by decide, by decide⟩
        | 2, _ => exact ⟨10 ^ (6 : Int).toNat, rfl, by decide, by decide⟩
        | n + 3, h => exact absurd h (by omega)
      have sl : Same H1 (upd H1 l (.lst [V.int 3, V.int 40, V.int (10 ^ (6 : Int).toNat)])) := same_upd nl
      refine ⟨.int (kn : Int), rfl, l, _, _, _, rfl, rfl, sql upd_same, atI_nat hm, a, c, m, rfl, w1.same sl, m0, (by omega), fun H2 r x2 w2 r0 r1 => ?_⟩
      exact q H2 r ((x1.same sl).trans x2) w2 r0 (by omega)
/-! _law_sum -/
def spSum (K : PySem.W.Frag) : Sp := fun vs H Q _ => ∃ (k : Addr) (kvs : Ct), vs = [.ref k] ∧ CtAt K H k kvs ∧ kvs.length ≤ 1000 ∧ ∀ H', Same H H' → Q (.int (sumC kvs)) H'
theorem ok_sum (T : Blt mg) (d : Dnsum K mg) : FnOk P w K mg base CX0 1 d.f d.fd ["_law_counts"] (spSum K) := by
  refine d.F.ok scsum (fun vs H Q E h => ?_) (fun cdv A outer s H vs Q E hr h => ?_)
  · obtain ⟨k, kvs, rfl, _⟩ := h
    rfl
  · obtain ⟨k, kvs, rfl, ⟨ts, hS, hp⟩, hl, q⟩ := h
    refine ⟨_, (pss_one (ps_ret (pe_callB (cr_sum rfl) (by rfl) T.n_sum (by decide +kernel) (pa_cons (pe_lc (own := [("_law_pair", 1)]) (g := gName 1) (tt := tYes) rfl scsum.nd (pi_tup (pv 0)) (blkOk_by (N := Nsum) (sc := defScope ssum) (by decide +kernel)) (fun _ _ _ _ _ => pg_name (i := 1) scsum.nd rfl (Or.inl rfl)) (fun _ _ _ _ _ => pts_nil) (fun _ _ _ _ _ => (pe_ix (r := rIxT K) ix_tup (pv 1) pe_int (fun _ _ => rfl)))) pa_nil)))), ?_⟩
    refine ⟨.ref k, rfl, k, rfl, ⟨_, hS⟩, fun D nD => lc_tup (xs := ts.map V.ref) (fun i H3 => Same H H3 ∧ H3 D = some (.lst ((kvs.take i).map fun e => V.int e.2))) ⟨same_upd nD, upd_same⟩ (fun i H3 _ h3 => seqT hS h3.1) (fun i x H3 hx h3 => ?_) (fun H3 h3 => ?_)⟩
    · obtain ⟨t, ht, rfl⟩ := map_at hx
      obtain ⟨e, he, hat⟩ := paired_at hp ht
      refine ⟨rfl, .ref t, rfl, t, _, _, _, rfl, rfl, seqT hat h3.1, atI_nat (j := 1) rfl, _, h3.2, ?_, fun b o z => ?_, ?_⟩
      · rw [List.length_map, List.length_take, sizeLine_eq]
        omega
      · rw [upd_ne (ne_of_none z nD)]
        exact h3.1 b o z
      · rw [upd_same, List.take_add_one, he, List.map_append]
        rfl
    · refine ⟨D, kvs.map (fun e : Str × Int => e.2), rfl, sql ?_, q H3 h3.1⟩
      rw [h3.2, List.length_map, Paired.length hp, List.take_length, List.map_map]
      rfl
/-! _law_kept, of small ones -/
def spKept : Sp := fun vs H Q _ => ∃ (a c l : Addr) (r : Int) (ys : List Str), vs = [.ref a, .ref l, .int r, .bl true] ∧ Wl a c H ∧ H l = some (.lst (ys.map V.str)) ∧ (ys.Pairwise fun a b => ltZ a b = true) ∧ (∀ y ∈ ys, Nm y) ∧ ys.length ≤ 1000 ∧ 0 ≤ r ∧ r ≤ 64 ∧
  ∀ H' k (ts : List Addr) (kvs : Ct), Exw a H H' → Wl a c H' → Ptp H' k (ts.map V.ref) → Paired (PrT H') ts kvs → Cts kvs → (kvs.length : Int) ≤ r → (∀ e ∈ kvs, e.2 ≤ 6) → Q (.ref k) H'
theorem ok_kept (T : Blt mg) (dmixed : Dnmixed K mg) (dfilled : Dnfilled K mg) (ddraw : Dndraw K mg) (dnumber : Dnnumber K mg) (d : Dnkept K mg) : FnOk P w K mg base CX0 5 d.f d.fd ["_law_well_here", "_law_names_here", "_law_room_here", "_law_small"] spKept := by
  have Gdraw : FnOk P w K mg base CX0 3 ddraw.f ddraw.fd ["_law_well_here", "_law_many"] spDraw := ok_draw T dmixed dfilled ddraw
  have Gnumber : FnOk P w K mg base CX0 4 dnumber.f dnumber.fd ["_law_well_here"] spNumber := ok_number T dmixed dfilled ddraw dnumber
  refine d.F.ok sckept (fun vs H Q E h => ?_) (fun cdv A outer s H vs Q E hr h => ?_)
  · obtain ⟨a, c, l, r, ys, rfl, _⟩ := h
    rfl
  · obtain ⟨a, c, l, r, ys, rfl, hw, hl, asc, nm, hyl, hr0, hr64, q⟩ := h
    refine ⟨_, (pss_cons (ps_set (i := 4) sckept.nd rfl (Or.inl rfl) (pe_lst pa_nil))
    (pss_cons (ps_for PassesOwn.never rfl (pi_list (pv 1)) (pg_name (i := 5) sckept.nd rfl (Or.inl rfl))
      (pss_one (ps_if (PW.pt (pw_and (pt_cmpR op_lt (pe_callB call_len_seq (by rfl) T.n_len (by decide +kernel) (pa_cons (pv 4) pa_nil)) (pv 2) (nomark _)) (pw_and1 (pt_cmpR op_gt (pe_call Gdraw (hr.mono (by omega)) (by rfl) ddraw.g ddraw.F.kp ddraw.b .nil pass0 (pa_cons (pv 0) (pa_cons pe_int pa_nil))) pe_int (nomark _)))))
        (pss_one (ps_expr (pe_bm PySem.F.plainAttrs_list PySem.F.slot_list_append PySem.F.type_list_append mt_append (pv 4) (pa_cons (pe_tup (pa_cons (pv 5) (pa_cons (pe_op op_add pe_int (pe_ix ix_list (pe_lst (pa_cons (pe_call Gdraw (hr.mono (by omega)) (by rfl) ddraw.g ddraw.F.kp ddraw.b .nil pass0 (pa_cons (pv 0) (pa_cons pe_int pa_nil))) (pa_cons (pe_call Gnumber (hr.mono (by omega)) (by rfl) dnumber.g dnumber.F.kp dnumber.b .nil pass0 (pa_cons (pv 0) pa_nil)) pa_nil))) (pe_callTy call_int1 (by rfl) T.n_int (by decide +kernel) (pa_cons (pe_not (pv 3)) pa_nil)) (fun _ _ => rfl))) pa_nil))) pa_nil))))
        pss_nil)))
    (pss_one (ps_ret (pe_callTy call_tupleF (by rfl) T.n_tuple (by decide +kernel) (pa_cons (pv 4) pa_nil)))))), ?_⟩
    refine ⟨(by show 0 ≤ sizeLine; decide), fun D nD => ?_⟩
    have Dw := hw.ne2 nD
    have lD : l ≠ D := ne_of_none hl nD
    refine ⟨.ref l, rfl, l, rfl, ⟨_, sql (by rw [upd_ne lD]; exact hl)⟩, for_list (xs := ys.map V.str) (fun i σ H3 => ∃ (y5 : Option V) (us : List Addr) (kvs : Ct), σ = [some (.ref a), some (.ref l), some (.int r), some (.bl true), some (.ref D), y5] ∧ Exw a H H3 ∧ Wl a c H3 ∧ H3 D = some (.lst (us.map V.ref)) ∧ Paired (PrT H3) us kvs ∧ (kvs.map (·.1)).Sublist (ys.take i) ∧ (∀ e ∈ kvs, 1 ≤ e.2 ∧ e.2 ≤ 6) ∧ (kvs.length : Int) ≤ r ∧ H3 l = some (.lst (ys.map V.str)))
      ⟨none, [], [], rfl, (Exw.refl a H).put nD, hw.same (same_upd nD), upd_same, .nil, List.Sublist.refl _, (fun _ h => nomatch h), hr0, by rw [upd_ne lD]; exact hl⟩ (fun i σ H3 _ ⟨_, _, _, _, _, _, _, _, _, _, _, h⟩ => sql h) ?_ ?_⟩
    · rintro i v σ H3 hi ⟨y5, us, kvs, rfl, x3, w3, hD, hp, hsub, hv, hkl, hl3⟩
      obtain ⟨y, hy, rfl⟩ := map_at hi
      have tk : ys.take (i + 1) = ys.take i ++ [y] := by rw [List.take_add_one, hy]; rfl
      have hul := Paired.length hp
      have skip : ∀ {H4 : Hp}, Exw a H3 H4 → Wl a c H4 → ∃ (y5 : Option V) (us : List Addr) (kvs : Ct), [some (V.ref a), some (.ref l), some (.int r), some (.bl true), some (.ref D), some (.str y)] = [some (.ref a), some (.ref l), some (.int r), some (.bl true), some (.ref D), y5] ∧ Exw a H H4 ∧ Wl a c H4 ∧ H4 D = some (.lst (us.map V.ref)) ∧ Paired (PrT H4) us kvs ∧ (kvs.map (·.1)).Sublist (ys.take (i + 1)) ∧ (∀ e ∈ kvs, 1 ≤ e.2 ∧ e.2 ≤ 6) ∧ (kvs.length : Int) ≤ r ∧ H4 l = some (.lst (ys.map V.str)) := fun {H4} x4 w4 =>
        ⟨_, us, kvs, rfl, x3.trans x4, w4, x4 _ _ Dw.1 hD, prt_exw x4 w3 hp, hsub.trans (by rw [tk]; exact List.sublist_append_left _ _), hv, hkl, x4.strs w3 hl3⟩
      refine ⟨.ref D, rfl, D, _, rfl, .inl (sql hD), .int r, rfl, _, _, rfl, rfl, _, rfl, ?_⟩
      refine ite2 (fun hlt => ?_) fun _ => skip (Exw.refl a H3) w3
      have hlt : ((us.map V.ref).length : Int) < r := of_decide_eq_true hlt
      rw [List.length_map, hul] at hlt
      refine ⟨.ref a, rfl, a, c, 4, rfl, w3, (by decide), (by decide), fun H4 k4 x4 w4 k40 k41 => ⟨_, _, rfl, rfl, _, rfl, ?_⟩⟩
      refine ite2 (fun _ => ?_) fun _ => skip x4 w4
      have hD4 := x4 _ _ Dw.1 hD
      refine ⟨.ref D, rfl, .inl ⟨rfl, _, sql hD4⟩, .str y, rfl, .ref a, rfl, a, c, 6, rfl, w4, (by decide), (by decide), fun H5 k5 x5 w5 k50 k51 => ?_⟩
      refine ⟨.ref a, rfl, a, c, rfl, w5, fun H6 k6 x6 w6 k60 k61 => ⟨(by show 2 ≤ sizeLine; decide), fun p np => ?_⟩⟩
      have pw := w6.ne2 np
      have s7 : Same H6 (upd H6 p (.lst [.int k5, .int k6])) := same_upd np
      have hp7 : (upd H6 p (.lst [.int k5, .int k6])) p = some (.lst [.int k5, .int k6]) := upd_same
      have x46 : Exw a H3 (upd H6 p (.lst [.int k5, .int k6])) := ((x4.trans x5).trans x6).same s7
      have w7 := w6.same s7
      generalize upd H6 p (.lst [.int k5, .int k6]) = H7 at s7 hp7 x46 w7 ⊢
      refine ⟨.bl true, rfl, true, rfl, .inr ⟨_, rfl, p, _, _, _, rfl, rfl, sql hp7, atI_nat (j := 0) rfl, _, _, rfl, rfl, (by show 2 ≤ sizeLine; decide), fun t nt => ?_⟩⟩
      dsimp only
      have hD7 := x46 _ _ Dw.1 hD
      have s8 : Same H7 (upd H7 t (.tup [.str y, .int (1 + k5)])) := same_upd nt
      have ht8 : (upd H7 t (.tup [.str y, .int (1 + k5)])) t = some (.tup [.str y, .int (1 + k5)]) := upd_same
      generalize upd H7 t (.tup [.str y, .int (1 + k5)]) = H8 at s8 ht8 ⊢
      have hD8 := s8 _ _ hD7
      have w8 := w7.same s8
      have hp8 : Paired (PrT H8) us kvs := paired_imp (fun t e h => s8 _ _ h) (prt_exw x46 w3 hp)
      refine ⟨D, _, _, rfl, rfl, hD8, by rw [List.length_map, hul, sizeLine_eq]; omega, ?_⟩
      have l8 := s8 _ _ (x46.strs w3 hl3)
      refine ⟨_, us ++ [t], kvs ++ [(y, 1 + k5)], rfl, ((x3.trans x46).same s8).put nD, w8.put Dw, by rw [upd_same, List.map_append]; rfl, ?_, ?_, fun e he => ?_, by rw [List.length_append]; push_cast; show (kvs.length : Int) + 1 ≤ r; omega, by rw [upd_ne lD]; exact l8⟩
      · have keep : ∀ {t : Addr} {e : Str × Int}, PrT H8 t e → PrT (upd H8 D (.lst (us.map V.ref ++ [.ref t]))) t e := fun {t e} h => by
          show upd H8 D _ t = _
          rw [upd_ne (ne_of h hD8 (by intro z; cases z))]
          exact h
        refine paired_snoc (paired_imp (fun t' e h => ?_) hp8) ?_
        · show upd H8 D _ t' = _
          rw [upd_ne (ne_of h hD8 (by intro z; cases z))]
          exact h
        · show upd H8 D _ t = _
          rw [upd_ne (ne_of ht8 hD8 (by intro z; cases z))]
          exact ht8
      · rw [List.map_append, tk]
        exact hsub.append (List.Sublist.refl _)
      · rcases List.mem_append.mp he with he | he
        · exact hv e he
        · rw [List.mem_singleton.mp he]
          dsimp only
          omega
    · rintro σ H3 ⟨y5, us, kvs, rfl, x3, w3, hD, hp, hsub, hv, hkl, hl3⟩
      rw [List.length_map, List.take_length] at hsub
      refine ⟨.ref D, rfl, D, _, rfl, sql hD, fun k o nk ho => ?_⟩
      have s4 : Same H3 (upd H3 k (.frz o (.tup (us.map V.ref)))) := same_upd nk
      refine q _ k us kvs (x3.same s4) (w3.same s4) ⟨o, upd_same, ho⟩ (paired_imp (fun t e h => s4 _ _ h) hp) ⟨fun e he => nm _ (hsub.subset (List.mem_map.mpr ⟨e, he, rfl⟩)), fun e he => (hv e he).1, ?_⟩ hkl fun e he => (hv e he).2
      have := asc.sublist hsub
      rw [List.pairwise_map] at this
      exact this
end
end Kb

namespace Kb
open PySem PySem.Spec PyProof.Rows L2 SrtZ SrtO
theorem srt_asc {kvs : Ct} (h : kvs.Pairwise fun a b => ltZ a.1 b.1 = true) : srtZ kvs = kvs := (srtZ_of h (List.Perm.refl _) (asc_nd h)).symm
section
variable {P : Program} {w : World} {K : PySem.W.Frag} {mg : Str → Option Value} {base : Heap}
/-! _law_sketch, of small ones -/
def spSketchS : Sp := fun vs H Q _ => ∃ (a c l : Addr) (r : Int) (ys : List Str), vs = [.ref a, .ref l, .int r, .bl true] ∧ Wl a c H ∧ H l = some (.lst (ys.map V.str)) ∧ (ys.Pairwise fun a b => ltZ a b = true) ∧ (∀ y ∈ ys, Nm y) ∧ ys.length ≤ 1000 ∧ 1 ≤ r ∧ r ≤ 64 ∧
  ∀ H' s (m o : Int) (kvs : Ct), Exw a H H' → Wl a c H' → SkAt H' s r ⟨m, o, kvs⟩ → SkG r m o kvs → o ≤ 4 → (∀ e ∈ kvs, e.2 ≤ 6) → Q (.ref s) H'
theorem ok_sketchS (T : Blt mg) (dmixed : Dnmixed K mg) (dfilled : Dnfilled K mg) (ddraw : Dndraw K mg) (dnumber : Dnnumber K mg) (dkept : Dnkept K mg) (dsum : Dnsum K mg) (d : Dnsketch K mg) : FnOk P w K mg base CX0 6 d.f d.fd ["_law_well_here", "_law_names_here", "_law_room_here", "_law_small"] spSketchS := by
  have Gdraw : FnOk P w K mg base CX0 3 ddraw.f ddraw.fd ["_law_well_here", "_law_many"] spDraw := ok_draw T dmixed dfilled ddraw
  have Gkept : FnOk P w K mg base CX0 5 dkept.f dkept.fd ["_law_well_here", "_law_names_here", "_law_room_here", "_law_small"] spKept := ok_kept T dmixed dfilled ddraw dnumber dkept
  have Gsum : FnOk P w K mg base CX0 1 dsum.f dsum.fd ["_law_counts"] (spSum K) := ok_sum T dsum
  refine d.F.ok scsketch (fun vs H Q E h => ?_) (fun cdv A outer s H vs Q E hr h => ?_)
  · obtain ⟨a, c, l, r, ys, rfl, _⟩ := h
    rfl
  · obtain ⟨a, c, l, r, ys, rfl, hw, hl, asc, nm, hyl, hr1, hr64, q⟩ := h
    refine ⟨_, (pss_cons (ps_set (i := 4) scsketch.nd rfl (Or.inl rfl) (pe_call Gkept (hr.mono (by omega)) (by rfl) dkept.g dkept.F.kp dkept.b .nil pass0 (pa_cons (pv 0) (pa_cons (pv 1) (pa_cons (pv 2) (pa_cons (pv 3) pa_nil))))))
    (pss_cons (ps_set (i := 5) scsketch.nd rfl (Or.inl rfl) (pe_ix ix_list (pe_lst (pa_cons (pe_call Gdraw (hr.mono (by omega)) (by rfl) ddraw.g ddraw.F.kp ddraw.b .nil pass0 (pa_cons (pv 0) (pa_cons pe_int pa_nil))) (pa_cons (pe_call Gdraw (hr.mono (by omega)) (by rfl) ddraw.g ddraw.F.kp ddraw.b .nil pass0 (pa_cons (pv 0) (pa_cons (pe_op op_pow pe_int pe_int) pa_nil))) pa_nil))) (pe_callTy call_int1 (by rfl) T.n_int (by decide +kernel) (pa_cons (pe_and (pe_not (pv 3)) (pe_one (pe_cmpR op_eq (pe_call Gdraw (hr.mono (by omega)) (by rfl) ddraw.g ddraw.F.kp ddraw.b .nil pass0 (pa_cons (pv 0) (pa_cons pe_int pa_nil))) pe_int (nomark _)))) pa_nil)) (fun _ _ => rfl)))
    (pss_cons (ps_set (i := 6) scsketch.nd rfl (Or.inl rfl) (pe_op op_mul (pe_op op_add (pv 2) pe_int) (pv 5)))
    (pss_cons (ps_set (i := 7) scsketch.nd rfl (Or.inl rfl) (pe_op op_mul (pe_op op_mul pe_int (pv 2)) (pv 5)))
    (pss_cons (ps_set (i := 8) scsketch.nd rfl (Or.inl rfl) (pe_ix ix_list (pe_lst (pa_cons (pv 6) (pa_cons (pv 7) (pa_cons (pe_op op_add (pv 6) (pe_call Gdraw (hr.mono (by omega)) (by rfl) ddraw.g ddraw.F.kp ddraw.b .nil pass0 (pa_cons (pv 0) (pa_cons (pe_op op_add (pe_op op_sub (pv 7) (pv 6)) pe_int) pa_nil)))) pa_nil)))) (pe_call Gdraw (hr.mono (by omega)) (by rfl) ddraw.g ddraw.F.kp ddraw.b .nil pass0 (pa_cons (pv 0) (pa_cons pe_int pa_nil))) (fun _ _ => rfl)))
    (pss_one (ps_ret (pe_tup (pa_cons (pv 2) (pa_cons (pe_op op_add (pe_call Gsum (hr.mono (by omega)) (by rfl) dsum.g dsum.F.kp dsum.b .nil pass0 (pa_cons (pv 4) pa_nil)) (pv 8)) (pa_cons (pv 5) (pa_cons (pv 4) pa_nil)))))))))))), ?_⟩
    refine ⟨.ref a, rfl, .ref l, rfl, .int r, rfl, .bl true, rfl, a, c, l, r, ys, rfl, hw, hl, asc, nm, hyl, by omega, hr64, fun H1 k ts kvs x1 w1 hk hp cts hkl hv => ?_⟩
    refine ⟨.ref a, rfl, a, c, 5, rfl, w1, (by decide), (by decide), fun H2 o x2 w2 o0 o5 => ?_⟩
    refine ⟨.ref a, rfl, _, _, rfl, rfl, ⟨by decide, by decide, by decide⟩, a, c, 100000000, rfl, w2, by decide, by decide, fun H3 k3 x3 w3 k30 k31 => ⟨(by show 2 ≤ sizeLine; decide), fun p np => ?_⟩⟩
    have s4 : Same H3 (upd H3 p (.lst [.int o, .int k3])) := same_upd np
    have hp4 : (upd H3 p (.lst [.int o, .int k3])) p = some (.lst [.int o, .int k3]) := upd_same
    have w4 := w3.same s4
    have x14 : Exw a H1 (upd H3 p (.lst [.int o, .int k3])) := (x2.trans x3).same s4
    generalize upd H3 p (.lst [.int o, .int k3]) = H4 at s4 hp4 w4 x14 ⊢
    refine ⟨.bl true, rfl, true, rfl, false, rfl, iteF (.inr ⟨_, rfl, p, _, _, _, rfl, rfl, sql hp4, atI_nat (j := 0) rfl, ?_⟩)⟩
    refine ⟨.int r, rfl, _, _, rfl, rfl, .int o, rfl, _, _, rfl, rfl, cmulL (by omega) (by omega), ?_⟩
    dsimp only
    refine ⟨.int r, rfl, _, _, rfl, rfl, cmulL (by decide) (by decide), .int o, rfl, _, _, rfl, rfl, cmulL (by omega) (by omega), ?_⟩
    dsimp only
    have hm : (r + 1) * o ≤ 2 * r * o := Int.mul_le_mul_of_nonneg_right (by omega) o0
    have hm2 : 2 * r * o ≤ 128 * o := Int.mul_le_mul_of_nonneg_right (by omega) o0
    have hm0 : 0 ≤ (r + 1) * o := Int.mul_nonneg (by omega) o0
    refine ⟨.int ((r + 1) * o), rfl, .int (2 * r * o), rfl, .int ((r + 1) * o), rfl, .ref a, rfl, .int (2 * r * o), rfl, .int ((r + 1) * o), rfl, _, _, rfl, rfl, _, _, rfl, rfl, a, c, 2 * r * o - (r + 1) * o + 1, rfl, w4, by omega, by omega, fun H5 k5 x5 w5 k50 k51 => ⟨_, _, rfl, rfl, (by show 3 ≤ sizeLine; decide), fun p2 np2 => ?_⟩⟩
    dsimp only
    have p2w := w5.ne2 np2
    have s6 : Same H5 (upd H5 p2 (.lst [.int ((r + 1) * o), .int (2 * r * o), .int ((r + 1) * o + k5)])) := same_upd np2
    have hp6 : (upd H5 p2 (.lst [.int ((r + 1) * o), .int (2 * r * o), .int ((r + 1) * o + k5)])) p2 = some (.lst [.int ((r + 1) * o), .int (2 * r * o), .int ((r + 1) * o + k5)]) := upd_same
    have w6 := w5.same s6
    have x16 := (x14.trans x5).same s6
    generalize upd H5 p2 (.lst [.int ((r + 1) * o), .int (2 * r * o), .int ((r + 1) * o + k5)]) = H6 at s6 hp6 w6 x16 ⊢
    refine ⟨.ref a, rfl, a, c, 3, rfl, w6, (by decide), (by decide), fun H7 k7 x7 w7 k70 k71 => ?_⟩
    obtain ⟨kn, rfl⟩ := Int.eq_ofNat_of_zero_le k70
    have hkn : kn < 3 := by omega
    obtain ⟨lo, hat, l0, l1⟩ : ∃ lo : Int, [V.int ((r + 1) * o), V.int (2 * r * o), V.int ((r + 1) * o + k5)][kn]? = some (.int lo) ∧ (r + 1) * o ≤ lo ∧ lo ≤ 2 * r * o := by
      match kn, hkn with
      | 0, _ => exact ⟨_, rfl, by omega, by omega⟩
      | 1, _ => exact ⟨_, rfl, by omega, by omega⟩
      | 2, _ => exact ⟨_, rfl, by omega, by omega⟩
      | n + 3, h => exact absurd h (by omega)
    have hp7 := x7 _ _ p2w.1 hp6
    refine ⟨p2, _, _, _, rfl, rfl, sql hp7, atI_nat hat, ?_⟩
    have x17 := x16.trans x7
    have hk7 := ptp_exw x17 w1 hk
    have hpr7 := prt_exw x17 w1 hp
    have hkl' : kvs.length ≤ 64 := by omega
    refine ⟨.int r, rfl, .ref k, rfl, k, kvs, rfl, ⟨ts, hk7.seq, paired_imp (fun t e h => .inl (.inl h)) hpr7⟩, by omega, fun H8 s8 => ⟨.int lo, rfl, _, _, rfl, rfl, .int o, rfl, .ref k, rfl, (by show 4 ≤ sizeLine; decide), fun s ns => ?_⟩⟩
    dsimp only
    have x18 := x17.same s8
    have w8 := w7.same s8
    have s9 : Same H8 (upd H8 s (.tup [.int r, .int (sumC kvs + lo), .int o, .ref k])) := same_upd ns
    have hsc : 0 ≤ sumC kvs ∧ sumC kvs ≤ 6 * (kvs.length : Int) := sumC_le fun e he => ⟨cts.pos e he, hv e he⟩
    have s79 : Same H7 (upd H8 s (.tup [.int r, .int (sumC kvs + lo), .int o, .ref k])) := fun b u e => s9 _ _ (s8 _ _ e)
    refine q _ s (sumC kvs + lo) o kvs (x1.trans (x18.same s9)) (w8.same s9) ⟨k, ts, upd_same, hk7.same s79, ?_⟩ ⟨hr1, hr64, by omega, o0, cts, hkl, by omega, by omega, ?_⟩ (by omega) hv
    · dsimp only
      rw [srt_asc cts.asc]
      exact paired_imp (fun t e h => s79 _ _ h) hpr7
    · have : (2 : Int) ^ 100 = 1267650600228229401496703205376 := by decide +kernel
      omega
/-! _law_others -/
def spOthers : Sp := fun vs H Q _ => ∃ z : Str, vs = [.str z] ∧ z.length ≤ 100 ∧ ∀ H' p, Same H H' → H p = none → H' p = some (.lst ((oth z).map V.str)) → Q (.ref p) H'
theorem ok_others (T : Blt mg) (d : Dnothers K mg) : FnOk P w K mg base CX0 1 d.f d.fd ["_law_name_here"] spOthers := by
  refine d.F.ok scothers (fun vs H Q E h => ?_) (fun cdv A outer s H vs Q E hr h => ?_)
  · obtain ⟨z, rfl, _⟩ := h
    rfl
  · obtain ⟨z, rfl, hz, q⟩ := h
    refine ⟨_, (pss_cons (ps_set (i := 1) scothers.nd rfl (Or.inl rfl) (pe_lst pa_nil))
    (pss_cons (ps_for PassesOwn.never rfl (pi_str pe_str) (pg_name (i := 2) scothers.nd rfl (Or.inl rfl))
      (pss_one (ps_if (pt_cmpR op_ne (pe_op op_add_str (pv 2) pe_str) (pv 0) (nomark _))
        (pss_one (ps_expr (pe_bm PySem.F.plainAttrs_list PySem.F.slot_list_append PySem.F.type_list_append mt_append (pv 1) (pa_cons (pe_op op_add_str (pv 2) pe_str) pa_nil))))
        pss_nil)))
    (pss_one (ps_ret (pv 1))))), ?_⟩
    refine ⟨(by show 0 ≤ sizeLine; decide), fun D nD => ?_⟩
    have habc : (Str.ofString "abcdefghijklmnopqrstuvwxyz").cps.size = 26 := by decide +kernel
    refine ⟨Str.ofString "abcdefghijklmnopqrstuvwxyz", rfl, for_it walk_str (fun i σ H3 => ∃ y2, σ = [some (.str z), some (.ref D), y2] ∧ Same H H3 ∧ H3 D = some (.lst (((qAll i).filter (· != z)).map V.str))) ⟨none, rfl, same_upd nD, upd_same⟩ (fun _ _ _ _ _ => trivial) (fun i x σ H3 H4 hi h3 y => ?_) (fun σ H3 h3 => ?_)⟩
    · obtain ⟨y2, rfl, s3, hD⟩ := h3
      obtain ⟨rfl, ch, hch, rfl⟩ := y
      rw [habc] at hi
      have h1 := abc_at ⟨i, hi⟩
      have : ch = 97 + i := by
        have h2 : (Str.ofString "abcdefghijklmnopqrstuvwxyz").cps.toList[i]? = some ch := by
          rw [← hch]
          simp
        rw [h1] at h2
        exact (Option.some.inj h2).symm
      subst this
      have hq1 : (Str.ofString "q").length = 1 := by decide +kernel
      have hlen : (⟨#[97 + i]⟩ : Str).length + (Str.ofString "q").length ≤ sizeLine := by
        rw [hq1]
        show 1 + 1 ≤ sizeLine
        decide
      have tq : qAll (i + 1) = qAll i ++ [qs (97 + i)] := by
        unfold qAll
        rw [List.range_succ, List.map_append]
        rfl
      have hfl : ((qAll i).filter (· != z)).length ≤ 26 := by
        refine Nat.le_trans (List.length_filter_le _ _) ?_
        unfold qAll
        rw [List.length_map, List.length_range]
        omega
      refine ⟨.str ⟨#[97 + i]⟩, rfl, _, _, rfl, rfl, hlen, .str z, rfl, rfl, _, rfl, ?_⟩
      by_cases hyz : qs (97 + i) = z
      · have e : (!decide (V.str ((⟨#[97 + i]⟩ : Str) ++ Str.ofString "q") = V.str z)) = false := by
          rw [decide_eq_true (show V.str ((⟨#[97 + i]⟩ : Str) ++ Str.ofString "q") = V.str z from congrArg V.str hyz)]
          rfl
        rw [e]
        refine iteF ⟨_, rfl, s3, ?_⟩
        rw [tq, List.filter_append, List.filter_cons_of_neg (by rw [hyz]; simp), List.filter_nil, List.append_nil]
        exact hD
      · have e : (!decide (V.str ((⟨#[97 + i]⟩ : Str) ++ Str.ofString "q") = V.str z)) = true := by
          rw [decide_eq_false (show ¬ V.str ((⟨#[97 + i]⟩ : Str) ++ Str.ofString "q") = V.str z from fun q => hyz (by injection q))]
          rfl
        rw [e]
        refine iteT ⟨.ref D, rfl, .inl ⟨rfl, _, sql hD⟩, .str ⟨#[97 + i]⟩, rfl, _, _, rfl, rfl, hlen, D, _, _, rfl, rfl, hD, by rw [List.length_map, sizeLine_eq]; omega, _, rfl, Same.put s3 nD, ?_⟩
        rw [upd_same, tq, List.filter_append, List.filter_cons_of_pos (by simpa using hyz), List.map_append]
        rfl
    · obtain ⟨y2, rfl, s3, hD⟩ := h3
      rw [habc] at hD
      exact ⟨.ref D, rfl, q H3 D s3 nD hD⟩
end
end Kb

namespace Kb
open PySem PySem.Spec PyProof.Rows L2 SrtZ SrtO
abbrev spaper : Stmt := topS 75
theorem scpaper : FnScope ["_law_sketch_here", "_law_name_here", "_law_there", "_law_room_here", "_law_many", "_law_off", "_law_kept_here", "_law_lost", "_law_items", "_law_one", "_law_count_here", "_law_steps", "_law_others_here", "_law_k", "_law_size", "_law_layer"] ["_law_sketch_here", "_law_name_here", "_law_there"] (defScope spaper) := ⟨rfl, rfl, rfl, by decide +kernel, rfl, by decide +kernel, by decide +kernel⟩
abbrev Dnpaper (K : PySem.W.Frag) (mg : Str → Option Value) := Dn K mg "_law_paper" spaper ["_law_sketch_here", "_law_name_here", "_law_there"]
def laysP (z : Str) (there : Bool) (on ln k : Nat) : List (List Str) := (List.range k).map fun k => layZ z there (szL on ln k)
theorem laysP_succ (z : Str) (there : Bool) (on ln k : Nat) : laysP z there on ln (k + 1) = laysP z there on ln k ++ [layZ z there (szL on ln k)] := by
  unfold laysP
  rw [List.range_succ, List.map_append]
  rfl
theorem spread_snoc (kvs : Ct) (e : Str × Int) : spread (kvs ++ [e]) = spread kvs ++ List.replicate e.2.toNat e.1 := by
  unfold spread
  rw [List.flatMap_append]
  show _ ++ (List.replicate e.2.toNat e.1 ++ []) = _
  rw [List.append_nil]
theorem flat_one {α : Type} (x : α) : ∀ n : Nat, (List.replicate n [x]).flatten = List.replicate n x
  | 0 => rfl
  | n + 1 => by
    rw [List.replicate_succ, List.flatten_cons, flat_one x n, List.replicate_succ]
    rfl
theorem szL_int {on ln k : Nat} : ((ln : Int) / (on : Int)) + (if (decide ((k : Int) < (ln : Int) % (on : Int))) = true then 1 else 0) = ((szL on ln k : Nat) : Int) := by
  unfold szL
  have e1 : (ln : Int) / (on : Int) = ((ln / on : Nat) : Int) := rfl
  have e2 : (ln : Int) % (on : Int) = ((ln % on : Nat) : Int) := rfl
  rw [e1, e2]
  by_cases h : k < ln % on
  · rw [if_pos h, decide_eq_true (show (k : Int) < ((ln % on : Nat) : Int) by omega), if_pos rfl]
    push_cast
    rfl
  · rw [if_neg h, decide_eq_false (show ¬ (k : Int) < ((ln % on : Nat) : Int) by omega), if_neg (by decide)]
    push_cast
    rfl
section
variable {P : Program} {w : World} {K : PySem.W.Frag} {mg : Str → Option Value} {base : Heap}
/-! _law_paper -/
def spPaper (K : PySem.W.Frag) : Sp := fun vs H Q _ => ∃ (s : Addr) (z : Str) (there : Bool) (rn on ln : Nat) (m : Int) (kvs : Ct), vs = [.ref s, .str z, .bl there] ∧ SkAt H s rn ⟨m, on, kvs⟩ ∧ Cts kvs ∧ kvs.length ≤ 64 ∧ (∀ e ∈ kvs, e.2 ≤ 1000) ∧ Nm z ∧ 1 ≤ rn ∧ rn ≤ 12 ∧ on ≤ 100 ∧ m - sumC kvs = ln ∧ (∀ k, k < on → rn < szL on ln k ∧ szL on ln k ≤ 2 * rn) ∧
  ∀ H' t, Same H H' → TreeAt K H' t (.put (spread kvs) :: laysG rn (laysP z there on ln on)) → Q (.ref t) H'
theorem ok_paper (T : Blt mg) (dsum : Dnsum K mg) (dothers : Dnothers K mg) (d : Dnpaper K mg) : FnOk P w K mg base CX0 2 d.f d.fd ["_law_sketch_here", "_law_name_here", "_law_there"] (spPaper K) := by
  have Gsum : FnOk P w K mg base CX0 1 dsum.f dsum.fd ["_law_counts"] (spSum K) := ok_sum T dsum
  have Gothers : FnOk P w K mg base CX0 1 dothers.f dothers.fd ["_law_name_here"] spOthers := ok_others T dothers
  refine d.F.ok scpaper (fun vs H Q E h => ?_) (fun cdv A outer s H vs Q E hr h => ?_)
  · obtain ⟨s, z, there, rn, on, ln, m, kvs, rfl, _⟩ := h
    rfl
  · obtain ⟨sk, z, there, rn, on, ln, m, kvs, rfl, hs, cts, hkl, hv, hz, hr1, hr12, hon, hln, hsz, q⟩ := h
    refine ⟨_, (pss_cons (ps_asg (pv 0) (pg_tup (by rfl) (pgs_cons (pg_name (i := 3) scpaper.nd rfl (Or.inl rfl)) (pgs_cons (pg_name (i := 4) scpaper.nd rfl (Or.inl rfl)) (pgs_cons (pg_name (i := 5) scpaper.nd rfl (Or.inl rfl)) (pgs_cons (pg_name (i := 6) scpaper.nd rfl (Or.inl rfl)) pgs_nil))))))
    (pss_cons (ps_set (i := 7) scpaper.nd rfl (Or.inl rfl) (pe_op op_sub (pv 4) (pe_call Gsum (hr.mono (by omega)) (by rfl) dsum.g dsum.F.kp dsum.b .nil pass0 (pa_cons (pv 6) pa_nil))))
    (pss_cons (ps_set (i := 8) scpaper.nd rfl (Or.inl rfl) (pe_lst pa_nil))
    (pss_cons (ps_for PassesOwn.never rfl (pi_tup (pv 6)) (pg_tup (by rfl) (pgs_cons (pg_name (i := 9) scpaper.nd rfl (Or.inl rfl)) (pgs_cons (pg_name (i := 10) scpaper.nd rfl (Or.inl rfl)) pgs_nil)))
      (pss_one (ps_set (i := 8) scpaper.nd rfl (Or.inl rfl) (pe_op op_cat (pv 8) (pe_op op_rep (pe_lst (pa_cons (pv 9) pa_nil)) (pv 10))))))
    (pss_cons (ps_set (i := 11) scpaper.nd rfl (Or.inl rfl) (pe_lst (pa_cons (pe_tup (pa_cons pe_str (pa_cons (pe_callTy call_tuple_of (by rfl) T.n_tuple (by decide +kernel) (pa_cons (pv 8) pa_nil)) pa_nil))) pa_nil)))
    (pss_cons (ps_set (i := 12) scpaper.nd rfl (Or.inl rfl) (pe_call Gothers (hr.mono (by omega)) (by rfl) dothers.g dothers.F.kp dothers.b .nil pass0 (pa_cons (pv 1) pa_nil)))
    (pss_cons (ps_for PassesOwn.never rfl (pi_range1 (by rfl) T.n_range (pa_cons (pv 5) pa_nil)) (pg_name (i := 13) scpaper.nd rfl (Or.inl rfl))
      (pss_cons (ps_set (i := 14) scpaper.nd rfl (Or.inl rfl) (pe_op op_add (pe_op op_fdiv (pv 7) (pv 5)) (pe_callTy call_int1 (by rfl) T.n_int (by decide +kernel) (pa_cons (pe_cmpR op_lt (pv 13) (pe_op op_mod (pe_callTy call_int1 (by rfl) T.n_int (by decide +kernel) (pa_cons (pv 7) pa_nil)) (pv 5)) (nomark _)) pa_nil))))
      (pss_cons (ps_set (i := 15) scpaper.nd rfl (Or.inl rfl) (pe_slice sl_list (pe_op op_cat (pe_op op_rep (pe_lst (pa_cons (pv 1) pa_nil)) (pe_callTy call_int1 (by rfl) T.n_int (by decide +kernel) (pa_cons (pv 2) pa_nil))) (pv 12)) po_none (po_some (pv 14))))
      (pss_one (ps_set (i := 11) scpaper.nd rfl (Or.inl rfl) (pe_op op_cat (pv 11) (pe_lst (pa_cons (pe_tup (pa_cons pe_str (pa_cons (pe_callTy call_tuple_of (by rfl) T.n_tuple (by decide +kernel) (pa_cons (pe_slice sl_list (pv 15) po_none (po_some (pv 3))) pa_nil)) pa_nil))) (pa_cons (pe_tup (pa_cons pe_str (pa_cons (pe_callTy call_tuple_of (by rfl) T.n_tuple (by decide +kernel) (pa_cons (pe_slice sl_list (pv 15) (po_some (pv 3)) po_none) pa_nil)) pa_nil))) (pa_cons (pe_tup (pa_cons pe_str pa_nil)) (pa_cons (pe_tup (pa_cons pe_str pa_nil)) pa_nil)))))))))))
    (pss_one (ps_ret (pe_callTy call_tuple_of (by rfl) T.n_tuple (by decide +kernel) (pa_cons (pv 11) pa_nil))))))))))), ?_⟩
    obtain ⟨kk, ts, h1, h2, h3⟩ := hs
    rw [show srtZ (Tl.mk m on kvs).c = kvs from srt_asc cts.asc] at h3
    have hpr : Paired (PrAt K H) ts kvs := paired_imp (fun t e h => .inl (.inl h)) h3
    have h1 : H sk = some (.tup [.int rn, .int m, .int on, .ref kk]) := h1
    refine ⟨.ref sk, rfl, sk, _, rfl, .inl (.inl h1), rfl, _, _, rfl, _, _, rfl, _, _, rfl, _, _, rfl, rfl, ?_⟩
    refine ⟨.int m, rfl, .ref kk, rfl, kk, kvs, rfl, ⟨ts, h2.seq, hpr⟩, by omega, fun H1 s1 => ⟨_, _, rfl, rfl, ?_⟩⟩
    dsimp only
    rw [hln]
    refine ⟨(by show 0 ≤ sizeLine; decide), fun D0 nD0 => ?_⟩
    have s2 : Same H (upd H1 D0 (.lst [])) := Same.new s1 nD0
    have hD2 : (upd H1 D0 (.lst [])) D0 = some (.lst ((spread (kvs.take 0)).map V.str)) := upd_same
    generalize upd H1 D0 (.lst []) = H2 at s2 hD2 ⊢
    have hsl : ∀ i, ((spread (kvs.take i)).length : Int) ≤ 1000 * (i : Int) := fun i => by
      have pos : ∀ e ∈ kvs.take i, 1 ≤ e.2 := fun e he => cts.pos e (List.mem_of_mem_take he)
      rw [spread_len pos]
      have go : ∀ l : Ct, (∀ e ∈ l, e.2 ≤ 1000) → sumC l ≤ 1000 * (l.length : Int) := by
        intro l
        induction l with
        | nil => intro _; exact Int.le_refl _
        | cons e l ih =>
          intro h
          have g1 := h e List.mem_cons_self
          have g2 := ih fun x hx => h x (List.mem_cons_of_mem _ hx)
          rw [sumC_cons, List.length_cons]
          push_cast
          omega
      have := go (kvs.take i) fun e he => hv e (List.mem_of_mem_take he)
      rw [List.length_take] at this
      have h5 : ((min i kvs.length : Nat) : Int) ≤ (i : Int) := by omega
      omega
    refine ⟨.ref kk, rfl, kk, rfl, ⟨_, seqT h2.seq s2⟩, for_tup (xs := ts.map V.ref) (fun i σ H3 => ∃ (D : Addr) (y9 y10 : Option V), σ = [some (.ref sk), some (.str z), some (.bl there), some (.int rn), some (.int m), some (.int on), some (.ref kk), some (.int ln), some (.ref D), y9, y10, none, none, none, none, none] ∧ Same H H3 ∧ H3 D = some (.lst ((spread (kvs.take i)).map V.str)))
      ⟨D0, none, none, rfl, s2, hD2⟩ (fun i σ H3 _ ⟨_, _, _, _, s3, _⟩ => seqT h2.seq s3) ?_ ?_⟩
    · rintro i v σ H3 hi ⟨D, y9, y10, rfl, s3, hD⟩
      obtain ⟨t, ht, rfl⟩ := map_at hi
      obtain ⟨e, he, hat⟩ := paired_at hpr ht
      have hm := List.mem_of_getElem? he
      have hil := (List.getElem?_eq_some_iff.mp he).1
      have e1 := cts.pos e hm
      have e2 := hv e hm
      have hs3 := hsl i
      refine ⟨t, _, rfl, seqT hat s3, rfl, _, _, rfl, _, _, rfl, rfl, ?_⟩
      refine ⟨.ref D, rfl, .str e.1, rfl, (by show 1 ≤ sizeLine; decide), fun l nl => ?_⟩
      have s4 : Same H3 (upd H3 l (.lst [.str e.1])) := same_upd nl
      have hl4 : (upd H3 l (.lst [.str e.1])) l = some (.lst [.str e.1]) := upd_same
      generalize upd H3 l (.lst [.str e.1]) = H4 at s4 hl4 ⊢
      refine ⟨.int e.2, rfl, l, e.2, _, rfl, rfl, hl4, by omega, by omega, by rw [sizeLine_eq]; show 1 * _ ≤ _; omega, fun p np => ?_⟩
      rw [flat_one]
      have s5 : Same H4 (upd H4 p (.lst (List.replicate e.2.toNat (V.str e.1)))) := same_upd np
      have hp5 : (upd H4 p (.lst (List.replicate e.2.toNat (V.str e.1)))) p = some (.lst (List.replicate e.2.toNat (V.str e.1))) := upd_same
      generalize upd H4 p (.lst (List.replicate e.2.toNat (V.str e.1))) = H5 at s5 hp5 ⊢
      have s35 : Same H3 H5 := fun b u e => s5 _ _ (s4 _ _ e)
      refine ⟨_, _, _, _, rfl, rfl, s35 _ _ hD, hp5, by rw [List.length_map, List.length_replicate, sizeLine_eq]; omega, fun p2 np2 => ?_⟩
      have s6 : Same H5 (upd H5 p2 (.lst ((spread (kvs.take i)).map V.str ++ List.replicate e.2.toNat (V.str e.1)))) := same_upd np2
      refine ⟨p2, _, _, rfl, fun b u e => s6 _ _ (s35 _ _ (s3 _ _ e)), ?_⟩
      rw [upd_same, List.take_add_one, he]
      show some (HO.lst _) = some (.lst ((spread (kvs.take i ++ [e])).map V.str))
      rw [spread_snoc, List.map_append, List.map_replicate]
    · rintro σ H3 ⟨D, y9, y10, rfl, s3, hD⟩
      rw [List.length_map, Paired.length hpr, List.take_length] at hD
      have hsp := hsl kvs.length
      rw [List.take_length] at hsp
      refine ⟨.ref D, rfl, D, _, rfl, .inl ⟨sql hD, fun t nt => ⟨(by show 2 ≤ sizeLine; decide), fun b nb => ⟨(by show 1 ≤ sizeLine; decide), fun S nS => ?_⟩⟩⟩⟩
      have s4 : Same H3 (upd (upd (upd H3 t (.tup ((spread kvs).map V.str))) b (.tup [.str (Str.ofString "stream"), .ref t])) S (.lst [.ref b])) := Same.new (Same.new (same_upd nt) nb) nS
      have ht := Same.new (o := .lst [.ref b]) (same_upd nb (o := .tup [.str (Str.ofString "stream"), .ref t])) nS _ _ (upd_same (H := H3) (a := t) (o := .tup ((spread kvs).map V.str)))
      have hb' := same_upd (o := .lst [.ref b]) nS _ _ (upd_same (H := upd H3 t (.tup ((spread kvs).map V.str))) (a := b) (o := .tup [.str (Str.ofString "stream"), .ref t]))
      have hS : (upd (upd (upd H3 t (.tup ((spread kvs).map V.str))) b (.tup [.str (Str.ofString "stream"), .ref t])) S (.lst [.ref b])) S = some (.lst [.ref b]) := upd_same
      generalize upd (upd (upd H3 t (.tup ((spread kvs).map V.str))) b (.tup [.str (Str.ofString "stream"), .ref t])) S (.lst [.ref b]) = H4 at s4 ht hb' hS ⊢
      have s04 : Same H H4 := fun b u e => s4 _ _ (s3 _ _ e)
      refine ⟨.str z, rfl, z, rfl, by have := hz.len; omega, fun H5 po s5 npo hpo => ?_⟩
      have s05 : Same H H5 := fun b u e => s5 _ _ (s04 _ _ e)
      have hop := oth_len z
      refine ⟨.int on, rfl, (on : Int), rfl, by omega, by omega, ?_⟩
      rw [Int.toNat_natCast]
      have spn : ∀ y ∈ spread kvs, Nm y := fun y hy => by
        obtain ⟨e, he, rfl⟩ := spread_mem hy
        exact cts.nm e he
      refine for_range (lo := 0) (n := on) (fun k σ H6 => ∃ (S6 : Addr) (us : List V) (y9 y10 y13 y14 y15 : Option V), σ = [some (.ref sk), some (.str z), some (.bl there), some (.int rn), some (.int m), some (.int on), some (.ref kk), some (.int ln), some (.ref D), y9, y10, some (.ref S6), some (.ref po), y13, y14, y15] ∧ Same H5 H6 ∧ H6 S6 = some (.lst us) ∧ Paired (StpAt K H6) us (.put (spread kvs) :: laysG rn (laysP z there on ln k)))
        ⟨S, _, y9, y10, none, none, none, rfl, Same.refl H5, s5 _ _ hS, .cons ⟨b, t, rfl, .inl (.inl (s5 _ _ hb')), .inl (.inl (s5 _ _ ht)), spn, by omega⟩ .nil⟩ ?_ ?_
      · rintro k σ H6 hk ⟨S6, us, y9, y10, y13, y14, y15, rfl, s6, hS6, hus⟩
        obtain ⟨z1, z2⟩ := hsz k hk
        have hul : us.length ≤ 500 := by
          rw [Paired.length hus, List.length_cons, laysG_len]
          unfold laysP
          rw [List.length_map, List.length_range]
          omega
        refine ⟨.int ln, rfl, .int on, rfl, _, _, rfl, rfl, ⟨by omega, by omega⟩, .int _, rfl, .int ln, rfl, .inl ⟨_, rfl, .int on, rfl, _, _, rfl, rfl, (by omega), _, _, rfl, rfl, .inr ⟨_, rfl, _, _, rfl, rfl, ?_⟩⟩⟩
        dsimp only
        rw [show (0 : Int) + (k : Int) = (k : Int) by omega, szL_int]
        -- the layer
        refine ⟨.str z, rfl, (by show 1 ≤ sizeLine; decide), fun l1 nl1 => ?_⟩
        have s7 : Same H6 (upd H6 l1 (.lst [.str z])) := same_upd nl1
        have hl1 : (upd H6 l1 (.lst [.str z])) l1 = some (.lst [.str z]) := upd_same
        generalize upd H6 l1 (.lst [.str z]) = H7 at s7 hl1 ⊢
        refine ⟨.bl there, rfl, .inr ⟨_, rfl, l1, (if there = true then 1 else 0), _, rfl, rfl, hl1, by cases there <;> decide, by cases there <;> decide, by rw [sizeLine_eq]; show 1 * _ ≤ _; cases there <;> decide, fun l2 nl2 => ?_⟩⟩
        have e2 : (List.replicate (if there = true then (1 : Int) else 0).toNat [V.str z]).flatten = ((if there then [z] else []) : List Str).map V.str := by cases there <;> rfl
        rw [e2]
        have s8 : Same H7 (upd H7 l2 (.lst (((if there then [z] else []) : List Str).map V.str))) := same_upd nl2
        have hl2 : (upd H7 l2 (.lst (((if there then [z] else []) : List Str).map V.str))) l2 = some (.lst (((if there then [z] else []) : List Str).map V.str)) := upd_same
        generalize upd H7 l2 (.lst (((if there then [z] else []) : List Str).map V.str)) = H8 at s8 hl2 ⊢
        have hpo8 := s8 _ _ (s7 _ _ (s6 _ _ hpo))
        refine ⟨.ref po, rfl, _, _, _, _, rfl, rfl, hl2, hpo8, by rw [List.length_map, List.length_map, sizeLine_eq]; cases there <;> (show _ + _ ≤ _; simp only [List.length_nil, List.length_cons, if_true, if_false, Bool.false_eq_true]; omega), fun l3 nl3 => ?_⟩
        rw [← List.map_append]
        have s9 : Same H8 (upd H8 l3 (.lst (((if there then [z] else []) ++ oth z).map V.str))) := same_upd nl3
        have hl3 : (upd H8 l3 (.lst (((if there then [z] else []) ++ oth z).map V.str))) l3 = some (.lst (((if there then [z] else []) ++ oth z).map V.str)) := upd_same
        generalize upd H8 l3 (.lst (((if there then [z] else []) ++ oth z).map V.str)) = H9 at s9 hl3 ⊢
        refine ⟨.int (szL on ln k : Nat), rfl, ((szL on ln k : Nat) : Int), rfl, l3, _, rfl, sql hl3, fun l4 nl4 => ?_⟩
        rw [cut_to, ← List.map_take]
        have eL : ((if there then [z] else []) ++ oth z).take (szL on ln k) = layZ z there (szL on ln k) := rfl
        rw [eL]
        have lzl : (layZ z there (szL on ln k)).length = szL on ln k := layZ_len (by omega)
        have lzn : ∀ y ∈ layZ z there (szL on ln k), Nm y := fun y hy => layZ_nm hz hy
        have tL := laysP_succ z there on ln k
        generalize layZ z there (szL on ln k) = L at lzl lzn tL ⊢
        have sA : Same H9 (upd H9 l4 (.lst (L.map V.str))) := same_upd nl4
        have hlA : (upd H9 l4 (.lst (L.map V.str))) l4 = some (.lst (L.map V.str)) := upd_same
        generalize upd H9 l4 (.lst (L.map V.str)) = HA at sA hlA ⊢
        have s6A : Same H6 HA := fun b u e => sA _ _ (s9 _ _ (s8 _ _ (s7 _ _ e)))
        -- its steps
        refine ⟨.ref S6, rfl, .ref l4, rfl, .int rn, rfl, (rn : Int), rfl, l4, _, rfl, sql hlA, fun p1 np1 => ?_⟩
        rw [cut_to, ← List.map_take]
        have sB : Same HA (upd HA p1 (.lst ((L.take rn).map V.str))) := same_upd np1
        have hB : (upd HA p1 (.lst ((L.take rn).map V.str))) p1 = some (.lst ((L.take rn).map V.str)) := upd_same
        generalize upd HA p1 (.lst ((L.take rn).map V.str)) = HB at sB hB ⊢
        refine ⟨p1, _, rfl, .inl ⟨sql hB, fun t1 nt1 => ⟨(by show 2 ≤ sizeLine; decide), fun b1 nb1 => ?_⟩⟩⟩
        have sC1 : Same HB (upd HB t1 (.tup ((L.take rn).map V.str))) := same_upd nt1
        have hC1 : (upd HB t1 (.tup ((L.take rn).map V.str))) t1 = some (.tup ((L.take rn).map V.str)) := upd_same
        generalize upd HB t1 (.tup ((L.take rn).map V.str)) = HC1 at sC1 hC1 nb1 ⊢
        have sC : Same HC1 (upd HC1 b1 (.tup [.str (Str.ofString "stream"), .ref t1])) := same_upd nb1
        have hC : (upd HC1 b1 (.tup [.str (Str.ofString "stream"), .ref t1])) b1 = some (.tup [.str (Str.ofString "stream"), .ref t1]) := upd_same
        generalize upd HC1 b1 (.tup [.str (Str.ofString "stream"), .ref t1]) = HC at sC hC ⊢
        have sAC : Same HA HC := fun b u e => sC _ _ (sC1 _ _ (sB _ _ e))
        refine ⟨.ref l4, rfl, .int rn, rfl, (rn : Int), rfl, l4, _, rfl, sql (sAC _ _ hlA), fun p2 np2 => ?_⟩
        rw [cut_from, ← List.map_drop]
        have sD : Same HC (upd HC p2 (.lst ((L.drop rn).map V.str))) := same_upd np2
        have hDD : (upd HC p2 (.lst ((L.drop rn).map V.str))) p2 = some (.lst ((L.drop rn).map V.str)) := upd_same
        generalize upd HC p2 (.lst ((L.drop rn).map V.str)) = HD at sD hDD ⊢
        refine ⟨p2, _, rfl, .inl ⟨sql hDD, fun t2 nt2 => ⟨(by show 2 ≤ sizeLine; decide), fun b2 nb2 => ⟨(by show 1 ≤ sizeLine; decide), fun e1 ne1 => ⟨(by show 1 ≤ sizeLine; decide), fun e2 ne2 => ⟨(by show 4 ≤ sizeLine; decide), fun l5 nl5 => ?_⟩⟩⟩⟩⟩⟩
        have sE1 : Same HD (upd HD t2 (.tup ((L.drop rn).map V.str))) := same_upd nt2
        have hE1 : (upd HD t2 (.tup ((L.drop rn).map V.str))) t2 = some (.tup ((L.drop rn).map V.str)) := upd_same
        generalize upd HD t2 (.tup ((L.drop rn).map V.str)) = HE1 at sE1 hE1 nb2 ne1 ne2 nl5 ⊢
        have sE2 : Same HE1 (upd HE1 b2 (.tup [.str (Str.ofString "stream"), .ref t2])) := same_upd nb2
        have hE2 : (upd HE1 b2 (.tup [.str (Str.ofString "stream"), .ref t2])) b2 = some (.tup [.str (Str.ofString "stream"), .ref t2]) := upd_same
        generalize upd HE1 b2 (.tup [.str (Str.ofString "stream"), .ref t2]) = HE2 at sE2 hE2 ne1 ne2 nl5 ⊢
        have sE3 : Same HE2 (upd HE2 e1 (.tup [.str (Str.ofString "pour")])) := same_upd ne1
        have hE3 : (upd HE2 e1 (.tup [.str (Str.ofString "pour")])) e1 = some (.tup [.str (Str.ofString "pour")]) := upd_same
        generalize upd HE2 e1 (.tup [.str (Str.ofString "pour")]) = HE3 at sE3 hE3 ne2 nl5 ⊢
        have sE4 : Same HE3 (upd HE3 e2 (.tup [.str (Str.ofString "pour")])) := same_upd ne2
        have hE4 : (upd HE3 e2 (.tup [.str (Str.ofString "pour")])) e2 = some (.tup [.str (Str.ofString "pour")]) := upd_same
        generalize upd HE3 e2 (.tup [.str (Str.ofString "pour")]) = HE4 at sE4 hE4 nl5 ⊢
        have sE5 : Same HE4 (upd HE4 l5 (.lst [.ref b1, .ref b2, .ref e1, .ref e2])) := same_upd nl5
        have hE5 : (upd HE4 l5 (.lst [.ref b1, .ref b2, .ref e1, .ref e2])) l5 = some (.lst [.ref b1, .ref b2, .ref e1, .ref e2]) := upd_same
        generalize upd HE4 l5 (.lst [.ref b1, .ref b2, .ref e1, .ref e2]) = HE5 at sE5 hE5 ⊢
        have c4 : Same HE3 HE5 := fun b u e => sE5 _ _ (sE4 _ _ e)
        have c3 : Same HE2 HE5 := fun b u e => c4 _ _ (sE3 _ _ e)
        have c2 : Same HE1 HE5 := fun b u e => c3 _ _ (sE2 _ _ e)
        have cD : Same HD HE5 := fun b u e => c2 _ _ (sE1 _ _ e)
        have cC : Same HC HE5 := fun b u e => cD _ _ (sD _ _ e)
        have cA : Same HA HE5 := fun b u e => cC _ _ (sAC _ _ e)
        have c6 : Same H6 HE5 := fun b u e => cA _ _ (s6A _ _ e)
        refine ⟨_, _, _, _, rfl, rfl, c6 _ _ hS6, hE5, by rw [sizeLine_eq]; show us.length + 4 ≤ _; omega, fun S7 nS7 => ?_⟩
        have sF : Same HE5 (upd HE5 S7 (.lst (us ++ [.ref b1, .ref b2, .ref e1, .ref e2]))) := same_upd nS7
        have cF : Same H6 (upd HE5 S7 (.lst (us ++ [.ref b1, .ref b2, .ref e1, .ref e2]))) := fun b u e => sF _ _ (c6 _ _ e)
        refine ⟨S7, _, _, _, _, _, _, rfl, fun b u e => cF _ _ (s6 _ _ e), upd_same, ?_⟩
        rw [tL, laysG_snoc]
        have base := paired_imp (fun v t h => StpAt.same h cF) hus
        have tk : (L.take rn).length ≤ 100000 := by rw [List.length_take]; omega
        have dr : (L.drop rn).length ≤ 100000 := by rw [List.length_drop]; omega
        have lay : Paired (StpAt K (upd HE5 S7 (.lst (us ++ [.ref b1, .ref b2, .ref e1, .ref e2])))) [V.ref b1, .ref b2, .ref e1, .ref e2] (layG rn L) :=
          .cons ⟨b1, t1, rfl, .inl (.inl (sF _ _ (cC _ _ hC))), .inl (.inl (sF _ _ (cC _ _ (sC _ _ hC1)))), fun y hy => lzn y (List.mem_of_mem_take hy), tk⟩
          (.cons ⟨b2, t2, rfl, .inl (.inl (sF _ _ (c3 _ _ hE2))), .inl (.inl (sF _ _ (c2 _ _ hE1))), fun y hy => lzn y (List.mem_of_mem_drop hy), dr⟩
          (.cons ⟨e1, rfl, .inl (.inl (sF _ _ (c4 _ _ hE3)))⟩
          (.cons ⟨e2, rfl, .inl (.inl (sF _ _ (sE5 _ _ hE4)))⟩ .nil)))
        exact paired_app base lay
      · rintro σ H6 ⟨S6, us, y9, y10, y13, y14, y15, rfl, s6, hS6, hus⟩
        refine ⟨.ref S6, rfl, S6, _, rfl, .inl ⟨sql hS6, fun u nu => ?_⟩⟩
        have s7 : Same H6 (upd H6 u (.tup us)) := same_upd nu
        exact q _ u (fun b o e => s7 _ _ (s6 _ _ (s05 _ _ e))) ⟨us, .inl (.inl upd_same), paired_imp (fun v t h => StpAt.same h s7) hus⟩
end
end Kb

namespace Kb
open PySem PySem.Spec PyProof.Rows L2 SrtZ SrtO
abbrev scount_of : Stmt := topS 76
theorem sccount_of : FnScope ["_law_tree", "_law_name_here"] ["_law_tree", "_law_name_here"] (defScope scount_of) := ⟨rfl, rfl, rfl, by decide +kernel, rfl, by decide +kernel, by decide +kernel⟩
abbrev Dncount_of (K : PySem.W.Frag) (mg : Str → Option Value) := Dn K mg "_law_count_of" scount_of ["_law_tree", "_law_name_here"]
abbrev slaw : Stmt := topS 77
theorem sclaw : FnScope ["_law_script", "_law_well_here", "_law_sketches", "_law_names_here", "_law_turn", "_law_name_here", "_law_told", "_law_least", "_law_most", "_law_sketch_here", "_law_seldom", "_law_often"] ["_law_script"] (defScope slaw) := ⟨rfl, rfl, rfl, by decide +kernel, rfl, by decide +kernel, by decide +kernel⟩
abbrev Dnlaw (K : PySem.W.Frag) (mg : Str → Option Value) := Dn K mg "law" slaw ["_law_script"]
theorem val_low (c : Ct) (n : Str) : ((getZ c n).map V.int).getD (V.int 0) = V.int (lowZ c n) := by
  unfold lowZ
  cases getZ c n <;> rfl
theorem low_gd {c : Ct} (nd : NdZ c) (z : Str) : lowZ (srtZ c) z = gd c z := by
  unfold lowZ gd
  rw [getZ_perm (srtZ_perm c) (((srtZ_perm c).map (·.1)).nodup_iff.mpr nd)]
theorem eqv_two {K : PySem.W.Frag} {H : Hp} {p q : Addr} {a b : Int} (h1 : SqT K H p [.int a, .int b]) (h2 : SqT K H q [.int a, .int b]) : Eqv K 1 H (.ref p) (.ref q) :=
  .inr ⟨p, q, _, _, rfl, rfl, h1, h2, rfl, (by show 2 ≤ 1000; decide), fun i u v hu hv => by
    match i, hu, hv with
    | 0, hu, hv =>
      cases hu
      cases hv
      exact .inl ⟨_, rfl, rfl⟩
    | 1, hu, hv =>
      cases hu
      cases hv
      exact .inl ⟨_, rfl, rfl⟩
    | i + 2, hu, hv => simp at hu⟩
/-- a sketch of this law: small -/
structure SkS (x : Sk) : Prop where
  v : SkV x
  r6 : x.r ≤ 6
  o4 : x.o ≤ 4
  c6 : ∀ e ∈ x.c, e.2 ≤ 6
/-- a small sketch, in whole numbers -/
theorem SkS.nat {x : Sk} (h : SkS x) : ∃ rn on ln : Nat, x.r = rn ∧ x.o = on ∧ x.m - sumC x.c = ln ∧ 1 ≤ rn ∧ rn ≤ 6 ∧ on ≤ 4 ∧ (rn + 1) * on ≤ ln ∧ ln ≤ 2 * rn * on := by
  have g := h.v
  obtain ⟨rn, hr⟩ := Int.eq_ofNat_of_zero_le (show 0 ≤ x.r by have := g.r1; omega)
  obtain ⟨on, ho⟩ := Int.eq_ofNat_of_zero_le g.o0
  have lo := g.lo
  have hi := g.hi
  have hl0 : 0 ≤ x.m - sumC x.c := Int.le_trans (Int.mul_nonneg (by have := g.r1; omega) g.o0) lo
  obtain ⟨ln, hl⟩ := Int.eq_ofNat_of_zero_le hl0
  refine ⟨rn, on, ln, hr, ho, hl, by have := g.r1; omega, by have := h.r6; omega, by have := h.o4; omega, ?_, ?_⟩
  · rw [hl, hr, ho] at lo
    exact_mod_cast lo
  · rw [hl, hr, ho] at hi
    exact_mod_cast hi
/-- the tree of a paper leads to the sketch -/
theorem paper_run {x : Sk} (h : SkS x) {rn on ln : Nat} (hr : x.r = rn) (ho : x.o = on) (hl : x.m - sumC x.c = ln) (r1 : 1 ≤ rn) (r6 : rn ≤ 6) (o4 : on ≤ 4) (h1 : (rn + 1) * on ≤ ln) (h2 : ln ≤ 2 * rn * on) (z : Str) (there : Bool) :
    runT rn (.put (spread x.c) :: laysG rn (laysP z there on ln on)) = [⟨x.m, x.o, x.c⟩] ∧ lnG (laysP z there on ln on) = ln := by
  have g := h.v
  have hsz := sz_bounds h1 h2
  have nd : NdZ x.c := asc_nd g.cts.asc
  have hlen : (x.c.length : Int) ≤ rn := by rw [← hr]; exact g.len
  have hb : ∀ l ∈ laysP z there on ln on, LayOk rn l := fun l hl' => by
    obtain ⟨k, hk, rfl⟩ := List.mem_map.mp hl'
    obtain ⟨a, b⟩ := hsz k (List.mem_range.mp hk)
    exact layZ_ok a b (by omega)
  have e0 : feedsT rn (spread x.c) tl0 = ⟨sumC x.c, 0, x.c⟩ := by
    have := feeds_spread (r := rn) (o := 0) x.c [] 0 (by rw [List.nil_append]; exact nd) g.cts.pos (by rw [List.nil_append]; exact hlen)
    rw [List.nil_append, Int.zero_add] at this
    exact this
  have hll : lnG (laysP z there on ln on) = ln := by
    have go : ∀ k, k ≤ on → lnG (laysP z there on ln k) = (totL on ln k : Int) := by
      intro k
      induction k with
      | zero =>
        intro _
        show (0 : Int) = ((totL on ln 0 : Nat) : Int)
        unfold totL
        simp
      | succ k ih =>
        intro hk
        obtain ⟨a, b⟩ := hsz k (by omega)
        rw [laysP_succ, totL_succ]
        unfold lnG at ih ⊢
        rw [List.map_append, List.sum_append, ih (by omega)]
        show _ + (((layZ z there (szL on ln k)).length : Int) + 0) = _
        rw [layZ_len (by omega)]
        push_cast
        omega
    rw [go on (Nat.le_refl _), totL_all fun e => by rw [e, Nat.mul_zero] at h2; omega]
  refine ⟨?_, hll⟩
  show (laysG rn (laysP z there on ln on)).foldl (stepT rn) [feedsT rn (spread x.c) tl0] = _
  rw [e0, run_laysG hlen hb, hll]
  have e1 : (laysP z there on ln on).length = on := by
    unfold laysP
    rw [List.length_map, List.length_range]
  rw [e1, ← hl, ho]
  congr 2
  · omega
  · omega
theorem paper_count {x : Sk} (h : SkS x) {rn on ln : Nat} (h1 : (rn + 1) * on ≤ ln) (h2 : ln ≤ 2 * rn * on) (z : Str) (there : Bool) :
    gd (cntT (.put (spread x.c) :: laysG rn (laysP z there on ln on))) z = lowZ x.c z + if there then (on : Int) else 0 := by
  have g := h.v
  have hsz := sz_bounds h1 h2
  rw [cnt_treeG, count_spread z (asc_nd g.cts.asc) g.cts.pos]
  have go : ∀ k, k ≤ on → ((laysP z there on ln k).map fun l => ((l.count z : Nat) : Int)).sum = if there then (k : Int) else 0 := by
    intro k
    induction k with
    | zero => intro _; cases there <;> rfl
    | succ k ih =>
      intro hk
      obtain ⟨a, b⟩ := hsz k (by omega)
      rw [laysP_succ, List.map_append, List.sum_append, ih (by omega)]
      show _ + ((((layZ z there (szL on ln k)).count z : Nat) : Int) + 0) = _
      rw [layZ_count (by omega)]
      cases there
      · rfl
      · simp only [if_true]
        push_cast
        omega
  rw [go on (Nat.le_refl _)]
  rfl
section
variable {P : Program} {w : World} {K : PySem.W.Frag} {mg : Str → Option Value} {base : Heap}
/-! _law_count_of -/
def spCountOf (K : PySem.W.Frag) : Sp := fun vs H Q _ => ∃ (t : Addr) (z : Str) (l : List Stp), vs = [.ref t, .str z] ∧ TreeAt K H t l ∧ Tree l ∧ ∀ H', Same H H' → Q (.int (gd (cntT l) z)) H'
theorem ok_count_of (T : Blt mg) (cL : Cst mg "LONGEST_NAME" (.int 8)) (cS : Cst mg "MOST_STEPS" (.int 5000)) (cI : Cst mg "MOST_ITEMS" (.int 50000)) (dP_is_name : DnIsName K mg) (dP_is_stream : DnIsStream K mg) (dP_is_put : DnIsPut K mg) (dP_is_pour : DnIsPour K mg) (dP_is_tree : DnIsTree K mg) (dP_counts_of : DnCountsOf K mg) (d : Dncount_of K mg) :
    FnOk P w K mg base CX0 6 d.f d.fd ["_law_tree", "_law_name_here"] (spCountOf K) := by
  have GP_counts_of : FnOk P w K mg base CX0 5 dP_counts_of.f dP_counts_of.fd ["tree"] (spCountsOf K) := ok_counts_of T cL cS cI dP_is_name dP_is_stream dP_is_put dP_is_pour dP_is_tree dP_counts_of
  refine d.F.ok sccount_of (fun vs H Q E h => ?_) (fun cdv A outer s H vs Q E hr h => ?_)
  · obtain ⟨t, z, l, rfl, _⟩ := h
    rfl
  · obtain ⟨t, z, l, rfl, ht, tr, q⟩ := h
    have hu := hu_of hr
    refine ⟨_, (pss_one (ps_ret (pe_dget2 hu (pe_callTy (call_dictPT rfl) (by rfl) T.n_dict (by decide +kernel) (pa_cons (pe_call GP_counts_of (hr.mono (by omega)) (by rfl) dP_counts_of.g dP_counts_of.F.kp dP_counts_of.b .nil pass0 (pa_cons (pv 0) pa_nil)) pa_nil)) (pv 1) pe_int ⟨rfl, rfl, rfl, rfl⟩))), ?_⟩
    refine ⟨.ref t, rfl, t, l, rfl, ht, tr, fun H1 k ts s1 hk hp => ?_⟩
    have nd := cntT_nd l
    have nds : NdZ (srtZ (cntT l)) := ((srtZ_perm _).map (·.1)).nodup_iff.mpr nd
    refine ⟨k, ts, (srtZ (cntT l)).map entZ, rfl, hk, ents_paired (paired_imp (fun t e h => .inl (.inl h)) hp), fun d nd' => ?_⟩
    rw [show mergeK [] ((srtZ (cntT l)).map entZ) = (srtZ (cntT l)).map entZ from mergeZ _ [] nds]
    refine ⟨d, rfl, .inl ⟨_, .inl upd_same⟩, .str z, rfl, _, DGet.k (k := Sum.inr z) upd_same, ?_⟩
    rw [getZ_val, val_low, low_gd nd]
    exact q _ (Same.new s1 nd')
structure Defs (K : PySem.W.Frag) (mg : Str → Option Value) where
  T : Blt mg
  cM : Cst mg "MOST_ROOM" (.int 64)
  cL : Cst mg "LONGEST_NAME" (.int 8)
  cS : Cst mg "MOST_STEPS" (.int 5000)
  cI : Cst mg "MOST_ITEMS" (.int 50000)
  cK : Cst mg "MOST_SKETCHES" (.int 100)
  L : Tal K mg
  dP_is_int : DnIsInt K mg
  dP_is_number : DnIsNumber K mg
  dP_is_room : DnIsRoom K mg
  dP_is_name : DnIsName K mg
  dP_is_stream : DnIsStream K mg
  dP_is_put : DnIsPut K mg
  dP_is_pour : DnIsPour K mg
  dP_is_tree : DnIsTree K mg
  dP_are_counts : DnAreCounts K mg
  dP_is_counted : DnIsCounted K mg
  dP_counts_of : DnCountsOf K mg
  dP_lost_of : DnLostOf K mg
  dP_is_sketch : DnIsSketch K mg
  dP_bare : DnBare K mg
  dP_sketch_of : DnSketchOf K mg
  dP_asked : DnAsked K mg
  dP_parted : DnParted K mg
  dP_plans_of : DnPlansOf K mg
  dP_filled : DnFilled K mg
  dP_is_question : DnIsQuestion K mg
  dP_worth : DnWorth K mg
  dP_need_both : DnNeedBoth K mg
  dP_named : DnNamed K mg
  dP_ends : DnEnds K mg
  dP_are_sketches : DnAreSketches K mg
  dP_sum_ends : DnSumEnds K mg
  dmixed : Dnmixed K mg
  dwell : Dnwell K mg
  dfilled : Dnfilled K mg
  ddraw : Dndraw K mg
  dnumber : Dnnumber K mg
  dname : Dnname K mg
  dunlike : Dnunlike K mg
  dnames : Dnnames K mg
  dsum : Dnsum K mg
  dkept : Dnkept K mg
  dsketch : Dnsketch K mg
  dalike : Dnalike K mg
  dothers : Dnothers K mg
  dpaper : Dnpaper K mg
  dcount_of : Dncount_of K mg
def spLaw (K : PySem.W.Frag) : Sp := fun vs H Q _ => ∃ (a : Addr) (ns : List Int), vs = [.ref a] ∧ SqL K H a (ns.map V.int) ∧ ns.length ≤ 63 ∧ ∀ H', Q (.bl true) H'
/-- sketches of this law, on the heap -/
abbrev SksAt (H : Hp) (s : Addr) (x : Sk) : Prop := SkAt H s x.r ⟨x.m, x.o, x.c⟩ ∧ SkS x
theorem sksAt_exw {a c : Addr} {H H' : Hp} (x : Exw a H H') (w : Wl a c H) {s : Addr} {y : Sk} (h : SksAt H s y) : SksAt H' s y := by
  obtain ⟨⟨k, ts, h1, h2, h3⟩, h4⟩ := h
  exact ⟨⟨k, ts, x.at w h1 (by intro _ z; cases z), ptp_exw x w h2, prt_exw x w h3⟩, h4⟩
theorem ok_law (D : Defs K mg) (d : Dnlaw K mg) : FnOk P w K mg base CX0 8 d.f d.fd ["_law_script"] (spLaw K) := by
  obtain ⟨T, cM, cL, cS, cI, cK, L, dP_is_int, dP_is_number, dP_is_room, dP_is_name, dP_is_stream, dP_is_put, dP_is_pour, dP_is_tree, dP_are_counts, dP_is_counted, dP_counts_of, dP_lost_of, dP_is_sketch, dP_bare, dP_sketch_of, dP_asked, dP_parted, dP_plans_of, dP_filled, dP_is_question, dP_worth, dP_need_both, dP_named, dP_ends, dP_are_sketches, dP_sum_ends, dmixed, dwell, dfilled, ddraw, dnumber, dname, dunlike, dnames, dsum, dkept, dsketch, dalike, dothers, dpaper, dcount_of⟩ := D
  have Gwell : FnOk P w K mg base CX0 1 dwell.f dwell.fd ["_law_script"] (spWell K) := ok_well T dwell
  have Gdraw : FnOk P w K mg base CX0 3 ddraw.f ddraw.fd ["_law_well_here", "_law_many"] spDraw := ok_draw T dmixed dfilled ddraw
  have Gname : FnOk P w K mg base CX0 4 dname.f dname.fd ["_law_well_here"] spName := ok_name T dmixed dfilled ddraw dname
  have Gnames : FnOk P w K mg base CX0 5 dnames.f dnames.fd ["_law_well_here", "_law_most"] spNames := ok_names T dmixed dfilled ddraw dname dunlike dnames
  have Gsketch : FnOk P w K mg base CX0 6 dsketch.f dsketch.fd ["_law_well_here", "_law_names_here", "_law_room_here", "_law_small"] spSketchS := ok_sketchS T dmixed dfilled ddraw dnumber dkept dsum dsketch
  have Gpaper : FnOk P w K mg base CX0 2 dpaper.f dpaper.fd ["_law_sketch_here", "_law_name_here", "_law_there"] (spPaper K) := ok_paper T dsum dothers dpaper
  have Gcount_of : FnOk P w K mg base CX0 6 dcount_of.f dcount_of.fd ["_law_tree", "_law_name_here"] (spCountOf K) := ok_count_of T cL cS cI dP_is_name dP_is_stream dP_is_put dP_is_pour dP_is_tree dP_counts_of dcount_of
  have GP_sum_ends : FnOk P w K mg base CX0 7 dP_sum_ends.f dP_sum_ends.fd ["sketches", "name"] (spSumEnds K) := ok_sum_ends ⟨T, cM, cL, dP_is_int, dP_is_number, dP_is_room, dP_is_name, dP_is_counted, dP_are_counts, dP_lost_of, dP_is_sketch, dP_asked, dP_parted, dP_filled, dP_plans_of, dP_is_question, dP_worth, dP_need_both, dP_named, dP_ends⟩ cK dP_are_sketches dP_sum_ends
  have GP_sketch_of : FnOk P w K mg base CX0 5 dP_sketch_of.f dP_sketch_of.fd ["room", "tree"] (spSketchOf K) := ok_sketch_of T cM cL cS cI dP_is_int dP_is_room dP_is_name dP_is_stream dP_is_put dP_is_pour dP_is_tree dP_bare L dP_sketch_of
  have Galike : FnOk P w K mg base CX0 5 dalike.f dalike.fd ["_law_told", "_law_due"] (spAlike K 3) := ok_alike T dalike 4
  have Galike1 : FnOk P w K mg base CX0 3 dalike.f dalike.fd ["_law_told", "_law_due"] (spAlike K 1) := ok_alike T dalike 2
  refine d.F.ok sclaw (fun vs H Q E h => ?_) (fun cdv A outer s H vs Q E hr h => ?_)
  · obtain ⟨a, ns, rfl, _⟩ := h
    rfl
  · obtain ⟨sa, ns, rfl, hS, hlen, q⟩ := h
    refine ⟨_, (pss_cons (ps_set (i := 1) sclaw.nd rfl (Or.inl rfl) (pe_call Gwell (hr.mono (by omega)) (by rfl) dwell.g dwell.F.kp dwell.b .nil pass0 (pa_cons (pv 0) pa_nil)))
    (pss_cons (ps_set (i := 2) sclaw.nd rfl (Or.inl rfl) (pe_lst pa_nil))
    (pss_cons (ps_set (i := 3) sclaw.nd rfl (Or.inl rfl) (pe_call Gnames (hr.mono (by omega)) (by rfl) dnames.g dnames.F.kp dnames.b .nil pass0 (pa_cons (pv 1) (pa_cons pe_int pa_nil))))
    (pss_cons (ps_for PassesOwn.never rfl (pi_range1 (by rfl) T.n_range (pa_cons (pe_call Gdraw (hr.mono (by omega)) (by rfl) ddraw.g ddraw.F.kp ddraw.b .nil pass0 (pa_cons (pv 1) (pa_cons pe_int pa_nil))) pa_nil)) (pg_name (i := 4) sclaw.nd rfl (Or.inl rfl))
      (pss_one (ps_expr (pe_bm PySem.F.plainAttrs_list PySem.F.slot_list_append PySem.F.type_list_append mt_append (pv 2) (pa_cons (pe_call Gsketch (hr.mono (by omega)) (by rfl) dsketch.g dsketch.F.kp dsketch.b .nil pass0 (pa_cons (pv 1) (pa_cons (pv 3) (pa_cons (pe_op op_add pe_int (pe_call Gdraw (hr.mono (by omega)) (by rfl) ddraw.g ddraw.F.kp ddraw.b .nil pass0 (pa_cons (pv 1) (pa_cons pe_int pa_nil)))) (pa_cons pe_bl pa_nil))))) pa_nil)))))
    (pss_cons (ps_set (i := 5) sclaw.nd rfl (Or.inl rfl) (pe_ix ix_list (pe_lst (pa_cons (pe_ix ix_list (pv 3) (pe_call Gdraw (hr.mono (by omega)) (by rfl) ddraw.g ddraw.F.kp ddraw.b .nil pass0 (pa_cons (pv 1) (pa_cons (pe_callB call_len_seq (by rfl) T.n_len (by decide +kernel) (pa_cons (pv 3) pa_nil)) pa_nil))) (fun _ _ => rfl)) (pa_cons (pe_call Gname (hr.mono (by omega)) (by rfl) dname.g dname.F.kp dname.b .nil pass0 (pa_cons (pv 1) pa_nil)) pa_nil))) (pe_callTy call_int1 (by rfl) T.n_int (by decide +kernel) (pa_cons (pe_cmpR op_eq (pe_call Gdraw (hr.mono (by omega)) (by rfl) ddraw.g ddraw.F.kp ddraw.b .nil pass0 (pa_cons (pv 1) (pa_cons pe_int pa_nil))) pe_int (nomark _)) pa_nil)) (fun _ _ => rfl)))
    (pss_cons (ps_set (i := 6) sclaw.nd rfl (Or.inl rfl) (pe_call GP_sum_ends (hr.mono (by omega)) (by rfl) dP_sum_ends.g dP_sum_ends.F.kp dP_sum_ends.b .nil pass0 (pa_cons (pe_callTy call_tuple_of (by rfl) T.n_tuple (by decide +kernel) (pa_cons (pv 2) pa_nil)) (pa_cons (pv 5) pa_nil))))
    (pss_cons (ps_set (i := 7) sclaw.nd rfl (Or.inl rfl) pe_int)
    (pss_cons (ps_set (i := 8) sclaw.nd rfl (Or.inl rfl) pe_int)
    (pss_cons (ps_for PassesOwn.never rfl (pi_list (pv 2)) (pg_name (i := 9) sclaw.nd rfl (Or.inl rfl))
      (pss_cons (ps_set (i := 10) sclaw.nd rfl (Or.inl rfl) (pe_call Gpaper (hr.mono (by omega)) (by rfl) dpaper.g dpaper.F.kp dpaper.b .nil pass0 (pa_cons (pv 9) (pa_cons (pv 5) (pa_cons pe_bl pa_nil)))))
      (pss_cons (ps_set (i := 11) sclaw.nd rfl (Or.inl rfl) (pe_call Gpaper (hr.mono (by omega)) (by rfl) dpaper.g dpaper.F.kp dpaper.b .nil pass0 (pa_cons (pv 9) (pa_cons (pv 5) (pa_cons pe_bl pa_nil)))))
      (pss_cons (ps_if (PW.pt (pw_or (pt_not (pt_val (pe_call Galike (hr.mono (by omega)) (by rfl) dalike.g dalike.F.kp dalike.b .nil pass0 (pa_cons (pe_call GP_sketch_of (hr.mono (by omega)) (by rfl) dP_sketch_of.g dP_sketch_of.F.kp dP_sketch_of.b .nil pass0 (pa_cons (pe_ix ix_tup (pv 9) pe_int (fun _ _ => rfl)) (pa_cons (pv 10) pa_nil))) (pa_cons (pv 9) pa_nil))))) (pw_or1 (pt_not (pt_val (pe_call Galike (hr.mono (by omega)) (by rfl) dalike.g dalike.F.kp dalike.b .nil pass0 (pa_cons (pe_call GP_sketch_of (hr.mono (by omega)) (by rfl) dP_sketch_of.g dP_sketch_of.F.kp dP_sketch_of.b .nil pass0 (pa_cons (pe_ix ix_tup (pv 9) pe_int (fun _ _ => rfl)) (pa_cons (pv 11) pa_nil))) (pa_cons (pv 9) pa_nil))))))))
        (pss_one (ps_ret pe_bl))
        pss_nil)
      (pss_cons (ps_set (i := 7) sclaw.nd rfl (Or.inl rfl) (pe_op op_add (pv 7) (pe_call Gcount_of (hr.mono (by omega)) (by rfl) dcount_of.g dcount_of.F.kp dcount_of.b .nil pass0 (pa_cons (pv 10) (pa_cons (pv 5) pa_nil)))))
      (pss_one (ps_set (i := 8) sclaw.nd rfl (Or.inl rfl) (pe_op op_add (pv 8) (pe_call Gcount_of (hr.mono (by omega)) (by rfl) dcount_of.g dcount_of.F.kp dcount_of.b .nil pass0 (pa_cons (pv 11) (pa_cons (pv 5) pa_nil)))))))))))
    (pss_one (ps_ret (pe_call Galike1 (hr.mono (by omega)) (by rfl) dalike.g dalike.F.kp dalike.b .nil pass0 (pa_cons (pv 6) (pa_cons (pe_tup (pa_cons (pv 7) (pa_cons (pv 8) pa_nil))) pa_nil)))))))))))))), ?_⟩
    refine ⟨.ref sa, rfl, sa, ns, rfl, hS, hlen, fun H1 a c s1 na w1 => ?_⟩
    refine ⟨(by show 0 ≤ sizeLine; decide), fun SL nSL => ?_⟩
    have Sw := w1.ne2 nSL
    have w2 := w1.same (same_upd nSL (o := .lst []))
    have hSL : (upd H1 SL (.lst [])) SL = some (.lst (([] : List Addr).map V.ref)) := upd_same
    generalize upd H1 SL (.lst []) = H2 at w2 hSL ⊢
    refine ⟨.ref a, rfl, a, c, 8, rfl, w2, (by decide), (by decide), fun H3 l1 ys x3 w3 nl1 l1a l1c hl1 so1 nm1 ys0 ysl => ?_⟩
    have hSL3 := x3 _ _ Sw.1 hSL
    have l1S : l1 ≠ SL := (ne_of_none hSL nl1).symm
    refine ⟨.ref a, rfl, a, c, 5, rfl, w3, (by decide), (by decide), fun H4 n x4 w4 n0 n5 => ⟨n, rfl, by omega, by omega, ?_⟩⟩
    obtain ⟨n, rfl⟩ := Int.eq_ofNat_of_zero_le n0
    rw [Int.toNat_natCast]
    refine for_range (lo := 0) (n := n) (fun i σ H5 => ∃ (y4 : Option V) (ss : List Addr) (xs : List Sk), σ = [some (.ref sa), some (.ref a), some (.ref SL), some (.ref l1), y4, none, none, none, none, none, none, none] ∧ Wl a c H5 ∧ H5 SL = some (.lst (ss.map V.ref)) ∧ Paired (SksAt H5) ss xs ∧ xs.length ≤ i ∧ H5 l1 = some (.lst (ys.map V.str)))
      ⟨none, [], [], rfl, w4, x4 _ _ Sw.1 hSL3, .nil, Nat.le_refl _, x4.strs w3 hl1⟩ ?_ ?_
    · rintro i σ H5 hi ⟨y4, ss, xs, rfl, w5, hS5, hss, hxl, hl5⟩
      have hsl := Paired.length hss
      refine ⟨.ref SL, rfl, .inl ⟨rfl, _, sql hS5⟩, .ref a, rfl, .ref l1, rfl, .ref a, rfl, a, c, 6, rfl, w5, (by decide), (by decide), fun H6 r x6 w6 r0 r6 => ⟨_, _, rfl, rfl, ?_⟩⟩
      refine ⟨a, c, l1, 1 + r, ys, rfl, w6, x6.strs w5 hl5, so1, nm1, by omega, by omega, by omega, fun H7 s m o kvs x7 w7 hs hg ho hc => ?_⟩
      have x57 := x6.trans x7
      have hS7 := x57 _ _ Sw.1 hS5
      refine ⟨SL, _, _, rfl, rfl, hS7, by rw [List.length_map, sizeLine_eq]; omega, ?_⟩
      have new : SksAt H7 s ⟨1 + r, m, o, kvs⟩ := ⟨hs, ⟨hg, by show 1 + r ≤ 6; omega, ho, hc⟩⟩
      have old : Paired (SksAt H7) ss xs := paired_imp (fun s x h => sksAt_exw x57 w5 h) hss
      have keep : ∀ {s : Addr} {x : Sk}, SksAt H7 s x → SksAt (upd H7 SL (.lst (ss.map V.ref ++ [.ref s]))) s x := fun {s x} h => by
        obtain ⟨⟨k, ts, g1, ⟨ob, g2, g2'⟩, g3⟩, g4⟩ := h
        exact ⟨⟨k, ts, by rw [upd_ne (ne_of g1 hS7 (by intro z; cases z))]; exact g1, ⟨ob, by rw [upd_ne (ne_of g2 hS7 (by intro z; cases z))]; exact g2, g2'⟩, paired_imp (fun t e h => by
          show upd H7 SL _ t = _
          rw [upd_ne (ne_of h hS7 (by intro z; cases z))]
          exact h) g3⟩, g4⟩
      refine ⟨_, ss ++ [s], xs ++ [⟨1 + r, m, o, kvs⟩], rfl, w7.put Sw, by rw [upd_same, List.map_append]; rfl, ?_, by rw [List.length_append]; exact Nat.succ_le_succ hxl, by rw [upd_ne l1S]; exact x57.strs w5 hl5⟩
      refine paired_snoc (paired_imp (fun s' x h => ?_) old) (keep new)
      obtain ⟨⟨k, ts, g1, ⟨ob, g2, g2'⟩, g3⟩, g4⟩ := h
      exact ⟨⟨k, ts, by rw [upd_ne (ne_of g1 hS7 (by intro z; cases z))]; exact g1, ⟨ob, by rw [upd_ne (ne_of g2 hS7 (by intro z; cases z))]; exact g2, g2'⟩, paired_imp (fun t e h => by
        show upd H7 SL _ t = _
        rw [upd_ne (ne_of h hS7 (by intro z; cases z))]
        exact h) g3⟩, g4⟩
    · rintro σ H5 ⟨y4, ss, xs, rfl, w5, hS5, hss, hxl, hl5⟩
      have hsl := Paired.length hss
      refine ⟨.ref l1, rfl, .ref a, rfl, .ref l1, rfl, l1, _, rfl, .inl (sql hl5), a, c, (ys.length : Int), by rw [List.length_map]; rfl, w5, by omega, by omega, fun H6 k6 x6 w6 k60 k61 => ?_⟩
      obtain ⟨kn, rfl⟩ := Int.eq_ofNat_of_zero_le k60
      have hl6 := x6.strs w5 hl5
      obtain ⟨y, hy⟩ : ∃ y, ys[kn]? = some y := ⟨ys[kn]'(by omega), by simp⟩
      have hyn := nm1 y (List.mem_of_getElem? hy)
      refine ⟨l1, _, _, _, rfl, rfl, sql hl6, atI_nat (j := kn) (by rw [List.getElem?_map, hy]; rfl), ?_⟩
      refine ⟨.ref a, rfl, a, c, rfl, w6, fun H7 y2 x7 w7 hy2 => ⟨(by show 2 ≤ sizeLine; decide), fun p np => ?_⟩⟩
      have pw := w7.ne2 np
      have s8 : Same H7 (upd H7 p (.lst [.str y, .str y2])) := same_upd np
      have hp8 : (upd H7 p (.lst [.str y, .str y2])) p = some (.lst [.str y, .str y2]) := upd_same
      have w8 := w7.same s8
      have x58 : Exw a H5 (upd H7 p (.lst [.str y, .str y2])) := (x6.trans x7).same s8
      generalize upd H7 p (.lst [.str y, .str y2]) = H8 at s8 hp8 w8 x58 ⊢
      refine ⟨.ref a, rfl, a, c, 4, rfl, w8, (by decide), (by decide), fun H9 k9 x9 w9 k90 k91 => ⟨rfl, ?_⟩⟩
      have hp9 := x9 _ _ pw.1 hp8
      obtain ⟨z, hat, hz⟩ : ∃ z : Str, atI [V.str y, V.str y2] (if decide (V.int k9 = V.int 0) = true then 1 else 0) = some (.str z) ∧ Nm z := by
        cases decide (V.int k9 = V.int 0) with
        | true => exact ⟨y2, atI_nat (j := 1) rfl, hy2⟩
        | false => exact ⟨y, atI_nat (j := 0) rfl, hyn⟩
      refine .inr ⟨_, rfl, p, _, _, _, rfl, rfl, sql hp9, hat, ?_⟩
      have x59 := x58.trans x9
      have hS9 := x59 _ _ Sw.1 hS5
      have hss9 : Paired (SksAt H9) ss xs := paired_imp (fun s x h => sksAt_exw x59 w5 h) hss
      refine ⟨.ref SL, rfl, SL, _, rfl, .inl ⟨sql hS9, fun tt ntt => ?_⟩⟩
      have s10 : Same H9 (upd H9 tt (.tup (ss.map V.ref))) := same_upd ntt
      have htt : (upd H9 tt (.tup (ss.map V.ref))) tt = some (.tup (ss.map V.ref)) := upd_same
      generalize upd H9 tt (.tup (ss.map V.ref)) = H10 at s10 htt ⊢
      have stay : ∀ {Ha Hb : Hp}, Same Ha Hb → Paired (SksAt Ha) ss xs → Paired (SksAt Hb) ss xs := fun {Ha Hb} s h => paired_imp (fun a b h => ⟨h.1.same s, h.2⟩) h
      have hall : ∀ x ∈ xs, SkS x := fun x hx => by
        obtain ⟨i, hi⟩ := List.mem_iff_getElem?.mp hx
        have hil := (List.getElem?_eq_some_iff.mp hi).1
        obtain ⟨x', hx', h'⟩ := paired_at hss9 (List.getElem?_eq_getElem (show i < ss.length by omega))
        rw [hi] at hx'
        cases hx'
        exact h'.2
      refine ⟨.str z, rfl, tt, z, ss, xs, rfl, .inl (.inl htt), paired_imp (fun s x h => ?_) (stay s10 hss9), fun x hx => (hall x hx).v, by omega, hz, fun H11 pe s11 npe hpe => ?_⟩
      · have g := h.2.v
        have := SkC.of (K := K) h.1
        rw [show srtZ (Tl.mk x.m x.o x.c).c = x.c from srt_asc g.cts.asc] at this
        exact this
      have s911 : Same H9 H11 := fun b u e => s11 _ _ (s10 _ _ e)
      have hss11 := stay s911 hss9
      have hS11 := s911 _ _ hS9
      refine ⟨.ref SL, rfl, SL, rfl, ⟨_, sql hS11⟩, for_list (xs := ss.map V.ref) (fun i σ H12 => ∃ (y9 y10 y11 : Option V), σ = [some (.ref sa), some (.ref a), some (.ref SL), some (.ref l1), y4, some (.str z), some (.ref pe), some (.int (lowS (xs.take i) z)), some (.int (highS (xs.take i) z)), y9, y10, y11] ∧ Same H11 H12) ⟨none, none, none, rfl, Same.refl H11⟩ (fun i σ H12 _ ⟨_, _, _, _, s⟩ => sql (s _ _ hS11)) ?_ ?_⟩
      · rintro i v σ H12 hi ⟨y9, y10, y11, rfl, s12⟩
        obtain ⟨si, hsi, rfl⟩ := map_at hi
        obtain ⟨x, hx, hat⟩ := paired_at hss11 hsi
        obtain ⟨hsk, hsm⟩ := hat
        have g := hsm.v
        obtain ⟨rn, on, ln, er, eo, el, r1, r6, o4, b1, b2⟩ := hsm.nat
        have hsz := sz_bounds b1 b2
        have hsk' : SkAt H11 si rn ⟨x.m, on, x.c⟩ := by
          rw [← er, ← eo]
          exact hsk
        have hcl : x.c.length ≤ 64 := by
          have := g.len
          have := g.r64
          omega
        have hcv : ∀ e ∈ x.c, e.2 ≤ 1000 := fun e he => by
          have := hsm.c6 e he
          omega
        have hsum : 0 ≤ sumC x.c ∧ sumC x.c ≤ 6 * (x.c.length : Int) := sumC_le fun e he => ⟨g.cts.pos e he, hsm.c6 e he⟩
        have hln : ln ≤ 100 := by
          have : 2 * rn * on ≤ 2 * 6 * 4 := Nat.mul_le_mul (by omega) o4
          omega
        have tr : ∀ there, Tree (.put (spread x.c) :: laysG rn (laysP z there on ln on)) := fun there => by
          obtain ⟨_, hll⟩ := paper_run hsm er eo el r1 r6 o4 b1 b2 z there
          refine treeG ?_ ?_
          · rw [hll, spread_len g.cts.pos]
            omega
          · unfold laysP
            rw [List.length_map, List.length_range]
            omega
        have nmT : ∀ there, ∀ zs, Stp.put zs ∈ (Stp.put (spread x.c) :: laysG rn (laysP z there on ln on)) → ∀ y ∈ zs, Nm y := fun there zs h y hy => by
          rcases List.mem_cons.mp h with h | h
          · cases h
            obtain ⟨e, he, rfl⟩ := spread_mem hy
            exact g.cts.nm e he
          · obtain ⟨l, hl, hin⟩ := laysG_mem h
            obtain ⟨k, _, rfl⟩ := List.mem_map.mp hl
            exact layZ_nm hz (hin y hy)
        refine ⟨.ref si, rfl, .str z, rfl, si, z, false, rn, on, ln, x.m, x.c, rfl, hsk'.same s12, g.cts, hcl, hcv, hz, r1, by omega, by omega, el, hsz, fun H13 t1 s13 ht1 => ?_⟩
        refine ⟨.ref si, rfl, .str z, rfl, si, z, true, rn, on, ln, x.m, x.c, rfl, (hsk'.same s12).same s13, g.cts, hcl, hcv, hz, r1, by omega, by omega, el, hsz, fun H14 t2 s14 ht2 => ?_⟩
        have s1114 : Same H11 H14 := fun b u e => s14 _ _ (s13 _ _ (s12 _ _ e))
        have sk14 := hsk.same s1114
        have ht1' := ht1.same s14
        have srt : srtZ (Tl.mk x.m x.o x.c).c = x.c := srt_asc g.cts.asc
        have root : ∀ {Hh : Hp}, SkAt Hh si x.r ⟨x.m, x.o, x.c⟩ → ∃ kk, Hh si = some (.tup [.int rn, .int x.m, .int x.o, .ref kk]) := fun {Hh} h => by
          obtain ⟨kk, _, e, _⟩ := h
          refine ⟨kk, ?_⟩
          rw [← er]
          exact e
        obtain ⟨kk, hroot⟩ := root sk14
        refine ⟨.ref si, rfl, si, _, _, _, rfl, rfl, .inl (.inl hroot), atI_nat (j := 0) rfl, .ref t1, rfl, t1, rn, _, ⟨x.m, x.o, x.c⟩, rfl, by omega, by omega, ht1', tr false, nmT false, (paper_run hsm er eo el r1 r6 o4 b1 b2 z false).1, fun okx H15 sA kA tA s15 nsA hsA hkA hpA => ?_⟩
        have sk15 := sk14.same s15
        have skA : SkAt H15 sA x.r ⟨x.m, x.o, x.c⟩ := ⟨kA, tA, by rw [er]; exact hsA, hkA, hpA⟩
        refine ⟨.ref si, rfl, _, _, rfl, eqv_sk skA sk15 (by show x.c.length ≤ 1000; omega), fun H16 s16 => ⟨true, rfl, iteF ?_⟩⟩
        have sk16 := sk15.same s16
        have s1416 : Same H14 H16 := fun b u e => s16 _ _ (s15 _ _ e)
        obtain ⟨kk2, hroot2⟩ := root sk16
        refine ⟨.ref si, rfl, si, _, _, _, rfl, rfl, .inl (.inl hroot2), atI_nat (j := 0) rfl, .ref t2, rfl, t2, rn, _, ⟨x.m, x.o, x.c⟩, rfl, by omega, by omega, ht2.same s1416, tr true, nmT true, (paper_run hsm er eo el r1 r6 o4 b1 b2 z true).1, fun okx H17 sB kB tB s17 nsB hsB hkB hpB => ?_⟩
        have sk17 := sk16.same s17
        have skB : SkAt H17 sB x.r ⟨x.m, x.o, x.c⟩ := ⟨kB, tB, by rw [er]; exact hsB, hkB, hpB⟩
        refine ⟨.ref si, rfl, _, _, rfl, eqv_sk skB sk17 (by show x.c.length ≤ 1000; omega), fun H18 s18 => ⟨true, rfl, iteF ?_⟩⟩
        have s1418 : Same H14 H18 := fun b u e => s18 _ _ (s17 _ _ (s1416 _ _ e))
        refine ⟨.int _, rfl, .ref t1, rfl, .str z, rfl, t1, z, _, rfl, ht1'.same s1418, tr false, fun H19 s19 => ⟨_, _, rfl, rfl, ?_⟩⟩
        refine ⟨.int _, rfl, .ref t2, rfl, .str z, rfl, t2, z, _, rfl, (ht2.same s1418).same s19, tr true, fun H20 s20 => ⟨_, _, rfl, rfl, ?_⟩⟩
        dsimp only
        rw [paper_count hsm b1 b2, paper_count hsm b1 b2]
        have tk : xs.take (i + 1) = xs.take i ++ [x] := by rw [List.take_add_one, hx]; rfl
        refine ⟨some (.ref si), some (.ref t1), some (.ref t2), ?_, fun b u e => s20 _ _ (s19 _ _ (s1418 _ _ (s1114 _ _ e)))⟩
        have e1 : lowS (xs.take (i + 1)) z = lowS (xs.take i) z + (lowZ x.c z + if (false : Bool) = true then (on : Int) else 0) := by
          rw [tk]
          unfold lowS
          rw [List.map_append, List.sum_append]
          show _ + (lowZ x.c z + 0) = _ + (lowZ x.c z + 0)
          rfl
        have e2 : highS (xs.take (i + 1)) z = highS (xs.take i) z + (lowZ x.c z + if (true : Bool) = true then (on : Int) else 0) := by
          rw [tk]
          unfold highS
          rw [List.map_append, List.sum_append, if_pos rfl, ← eo]
          show _ + (lowZ x.c z + x.o + 0) = _
          omega
        rw [e1, e2]
        rfl
      · rintro σ H12 ⟨y9, y10, y11, rfl, s12⟩
        rw [show (ss.map V.ref).length = xs.length by rw [List.length_map, hsl], List.take_length]
        refine ⟨.ref pe, rfl, .int _, rfl, .int _, rfl, (by show 2 ≤ sizeLine; decide), fun u nu => ?_⟩
        have s13 : Same H12 (upd H12 u (.tup [.int (lowS xs z), .int (highS xs z)])) := same_upd nu
        exact ⟨_, _, rfl, eqv_two (.inl (.inl (s13 _ _ (s12 _ _ hpe)))) (.inl (.inl upd_same)), fun H14 _ => q H14⟩
end
end Kb

namespace Kb
open PySem PySem.Spec PyProof.Rows L2
/-- a def as the top has left it -/
def dn_of {K : PySem.W.Frag} {h : Heap} {mg : Str → Option Value} {nm : Str} {st : Stmt} {ps : List Str} {f : Addr} {oc : Value} {od an : Option Addr} {osl : Array (Option Value)} {kV doc pm cdv ct : Value} (X : K.In h) (G : h.Ns mainGlobals mg)
    (fa : PySem.W.nsIn K mainGlobals nm = some (some (.ref f))) (fl : K.lookup f = some ⟨oc, od, .func (PySem.W.fnOf nm nm (defArgs st) (defBody st) (defScope st) .none kV doc pm an cdv ct), osl⟩) (fc : PySem.W.codeIn K cdv nm = true) (fk : PySem.W.keepIn K (.ref f) = true)
    (fb : ∀ (kV doc pm : Value) (an : Option Addr) (cdv ct : Value) (us : List Value), us.length = ps.length → bindArgs (PySem.W.fnOf nm nm (defArgs st) (defBody st) (defScope st) .none kV doc pm an cdv ct) ⟨us, []⟩ = pure (ps.zip us)) : Dn K mg nm st ps :=
  ⟨f, _, fun_mk fl fc fk, PySem.W.mg_of X G fa, (fun_mk fl fc fk).binds fb⟩
def cst_of {K : PySem.W.Frag} {h : Heap} {mg : Str → Option Value} {nm : Str} {i : Int} {t : Tok} (X : K.In h) (G : h.Ns mainGlobals mg) (fa : PySem.W.nsIn K mainGlobals nm = some (some (.int i t))) : Cst mg nm (.int i) := ⟨_, PySem.W.mg_of X G fa, ⟨_, rfl⟩⟩
/-- the class as the top has left it -/
def tal_of {K : PySem.W.Frag} {h : Heap} {mg : Str → Option Value} {C fI fS fF fP fT : Addr} {odI anI odS anS odF anF odP anP odT anT : Option Addr} {slI slS slF slP slT : Array (Option Value)} {ocI kVI dcI pmI cdI ctI ocS kVS dcS pmS cdS ctS ocF kVF dcF pmF cdF ctF ocP kVP dcP pmP cdP ctP ocT kVT dcT pmT cdT ctT : Value} (X : K.In h) (G : h.Ns mainGlobals mg)
    (aCls : PySem.W.nsIn K mainGlobals "Tally" = some (some (.ref C)))
    (aI : PySem.W.findIn K (.ref C) "__init__" = some (some (.ref fI))) (iI : PySem.W.isFn K (.ref fI) = true) (lI : K.lookup fI = some ⟨ocI, odI, .func (PySem.W.fnOf "__init__" "Tally.__init__" (defArgs sTinit) (defBody sTinit) (defScope sTinit) .none kVI dcI pmI anI cdI ctI), slI⟩) (cI : PySem.W.codeIn K cdI "Tally.__init__" = true) (kI : PySem.W.keepIn K (.ref fI) = true)
    (aS : PySem.W.findIn K (.ref C) "sketch" = some (some (.ref fS))) (iS : PySem.W.isFn K (.ref fS) = true) (lS : K.lookup fS = some ⟨ocS, odS, .func (PySem.W.fnOf "sketch" "Tally.sketch" (defArgs sTsketch) (defBody sTsketch) (defScope sTsketch) .none kVS dcS pmS anS cdS ctS), slS⟩) (cS : PySem.W.codeIn K cdS "Tally.sketch" = true) (kS : PySem.W.keepIn K (.ref fS) = true)
    (aF : PySem.W.findIn K (.ref C) "gain" = some (some (.ref fF))) (iF : PySem.W.isFn K (.ref fF) = true) (lF : K.lookup fF = some ⟨ocF, odF, .func (PySem.W.fnOf "gain" "Tally.gain" (defArgs sTfeed) (defBody sTfeed) (defScope sTfeed) .none kVF dcF pmF anF cdF ctF), slF⟩) (cF : PySem.W.codeIn K cdF "Tally.gain" = true) (kF : PySem.W.keepIn K (.ref fF) = true)
    (aP : PySem.W.findIn K (.ref C) "pour" = some (some (.ref fP))) (iP : PySem.W.isFn K (.ref fP) = true) (lP : K.lookup fP = some ⟨ocP, odP, .func (PySem.W.fnOf "pour" "Tally.pour" (defArgs sTpour) (defBody sTpour) (defScope sTpour) .none kVP dcP pmP anP cdP ctP), slP⟩) (cP : PySem.W.codeIn K cdP "Tally.pour" = true) (kP : PySem.W.keepIn K (.ref fP) = true)
    (aT : PySem.W.findIn K (.ref C) "_take" = some (some (.ref fT))) (iT : PySem.W.isFn K (.ref fT) = true) (lT : K.lookup fT = some ⟨ocT, odT, .func (PySem.W.fnOf "_take" "Tally._take" (defArgs sTtake) (defBody sTtake) (defScope sTtake) .none kVT dcT pmT anT cdT ctT), slT⟩) (cT : PySem.W.codeIn K cdT "Tally._take" = true) (kT : PySem.W.keepIn K (.ref fT) = true)
    (pg : PySem.W.plainGet K C Str.empty = true) (hd : PySem.W.hasDictIn K C = true) (po : PySem.W.plainOver K C = true) (sa : PySem.W.findIn K (.ref C) "__setattr__" = some (some (.builtin "object.__setattr__"))) (mk : PySem.W.makesIn K C = true) (kc : PySem.W.keepIn K (.ref C) = true)
    (nR : PySem.W.findIn K (.ref C) "room" = some none) (nM : PySem.W.findIn K (.ref C) "seen" = some none) (nO : PySem.W.findIn K (.ref C) "off" = some none) (nC : PySem.W.findIn K (.ref C) "counts" = some none) : Tal K mg :=
  { C := C, fI := fI, fS := fS, fF := fF, fP := fP, fT := fT, dI := _, dS := _, dF := _, dP := _, dT := _, FI := fun_mk lI cI kI, FS := fun_mk lS cS kS, FF := fun_mk lF cF kF, FP := fun_mk lP cP kP, FT := fun_mk lT cT kT,
    bI := (fun_mk (st := sTinit) lI cI kI).binds fun _ _ _ _ _ _ us hl => match us, hl with | [_, _], _ => rfl, bS := (fun_mk (st := sTsketch) lS cS kS).binds fun _ _ _ _ _ _ us hl => match us, hl with | [_], _ => rfl, bF := (fun_mk (st := sTfeed) lF cF kF).binds fun _ _ _ _ _ _ us hl => match us, hl with | [_, _, _], _ => rfl, bP := (fun_mk (st := sTpour) lP cP kP).binds fun _ _ _ _ _ _ us hl => match us, hl with | [_, _], _ => rfl, bT := (fun_mk (st := sTtake) lT cT kT).binds fun _ _ _ _ _ _ us hl => match us, hl with | [_, _], _ => rfl,
    mI := ⟨mk, aI, iI, kc⟩, mS := ⟨aS, iS, kS⟩, mF := ⟨aF, iF, kF⟩, mP := ⟨aP, iP, kP⟩, mT := ⟨aT, iT, kT⟩, cl := ⟨pg, hd, po, sa⟩, nR := nR, nM := nM, nO := nO, nC := nC, g := PySem.W.mg_of X G aCls }
theorem law_end {l : PySem.W.OpenLaw} {w : World} {K : PySem.W.Frag} {h : Heap} {mg : Str → Option Value} {fa f : Addr} (X : K.In h) (G : h.Ns mainGlobals mg) (hfa : mg "law" = some (.ref fa))
    {od an : Option Addr} {osl : Array (Option Value)} {oc kV doc pm cdv ct : Value}
    (a0 : PySem.W.nsIn K mainGlobals "law" = some (some (.ref f))) (l0 : K.lookup f = some ⟨oc, od, .func (PySem.W.fnOf "law" "law" (defArgs slaw) (defBody slaw) (defScope slaw) .none kV doc pm an cdv ct), osl⟩) (c0 : PySem.W.codeIn K cdv "law" = true) (k0 : PySem.W.keepIn K (.ref f) = true)
    (T : Blt mg)  (cM : Cst mg "MOST_ROOM" (.int 64)) (cL : Cst mg "LONGEST_NAME" (.int 8)) (cS : Cst mg "MOST_STEPS" (.int 5000)) (cI : Cst mg "MOST_ITEMS" (.int 50000)) (cK : Cst mg "MOST_SKETCHES" (.int 100)) (L : Tal K mg) (dP_is_int : DnIsInt K mg) (dP_is_number : DnIsNumber K mg) (dP_is_room : DnIsRoom K mg) (dP_is_name : DnIsName K mg) (dP_is_stream : DnIsStream K mg) (dP_is_put : DnIsPut K mg) (dP_is_pour : DnIsPour K mg) (dP_is_tree : DnIsTree K mg) (dP_are_counts : DnAreCounts K mg) (dP_is_counted : DnIsCounted K mg) (dP_counts_of : DnCountsOf K mg) (dP_lost_of : DnLostOf K mg) (dP_is_sketch : DnIsSketch K mg) (dP_bare : DnBare K mg) (dP_sketch_of : DnSketchOf K mg) (dP_asked : DnAsked K mg) (dP_parted : DnParted K mg) (dP_plans_of : DnPlansOf K mg) (dP_filled : DnFilled K mg) (dP_is_question : DnIsQuestion K mg) (dP_worth : DnWorth K mg) (dP_need_both : DnNeedBoth K mg) (dP_named : DnNamed K mg) (dP_ends : DnEnds K mg) (dP_are_sketches : DnAreSketches K mg) (dP_sum_ends : DnSumEnds K mg) (dmixed : Dnmixed K mg) (dwell : Dnwell K mg) (dfilled : Dnfilled K mg) (ddraw : Dndraw K mg) (dnumber : Dnnumber K mg) (dname : Dnname K mg) (dunlike : Dnunlike K mg) (dnames : Dnnames K mg) (dsum : Dnsum K mg) (dkept : Dnkept K mg) (dsketch : Dnsketch K mg) (dalike : Dnalike K mg) (dothers : Dnothers K mg) (dpaper : Dnpaper K mg) (dcount_of : Dncount_of K mg) :
    ∃ fd : FuncData, (∀ (s : Shared) (v : Value), BindsTo s fd ⟨[v], []⟩ [("_law_script", v)]) ∧ ∀ base : Heap, K.In base → base.Ns mainGlobals mg → FnOk l.prog w K mg base CX0 8 fa fd ["_law_script"] (spLaw K) := by
  have e := hfa.symm.trans (PySem.W.mg_of X G a0)
  cases e
  exact ⟨PySem.W.fnOf "law" "law" (defArgs slaw) (defBody slaw) (defScope slaw) .none kV doc pm an cdv ct, fun s v => .of_eq rfl, fun base _ _ => ok_law ⟨T, cM, cL, cS, cI, cK, L, dP_is_int, dP_is_number, dP_is_room, dP_is_name, dP_is_stream, dP_is_put, dP_is_pour, dP_is_tree, dP_are_counts, dP_is_counted, dP_counts_of, dP_lost_of, dP_is_sketch, dP_bare, dP_sketch_of, dP_asked, dP_parted, dP_plans_of, dP_filled, dP_is_question, dP_worth, dP_need_both, dP_named, dP_ends, dP_are_sketches, dP_sum_ends, dmixed, dwell, dfilled, ddraw, dnumber, dname, dunlike, dnames, dsum, dkept, dsketch, dalike, dothers, dpaper, dcount_of⟩
    ⟨_, _, fun_mk l0 c0 k0, PySem.W.mg_of X G a0, (fun_mk l0 c0 k0).binds fun _ _ _ _ _ _ us hl => match us, hl with | [_], _ => rfl⟩⟩
end Kb
open PySem PySem.W PyProof.Rows
theorem PySem.Challenge.cw_knownends_k13_whole_sums_of_ends_are_met_holds : PySem.Challenge.rw_knownends_k13_whole_sums_of_ends_are_met.Holds := by
  w_on; o_law; k_head; (case hw => w_witness2)
  k_fill
  refine L2.walk_of (l := PySem.Challenge.rw_knownends_k13_whole_sums_of_ends_are_met) (n := 63) (k := 8) (x := "_law_script") (CX := fun _ => L2.CX0) (sp := fun w => Kb.spLaw _) rfl (by decide) rfl ⟨rfl, by decide, by decide⟩ (fun w h Y => PySem.W.km_in_of Y) ?F (fun _ _ a ns hl _ hS => ⟨a, ns, rfl, hS, hl, fun _ => rfl⟩) (fun _ _ _ _ _ h => h)
  case F =>
    intro w mg fa h KX G hmg
    refine' Kb.law_end KX G hmg ?a0 ?l0 ?c0 ?k0 ?T ?cM ?cL ?cS ?cI ?cK ?L ?dP_is_int ?dP_is_number ?dP_is_room ?dP_is_name ?dP_is_stream ?dP_is_put ?dP_is_pour ?dP_is_tree ?dP_are_counts ?dP_is_counted ?dP_counts_of ?dP_lost_of ?dP_is_sketch ?dP_bare ?dP_sketch_of ?dP_asked ?dP_parted ?dP_plans_of ?dP_filled ?dP_is_question ?dP_worth ?dP_need_both ?dP_named ?dP_ends ?dP_are_sketches ?dP_sum_ends ?dmixed ?dwell ?dfilled ?ddraw ?dnumber ?dname ?dunlike ?dnames ?dsum ?dkept ?dsketch ?dalike ?dothers ?dpaper ?dcount_of
    (case a0 => k_is); (case l0 => k_is); (case c0 => k_is); (case k0 => k_is)
    (case T => exact ⟨PySem.W.mg_none_of KX G (by k_is), PySem.W.mg_none_of KX G (by k_is), PySem.W.mg_none_of KX G (by k_is), PySem.W.mg_none_of KX G (by k_is), PySem.W.mg_none_of KX G (by k_is), PySem.W.mg_none_of KX G (by k_is), PySem.W.mg_none_of KX G (by k_is), PySem.W.mg_none_of KX G (by k_is), PySem.W.mg_none_of KX G (by k_is), PySem.W.mg_none_of KX G (by k_is), PySem.W.mg_none_of KX G (by k_is), PySem.W.mg_none_of KX G (by k_is), PySem.W.mg_none_of KX G (by k_is), PySem.W.mg_none_of KX G (by k_is)⟩)
    (case cM => refine' Kb.cst_of KX G ?a_cM; (case a_cM => k_is))
    (case cL => refine' Kb.cst_of KX G ?a_cL; (case a_cL => k_is))
    (case cS => refine' Kb.cst_of KX G ?a_cS; (case a_cS => k_is))
    (case cI => refine' Kb.cst_of KX G ?a_cI; (case a_cI => k_is))
    (case cK => refine' Kb.cst_of KX G ?a_cK; (case a_cK => k_is))
    (case L =>
      refine' Kb.tal_of KX G ?tL_aCls ?tL_aI ?tL_iI ?tL_lI ?tL_cI ?tL_kI ?tL_aS ?tL_iS ?tL_lS ?tL_cS ?tL_kS ?tL_aF ?tL_iF ?tL_lF ?tL_cF ?tL_kF ?tL_aP ?tL_iP ?tL_lP ?tL_cP ?tL_kP ?tL_aT ?tL_iT ?tL_lT ?tL_cT ?tL_kT ?tL_pg ?tL_hd ?tL_po ?tL_sa ?tL_mk ?tL_kc ?tL_nR ?tL_nM ?tL_nO ?tL_nC
      (case tL_aCls => k_is); (case tL_aI => k_is); (case tL_iI => k_is); (case tL_lI => k_is); (case tL_cI => k_is); (case tL_kI => k_is); (case tL_aS => k_is); (case tL_iS => k_is); (case tL_lS => k_is); (case tL_cS => k_is); (case tL_kS => k_is); (case tL_aF => k_is); (case tL_iF => k_is); (case tL_lF => k_is); (case tL_cF => k_is); (case tL_kF => k_is); (case tL_aP => k_is); (case tL_iP => k_is); (case tL_lP => k_is); (case tL_cP => k_is); (case tL_kP => k_is); (case tL_aT => k_is); (case tL_iT => k_is); (case tL_lT => k_is); (case tL_cT => k_is); (case tL_kT => k_is); (case tL_pg => k_is); (case tL_hd => k_is); (case tL_po => k_is); (case tL_sa => k_is); (case tL_mk => k_is); (case tL_kc => k_is); (case tL_nR => k_is); (case tL_nM => k_is); (case tL_nO => k_is); (case tL_nC => k_is))
    (case dP_is_int => refine' Kb.dn_of KX G ?a_dP_is_int ?l_dP_is_int ?c_dP_is_int ?k_dP_is_int ?b_dP_is_int; (case a_dP_is_int => k_is); (case l_dP_is_int => k_is); (case c_dP_is_int => k_is); (case k_dP_is_int => k_is); (case b_dP_is_int => exact fun _ _ _ _ _ _ us hl => match us, hl with | [_], _ => rfl))
    (case dP_is_number => refine' Kb.dn_of KX G ?a_dP_is_number ?l_dP_is_number ?c_dP_is_number ?k_dP_is_number ?b_dP_is_number; (case a_dP_is_number => k_is); (case l_dP_is_number => k_is); (case c_dP_is_number => k_is); (case k_dP_is_number => k_is); (case b_dP_is_number => exact fun _ _ _ _ _ _ us hl => match us, hl with | [_], _ => rfl))
    (case dP_is_room => refine' Kb.dn_of KX G ?a_dP_is_room ?l_dP_is_room ?c_dP_is_room ?k_dP_is_room ?b_dP_is_room; (case a_dP_is_room => k_is); (case l_dP_is_room => k_is); (case c_dP_is_room => k_is); (case k_dP_is_room => k_is); (case b_dP_is_room => exact fun _ _ _ _ _ _ us hl => match us, hl with | [_], _ => rfl))
    (case dP_is_name => refine' Kb.dn_of KX G ?a_dP_is_name ?l_dP_is_name ?c_dP_is_name ?k_dP_is_name ?b_dP_is_name; (case a_dP_is_name => k_is); (case l_dP_is_name => k_is); (case c_dP_is_name => k_is); (case k_dP_is_name => k_is); (case b_dP_is_name => exact fun _ _ _ _ _ _ us hl => match us, hl with | [_], _ => rfl))
    (case dP_is_stream => refine' Kb.dn_of KX G ?a_dP_is_stream ?l_dP_is_stream ?c_dP_is_stream ?k_dP_is_stream ?b_dP_is_stream; (case a_dP_is_stream => k_is); (case l_dP_is_stream => k_is); (case c_dP_is_stream => k_is); (case k_dP_is_stream => k_is); (case b_dP_is_stream => exact fun _ _ _ _ _ _ us hl => match us, hl with | [_], _ => rfl))
    (case dP_is_put => refine' ⟨Kb.dn_of KX G ?a_pp ?l_pp ?c_pp ?k_pp ?b_pp, Kb.dn_of KX G ?a_po ?l_po ?c_po ?k_po ?b_po⟩; (case a_pp => k_is); (case l_pp => k_is); (case c_pp => k_is); (case k_pp => k_is); (case b_pp => exact fun _ _ _ _ _ _ us hl => match us, hl with | [_, _], _ => rfl); (case a_po => k_is); (case l_po => k_is); (case c_po => k_is); (case k_po => k_is); (case b_po => exact fun _ _ _ _ _ _ us hl => match us, hl with | [_, _, _], _ => rfl))
    (case dP_is_pour => refine' Kb.dn_of KX G ?a_dP_is_pour ?l_dP_is_pour ?c_dP_is_pour ?k_dP_is_pour ?b_dP_is_pour; (case a_dP_is_pour => k_is); (case l_dP_is_pour => k_is); (case c_dP_is_pour => k_is); (case k_dP_is_pour => k_is); (case b_dP_is_pour => exact fun _ _ _ _ _ _ us hl => match us, hl with | [_], _ => rfl))
    (case dP_is_tree => refine' Kb.dn_of KX G ?a_dP_is_tree ?l_dP_is_tree ?c_dP_is_tree ?k_dP_is_tree ?b_dP_is_tree; (case a_dP_is_tree => k_is); (case l_dP_is_tree => k_is); (case c_dP_is_tree => k_is); (case k_dP_is_tree => k_is); (case b_dP_is_tree => exact fun _ _ _ _ _ _ us hl => match us, hl with | [_], _ => rfl))
    (case dP_are_counts => refine' Kb.dn_of KX G ?a_dP_are_counts ?l_dP_are_counts ?c_dP_are_counts ?k_dP_are_counts ?b_dP_are_counts; (case a_dP_are_counts => k_is); (case l_dP_are_counts => k_is); (case c_dP_are_counts => k_is); (case k_dP_are_counts => k_is); (case b_dP_are_counts => exact fun _ _ _ _ _ _ us hl => match us, hl with | [_], _ => rfl))
    (case dP_is_counted => refine' Kb.dn_of KX G ?a_dP_is_counted ?l_dP_is_counted ?c_dP_is_counted ?k_dP_is_counted ?b_dP_is_counted; (case a_dP_is_counted => k_is); (case l_dP_is_counted => k_is); (case c_dP_is_counted => k_is); (case k_dP_is_counted => k_is); (case b_dP_is_counted => exact fun _ _ _ _ _ _ us hl => match us, hl with | [_], _ => rfl))
    (case dP_counts_of => refine' Kb.dn_of KX G ?a_dP_counts_of ?l_dP_counts_of ?c_dP_counts_of ?k_dP_counts_of ?b_dP_counts_of; (case a_dP_counts_of => k_is); (case l_dP_counts_of => k_is); (case c_dP_counts_of => k_is); (case k_dP_counts_of => k_is); (case b_dP_counts_of => exact fun _ _ _ _ _ _ us hl => match us, hl with | [_], _ => rfl))
    (case dP_lost_of => refine' Kb.dn_of KX G ?a_dP_lost_of ?l_dP_lost_of ?c_dP_lost_of ?k_dP_lost_of ?b_dP_lost_of; (case a_dP_lost_of => k_is); (case l_dP_lost_of => k_is); (case c_dP_lost_of => k_is); (case k_dP_lost_of => k_is); (case b_dP_lost_of => exact fun _ _ _ _ _ _ us hl => match us, hl with | [_], _ => rfl))
    (case dP_is_sketch => refine' Kb.dn_of KX G ?a_dP_is_sketch ?l_dP_is_sketch ?c_dP_is_sketch ?k_dP_is_sketch ?b_dP_is_sketch; (case a_dP_is_sketch => k_is); (case l_dP_is_sketch => k_is); (case c_dP_is_sketch => k_is); (case k_dP_is_sketch => k_is); (case b_dP_is_sketch => exact fun _ _ _ _ _ _ us hl => match us, hl with | [_], _ => rfl))
    (case dP_bare => refine' Kb.dn_of KX G ?a_dP_bare ?l_dP_bare ?c_dP_bare ?k_dP_bare ?b_dP_bare; (case a_dP_bare => k_is); (case l_dP_bare => k_is); (case c_dP_bare => k_is); (case k_dP_bare => k_is); (case b_dP_bare => exact fun _ _ _ _ _ _ us hl => match us, hl with | [_], _ => rfl))
    (case dP_sketch_of => refine' Kb.dn_of KX G ?a_dP_sketch_of ?l_dP_sketch_of ?c_dP_sketch_of ?k_dP_sketch_of ?b_dP_sketch_of; (case a_dP_sketch_of => k_is); (case l_dP_sketch_of => k_is); (case c_dP_sketch_of => k_is); (case k_dP_sketch_of => k_is); (case b_dP_sketch_of => exact fun _ _ _ _ _ _ us hl => match us, hl with | [_, _], _ => rfl))
    (case dP_asked => refine' Kb.dn_of KX G ?a_dP_asked ?l_dP_asked ?c_dP_asked ?k_dP_asked ?b_dP_asked; (case a_dP_asked => k_is); (case l_dP_asked => k_is); (case c_dP_asked => k_is); (case k_dP_asked => k_is); (case b_dP_asked => exact fun _ _ _ _ _ _ us hl => match us, hl with | [_], _ => rfl))
    (case dP_parted => refine' Kb.dn_of KX G ?a_dP_parted ?l_dP_parted ?c_dP_parted ?k_dP_parted ?b_dP_parted; (case a_dP_parted => k_is); (case l_dP_parted => k_is); (case c_dP_parted => k_is); (case k_dP_parted => k_is); (case b_dP_parted => exact fun _ _ _ _ _ _ us hl => match us, hl with | [_, _], _ => rfl))
    (case dP_plans_of => refine' Kb.dn_of KX G ?a_dP_plans_of ?l_dP_plans_of ?c_dP_plans_of ?k_dP_plans_of ?b_dP_plans_of; (case a_dP_plans_of => k_is); (case l_dP_plans_of => k_is); (case c_dP_plans_of => k_is); (case k_dP_plans_of => k_is); (case b_dP_plans_of => exact fun _ _ _ _ _ _ us hl => match us, hl with | [_, _], _ => rfl))
    (case dP_filled => refine' Kb.dn_of KX G ?a_dP_filled ?l_dP_filled ?c_dP_filled ?k_dP_filled ?b_dP_filled; (case a_dP_filled => k_is); (case l_dP_filled => k_is); (case c_dP_filled => k_is); (case k_dP_filled => k_is); (case b_dP_filled => exact fun _ _ _ _ _ _ us hl => match us, hl with | [_, _, _, _], _ => rfl))
    (case dP_is_question => refine' Kb.dn_of KX G ?a_dP_is_question ?l_dP_is_question ?c_dP_is_question ?k_dP_is_question ?b_dP_is_question; (case a_dP_is_question => k_is); (case l_dP_is_question => k_is); (case c_dP_is_question => k_is); (case k_dP_is_question => k_is); (case b_dP_is_question => exact fun _ _ _ _ _ _ us hl => match us, hl with | [_], _ => rfl))
    (case dP_worth => refine' Kb.dn_of KX G ?a_dP_worth ?l_dP_worth ?c_dP_worth ?k_dP_worth ?b_dP_worth; (case a_dP_worth => k_is); (case l_dP_worth => k_is); (case c_dP_worth => k_is); (case k_dP_worth => k_is); (case b_dP_worth => exact fun _ _ _ _ _ _ us hl => match us, hl with | [_, _, _], _ => rfl))
    (case dP_need_both => refine' Kb.dn_of KX G ?a_dP_need_both ?l_dP_need_both ?c_dP_need_both ?k_dP_need_both ?b_dP_need_both; (case a_dP_need_both => k_is); (case l_dP_need_both => k_is); (case c_dP_need_both => k_is); (case k_dP_need_both => k_is); (case b_dP_need_both => exact fun _ _ _ _ _ _ us hl => match us, hl with | [_, _], _ => rfl))
    (case dP_named => refine' Kb.dn_of KX G ?a_dP_named ?l_dP_named ?c_dP_named ?k_dP_named ?b_dP_named; (case a_dP_named => k_is); (case l_dP_named => k_is); (case c_dP_named => k_is); (case k_dP_named => k_is); (case b_dP_named => exact fun _ _ _ _ _ _ us hl => match us, hl with | [_, _], _ => rfl))
    (case dP_ends => refine' Kb.dn_of KX G ?a_dP_ends ?l_dP_ends ?c_dP_ends ?k_dP_ends ?b_dP_ends; (case a_dP_ends => k_is); (case l_dP_ends => k_is); (case c_dP_ends => k_is); (case k_dP_ends => k_is); (case b_dP_ends => exact fun _ _ _ _ _ _ us hl => match us, hl with | [_, _], _ => rfl))
    (case dP_are_sketches => refine' Kb.dn_of KX G ?a_dP_are_sketches ?l_dP_are_sketches ?c_dP_are_sketches ?k_dP_are_sketches ?b_dP_are_sketches; (case a_dP_are_sketches => k_is); (case l_dP_are_sketches => k_is); (case c_dP_are_sketches => k_is); (case k_dP_are_sketches => k_is); (case b_dP_are_sketches => exact fun _ _ _ _ _ _ us hl => match us, hl with | [_], _ => rfl))
    (case dP_sum_ends => refine' Kb.dn_of KX G ?a_dP_sum_ends ?l_dP_sum_ends ?c_dP_sum_ends ?k_dP_sum_ends ?b_dP_sum_ends; (case a_dP_sum_ends => k_is); (case l_dP_sum_ends => k_is); (case c_dP_sum_ends => k_is); (case k_dP_sum_ends => k_is); (case b_dP_sum_ends => exact fun _ _ _ _ _ _ us hl => match us, hl with | [_, _], _ => rfl))
    (case dmixed => refine' Kb.dn_of KX G ?a_dmixed ?l_dmixed ?c_dmixed ?k_dmixed ?b_dmixed; (case a_dmixed => k_is); (case l_dmixed => k_is); (case c_dmixed => k_is); (case k_dmixed => k_is); (case b_dmixed => exact fun _ _ _ _ _ _ us hl => match us, hl with | [_], _ => rfl))
    (case dwell => refine' Kb.dn_of KX G ?a_dwell ?l_dwell ?c_dwell ?k_dwell ?b_dwell; (case a_dwell => k_is); (case l_dwell => k_is); (case c_dwell => k_is); (case k_dwell => k_is); (case b_dwell => exact fun _ _ _ _ _ _ us hl => match us, hl with | [_], _ => rfl))
    (case dfilled => refine' Kb.dn_of KX G ?a_dfilled ?l_dfilled ?c_dfilled ?k_dfilled ?b_dfilled; (case a_dfilled => k_is); (case l_dfilled => k_is); (case c_dfilled => k_is); (case k_dfilled => k_is); (case b_dfilled => exact fun _ _ _ _ _ _ us hl => match us, hl with | [_], _ => rfl))
    (case ddraw => refine' Kb.dn_of KX G ?a_ddraw ?l_ddraw ?c_ddraw ?k_ddraw ?b_ddraw; (case a_ddraw => k_is); (case l_ddraw => k_is); (case c_ddraw => k_is); (case k_ddraw => k_is); (case b_ddraw => exact fun _ _ _ _ _ _ us hl => match us, hl with | [_, _], _ => rfl))
    (case dnumber => refine' Kb.dn_of KX G ?a_dnumber ?l_dnumber ?c_dnumber ?k_dnumber ?b_dnumber; (case a_dnumber => k_is); (case l_dnumber => k_is); (case c_dnumber => k_is); (case k_dnumber => k_is); (case b_dnumber => exact fun _ _ _ _ _ _ us hl => match us, hl with | [_], _ => rfl))
    (case dname => refine' Kb.dn_of KX G ?a_dname ?l_dname ?c_dname ?k_dname ?b_dname; (case a_dname => k_is); (case l_dname => k_is); (case c_dname => k_is); (case k_dname => k_is); (case b_dname => exact fun _ _ _ _ _ _ us hl => match us, hl with | [_], _ => rfl))
    (case dunlike => refine' Kb.dn_of KX G ?a_dunlike ?l_dunlike ?c_dunlike ?k_dunlike ?b_dunlike; (case a_dunlike => k_is); (case l_dunlike => k_is); (case c_dunlike => k_is); (case k_dunlike => k_is); (case b_dunlike => exact fun _ _ _ _ _ _ us hl => match us, hl with | [_], _ => rfl))
    (case dnames => refine' Kb.dn_of KX G ?a_dnames ?l_dnames ?c_dnames ?k_dnames ?b_dnames; (case a_dnames => k_is); (case l_dnames => k_is); (case c_dnames => k_is); (case k_dnames => k_is); (case b_dnames => exact fun _ _ _ _ _ _ us hl => match us, hl with | [_, _], _ => rfl))
    (case dsum => refine' Kb.dn_of KX G ?a_dsum ?l_dsum ?c_dsum ?k_dsum ?b_dsum; (case a_dsum => k_is); (case l_dsum => k_is); (case c_dsum => k_is); (case k_dsum => k_is); (case b_dsum => exact fun _ _ _ _ _ _ us hl => match us, hl with | [_], _ => rfl))
    (case dkept => refine' Kb.dn_of KX G ?a_dkept ?l_dkept ?c_dkept ?k_dkept ?b_dkept; (case a_dkept => k_is); (case l_dkept => k_is); (case c_dkept => k_is); (case k_dkept => k_is); (case b_dkept => exact fun _ _ _ _ _ _ us hl => match us, hl with | [_, _, _, _], _ => rfl))
    (case dsketch => refine' Kb.dn_of KX G ?a_dsketch ?l_dsketch ?c_dsketch ?k_dsketch ?b_dsketch; (case a_dsketch => k_is); (case l_dsketch => k_is); (case c_dsketch => k_is); (case k_dsketch => k_is); (case b_dsketch => exact fun _ _ _ _ _ _ us hl => match us, hl with | [_, _, _, _], _ => rfl))
    (case dalike => refine' Kb.dn_of KX G ?a_dalike ?l_dalike ?c_dalike ?k_dalike ?b_dalike; (case a_dalike => k_is); (case l_dalike => k_is); (case c_dalike => k_is); (case k_dalike => k_is); (case b_dalike => exact fun _ _ _ _ _ _ us hl => match us, hl with | [_, _], _ => rfl))
    (case dothers => refine' Kb.dn_of KX G ?a_dothers ?l_dothers ?c_dothers ?k_dothers ?b_dothers; (case a_dothers => k_is); (case l_dothers => k_is); (case c_dothers => k_is); (case k_dothers => k_is); (case b_dothers => exact fun _ _ _ _ _ _ us hl => match us, hl with | [_], _ => rfl))
    (case dpaper => refine' Kb.dn_of KX G ?a_dpaper ?l_dpaper ?c_dpaper ?k_dpaper ?b_dpaper; (case a_dpaper => k_is); (case l_dpaper => k_is); (case c_dpaper => k_is); (case k_dpaper => k_is); (case b_dpaper => exact fun _ _ _ _ _ _ us hl => match us, hl with | [_, _, _], _ => rfl))
    (case dcount_of => refine' Kb.dn_of KX G ?a_dcount_of ?l_dcount_of ?c_dcount_of ?k_dcount_of ?b_dcount_of; (case a_dcount_of => k_is); (case l_dcount_of => k_is); (case c_dcount_of => k_is); (case k_dcount_of => k_is); (case b_dcount_of => exact fun _ _ _ _ _ _ us hl => match us, hl with | [_, _], _ => rfl))

