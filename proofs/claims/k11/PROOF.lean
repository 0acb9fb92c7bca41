import PyProof.Rows.All
import HandS.ForMost
import HandS.ForExc
import HandS.SortKw
import HandS.SortRule
import HandS.DictTup
import HandS.DictComp
import HandS.ListItems
import HandS.Conv
import HandS.IsInst
import HandS.Codes
import HandS.Walk
import HandS.Style
import KE.KDictSum
import KE.KSortTupAny
import KE.KDictPairs
import HandS.ExcValue
import HandS.Strs
import HandS.TupSets
import HandS.SetKeys
import PySem.Challenge.RW_knownends_k11_whole_sketches_poured_by_a
import HandS.CallLocal
set_option Elab.async false
set_option linter.all false
set_option maxRecDepth 100000
set_option maxHeartbeats 0
/-! own rules: sorted of pairs (text, int), of views -/
namespace SrtZ
open PySem PyProof.Rows Srt SrtO PySem.W
abbrev ltZ (x y : Str) : Bool := decide (x.cps.toList < y.cps.toList)
theorem str_of {x y : Str} (h : x.cps.toList = y.cps.toList) : x = y := by
  cases x; cases y
  simp at h
  rw [h]
theorem ltZ_irr (x : Str) : ltZ x x = false := decide_eq_false (List.lt_irrefl _)
theorem ltZ_asym {x y : Str} (h : ltZ x y = true) : ltZ y x = false := decide_eq_false (List.lt_asymm (of_decide_eq_true h))
theorem ltZ_trans {x y z : Str} (h : ltZ x y = true) (k : ltZ y z = true) : ltZ x z = true := decide_eq_true (List.lt_trans (of_decide_eq_true h) (of_decide_eq_true k))
theorem ltZ_tri {x y : Str} (h : ltZ x y = false) (k : ltZ y x = false) : x = y :=
  str_of (List.le_antisymm (List.not_lt.mp (of_decide_eq_false k)) (List.not_lt.mp (of_decide_eq_false h)))
def lexZ (p q : Str × Int) : Bool := if p.1 = q.1 then decide (p.2 < q.2) else ltZ p.1 q.1
theorem lexZ_eq {p q : Str × Int} (e : p.1 = q.1) : lexZ p q = decide (p.2 < q.2) := if_pos e
theorem lexZ_ne {p q : Str × Int} (e : ¬ p.1 = q.1) : lexZ p q = ltZ p.1 q.1 := if_neg e
theorem swo_Z : Swo lexZ := by
  refine ⟨fun x y h => ?_, fun x y z h1 h2 => ?_⟩
  · by_cases e : x.1 = y.1
    · rw [lexZ_eq e, decide_eq_true_eq] at h
      rw [lexZ_eq e.symm]
      exact decide_eq_false (by omega)
    · rw [lexZ_ne e] at h
      rw [lexZ_ne (fun z => e z.symm)]
      exact ltZ_asym h
  · by_cases e : x.1 = y.1
    · rw [lexZ_eq e.symm, decide_eq_false_iff_not] at h1
      by_cases f : y.1 = z.1
      · rw [lexZ_eq f.symm, decide_eq_false_iff_not] at h2
        rw [lexZ_eq (e.trans f).symm]
        exact decide_eq_false (by omega)
      · rw [lexZ_ne (fun q => f q.symm)] at h2
        rw [lexZ_ne (fun q => f (e.symm.trans q.symm)), e]
        exact h2
    · rw [lexZ_ne (fun q => e q.symm)] at h1
      by_cases f : y.1 = z.1
      · rw [lexZ_ne (fun q => e (q.symm.trans f.symm)), ← f]
        exact h1
      · rw [lexZ_ne (fun q => f q.symm)] at h2
        have g1 : ltZ x.1 y.1 = true := by
          rcases bcase (ltZ x.1 y.1) with q | q
          · exact q
          · exact absurd (ltZ_tri q h1) e
        have g2 : ltZ y.1 z.1 = true := by
          rcases bcase (ltZ y.1 z.1) with q | q
          · exact q
          · exact absurd (ltZ_tri q h2) f
        have g := ltZ_trans g1 g2
        have ne : ¬ z.1 = x.1 := fun q => by
          rw [q, ltZ_irr] at g
          cases g
        rw [lexZ_ne ne]
        exact ltZ_asym g
/-- a tuple (text, int) -/
def IsPZ (h : Heap) (v : Value) (p : Str × Int) : Prop := ∃ a o t u n, v = .ref a ∧ h.get? a = some o ∧ o.cls = .type "tuple" ∧ o.data = .seq #[.str p.1 t, .int p.2 u] n
theorem IsPZ.keeps {h h' : Heap} {v : Value} {p : Str × Int} (x : IsPZ h v p) (k : ∀ b o, h.get? b = some o → o.cls = .type "tuple" → h'.get? b = some o) : IsPZ h' v p := by
  obtain ⟨a, o, t, u, n, e, ho, hc, hd⟩ := x
  exact ⟨a, o, t, u, n, e, k _ _ ho hc, hc, hd⟩
section
variable {prog : Program} {w : World} {A : Around} {E : Value → Shared → Prop} {s : Shared}
theorem firstsZ {h : Heap} : ∀ {vs : List Value}, (∀ v ∈ vs, ∃ p, IsPZ h v p) → ∃ fs : List Value, KatTups h vs fs ∧ fs.length = vs.length ∧ ∀ f ∈ fs, ∃ x t, f = Value.str x t
  | [], _ => ⟨[], KatTups.nil, rfl, fun _ hm => by simp at hm⟩
  | v :: vs, hp => by
    obtain ⟨fs, h1, h2, h3⟩ := firstsZ (vs := vs) fun v' hm => hp v' (List.mem_cons_of_mem _ hm)
    obtain ⟨p, a, o, t, u, n, e, ho, hc, hd⟩ := hp v List.mem_cons_self
    subst e
    refine ⟨.str p.1 t :: fs, KatTups.cons ho hc hd rfl h1, by rw [List.length_cons, List.length_cons, h2], fun f hm => ?_⟩
    rcases List.mem_cons.mp hm with rfl | hm
    · exact ⟨_, t, rfl⟩
    · exact h3 f hm
theorem pairZ_cmp {vs : List Value} {k : Value → Str × Int} (hp : ∀ v ∈ vs, IsPZ s.heap v (k v)) : Cmp prog w A s (tuples' true) (fun p => p.1 ∈ vs) (lt2 fun v u => lexZ (k v) (k u)) := by
  intro p q hm hm'
  have h1 := hp _ hm
  have h2 := hp _ hm'
  show wpAny (model prog w) A (keyLt' (tuples' true) p.1 q.1) (fun r s' => s' = s ∧ r = lexZ (k p.1) (k q.1)) (fun _ _ => False) s
  generalize k p.1 = x at h1 ⊢
  generalize k q.1 = y at h2 ⊢
  obtain ⟨a, o, t, u, n, e, ho, hc, hd⟩ := h1
  obtain ⟨a', o', t', u', n', e', ho', hc', hd'⟩ := h2
  rw [e, e']
  refine kat_lt ho hd ho' hd' ?_
  show KatLex prog w A true (decide (2 < 2)) _ [(.str x.1 t, .str y.1 t'), (.int x.2 u, .int y.2 u')] 0 s
  refine kat_cons (wpAny_eqBool_str ?_)
  refine kat_go (fun e1 => ?_) (fun e1 => ?_)
  · have ex : x.1 = y.1 := of_decide_eq_true e1
    refine kat_yes (kat_cons (wpAny_eqBool_int ?_))
    refine kat_go (fun e2 => ?_) (fun e2 => ?_)
    · have ey : x.2 = y.2 := by simpa using e2
      refine kat_yes (kat_nil ⟨rfl, ?_⟩)
      rw [lexZ_eq ex, ey]
      exact (decide_eq_false (Int.lt_irrefl _)).symm
    · exact kat_no (oneLt_any_int ⟨rfl, (lexZ_eq ex).symm⟩)
  · have ex : ¬ x.1 = y.1 := of_decide_eq_false e1
    exact kat_no (oneLt_any_str ⟨rfl, (lexZ_ne ex).symm⟩)
theorem pairsZ_sortable {a : Addr} {vs : List Value} {k : Value → Str × Int} (h0 : 0 < vs.length) (hp : ∀ v ∈ vs, IsPZ s.heap v (k v)) (ha : ∀ o, s.heap.get? a = some o → o.cls ≠ .type "tuple") : SortableO prog w A s a vs fun v u => lexZ (k v) (k u) := by
  intro h' keep
  have hp' : ∀ v ∈ vs, IsPZ h' v (k v) := fun v hm => (hp v hm).keeps fun b o e c => keep b o (fun z => by subst z; exact ha o e c) e
  obtain ⟨fs, h1, h2, h3⟩ := firstsZ fun v hm => ⟨_, hp' v hm⟩
  refine ⟨tuples' true, fun Q E hq => ?_, pairZ_cmp hp'⟩
  refine kat_kind (T := .type "str") h1 (by omega) (fun f hm => ?_) (by rfl) ?_
  · obtain ⟨x, t, rfl⟩ := h3 f hm
    exact Looks.now
  · have e : (Value.type "str" != Value.type "tuple") = true := by first | decide +kernel | rfl | decide
    rw [e]
    exact hq
theorem plain_rev (a : Addr) : Builtin.«list.sort» ⟨[.ref a], []⟩ = Builtin.«list.sort» ⟨[.ref a], [(Str.ofString "reverse", .bool false)]⟩ := by
  rw [list_sort_rev]
  first | rfl | kernel_rfl
/-- sorted(x, ..) over what is collected of x -/
theorem sorted_col {x : Value} {b : Bool} {kw : List (Str × Value)} {ltv : Heap → Value → Value → Bool} {Q : Value → Shared → Prop} {P : Heap → Nat → List Value → Prop}
    (hk : ∀ a, Builtin.«list.sort» ⟨[.ref a], kw⟩ = Builtin.«list.sort» ⟨[.ref a], [(Str.ofString "reverse", .bool b)]⟩) (ha1 : argsOk "sorted" ⟨[x], kw⟩) (ha2 : ∀ a, argsOk "list.sort" ⟨[a], kw⟩)
    (hcol : ∀ R : List Value → Shared → Prop, (∀ h' tk vs, (∀ b o, s.heap.get? b = some o → h'.get? b = some o) → P h' tk vs → R vs { s with heap := h', toks := tk }) → wpAny (model prog w) A.in1 (collect x) R E s)
    (O : ∀ h' tk vs, P h' tk vs → Swo (ltv h')) (hz : ∀ h' tk vs, P h' tk vs → vs.length ≤ sizeLine)
    (hS : ∀ h' tk vs, P h' tk vs → 2 ≤ vs.length → ∀ (h₁ : Heap) (a : Addr), h₁.get? a = some (seqObj "list" vs.toArray 0) → (∀ b o, h'.get? b = some o → b ≠ a ∧ h₁.get? b = some o) → SortableO prog w A.in1.in1 { s with heap := h₁, toks := tk } a vs (ltv h'))
    (h : ∀ h' tk vs out h2, (∀ b o, s.heap.get? b = some o → h'.get? b = some o) → P h' tk vs → Srtd (ltv h') out → Stb (ltv h') out (if b = true then vs.reverse else vs) → (∀ c o, h'.get? c = some o → h2.get? c = some o) →
      (∃ n, h2.get? h'.objs.size = some (seqObj "list" (if b = true then out.toArray.reverse else out.toArray) n)) → Q (.ref h'.objs.size) { s with heap := h2, toks := tk }) :
    wpAny (model prog w) A (call (.builtin "sorted") [x] kw) Q E s := by
  refine call_function_entry_kw kind_sorted plain_sorted entry_sorted ha1 ?_
  unfold Builtin.«sorted»
  refine wpAny_bind (m := checkCount "sorted" 1 1 _) (wpAny_pure ?_)
  refine wpAny_bind (hcol _ fun h' tk vs hkp hP => ?_)
  refine wpAny_bind (wpAny_newList ?_ (hz _ _ _ hP))
  have hoL : (h'.push (seqObj "list" vs.toArray 0)).get? h'.objs.size = some (seqObj "list" vs.toArray 0) := Heap.get?_push_size _ rfl
  have keep : ∀ b o, h'.get? b = some o → b ≠ h'.objs.size ∧ (h'.push (seqObj "list" vs.toArray 0)).get? b = some o := fun b o q => ⟨Nat.ne_of_lt (Heap.lt_size q), Heap.get?_push_of_some _ q⟩
  show wpAny _ _ _ _ _ { s with heap := h'.push (seqObj "list" vs.toArray 0), toks := tk }
  refine wpAny_bind (wpAny_holding (wpAny_call_entry_kw slot_list_sort ⟨_, hoL, rfl⟩ entry_list_sort ?_ (ha2 _)))
  rw [hk]
  refine SrtR.list_sort_ordR (s := { s with heap := h'.push (seqObj "list" vs.toArray 0), toks := tk }) (O _ _ _ hP) hoL (hz _ _ _ hP) (fun h2 => hS _ _ _ hP h2 _ _ hoL keep) fun out hs hb => ⟨_, rfl, ?_⟩
  refine wpAny_pure ⟨_, rfl, h h' tk vs out _ hkp hP hs hb (fun c o q => ?_) ?_⟩
  · exact (sortedHeap_old (keep c o q).1 (Heap.lt_size (keep c o q).2)).trans (keep c o q).2
  · exact sortedHeap_at hoL
end
end SrtZ

namespace L2
open PySem PySem.Spec PyProof.Rows SrtO SrtZ
/-- counts as a dict's pairs -/
abbrev entZ (e : Str × Int) : Key × V := (Sum.inr e.1, V.int e.2)
section
variable {X : Cx}
/-- d.items() -/
def rItemsK : V → List V → Hp → VK → Prop := fun x xs H Q => ∃ (a : Addr) (kvs : List (Key × V)), x = .ref a ∧ xs = [] ∧ H a = some (.dK kvs) ∧ ∀ p, H p = none → Q (.ref p) (upd H p (DX.itemsO p a))
theorem mt_itemsK : MtR X "dict.items" rItemsK := by
  intro pins s σ H x xs v us Q I rx rxs h
  obtain ⟨a, kvs, rfl, rfl, ha, q⟩ := h
  cases rx
  cases rxs
  obtain ⟨z, hd, vs, kv, o, es, ep, ho, hx, hdat, _⟩ := dk_of I.hok ha
  refine DT.callItems (es := es) (ep := ep) hd ⟨o, ho, hx, hdat⟩ ?_
  have hf : H s.heap.objs.size = none := I.hok.fresh (Nat.le_refl _)
  exact ⟨.ref s.heap.objs.size, upd H s.heap.objs.size (DX.itemsO s.heap.objs.size a), I.laid (t' := s.toks) (fun b u e => Heap.get?_push_of_some _ e) (Nat.le_refl _) (DX.itemsO_ok (Heap.get?_push_size _ rfl)), rfl, q _ hf⟩
/-- d.values() -/
def valuesO (p d : Addr) : HO := .ext fun h => h.IsValuesView p d
theorem valuesO_ok {P : Program} {w : World} {H : Hp} {h : Heap} {p d : Addr} (e : h.get? p = some { cls := .type "dict_values", data := .fields #[.ref d] }) : ObjOk P w H h p (valuesO p d) :=
  ⟨⟨_, e, rfl, rfl⟩, ⟨_, e⟩, fun h1 h2 x k => let ⟨o, ho, r⟩ := x; ⟨o, k o ho, r⟩⟩
def rValuesK : V → List V → Hp → VK → Prop := fun x xs H Q => ∃ (a : Addr) (kvs : List (Key × V)), x = .ref a ∧ xs = [] ∧ H a = some (.dK kvs) ∧ ∀ p, H p = none → Q (.ref p) (upd H p (valuesO p a))
theorem mt_valuesK : MtR X "dict.values" rValuesK := by
  intro pins s σ H x xs v us Q I rx rxs h
  obtain ⟨a, kvs, rfl, rfl, ha, q⟩ := h
  cases rx
  cases rxs
  obtain ⟨z, hd, vs, kv, dd⟩ := dk_of I.hok ha
  have hf : H s.heap.objs.size = none := I.hok.fresh (Nat.le_refl _)
  refine call_meetsIn PySem.F.slot_dict_values dd.typeIs PySem.F.entry_dict_values (PySem.F.args_dict_values_1 _) (meets_dict_values (mixKind X.prog X.w) a hd) ⟨⟨vs, dd⟩, ?_⟩
  exact ⟨.ref s.heap.objs.size, upd H s.heap.objs.size (valuesO s.heap.objs.size a), I.laid (t' := s.toks) (fun b u e => Heap.get?_push_of_some _ e) (Nat.le_refl _) (valuesO_ok (Heap.get?_push_size _ rfl)), rfl, q _ hf⟩
end
end L2

namespace L2
open PySem PySem.Spec PyProof.Rows SrtO SrtZ
theorem ent_paired {xs' : List (Key × Value)} : ∀ {ks : List (Str × Int)}, KV (ks.map entZ) xs' → ∀ {j : Nat} {x : Key × Value}, xs'[j]? = some x → ∃ e t, ks[j]? = some e ∧ x = (Sum.inr e.1, Value.int e.2 t) := fun {ks} h {j x} hx => by
  obtain ⟨y, hy, r1, r2⟩ := DX.pget h hx
  rw [List.getElem?_map] at hy
  cases e : ks[j]? with
  | none => rw [e] at hy; cases hy
  | some p =>
    rw [e] at hy
    have hy' : entZ p = y := Option.some.inj hy
    subst hy'
    obtain ⟨t, et⟩ := (show ∃ t, x.2 = Value.int p.2 t from r2)
    refine ⟨p, t, rfl, ?_⟩
    obtain ⟨x1, x2⟩ := x
    have r1' : Sum.inr p.1 = x1 := r1
    have et' : x2 = Value.int p.2 t := et
    rw [← r1', et']
section
variable {X : Cx}
/-- sorted(d.items()), keys texts, values ints, any number of them -/
def rSortedIZ : List V → Hp → VK → Prop := fun vs H Q => ∃ (p d : Addr) (ks : List (Str × Int)), vs = [V.ref p] ∧ H p = some (DX.itemsO p d) ∧ H d = some (.dK (ks.map entZ)) ∧
  ∀ (H' : Hp) (l : Addr) (ys : List (Str × Int)) (ts : List Addr), Same H H' → H l = none → (∀ t ∈ ts, H t = none) → l ∉ ts → ys.Perm ks → Srtd lexZ ys → H' l = some (.lst (ts.map V.ref)) → Paired (fun (t : Addr) (y : Str × Int) => H' t = some (.tup [.str y.1, .int y.2])) ts ys → Q (.ref l) H'
theorem paired_of {α β : Type} {F : α → β → Prop} {l : List (α × β)} (h : ∀ z ∈ l, F z.1 z.2) : Paired F (l.map (·.1)) (l.map (·.2)) := by
  induction l with
  | nil => exact .nil
  | cons a l ih => exact .cons (h a List.mem_cons_self) (ih fun z hz => h z (List.mem_cons_of_mem _ hz))
/-- a tuple's key, read off the heap -/
def keyZ (h : Heap) : Value → Str × Int
  | .ref a => match h.get? a with
    | some o => match o.data with
      | .seq xs _ => match xs.toList with
        | [.str x _, .int y _] => (x, y)
        | _ => (⟨#[]⟩, 0)
      | _ => (⟨#[]⟩, 0)
    | none => (⟨#[]⟩, 0)
  | _ => (⟨#[]⟩, 0)
theorem keyZ_of {h : Heap} {v : Value} {p : Str × Int} (x : IsPZ h v p) : keyZ h v = p := by
  obtain ⟨a, o, t, u, n, rfl, ho, hc, hd⟩ := x
  simp only [keyZ, ho, hd]
theorem swo_key (h : Heap) : Swo fun v u => lexZ (keyZ h v) (keyZ h u) := ⟨fun x y => swo_Z.asym _ _, fun x y z => swo_Z.tr _ _ _⟩
def adr : Value → Addr
  | .ref a => a
  | _ => 0
theorem adr_refs : ∀ as : List Addr, (as.map Value.ref).map adr = as
  | [] => rfl
  | a :: as => congrArg (List.cons a) (adr_refs as)
theorem refs_adr : ∀ out : List Value, (∀ v ∈ out, ∃ a, v = Value.ref a) → (out.map adr).map Value.ref = out
  | [], _ => rfl
  | v :: out, h => by
    obtain ⟨a, rfl⟩ := h v List.mem_cons_self
    show Value.ref a :: (out.map adr).map Value.ref = Value.ref a :: out
    rw [refs_adr out fun u hu => h u (List.mem_cons_of_mem _ hu)]
/-- pairs that were laid and sorted are tracked: a list of them at l, the tuples at ts -/
theorem sortZ_end {pins : List (Addr × Obj)} {σ : St} {H : Hp} {s : Shared} {h' h2 : Heap} {tk l n : Nat} {as : List Addr} {ks : List (Str × Int)} {out : List Value} {Q : VK} (I : Inv X pins σ H s)
    (hk : ∀ b o, s.heap.get? b = some o → h'.get? b = some o) (hk2 : ∀ b o, h'.get? b = some o → h2.get? b = some o) (hl : s.heap.objs.size ≤ l) (hle : as.length ≤ sizeLine) (hlas : ∀ t ∈ as, t ≠ l) (nd : as.Nodup) (ha : ∀ t ∈ as, s.heap.objs.size ≤ t) (hn : H l = none)
    (hks : as.map (fun t => keyZ h' (.ref t)) = ks) (hp : ∀ t ∈ as, ∃ p, IsPZ h' (.ref t) p) (hat : h2.get? l = some (seqObj "list" out.toArray n)) (h1 : Srtd (fun v u => lexZ (keyZ h' v) (keyZ h' u)) out) (hb : out.Perm (as.map Value.ref))
    (q : ∀ (H' : Hp) (ys : List (Str × Int)) (ts : List Addr), Same H H' → H l = none → (∀ t ∈ ts, H t = none) → l ∉ ts → ys.Perm ks → Srtd lexZ ys → H' l = some (.lst (ts.map V.ref)) → Paired (fun (t : Addr) (y : Str × Int) => H' t = some (.tup [.str y.1, .int y.2])) ts ys → Q (.ref l) H') :
    EP X pins σ Q (.ref l) { s with heap := h2, toks := tk } := by
  have isr : ∀ v ∈ out, ∃ a, v = Value.ref a := fun v hv => by
    obtain ⟨a, _, e⟩ := List.mem_map.mp (hb.mem_iff.mp hv)
    exact ⟨a, e.symm⟩
  have eo := refs_adr out isr
  generalize ets : out.map adr = ts at eo
  have pt : ts.Perm as := by
    have := hb.map adr
    rwa [adr_refs, ets] at this
  have kS : ∀ b o, s.heap.get? b = some o → h2.get? b = some o := fun b o e => hk2 b o (hk b o e)
  have I1 : Inv X pins σ H { s with heap := h2, toks := tk } := I.kept (t' := tk) kS
  have hlen : (ts.map V.ref).length ≤ sizeLine := by rw [List.length_map, pt.length_eq]; exact hle
  have rv : Vals (ts.map V.ref) out := by
    rw [← eo]
    exact LiI.vals_refs ts
  have I2 : Inv X pins σ (upd H l (.lst (ts.map V.ref))) { s with heap := h2, toks := tk } := I1.take (h' := h2) (t' := tk) (fun b ob _ e => e) (I.fpOk hl hn) ⟨hlen, out, n, rv, hat⟩
  obtain ⟨H2, I3, g, qt⟩ := DX.takeT (P := fun b vs => vs = [.str (keyZ h' (.ref b)).1, .int (keyZ h' (.ref b)).2]) I as _ I2 nd fun b hb' => by
    obtain ⟨p, hp'⟩ := hp b hb'
    have ek := keyZ_of hp'
    obtain ⟨a, o, t, u, m, e, ho, hc, hd⟩ := hp'
    cases e
    refine ⟨ha b hb', ?_, [.str (keyZ h' (.ref b)).1, .int (keyZ h' (.ref b)).2], rfl, fun H3 => ⟨(by rw [sizeLine_eq]; show 2 ≤ 16777216; omega), [Value.str p.1 t, Value.int p.2 u], by rw [ek]; exact .cons ⟨_, rfl⟩ (.cons ⟨_, rfl⟩ .nil), ⟨o, hk2 _ _ ho, hc, m, hd⟩⟩⟩
    rw [upd_ne (hlas b hb')]
    exact I.hok.fresh (ha b hb')
  have gr : Same H H2 := fun b o e => g b o (by rw [upd_ne (ne_of_none e hn)]; exact e)
  refine ⟨.ref l, H2, I3, rfl, q H2 (ts.map fun t => keyZ h' (.ref t)) ts gr hn (fun t ht => I.hok.fresh (ha t (pt.mem_iff.mp ht))) (fun z => hlas l (pt.mem_iff.mp z) rfl) ?_ ?_ (g _ _ upd_same) ?_⟩
  · rw [← hks]
    exact pt.map _
  · have e : ts.map (fun t => keyZ h' (.ref t)) = out.map (keyZ h') := by
      rw [← eo, List.map_map]
      rfl
    rw [e]
    exact srtd_map h1
  · have : ∀ L : List Addr, (∀ t ∈ L, t ∈ as) → Paired (fun (t : Addr) (y : Str × Int) => H2 t = some (.tup [.str y.1, .int y.2])) L (L.map fun t => keyZ h' (.ref t)) := by
      intro L
      induction L with
      | nil => exact fun _ => .nil
      | cons t L ih =>
        intro hL
        refine .cons ?_ (ih fun u hu => hL u (List.mem_cons_of_mem _ hu))
        obtain ⟨vs, ev, hv⟩ := qt t (hL t List.mem_cons_self)
        rw [← ev]
        exact hv
    exact this ts fun t ht => pt.mem_iff.mp ht
theorem cr_sortedIZ (hc : X.calm = true) : CallR X (.builtin "sorted") rSortedIZ := by
  intro pins s σ H xs us Q I r h
  obtain ⟨p, a, ks, rfl, hp, ha, q⟩ := h
  obtain rfl := Vals.ref1 r
  have view : s.heap.IsItemsView p a := (show ObjOk X.prog X.w H s.heap p (DX.itemsO p a) from I.hok p _ hp).1
  obtain ⟨z, hd, xs', rel, o, es, ep, ho, hx, hdat, _, hes, _⟩ := dk_of I.hok ha
  have l1 : ks.length = xs'.length := by
    have := Paired.length rel
    rwa [List.length_map] at this
  have l2 : es.size = xs'.length := by rw [← Array.length_toList, hes.length]
  have hh : X.A.handled = none := I.ok.hd hc
  have hz : es.size ≤ sizeLine := by rw [List.length_map] at z; omega
  have ent : ∀ (j : Nat) (en : DictEntry), es[j]? = some en → ∃ e t u, ks[j]? = some e ∧ en.key = Value.str e.1 t ∧ en.val = Value.int e.2 u := by
    intro j en he
    have he' : es.toList[j]? = some en := by rw [Array.getElem?_toList]; exact he
    have pz : ∀ {es : List DictEntry} {kvs : List (Key × Value)}, Pairs (mixKind X.prog X.w) es kvs → ∀ {j : Nat} {en : DictEntry}, es[j]? = some en → ∃ x, kvs[j]? = some x ∧ keyIs x.1 en.key = true ∧ en.val = x.2 := by
      intro es kvs h
      induction h with
      | nil => intro j en h; simp at h
      | cons h1 h2 h3 ih =>
        intro j en h
        cases j with
        | zero => cases (Option.some.inj h); exact ⟨_, rfl, h1, h2⟩
        | succ j => exact ih (by simpa using h)
    obtain ⟨x, ex, k1, k2⟩ := pz hes he'
    obtain ⟨e, t, e1, e2⟩ := ent_paired rel ex
    subst e2
    obtain ⟨u, eu⟩ := relV_key k1
    exact ⟨e, u, t, e1, eu, k2⟩
  refine sorted_col (x := .ref p) (b := false) (kw := []) (ltv := fun h' v u => lexZ (keyZ h' v) (keyZ h' u)) (P := fun h' _ vs => ∃ as, vs = as.map Value.ref ∧ as.length = es.size ∧ DT.Made es s.heap.objs.size h' as ∧ s.heap.objs.size < h'.objs.size)
    plain_rev (args_sorted1 _) (fun _ => args_list_sort _) (fun R hR => ?_) (fun h' _ _ _ => swo_key h') (fun h' _ vs hP => ?_) (fun h' tk vs hP h2 h₁ b hb keep => ?_) (fun h' tk vs out h2 hk hP h1 hb hk2 hat => ?_)
  · exact DT.collectI (A := X.A.in1) hh view ⟨o, ho, hx, hdat⟩ hz fun h' tk as hk hlt hl hM => hR h' tk _ hk ⟨as, rfl, hl, hM, hlt⟩
  · obtain ⟨as, rfl, hl, _⟩ := hP
    rw [List.length_map, hl]
    exact hz
  · obtain ⟨as, rfl, hl, hM, _⟩ := hP
    refine pairsZ_sortable (s := { s with heap := h₁, toks := tk }) (k := keyZ h') (by omega) (fun v hv => ?_) (fun ob e => ?_)
    · obtain ⟨t, ht, rfl⟩ := List.mem_map.mp hv
      obtain ⟨j, hj⟩ := List.mem_iff_getElem?.mp ht
      obtain ⟨en, he, hg⟩ := hM.pairs j t hj
      obtain ⟨e, t1, t2, _, k1, k2⟩ := ent j en he
      have x : IsPZ h' (.ref t) e := ⟨t, _, t1, t2, 0, rfl, hg, rfl, by rw [k1, k2]⟩
      rw [keyZ_of x]
      exact x.keeps fun b o e _ => (keep b o e).2
    · have e' : some ob = some (seqObj "list" (as.map Value.ref).toArray 0) := e.symm.trans hb
      cases e'
      intro c
      exact absurd (Value.type.inj c) (by decide)
  · obtain ⟨as, rfl, hl, hM, hlt⟩ := hP
    obtain ⟨n, hat⟩ := hat
    have pz : ∀ (j : Nat) (t : Addr), as[j]? = some t → ∃ e, ks[j]? = some e ∧ IsPZ h' (.ref t) e := fun j t hj => by
      obtain ⟨en, he, hg⟩ := hM.pairs j t hj
      obtain ⟨e, t1, t2, e1, k1, k2⟩ := ent j en he
      exact ⟨e, e1, t, _, t1, t2, 0, rfl, hg, rfl, by rw [k1, k2]⟩
    refine sortZ_end (as := as) (ks := ks) I hk hk2 (Nat.le_of_lt hlt) (by rw [hl]; exact hz) (fun t ht => Nat.ne_of_lt (hM.there ht)) (List.Pairwise.imp (fun h => Nat.ne_of_lt h) hM.rise) (fun t ht => Nat.le_of_lt (hM.above t ht)) (I.hok.fresh (Nat.le_of_lt hlt)) ?_ (fun t ht => ?_) hat h1 hb.perm fun H' ys ts => q H' _ ys ts
    · refine List.ext_getElem? fun j => ?_
      rw [List.getElem?_map]
      cases hj : as[j]? with
      | none =>
        have : ks[j]? = none := List.getElem?_eq_none (by have := List.getElem?_eq_none_iff.mp hj; omega)
        rw [this]
        rfl
      | some t =>
        obtain ⟨e, e1, x⟩ := pz j t hj
        rw [e1]
        show some (keyZ h' (.ref t)) = some e
        rw [keyZ_of x]
    · obtain ⟨j, hj⟩ := List.mem_iff_getElem?.mp ht
      obtain ⟨e, _, x⟩ := pz j t hj
      exact ⟨e, x⟩
end
end L2

namespace SrtZ
open PySem PyProof.Rows Srt SrtO PySem.W
def ltSv (v u : Value) : Bool := ltZ (strOf v) (strOf u)
theorem swo_str : Swo ltSv := by
  refine ⟨fun x y h => ltZ_asym h, fun x y z h1 h2 => ?_⟩
  rcases bcase (ltZ (strOf z) (strOf x)) with q | q
  · rcases bcase (ltZ (strOf x) (strOf y)) with p | p
    · rcases bcase (ltZ (strOf y) (strOf z)) with r | r
      · have := ltZ_asym (ltZ_trans p r)
        rw [q] at this
        cases this
      · have e := ltZ_tri r h2
        have q' : ltZ (strOf z) (strOf x) = true := q
        rw [← e, ltZ_asym p] at q'
        cases q'
    · have e := ltZ_tri p h1
      have q' : ltZ (strOf z) (strOf x) = true := q
      have h2' : ltZ (strOf z) (strOf y) = false := h2
      rw [e, h2'] at q'
      cases q'
  · exact q
theorem strOf_strs : ∀ {vs : List Value} {ss : List Str}, StrsAre vs ss → vs.map strOf = ss
  | _, _, .nil => rfl
  | _, _, .cons y t h => congrArg (y :: ·) (strOf_strs h)
section
variable {prog : Program} {w : World} {A : Around} {E : Value → Shared → Prop} {s : Shared}
theorem str_cmp {vs : List Value} {ss : List Str} (hI : StrsAre vs ss) : Cmp prog w A s oneType' (fun p => p.1 ∈ vs) (lt2 ltSv) := by
  intro p q hm hm'
  obtain ⟨a, t, e⟩ := StrsAre.all hI _ hm
  obtain ⟨b, u, e'⟩ := StrsAre.all hI _ hm'
  show wpAny (model prog w) A (keyLt' oneType' p.1 q.1) (fun r s' => s' = s ∧ r = ltSv p.1 q.1) (fun _ _ => False) s
  rw [e, e', keyLt'_oneType]
  exact oneLt_any_str ⟨rfl, rfl⟩
theorem strs_sortable {a : Addr} {vs : List Value} {ss : List Str} (hI : StrsAre vs ss) (h2 : 2 ≤ vs.length) : SortableO prog w A s a vs ltSv := by
  intro h' _
  refine ⟨oneType', fun Q E hq => ?_, str_cmp hI⟩
  match vs, hI, h2 with
  | v1 :: v2 :: rest, hI, _ =>
    rw [keyKind_strs hI]
    exact wpAny_pure hq
  | [], _, h => exact absurd h (by decide)
  | [v], _, h => exact absurd h (by simp)
end
end SrtZ
namespace L2
open PySem PySem.Spec PyProof.Rows SrtO SrtZ
section
variable {X : Cx}
/-- sorted(xs), xs a list of tuples (text, int), any number of them -/
def rSortedPZ (K : PySem.W.Frag) : List V → Hp → VK → Prop := fun vs H Q => ∃ (a : Addr) (ts : List Addr) (k : Addr → Str × Int), vs = [V.ref a] ∧ SqL K H a (ts.map V.ref) ∧ (∀ t ∈ ts, H t = some (.tup [.str (k t).1, .int (k t).2])) ∧
  ∀ (us : List Addr) (p : Addr), us.Perm ts → Srtd lexZ (us.map k) → H p = none → Q (.ref p) (upd H p (.lst (us.map V.ref)))
theorem cr_sortedPZ : CallR X (.builtin "sorted") (rSortedPZ X.K) := by
  intro pins s σ H vs us Q I r h
  obtain ⟨a, ts, k, rfl, hs, hx, q⟩ := h
  obtain ⟨its, rv, hl, hz⟩ := I.list hs
  obtain rfl := Vals.ref1 r
  obtain rfl := refs_at rv
  rw [List.length_map] at hz
  have hp : ∀ v ∈ ts.map Value.ref, IsPZ s.heap v (k (adr v)) := fun v hv => by
    obtain ⟨t, ht, rfl⟩ := List.mem_map.mp hv
    obtain ⟨_, its2, r2, o, ho, hc, n, hd⟩ := I.hok _ _ (hx t ht)
    obtain ⟨u1, u2, rfl, ri, rj⟩ := vals2 r2
    obtain ⟨t1, rfl⟩ := ri
    obtain ⟨t2, rfl⟩ := rj
    exact ⟨t, o, t1, t2, n, rfl, ho, hc, hd⟩
  refine SrtO.sorted_ord (ltv := fun v u => lexZ (k (adr v)) (k (adr u))) ⟨fun x y => swo_Z.asym _ _, fun x y z => swo_Z.tr _ _ _⟩ hl.isList (by rw [List.length_map]; exact hz) (fun h2 h₁ b hb kk => ?_) fun out h1 h2 => ?_
  · refine pairsZ_sortable (s := { s with heap := h₁ }) (k := fun v => k (adr v)) (by omega) (fun v hv => (hp v hv).keeps fun b o e _ => (kk b o e).2) fun o e => ?_
    have e' : some o = some (seqObj "list" (ts.map Value.ref).toArray 0) := e.symm.trans hb
    cases e'
    intro c
    exact absurd (Value.type.inj c) (by decide)
  · obtain ⟨ep, he'⟩ := PyProof.Rows.sortedAll_at s.heap (ts.map Value.ref) out.toArray
    have isr : ∀ v ∈ out, ∃ a, v = Value.ref a := fun v hv => by
      obtain ⟨a, _, e⟩ := List.mem_map.mp (h2.perm.mem_iff.mp hv)
      exact ⟨a, e.symm⟩
    have eo := refs_adr out isr
    generalize eus : out.map adr = us at eo
    have pt : us.Perm ts := by
      have := h2.perm.map adr
      rwa [adr_refs, eus] at this
    have hlen : (us.map V.ref).length ≤ sizeLine := by rw [List.length_map, pt.length_eq]; exact hz
    have rv : Vals (us.map V.ref) out := by
      rw [← eo]
      exact LiI.vals_refs us
    refine ⟨.ref _, upd H (s.heap.objs.size + 1) (.lst (us.map V.ref)), I.laid (t' := s.toks) (fun _ _ => PyProof.Rows.sortedAll_old) (Nat.le_succ _) ⟨hlen, out, ep, rv, he'⟩, rfl, q us _ pt ?_ (I.hok.fresh (Nat.le_succ _))⟩
    have e : us.map k = out.map fun v => k (adr v) := by
      rw [← eo, List.map_map]
      rfl
    rw [e]
    exact srtd_map h1
/-- the ints of a dict's values -/
theorem vals_ints' {xs' : List (Key × Value)} : ∀ {ks : List (Str × Int)}, KV (ks.map entZ) xs' → ∀ {vs : List Value}, vs.length = xs'.length → (∀ (j : Nat) (v : Value), vs[j]? = some v → ∃ k, xs'[j]? = some (k, v)) → IntsAre vs (ks.map (·.2)) := fun {ks} rel {vs} hl hv => by
  have e : vs = xs'.map (·.2) := PySem.W.kdl_vals_eq vs hl hv
  subst e
  have : ∀ {ks : List (Str × Int)} {xs : List (Key × Value)}, KV (ks.map entZ) xs → IntsAre (xs.map (·.2)) (ks.map (·.2)) := by
    intro ks
    induction ks with
    | nil =>
      intro xs r
      cases r
      exact .nil
    | cons e ks ih =>
      intro xs r
      cases r with
      | cons h t =>
        obtain ⟨u, eu⟩ := (show ∃ t, _ = Value.int e.2 t from h.2)
        rw [List.map_cons, eu]
        exact .cons _ _ (ih t)
  exact this rel
/-- sorted(d.values(), reverse=b), values ints -/
def rSortedVR (b : Bool) : List V → List V → Hp → VK → Prop := fun vs zs H Q => ∃ (p d : Addr) (ks : List (Str × Int)), vs = [V.ref p] ∧ zs = [.bl b] ∧ H p = some (valuesO p d) ∧ H d = some (.dK (ks.map entZ)) ∧
  ∀ (ns : List Int) (l : Addr), ns.Perm (ks.map (·.2)) → OrdB b ns → H l = none → Q (.ref l) (upd H l (.lst (ns.map V.int)))
theorem cr_sortedVR {b : Bool} (hc : X.calm = true) : CallRK X (.builtin "sorted") [Str.ofString "reverse"] (rSortedVR b) := by
  intro pins s σ H vs zs us ws Q I r rz h
  obtain ⟨p, d, ks, rfl, rfl, hp, ha, q⟩ := h
  obtain rfl := Vals.ref1 r
  obtain ⟨w1, rfl, e1⟩ := vals1 rz
  obtain rfl : w1 = Value.bool b := e1
  have view : s.heap.IsValuesView p d := (show ObjOk X.prog X.w H s.heap p (valuesO p d) from I.hok p _ hp).1
  obtain ⟨z, hd, xs', rel, dd⟩ := dk_of I.hok ha
  obtain ⟨ep, hat⟩ := dd.dictAt
  have l1 : ks.length = xs'.length := by
    have := Paired.length rel
    rwa [List.length_map] at this
  have hz : xs'.length ≤ sizeLine := by rw [List.length_map] at z; omega
  refine sorted_col (x := .ref p) (b := b) (kw := [(Str.ofString "reverse", .bool b)]) (ltv := fun _ => SrtO.ltIv) (P := fun h' _ vs => IntsAre vs (ks.map (·.2)))
    (fun _ => rfl) (args_sorted_rev _ _) (fun _ => args_list_sort_rev _ _) (fun R hR => ?_) (fun _ _ _ _ => SrtO.swo_int) (fun h' _ vs hP => ?_) (fun h' tk vs hP h2 h₁ c hb keep => ?_) (fun h' tk vs out h2 hk hP h1 hb hk2 hat => ?_)
  · refine PySem.W.kdu_collect (A := X.A.in1) (PySem.W.kdl_values (knd := mixKind X.prog X.w) (kvs := xs') (ep := ep) (r := p) (d := d)) (I.ok.hd hc) ⟨view, hat⟩ hz fun h' tk acc hk hacc => hR h' tk _ hk (vals_ints' rel (by rw [Array.length_toList]; exact hacc.1) fun j v e => hacc.2 j v (by rw [← Array.getElem?_toList]; exact e))
  · rw [hP.length, List.length_map, l1]
    exact hz
  · exact SrtO.ints_sortable hP h2
  · obtain ⟨n, hat⟩ := hat
    obtain ⟨ns', k1, k2, k3⟩ := SrtR.ints_outR hP h1 hb
    have hlen : (ns'.map V.int).length ≤ sizeLine := by
      rw [List.length_map, k2.length_eq, List.length_map, l1]
      exact hz
    have e0 : ((if b = true then out.toArray.reverse else out.toArray).toList).toArray = (if b = true then out.toArray.reverse else out.toArray) := by rw [Array.toArray_toList]
    have gone : s.heap.get? h'.objs.size = none := by
      cases e : s.heap.get? h'.objs.size with
      | none => rfl
      | some o => exact absurd (Heap.lt_size (hk _ _ e)) (Nat.lt_irrefl _)
    have hn := I.hok.gone gone
    exact ⟨.ref h'.objs.size, upd H h'.objs.size (.lst (ns'.map V.int)), I.laidN (t' := tk) (fun c o e => hk2 c o (hk c o e)) gone hn ⟨hlen, _, n, vals_of_ints k1, by rw [e0]; exact hat⟩, rfl, q _ _ k2 k3 hn⟩
/-- sorted(d), keys texts, any number of them -/
def rSortedDS : List V → Hp → VK → Prop := fun vs H Q => ∃ (d : Addr) (kvs : List (Key × V)) (ss : List Str), vs = [V.ref d] ∧ H d = some (.dK kvs) ∧ kvs.map (·.1) = ss.map Sum.inr ∧
  ∀ (ys : List Str) (l : Addr), ys.Perm ss → Srtd ltZ ys → H l = none → Q (.ref l) (upd H l (.lst (ys.map V.str)))
theorem keys_strs {P : Program} {w : World} {xs' : List (Key × Value)} : ∀ {kvs : List (Key × V)} {ss : List Str}, KV kvs xs' → kvs.map (·.1) = ss.map Sum.inr → ∀ {vs : List Value}, vs.length = xs'.length → (∀ (j : Nat) (v : Value), vs[j]? = some v → ∃ k x, xs'[j]? = some (k, x) ∧ (mixKind P w).is k v = true) → StrsAre vs ss := fun {kvs ss} rel hk {vs} hl hv => by
  have : ∀ {kvs : List (Key × V)} {ss : List Str} {xs : List (Key × Value)} {vs : List Value}, KV kvs xs → kvs.map (·.1) = ss.map Sum.inr → vs.length = xs.length → (∀ (j : Nat) (v : Value), vs[j]? = some v → ∃ k x, xs[j]? = some (k, x) ∧ (mixKind P w).is k v = true) → StrsAre vs ss := by
    intro kvs
    induction kvs with
    | nil =>
      intro ss xs vs r hk hl hv
      cases r
      cases ss with
      | nil =>
        have : vs = [] := List.eq_nil_of_length_eq_zero hl
        subst this
        exact .nil
      | cons _ _ => cases hk
    | cons kv kvs ih =>
      intro ss xs vs r hk hl hv
      cases r with
      | cons h t =>
        cases ss with
        | nil => cases hk
        | cons z ss =>
          cases vs with
          | nil => simp at hl
          | cons v vs =>
            rw [List.map_cons, List.map_cons] at hk
            obtain ⟨h1, h2⟩ := List.cons.inj hk
            obtain ⟨k, x, e1, e2⟩ := hv 0 v rfl
            have e1' := (Prod.mk.inj (Option.some.inj e1)).1
            have kk : k = Sum.inr z := by rw [← e1', ← h.1, h1]
            subst kk
            obtain ⟨u, eu⟩ := relV_key (show keyIs (Sum.inr z) v = true from e2)
            subst eu
            exact .cons _ _ (ih t h2 (by simpa using hl) fun j v' e => hv (j + 1) v' (by simpa using e))
  exact this rel hk hl hv
theorem cr_sortedDS (hc : X.calm = true) : CallR X (.builtin "sorted") rSortedDS := by
  intro pins s σ H xs us Q I r h
  obtain ⟨d, kvs, ss, rfl, ha, hks, q⟩ := h
  obtain rfl := Vals.ref1 r
  obtain ⟨z, hd, xs', rel, dd⟩ := dk_of I.hok ha
  obtain ⟨ep, hat⟩ := dd.dictAt
  have l1 : kvs.length = xs'.length := Paired.length rel
  have hz : xs'.length ≤ sizeLine := by omega
  refine sorted_col (x := .ref d) (b := false) (kw := []) (ltv := fun _ => ltSv) (P := fun _ _ vs => StrsAre vs ss)
    plain_rev (args_sorted1 _) (fun _ => args_list_sort _) (fun R hR => ?_) (fun _ _ _ _ => swo_str) (fun h' _ vs hP => ?_) (fun h' tk vs hP h2 h₁ c hb keep => strs_sortable hP h2) (fun h' tk vs out h2 hk hP h1 hb hk2 hat => ?_)
  · refine PySem.W.kdu_collect (A := X.A.in1) (PySem.W.kdl_dict (knd := mixKind X.prog X.w) (kvs := xs') (ep := ep) (d := d) hd) (I.ok.hd hc) hat hz fun h' tk acc hk hacc => hR h' tk _ hk (keys_strs rel hks (by rw [Array.length_toList]; exact hacc.1) fun j v e => hacc.2 j v (by rw [← Array.getElem?_toList]; exact e))
  · rw [hP.length, ← List.length_map (f := (Sum.inr : Str → Key)), ← hks, List.length_map]
    omega
  · obtain ⟨n, hat⟩ := hat
    have isS : ∀ v ∈ out, ∃ x t, v = Value.str x t := fun v hv => StrsAre.all hP v (hb.perm.mem_iff.mp hv)
    have kp : (out.map strOf).Perm ss := by
      have := hb.perm.map strOf
      rwa [if_neg (by decide), strOf_strs hP] at this
    have hlen : ((out.map strOf).map V.str).length ≤ sizeLine := by
      rw [List.length_map, kp.length_eq, ← List.length_map (f := (Sum.inr : Str → Key)), ← hks, List.length_map]
      omega
    have gone : s.heap.get? h'.objs.size = none := by
      cases e : s.heap.get? h'.objs.size with
      | none => rfl
      | some o => exact absurd (Heap.lt_size (hk _ _ e)) (Nat.lt_irrefl _)
    have hn := I.hok.gone gone
    exact ⟨.ref h'.objs.size, upd H h'.objs.size (.lst ((out.map strOf).map V.str)), I.laidN (t' := tk) (fun c o e => hk2 c o (hk c o e)) gone hn ⟨hlen, out, n, vals_of_strs (strsAre_map out isS), hat⟩, rfl, q _ _ kp (srtd_map h1) hn⟩
/-! plain tuples: such of which no attributes are held -/
def Ptp (H : Hp) (a : Addr) (xs : List V) : Prop := ∃ o : Obj, H a = some (.frz o (.tup xs)) ∧ o.dict = none
theorem Ptp.seq {K : PySem.W.Frag} {H : Hp} {a : Addr} {xs : List V} (h : Ptp H a xs) : SqT K H a xs := let ⟨o, e, _⟩ := h; .inl (.inr ⟨o, e⟩)
theorem Ptp.same {H H' : Hp} {a : Addr} {xs : List V} (h : Ptp H a xs) (s : Same H H') : Ptp H' a xs := let ⟨o, e, d⟩ := h; ⟨o, s _ _ e, d⟩
theorem Ptp.ne {H : Hp} {a p : Addr} {xs : List V} (h : Ptp H a xs) (hp : H p = none) : a ≠ p := let ⟨o, e, _⟩ := h; ne_of_none e hp
theorem Ptp.upd {H : Hp} {a p : Addr} {xs : List V} {u : HO} (h : Ptp H a xs) (n : a ≠ p) : Ptp (L2.upd H p u) a xs := let ⟨o, e, d⟩ := h; ⟨o, by rw [upd_ne n]; exact e, d⟩
/-- (a, b, ..), a plain tuple -/
def tTupF (t : TA) : TE := fun σ H Q => t σ H fun xs H1 => xs.length ≤ sizeLine ∧ ∀ p o, H1 p = none → o.dict = none → Q (.ref p) (upd H1 p (.frz o (.tup xs)))
theorem pe_tupF {x1} {es : List Expr} {t : TA} {pos : Pos} (h : PA X es t) : PE X (.Tuple es x1 pos) (tTupF t) := by
  refine ⟨fun pins s σ H Q I hq => ?_⟩
  refine wpAny_Tuple_spliced (thn (h.run pos pins s σ H _ I hq) fun us s1 ⟨xs, H1, I1, r, z, q⟩ => ⟨by rw [← r.length]; exact z, ?_⟩)
  have hf : H1 s1.heap.objs.size = none := I1.hok.fresh (Nat.le_refl _)
  refine ⟨.ref s1.heap.objs.size, _, I1.laid (t' := s1.toks) (fun b u e => Heap.get?_push_of_some _ e) (Nat.le_refl _) ?_, rfl, q _ { cls := .type "tuple", data := .seq us.toArray } hf rfl⟩
  exact ⟨Heap.get?_push_size _ rfl, z, us, r, ⟨_, Heap.get?_push_size _ rfl, rfl, _, rfl⟩⟩
/-- tuple(xs) of a list, a plain tuple -/
theorem call_tupleF : CallR X (.type "tuple") (fun xs H Q => ∃ p ys, xs = [.ref p] ∧ SqL X.K H p ys ∧ ∀ l o, H l = none → o.dict = none → Q (.ref l) (upd H l (.frz o (.tup ys)))) := by
  intro pins s σ H xs us Q I r h
  obtain ⟨p, ys, rfl, hq, q⟩ := h
  obtain ⟨u, rfl, rx⟩ := vals1 r
  cases rx
  obtain ⟨its, r', pl, hz⟩ := I.list hq
  have hlen := r'.length
  refine call_tuple_list pl.isList (fun h' kp => ?_) (by simp only [List.size_toArray] <;> omega)
  have I1 : Inv X pins σ H { s with heap := h' } := I.kept (t' := s.toks) kp
  have I2 : Inv X pins σ (upd H h'.objs.size (.frz _ (.tup ys))) { s with heap := h'.push { cls := .type "tuple", data := .seq its.toArray } } :=
    I1.laid (t' := s.toks) (fun b o e => Heap.get?_push_of_some _ e) (Nat.le_refl _) (show ObjOk X.prog X.w _ _ _ (.frz _ (.tup ys)) from ⟨Heap.get?_push_size _ rfl, hz, its, r', IsTup.new _ _⟩)
  exact ⟨.ref h'.objs.size, _, I2, rfl, q _ _ (I1.hok.fresh (Nat.le_refl _)) rfl⟩
theorem pairs_of2 {pins : List (Addr × Obj)} {σ : St} {H : Hp} {s : Shared} (I : Inv X pins σ H s) : ∀ {ps : List Addr} {kvs : List (Key × V)}, Paired (fun p kv => SqT X.K H p [kV kv.1, kv.2]) ps kvs →
    ∃ (prs : List (Key × Value)) (vps : List (Value × Value)), KV kvs prs ∧ prs.length = ps.length ∧ vps.length = prs.length ∧
      ∀ (j : Nat) (k v : Value), vps[j]? = some (k, v) → ∃ (b : Addr) (q : Key × Value), ps[j]? = some b ∧ prs[j]? = some q ∧ v = q.2 ∧ IsTup s.heap b #[k, v] ∧ keyIs q.1 k = true
  | _, _, .nil => ⟨[], [], .nil, rfl, rfl, fun j k v e => by simp at e⟩
  | _, _, .cons (a := p) (b := kv) h t => by
    obtain ⟨prs, vps, r, hl, hl2, hp⟩ := pairs_of2 I t
    obtain ⟨its, rv, ht, _⟩ := I.tuple h
    obtain ⟨u, y, ei, ru, ry⟩ := vals2 rv
    subst ei
    refine ⟨(kv.1, y) :: prs, (u, y) :: vps, .cons ⟨rfl, ry⟩ r, by rw [List.length_cons, List.length_cons, hl], by rw [List.length_cons, List.length_cons, hl2], fun j k v e => ?_⟩
    cases j with
    | zero =>
      have e' : (u, y) = (k, v) := Option.some.inj e
      cases e'
      exact ⟨p, _, rfl, rfl, rfl, ht, kV_is (P := X.prog) (w := X.w) ru⟩
    | succ j =>
      obtain ⟨b, q, e1, e2, e3⟩ := hp j k v (by simpa using e)
      exact ⟨b, q, by simpa using e1, by simpa using e2, e3⟩
/-- dict(t), t a plain tuple of pairs -/
theorem call_dictPT (hcalm : X.calm = true) : CallR X (.type "dict") (fun xs H Q => ∃ (a : Addr) (ps : List Addr) (kvs : List (Key × V)), xs = [.ref a] ∧ Ptp H a (ps.map V.ref) ∧ Paired (fun p kv => SqT X.K H p [kV kv.1, kv.2]) ps kvs ∧
    ∀ p, H p = none → Q (.ref p) (upd H p (.dK (mergeK [] kvs)))) := by
  intro pins s σ H xs us Q I r q
  obtain ⟨a, ps, kvs, ex, hq, hp, q⟩ := q
  subst ex
  obtain ⟨u, eu, rx⟩ := vals1 r
  subst eu
  cases rx
  obtain ⟨o, ha, hdn⟩ := hq
  obtain ⟨hao, hz, its, rv, o', hao', hc, n, hdat⟩ := (show ObjOk X.prog X.w H s.heap a (.frz o (.tup (ps.map V.ref))) from I.hok a _ ha)
  rw [hao] at hao'
  cases hao'
  have ei := refs_at rv
  subst ei
  rw [List.length_map] at hz
  obtain ⟨prs, vps, rel, hl, hvl, hvp⟩ := pairs_of2 I hp
  have hTs : ∀ j b, ps[j]? = some b → ps.getD j 0 = b := fun j b e => by simp [List.getD, e]
  refine PySem.call_dict_pairs (knd := mixKind X.prog X.w) (kvs := prs) (PairArg.tuple (prog := X.prog) (w := X.w) a (ps.map Value.ref).toArray (fun j => ps.getD j 0) vps) (I.ok.hd hcalm) ⟨⟨o, n, hao, hc, hdn, hdat⟩, ?_, fun j k v e => ?_⟩ ⟨hvl.symm, fun i key v h => ?_⟩ (by rw [hvl, hl]; exact hz) fun h' tk hd' k => ?_
  · simp [hvl, hl]
  · obtain ⟨b, q, e1, e2, e3, e4, e5⟩ := hvp j k v e
    show _ ∧ PairAt s.heap (ps.getD j 0) k v
    rw [hTs j b e1]
    have ed : (List.map Value.ref ps).toArray[j]? = some (Value.ref b) := by simp [e1]
    refine ⟨?_, .inl e4⟩
    show _ = some (Value.ref (ps.getD j 0))
    rw [hTs j b e1]
    exact ed
  · obtain ⟨b, q', e1, e2, e3, e4, e5⟩ := hvp i key v h
    exact ⟨q'.1, by rw [e2, e3], e5⟩
  · have hm : (s.heap.objs.size == sysModules) = false := beq_eq_false_iff_ne.mpr (Nat.ne_of_gt I.big)
    have hlen : (mergeK [] kvs).length ≤ sizeLine := by
      refine Nat.le_trans (length_mergeK kvs []) ?_
      rw [List.length_nil, Nat.zero_add, rel.length, hl]
      exact hz
    exact ⟨.ref s.heap.objs.size, upd H s.heap.objs.size (.dK (mergeK [] kvs)), I.laid (t' := tk) (fun b u e => k b u (by simp) e) (Nat.le_refl _) (show ObjOk X.prog X.w _ _ _ (.dK (mergeK [] kvs)) from ⟨hlen, hm, merged [] prs, KV.merge rel .nil, hd'⟩), rfl, q _ (I.hok.fresh (Nat.le_refl _))⟩
/-- o.f as a target -/
def gFld (K : PySem.W.Frag) (ta : TE) (f : Str) : TG := fun y σ H Q => ta σ H fun x H2 => ∃ a C dx fs, x = .ref a ∧ H2 a = some (.ins C dx fs) ∧ Cls K C ∧ NoAttr K C f ∧ fs.length < 1000 ∧ Q σ (upd H2 a (.ins C dx (putF f y fs)))
theorem pg_fld {o : Expr} {f : Str} {pos : Pos} {ta : TE} (ha : PE X o ta) : PG X (.Attribute o f pos) (gFld X.K ta f) := by
  refine ⟨fun pins s σ H v u Q I r h => ?_⟩
  rw [assign_Attribute]
  refine wpAny_bind (wpAny_holding (thn (ha.run pins s σ H _ I h) fun ov s2 ⟨x, H2, I2, rx, a, C, dx, fs, ex, ea, c, n, l, q2⟩ => ?_))
  subst ex
  obtain rfl : ov = Value.ref a := rx
  refine wpAny_bind (wpAny_standAt (wpAny_bind (wpAny_holding (setattr_ok I2 ea c n l r fun s3 I3 => ?_))))
  exact wpAny_release ⟨σ, _, I3, q2⟩
end
end L2

namespace L2
open PySem PySem.Spec PyProof.Rows SrtO SrtZ
section
variable {X : Cx}
/-- min(d.values()), values ints -/
def rMinV : List V → Hp → VK → Prop := fun vs H Q => ∃ (p d : Addr) (ks : List (Str × Int)), vs = [V.ref p] ∧ H p = some (valuesO p d) ∧ H d = some (.dK (ks.map entZ)) ∧ 0 < ks.length ∧
  ∀ m, m ∈ ks.map (·.2) → (∀ y ∈ ks.map (·.2), m ≤ y) → Q (.int m) H
theorem cr_minV (hc : X.calm = true) : CallR X (.builtin "min") rMinV := by
  intro pins s σ H vs us Q I r h
  obtain ⟨p, d, ks, rfl, hp, ha, hne, q⟩ := h
  obtain rfl := Vals.ref1 r
  have view : s.heap.IsValuesView p d := (show ObjOk X.prog X.w H s.heap p (valuesO p d) from I.hok p _ hp).1
  obtain ⟨z, hd, xs', rel, dd⟩ := dk_of I.hok ha
  obtain ⟨ep, hat⟩ := dd.dictAt
  have l1 : ks.length = xs'.length := by
    have := Paired.length rel
    rwa [List.length_map] at this
  have K := PySem.W.kdl_values (prog := X.prog) (w := X.w) (knd := mixKind X.prog X.w) (kvs := xs') (ep := ep) (r := p) (d := d)
  have hok : s.heap.IsValuesView p d ∧ s.heap.DictAt (mixKind X.prog X.w) d xs' ep := ⟨view, hat⟩
  have hval : ∀ (i : Nat) (v : Value), (∃ k, xs'[i]? = some (k, v)) → ∃ t : Tok, v = Value.int ((ks.map (·.2)).getD i 0) t := fun i v ⟨k, e⟩ => by
    obtain ⟨e', t, e1, e2⟩ := ent_paired rel e
    refine ⟨t, ?_⟩
    have : (ks.map (·.2)).getD i 0 = e'.2 := by simp [List.getD, e1]
    rw [this]
    exact (Prod.mk.inj e2).2
  refine PySem.call_min_walkS ?_
  obtain ⟨oI, St, hit, W, st⟩ := K.iter X.A.in1 s (I.ok.hd hc) hok
  refine hit _ _ ⟨s.heap.objs.size, _, _, _, xs'.length, _, _, fun i j => decide ((ks.map (·.2)).getD i 0 < (ks.map (·.2)).getD j 0), rfl, W.toS, st, fun b hb => ?_, by omega, PySem.CmpOf.ints_lt _ hval, fun v s' hP hm => ?_⟩
  · show b < (s.heap.push oI).objs.size
    rw [size_push']
    rcases List.mem_cons.mp hb with e | hb
    · rw [e]; exact Nat.lt_succ_self _
    · rw [List.mem_singleton.mp hb]; exact Nat.lt_succ_of_lt (K.there _ hok).2
  · have hk : ∀ b o, s.heap.get? b = some o → s'.heap.get? b = some o := fun b o e =>
      hm.heap b o (fun hI => absurd (Heap.lt_size e) (by rw [List.mem_singleton.mp hI]; exact Nat.lt_irrefl _)) (Heap.get?_push_of_some _ e)
    obtain ⟨t, rfl⟩ := hval _ v hP
    obtain ⟨h1, h2⟩ := argBest_lt (fun i => (ks.map (·.2)).getD i 0) (xs'.length - 1)
    have hI : Inv X pins σ H s' := by
      rw [Moved.eq_with hm]
      exact I.kept (t' := s'.toks) hk
    refine ⟨.int _, H, hI, ⟨t, rfl⟩, q _ ?_ fun a ha => ?_⟩
    · exact PySem.getD_mem (by rw [List.length_map]; omega)
    · obtain ⟨j, hj, rfl⟩ := mem_getD ha
      rw [List.length_map] at hj
      exact h2 j (by omega)
end
end L2

namespace L2
open PySem PySem.Spec PyProof.Rows SrtO SrtZ
/-- a set of texts, in such a table as a walk wants -/
structure StrS (P : Program) (w : World) (h : Heap) (a : Addr) (S : Str → Bool) (n : Nat) (es : Array (Int × Value)) (ep : Nat) (t : SetTable) : Prop where
  ob : ∃ o, h.get? a = some o ∧ o.ExactSet ∧ o.data = .set es ep t
  el : ElemsOf (strKind P w) es.toList
  is_ : ∀ k : Str, S k = true ↔ ∃ e, e ∈ es.toList ∧ (strKind P w).is k e.2 = true
  lt : es.size < scanBound
  fits : t.fits es.size = true
  sz : es.size = n
  ris : Ris t.place.toList
  led : w.params.followText "set-order" = true ∨ t.led = true
def StrSet (P : Program) (w : World) (h : Heap) (a : Addr) (S : Str → Bool) (n : Nat) : Prop := ∃ es ep t, StrS P w h a S n es ep t
section
variable {P : Program} {w : World} {A : Around} {E : Value → Shared → Prop} {s : Shared} {a : Addr}
theorem strS_store {h : Heap} {o : Obj} {es0 : Array (Int × Value)} {ep : Nat} {t0 : SetTable} (h1 : h.get? a = some o) (h2 : o.ExactSet) (h3 : o.data = .set es0 ep t0) {es : Array (Int × Value)} {t : SetTable} {S : Str → Bool}
    (el : ElemsOf (strKind P w) es.toList) (is_ : ∀ k : Str, S k = true ↔ ∃ e, e ∈ es.toList ∧ (strKind P w).is k e.2 = true) (lt : es.size < scanBound) (fits : t.fits es.size = true) (ris : Ris t.place.toList) (led : w.params.followText "set-order" = true ∨ t.led = true) :
    StrS P w (h.update a (Obj.putSet es t)) a S es.size es (ep + 1) t :=
  ⟨⟨_, (SetOf_store (knd := strKind P w) h1 h2 h3 el is_ lt fits).1, h2, rfl⟩, el, is_, lt, fits, rfl, ris, led⟩
theorem strS_tail {g : Bool → Sem Unit} (hg : ∀ (b : Bool) (s₁ : Shared) (Q' : Unit → Shared → Prop), Q' () s₁ → wpAny (model P w) A (g b) Q' E s₁) {o : Obj} {es : Array (Int × Value)} {ep : Nat} {t : SetTable} (h1 : s.heap.get? a = some o) (h2 : o.ExactSet) (h3 : o.data = .set es ep t)
    {es1 : Array (Int × Value)} {t2 : SetTable} {S' : Str → Bool} (el : ElemsOf (strKind P w) es1.toList) (is_ : ∀ k : Str, S' k = true ↔ ∃ e, e ∈ es1.toList ∧ (strKind P w).is k e.2 = true) (lt : es1.size < scanBound) (fits : t2.fits es1.size = true) (ris : Ris t2.place.toList)
    (led : w.params.followText "set-order" = true ∨ t2.led = true) {wasDummy : Bool} {R : Option Bool → Shared → Prop}
    (q : ∀ h' : Heap, Heap.SameBut a s.heap h' → StrSet P w h' a S' es1.size → R (some true) { s with heap := h' }) :
    wpAny (model P w) A (do
      storeSet a es1 t2
      if (!wasDummy && t2.tooFull) = true then do
          g (relayAll t2 es1 (SetTable.grown es1.size)).2.2
          storeSet a (relayAll t2 es1 (SetTable.grown es1.size)).1 (relayAll t2 es1 (SetTable.grown es1.size)).2.1
          pure (some true)
        else pure (some true)) R E s := by
  have st := strS_store (P := P) (w := w) h1 h2 h3 el is_ lt fits ris led
  refine wpAny_bind (wpAny_storeSet_of h1 h3 ?_ (fits_of_scanBound lt))
  obtain ⟨o1, k1, k2, k3⟩ := st.ob
  split
  · refine wpAny_bind (hg _ _ _ ?_)
    have pm := relayAll_perm t2 es1 (SetTable.grown es1.size)
    have sz : (relayAll t2 es1 (SetTable.grown es1.size)).1.size = es1.size := by
      have := pm.length_eq
      simpa using this
    refine wpAny_bind (wpAny_storeSet_of k1 k3 ?_ (by rw [sz]; exact fits_of_scanBound lt))
    refine wpAny_pure ?_
    have st2 := strS_store (P := P) (w := w) (S := S') k1 k2 k3 (el.perm pm) (fun k => (is_ k).trans ⟨fun ⟨e, he, hk⟩ => ⟨e, pm.mem_iff.mpr he, hk⟩, fun ⟨e, he, hk⟩ => ⟨e, pm.mem_iff.mp he, hk⟩⟩) (by rw [sz]; exact lt) (relayAll_fits _ _ _) (relayAll_ris _ _ _) (by rw [relayAll_led]; exact led)
    rw [sz] at st2
    exact q _ (Heap.SameBut.trans (Heap.SameBut.update _ _ _) (Heap.SameBut.update _ _ _)) ⟨_, _, _, st2⟩
  · exact wpAny_pure (q _ (Heap.SameBut.update _ _ _) ⟨_, _, _, st⟩)
theorem gave_of {g : Bool → Sem Unit} (h1 : g true = rule "set.scan.the-table-gave-way") (h2 : g false = pure ()) : ∀ (b : Bool) (s₁ : Shared) (Q' : Unit → Shared → Prop), Q' () s₁ → wpAny (model P w) A (g b) Q' E s₁ := fun b s₁ Q' h => by
  cases b
  · rw [h2]
    exact wpAny_pure h
  · rw [h1]
    exact wpAny_rule h
theorem strS_add {S : Str → Bool} {n : Nat} {z : Str} {tk : Tok} {Q : Bool → Shared → Prop} (h : StrSet P w s.heap a S n) (hn : n + 1 < scanBound)
    (q : ∀ (b : Bool) (h' : Heap), Heap.SameBut a s.heap h' → StrSet P w h' a (fun k => S k || decide (k = z)) (if S z = true then n else n + 1) → Q b { s with heap := h' }) :
    wpAny (model P w) A (setAddHashed a (.str z tk) ((strKind P w).hash z)) Q E s := by
  obtain ⟨es, ep, t, ⟨⟨o, h1, h2, h3⟩, el, is_, lt, fits, sz, ris, led⟩⟩ := h
  subst sz
  unfold setAddHashed
  refine wpAny_holding ?_
  rw [setAddHashedIn.eq_def]
  dsimp only
  refine wpAny_bind (wpAny_setState_of h1 h3 fits ?_)
  dsimp only
  have hb : byScan (.str z tk) es = true := by
    unfold byScan
    rw [decide_eq_true lt]
    simp only [Bool.and_eq_true]
    refine ⟨⟨rfl, trivial⟩, ?_⟩
    rw [Array.all_eq_true']
    intro e he
    exact (el e (by simpa using he)).2
  rw [if_pos hb]
  refine wpAny_bind ?_
  unfold setAddByScan
  refine wpAny_bind (wpAny_rule ?_)
  have hk := strKind_is P w z tk
  refine wpAny_bind (wpAny_setScan_of hk h1 h3 fits el ?_)
  cases hf : List.findIdx? (fun e => (strKind P w).is z e.2) es.toList with
  | some j =>
    dsimp only
    refine wpAny_pure ?_
    dsimp only
    refine wpAny_pure ?_
    have hS : S z = true := by
      obtain ⟨hlt, hj, _⟩ := List.findIdx?_eq_some_iff_getElem.mp hf
      exact (is_ z).mpr ⟨_, List.getElem_mem hlt, hj⟩
    refine q _ _ (Heap.SameBut.refl _ _) ?_
    rw [if_pos hS]
    refine ⟨es, ep, t, ⟨⟨o, h1, h2, h3⟩, el, fun k => ?_, lt, fits, rfl, ris, led⟩⟩
    rw [← is_ k]
    by_cases hkz : k = z
    · subst hkz
      rw [hS]
      rfl
    · rw [decide_eq_false hkz, Bool.or_false]
  | none =>
    dsimp only
    have hS : S z = false := by
      cases e : S z with
      | false => rfl
      | true =>
        obtain ⟨e, he, hke⟩ := (is_ z).mp e
        have := List.findIdx?_eq_none_iff.mp hf e he
        rw [hke] at this
        cases this
    have pm := layNew_perm t es ((strKind P w).hash z) (.str z tk)
    have fi := layNew_fits t es ((strKind P w).hash z) (.str z tk)
    have ri := layNew_ris t es ((strKind P w).hash z) (.str z tk) ris
    have le := layNew_led t es ((strKind P w).hash z) (.str z tk)
    generalize layNew t es ((strKind P w).hash z) (.str z tk) = y at pm fi ri le ⊢
    obtain ⟨es1, t1, wasDummy, gave⟩ := y
    dsimp only at pm fi ri le ⊢
    have sz1 : es1.size = es.size + 1 := by
      have := pm.length_eq
      simpa using this
    have el1 : ElemsOf (strKind P w) es1.toList := fun e he => by
      have := pm.mem_iff.mp he
      rw [Array.toList_push, List.mem_append] at this
      rcases this with h | h
      · exact el e h
      · rw [List.mem_singleton.mp h]
        exact ⟨⟨z, hk, rfl⟩, rfl⟩
    have is1 : ∀ k : Str, (S k || decide (k = z)) = true ↔ ∃ e, e ∈ es1.toList ∧ (strKind P w).is k e.2 = true := fun k => by
      rw [Bool.or_eq_true, is_ k, decide_eq_true_eq]
      constructor
      · rintro (⟨e, he, h⟩ | rfl)
        · exact ⟨e, pm.mem_iff.mpr (by rw [Array.toList_push, List.mem_append]; exact .inl he), h⟩
        · exact ⟨_, pm.mem_iff.mpr (by rw [Array.toList_push, List.mem_append]; exact .inr (List.mem_singleton.mpr rfl)), hk⟩
      · rintro ⟨e, he, h⟩
        have := pm.mem_iff.mp he
        rw [Array.toList_push, List.mem_append] at this
        rcases this with h' | h'
        · exact .inl ⟨e, h', h⟩
        · rw [List.mem_singleton.mp h'] at h
          exact .inr ((strKind P w).inj _ _ _ h hk)
    have led1 : w.params.followText "set-order" = true ∨ t1.led = true := by rw [le]; exact led
    have fin : ∀ h' : Heap, Heap.SameBut a s.heap h' → StrSet P w h' a (fun k => S k || decide (k = z)) es1.size → Q true { s with heap := h' } := fun h' sb st => by
      refine q true h' sb ?_
      rw [hS, if_neg (by decide), ← sz1]
      exact st
    refine wpAny_bind (gave_of (by rfl) (by rfl) gave _ _ ?_)
    split
    · refine wpAny_bind ?_
      show wpAny _ _ (pure false) _ _ _
      refine wpAny_pure ?_
      rw [if_neg (by decide)]
      refine strS_tail (t2 := { t1 with plain := false }) ?hg1 h1 h2 h3 el1 is1 (by omega) fi ri led1 ?q1
      case q1 => exact fun h' sb st => wpAny_pure (fin h' sb st)
      case hg1 => exact gave_of (by rfl) (by rfl)
    · refine wpAny_bind (wpAny_pure ?_)
      rw [if_pos rfl]
      refine strS_tail ?hg2 h1 h2 h3 el1 is1 (by omega) fi ri led1 ?q2
      case q2 => exact fun h' sb st => wpAny_pure (fin h' sb st)
      case hg2 => exact gave_of (by rfl) (by rfl)
theorem StrSet.keep {S : Str → Bool} {n : Nat} {h h' : Heap} (st : StrSet P w h a S n) (k : ∀ o, h.get? a = some o → h'.get? a = some o) : StrSet P w h' a S n := by
  obtain ⟨es, ep, t, ⟨⟨o, h1, h2, h3⟩, el, is_, lt, fits, sz, ris, led⟩⟩ := st
  exact ⟨es, ep, t, ⟨⟨o, k o h1, h2, h3⟩, el, is_, lt, fits, sz, ris, led⟩⟩
theorem StrSet.congr {S S' : Str → Bool} {n : Nat} {h : Heap} (st : StrSet P w h a S n) (e : ∀ k, S k = S' k) : StrSet P w h a S' n := by
  rw [← show S = S' from funext e]
  exact st
def hasZ (xs : List Str) (i : Nat) : Str → Bool := fun k => (xs.take i).any fun x => decide (x = k)
theorem hasZ_snoc {xs : List Str} {i : Nat} {x : Str} (h : xs[i]? = some x) (k : Str) : hasZ xs (i + 1) k = (hasZ xs i k || decide (k = x)) := by
  unfold hasZ
  rw [List.take_add_one, h, List.any_append]
  congr 1
  show (decide (x = k) || false) = _
  rw [Bool.or_false]
  by_cases e : x = k
  · rw [decide_eq_true e, decide_eq_true e.symm]
  · rw [decide_eq_false e, decide_eq_false (Ne.symm e)]
theorem strS_loop {R : Result → Shared → Prop} {I : Addr} {fp wr : List Addr} {G : Array GenState → Array GenState → Prop} {n : Nat} {Pv : Nat → Value → Prop} {St : Nat → Shared → Prop} (wk : WalksS P w A.in1 I fp wr G n Pv St) (S : Addr) (hS : S ∉ fp) (xs : List Str) (hl : xs.length = n) (hn : n + 1 < scanBound)
    (hv : ∀ i v, Pv i v → ∃ x t, xs[i]? = some x ∧ v = Value.str x t) : ∀ (k i : Nat) (s : Shared), n - i = k → i ≤ n → St i s → (∃ m, m ≤ i ∧ StrSet P w s.heap S (hasZ xs i) m) →
    (∀ s' : Shared, Moved (S :: wr) G s s' → (∃ m, m ≤ n ∧ StrSet P w s'.heap S (hasZ xs n) m) → R (.ok (.ret .none)) s') →
    codeAny (model P w) A (.builtin "set.update.loop" { pos := [.ref S, .ref I] }) R s := by
  intro k
  induction k with
  | zero =>
    intro i s hk hi st ⟨m, hm, ss⟩ q
    have : i = n := by omega
    subst this
    refine codeAny_builtin F.entry_set_update_loop ?_
    rw [Around.under_plainId F.plain_set_update_loop]
    unfold Builtin.«set.update.loop»
    dsimp only
    refine wpAny_bind (wk.done s _ _ st fun s' mv => ?_)
    dsimp only
    refine wpAny_pure ?_
    dsimp only
    refine q s' (mv.mono fun b hb => List.mem_cons_of_mem _ hb) ⟨m, hm, ss.keep fun o e => mv.heap _ _ (fun z => hS (wk.sub _ z)) e⟩
  | succ k ih =>
    intro i s hk hi st ⟨m, hm, ss⟩ q
    refine codeAny_builtin F.entry_set_update_loop ?_
    rw [Around.under_plainId F.plain_set_update_loop]
    unfold Builtin.«set.update.loop»
    dsimp only
    refine wpAny_bind (wk.item i s _ _ (by omega) st fun v s' hp st' mv => ?_)
    obtain ⟨x, t, hx, rfl⟩ := hv i v hp
    dsimp only
    refine wpAny_bind (wpAny_holding ?_)
    unfold setAdd
    refine wpAny_holding (wpAny_bind ((strKind P w).pyHash (strKind_is P w x t) ?_))
    have ss' : StrSet P w s'.heap S (hasZ xs i) m := ss.keep fun o e => mv.heap _ _ (fun z => hS (wk.sub _ z)) e
    refine strS_add (s := { s' with toks := s'.toks + 1 }) ss' (by omega) fun b h' sb ss2 => ?_
    refine wpAny_pure ?_
    refine ⟨plainId_quiet F.plain_set_update_loop _, ?_⟩
    have fr := wk.frame (i + 1) s' h' (s'.toks + 1) st' (Nat.le_succ _) fun b hb o e => by
      rw [sb.2 b (fun z => hS (z ▸ hb))]
      exact e
    refine ih (i + 1) _ (by omega) (by omega) fr ⟨_, ?_, ss2.congr fun k => (hasZ_snoc hx k).symm⟩ fun s2 mv2 ss3 => ?_
    · split <;> omega
    · refine q s2 (Moved.trans (wk.gtrans) ?_ mv2) ss3
      refine (mv.mono fun b hb => List.mem_cons_of_mem _ hb).then_heap (Nat.le_succ _) fun b o hb e => ?_
      rw [sb.2 b (fun z => hb (z ▸ List.mem_cons_self))]
      exact e
end
end L2

namespace L2
open PySem PySem.Spec PyProof.Rows SrtO SrtZ
section
variable {P : Program} {w : World} {A : Around} {E : Value → Shared → Prop} {s : Shared} {a : Addr}
theorem call_set_init {self x : Value} {Q : Value → Shared → Prop} (hty : s.TypeIs self "set") (h : wpAny (model P w) A.in1 (Builtin.«set.__init__» { pos := [self, x] }) (fun fin s' => ∃ v, fin = Fin.done (.ret v) ∧ Q v s') E s) : wpAny (model P w) A (call (.builtin "set.__init__") [self, x]) Q E s := by
  refine wpAny_call (codeAny_call_builtin F.called_set.init.plain F.entry_set_init (check_set_init_1 hty (wpAny_mono h ?_ ?_)))
  · rintro fin s' ⟨v, rfl, hq⟩
    exact hq
  · exact fun _ _ h => h
theorem call_set_strs {l : Addr} {items : Array Value} {xs : List Str} {Q : Value → Shared → Prop} (hA : A.handled = none) (hl : s.heap.IsList l items) (hx : StrsAre items.toList xs) (hn : xs.length + 1 < scanBound)
    (q : ∀ (h' : Heap) (tk m : Nat), m ≤ xs.length → StrSet P w h' s.heap.objs.size (hasZ xs xs.length) m → (∀ b o, s.heap.get? b = some o → h'.get? b = some o) → Q (.ref s.heap.objs.size) { s with heap := h', toks := tk }) :
    wpAny (model P w) A (call (.type "set") [.ref l]) Q E s := by
  have T := F.called_set
  obtain ⟨c, tl, hm⟩ := T.mro
  refine wpAny_call (codeAny_of_tree (wpAny_pure ⟨Code.quiet_builtin _ (by decide +kernel), ?_⟩))
  refine codeAny_builtin F.entry_type_call ?_
  rw [Around.under_plain (weight_type_call_type "set" [.ref l] []) rfl]
  unfold Builtin.«type.__call__»
  dsimp only
  rw [if_neg (by rw [T.notType]; decide), if_neg (by rw [show _ = false from T.canCreate]; decide)]
  rw [F.typeCall_set_1]
  refine wpAny_bind (wpAny_pure ?_)
  refine wpAny_bind (wpAny_of_eq hm ?_)
  rw [if_neg (by simp)]
  refine wpAny_bind (wpAny_of_eq T.made ?_)
  dsimp only
  refine wpAny_bind (wpAny_pure ?_)
  refine wpAny_bind (wpAny_holding (wpAny_call ?_))
  refine codeAny_mono (code_set_led1 (E := E) (Q₁ := fun v s' => v = .ref s.heap.objs.size ∧ s' = { s with heap := s.heap.push { cls := .type "set", data := .set #[] 0 (SetTable.fresh 0 0 !w.params.followText "set-order") } }) (.ref l) ⟨rfl, rfl⟩) fun r s' h => ?_
  match r, h with
  | .ok (.ret v), h =>
    obtain ⟨rfl, rfl⟩ := h
    dsimp only
    generalize hob : ({ cls := .type "set", data := .set #[] 0 (SetTable.fresh 0 0 !w.params.followText "set-order") } : Obj) = ob
    have hnew : (s.heap.push ob).get? s.heap.objs.size = some ob := Heap.get?_push_size _ (by rw [← hob]; rfl)
    have hty : ({ s with heap := s.heap.push ob } : Shared).TypeIs (.ref s.heap.objs.size) "set" := ⟨ob, hnew, by rw [← hob]⟩
    refine wpAny_bind (wpAny_isInstance hty T.sub ?_)
    rw [if_neg (by decide)]
    refine wpAny_bind (wpAny_holding ?_)
    unfold callSpecial?
    refine wpAny_bind (wpAny_specialOf hty T.init.lookup ?_)
    dsimp only
    refine wpAny_holding (wpAny_bind (wpAny_of_eq (T.init.bind _) ?_))
    dsimp only
    refine wpAny_bind (call_set_init hty ?_)
    unfold Builtin.«set.__init__»
    dsimp only
    refine wpAny_bind ?_
    unfold noKeywords
    rw [if_pos (by rfl)]
    refine wpAny_pure ?_
    unfold typeNameOfCut
    refine wpAny_bind (wpAny_bind ?_)
    unfold shownTypeOf
    refine wpAny_bind (wpAny_typeOf hty ?_)
    rw [if_neg (by decide +kernel)]
    refine wpAny_pure ?_
    unfold typeNameCut
    dsimp only
    unfold typeName
    refine wpAny_pure ?_
    refine wpAny_bind (show wpAny _ _ (pure ()) _ _ _ from wpAny_pure ?_)
    refine wpAny_bind (show wpAny _ _ (pure _) _ _ _ from wpAny_pure ?_)
    unfold setUsed
    have hfr : (SetTable.fresh 0 0 !w.params.followText "set-order").fits (#[] : Array (Int × Value)).size = true := rfl
    have hdat : ob.data = .set #[] 0 (SetTable.fresh 0 0 !w.params.followText "set-order") := by rw [← hob]
    refine wpAny_bind (wpAny_bind (wpAny_setState_of hnew hdat hfr (wpAny_pure ?_)))
    rw [if_neg (by simp [SetTable.fresh, SetTable.fill])]
    refine wpAny_bind ?_
    unfold Builtin.Frozenset.updateFrom Builtin.Frozenset.isAnySet
    obtain ⟨lo, hlo, hlc, hld⟩ := id hl
    have htl : ({ s with heap := s.heap.push ob } : Shared).TypeIs (.ref l) "list" := ⟨lo, Heap.get?_push_of_some _ hlo, hlc⟩
    refine wpAny_bind ?_
    unfold orM
    refine wpAny_bind (wpAny_isInstance htl F.sub_list_set ?_)
    refine wpAny_isInstance htl F.sub_list_frozenset ?_
    rw [if_neg (by decide)]
    refine wpAny_bind (wpAny_typeOf htl ?_)
    rw [if_neg (by decide +kernel)]
    refine wpAny_bind (wpAny_pyIter_list (hl.push ob) ?_)
    refine wpAny_bind (wpAny_runValue ?_)
    have hnl : s.heap.objs.size ≠ l := fun z => absurd (Heap.lt_size hlo) (by rw [← z]; exact Nat.lt_irrefl _)
    have isz : (s.heap.push ob).objs.size = s.heap.objs.size + 1 := size_push' _ _
    have hlI : l ≠ (s.heap.push ob).objs.size := fun z => by
      have h0 := Heap.lt_size hlo
      rw [z, isz] at h0
      exact Nat.not_lt.mpr (Nat.le_succ _) h0
    have hA2 : (A.in1.in1.in1).handled = none := hA
    have wk := (Walks.list (prog := P) (w := w) hA2 (s.heap.push ob).objs.size l hlI items).toS
    have hlen : xs.length = items.size := by
      have := hx.len_eq
      simpa using this.symm
    have hfp : s.heap.objs.size ∉ [(s.heap.push ob).objs.size, l] := fun z => by
      rcases List.mem_cons.mp z with z | z
      · omega
      · exact hnl (List.mem_singleton.mp z)
    have st0 : StrSet P w ((s.heap.push ob).push { cls := .type "list_iterator", data := .fields #[.ref l, .int 0 0] }) s.heap.objs.size (hasZ xs 0) 0 := by
      refine ⟨#[], 0, _, ⟨⟨ob, Heap.get?_push_of_some _ hnew, ?_, hdat⟩, (fun e he => by simp at he), fun k => ?_, (by decide), hfr, rfl, List.Pairwise.nil, ?_⟩⟩
      · rw [← hob]
        exact ⟨rfl, rfl, rfl⟩
      · unfold hasZ
        simp
      · show _ ∨ (!w.params.followText "set-order") = true
        cases w.params.followText "set-order" <;> simp
    refine strS_loop wk s.heap.objs.size hfp xs hlen (by omega) (fun i v hv => ?_) items.size 0 _ rfl (Nat.zero_le _) ⟨⟨_, Heap.get?_push_size _ rfl, rfl, rfl⟩, (hl.push ob).push _⟩ ⟨0, Nat.le_refl _, st0⟩ fun s' mv hs => ?_
    · obtain ⟨t, ht⟩ := SS.strs_at hx i v (by simpa using hv)
      have hi : i < xs.length := by
        rw [hlen]
        exact (Array.getElem?_eq_some_iff.mp hv).1
      exact ⟨_, t, List.getElem?_eq_getElem hi, by rw [ht]; simp [List.getD, hi]⟩
    obtain ⟨m, hm, ss⟩ := hs
    rw [← hlen] at hm ss
    dsimp only
    refine wpAny_pure (wpAny_pure ⟨_, rfl, wpAny_pure ?_⟩)
    dsimp only
    rw [if_neg (by decide)]
    refine wpAny_pure ?_
    dsimp only
    obtain ⟨h', g', d', tk', os'⟩ := s'
    have e1 := mv.gens
    have e2 := mv.drawn
    have e3 := mv.os
    dsimp only at e1 e2 e3 ss ⊢
    subst e1 e2 e3
    refine q h' tk' m hm ss fun b o e => mv.heap b o (fun z => ?_) (Heap.get?_push_of_some _ (Heap.get?_push_of_some _ e))
    have hb := Heap.lt_size e
    rcases List.mem_cons.mp z with z | z
    · rw [z] at hb
      exact absurd hb (Nat.lt_irrefl _)
    · rw [List.mem_singleton.mp z, isz] at hb
      exact Nat.not_lt.mpr (Nat.le_succ _) hb
  | .error e, h => exact h
end
end L2

namespace L2
open PySem PySem.Spec PyProof.Rows SrtO SrtZ
section
variable {P : Program} {w : World} {A : Around} {E : Value → Shared → Prop} {s : Shared} {a : Addr}
theorem isStr_of {z : Str} {v : Value} (h : (strKind P w).is z v = true) : ∃ t, v = .str z t := by
  cases v with
  | str x t =>
    have h := (strKind P w).inj (.str x t) z x h (strKind_is P w x t)
    exact ⟨t, by rw [h]⟩
  | _ => exact absurd h (by first | decide | (intro z; cases z))
theorem sorted_strS {S : Str → Bool} {n : Nat} {Q : Value → Shared → Prop} (hs : StrSet P w s.heap a S n) (hA : A.handled = none)
    (q : ∀ (s' : Shared) (p : Nat) (ys : List Str) (out : List Value), (∀ b o, s.heap.get? b = some o → s'.heap.get? b = some o) → s'.gens = s.gens → s'.os = s.os → s.heap.objs.size ≤ p → (∃ c, s'.heap.get? p = some (seqObj "list" out.toArray c)) → StrsAre out ys → (∀ z, z ∈ ys ↔ S z = true) → ys.length = n → Srtd ltZ ys → Q (.ref p) s') :
    wpAny (model P w) A (call (.builtin "sorted") [.ref a]) Q E s := by
  obtain ⟨es, ep, t, ⟨⟨o, h1, h2, h3⟩, el, is_, lt, fits, sz, ris, led⟩⟩ := hs
  subst sz
  refine call_function_entry_kw kind_sorted plain_sorted entry_sorted (args_sorted1 _) ?_
  unfold Builtin.«sorted»
  refine wpAny_bind (m := checkCount "sorted" 1 1 _) (wpAny_pure ?_)
  refine wpAny_bind (collect_set (A := A.in1) hA ⟨o, h1, h2.1, h3⟩ fits lt ris led fun s1 vs kp1 sz1 g1 os1 pm => ?_)
  have vl : vs.length = es.size := by
    have := pm.length_eq
    simpa using this
  have isS : ∀ v ∈ vs, ∃ x t, v = Value.str x t := fun v hv => by
    obtain ⟨e, he, rfl⟩ := List.mem_map.mp (pm.mem_iff.mp hv)
    obtain ⟨⟨k, hk, _⟩, _⟩ := el e he
    obtain ⟨t, ht⟩ := isStr_of hk
    exact ⟨k, t, ht⟩
  have hz : vs.length ≤ sizeLine := by rw [vl]; exact fits_of_scanBound lt
  refine wpAny_bind (wpAny_newList ?_ hz)
  have hoL : (s1.heap.push (seqObj "list" vs.toArray 0)).get? s1.heap.objs.size = some (seqObj "list" vs.toArray 0) := Heap.get?_push_size _ rfl
  refine wpAny_bind (wpAny_holding (wpAny_call_entry_kw slot_list_sort ⟨_, hoL, rfl⟩ entry_list_sort ?_ (args_list_sort _)))
  rw [plain_rev]
  refine SrtR.list_sort_ordR (s := { s1 with heap := s1.heap.push (seqObj "list" vs.toArray 0) }) (b := false) (ltv := ltSv) swo_str hoL hz (fun h2 => strs_sortable (strsAre_map vs isS) h2) fun out hs hb => ⟨_, rfl, ?_⟩
  refine wpAny_pure ⟨_, rfl, ?_⟩
  have pm2 : out.Perm vs := by
    have := hb.perm
    rwa [if_neg (by decide)] at this
  have isO : ∀ v ∈ out, ∃ x t, v = Value.str x t := fun v hv => isS v (pm2.mem_iff.mp hv)
  refine q _ _ (out.map strOf) out (fun b u e => ?_) g1 os1 sz1 (sortedHeap_at hoL) (strsAre_map out isO) (fun z => ?_) ?_ (srtd_map hs)
  · have k1 := kp1 b u e
    exact (sortedHeap_old (Nat.ne_of_lt (Heap.lt_size k1)) (Heap.lt_size (Heap.get?_push_of_some _ k1))).trans (Heap.get?_push_of_some _ k1)
  · rw [is_ z]
    constructor
    · intro h
      obtain ⟨v, hv, rfl⟩ := List.mem_map.mp h
      obtain ⟨e, he, rfl⟩ := List.mem_map.mp (pm.mem_iff.mp (pm2.mem_iff.mp hv))
      obtain ⟨⟨k, hk, _⟩, _⟩ := el e he
      obtain ⟨t, ht⟩ := isStr_of hk
      refine ⟨e, he, ?_⟩
      rw [ht] at hk ⊢
      exact hk
    · rintro ⟨e, he, hk⟩
      obtain ⟨t, ht⟩ := isStr_of hk
      refine List.mem_map.mpr ⟨e.2, pm2.mem_iff.mpr (pm.mem_iff.mpr (List.mem_map.mpr ⟨e, he, rfl⟩)), ?_⟩
      rw [ht]
      rfl
  · rw [List.length_map, pm2.length_eq, vl]
end
def SetS (P : Program) (w : World) (a : Addr) (S : Str → Bool) (n : Nat) : HO := .ext fun h => StrSet P w h a S n
theorem setS_ok {P : Program} {w : World} {H : Hp} {h : Heap} {a : Addr} {S : Str → Bool} {n : Nat} (st : StrSet P w h a S n) : ObjOk P w H h a (SetS P w a S n) :=
  ⟨st, (let ⟨_, _, _, ⟨⟨o, e, _⟩, _, _, _, _, _, _, _⟩⟩ := st; ⟨o, e⟩), fun h1 h2 x k => StrSet.keep x k⟩
section
variable {X : Cx}
/-- set(xs), xs a list of texts -/
def rSetOfS (K : PySem.W.Frag) (P : Program) (w : World) : List V → Hp → VK → Prop := fun xs H Q => ∃ (l : Addr) (zs : List Str), xs = [V.ref l] ∧ SqL K H l (zs.map V.str) ∧ zs.length ≤ 1000 ∧ ∀ (p : Addr) (n : Nat), H p = none → n ≤ zs.length → Q (.ref p) (upd H p (SetS P w p (hasZ zs zs.length) n))
theorem cr_setOfS (hc : X.calm = true) : CallR X (.type "set") (rSetOfS X.K X.prog X.w) := by
  intro pins s σ H xs us Q I r h
  obtain ⟨l, zs, rfl, hS, hz, q⟩ := h
  obtain rfl := Vals.ref1 r
  obtain ⟨its, r', pl, hz'⟩ := I.list hS
  have h1 := strs_of_vals r'
  refine call_set_strs (items := its.toArray) (xs := zs) (I.ok.hd hc) pl.isList (by simpa using h1) (by show zs.length + 1 < 4096; omega) fun h' tk m hm ss kp => ?_
  have hf : H s.heap.objs.size = none := I.hok.fresh (Nat.le_refl _)
  exact ⟨.ref s.heap.objs.size, _, I.laid (t' := tk) kp (Nat.le_refl _) (setS_ok ss), rfl, q _ m hf hm⟩
/-- sorted(s), s a set of texts -/
def rSortedSS (P : Program) (w : World) : List V → Hp → VK → Prop := fun vs H Q => ∃ (a : Addr) (S : Str → Bool) (n : Nat), vs = [V.ref a] ∧ H a = some (SetS P w a S n) ∧ n ≤ 1000 ∧ ∀ (ys : List Str) (l : Addr), Srtd ltZ ys → (∀ z, z ∈ ys ↔ S z = true) → ys.length = n → H l = none → Q (.ref l) (upd H l (.lst (ys.map V.str)))
theorem cr_sortedSS (hc : X.calm = true) : CallR X (.builtin "sorted") (rSortedSS X.prog X.w) := by
  intro pins s σ H xs us Q I r h
  obtain ⟨a, S, n, rfl, ha, hn, q⟩ := h
  obtain rfl := Vals.ref1 r
  have ss : StrSet X.prog X.w s.heap a S n := (show ObjOk X.prog X.w H s.heap a (SetS X.prog X.w a S n) from I.hok a _ ha).1
  refine sorted_strS ss (I.ok.hd hc) fun s' p ys out kp g1 os1 hp hat hys hmem hlen hsrt => ?_
  obtain ⟨c, hat⟩ := hat
  have hf : H p = none := I.hok.fresh hp
  have hlen2 : (ys.map V.str).length ≤ sizeLine := by rw [List.length_map, hlen, sizeLine_eq]; omega
  have ok : ObjOk X.prog X.w (upd H p (.lst (ys.map V.str))) s'.heap p (.lst (ys.map V.str)) := ⟨hlen2, out, c, vals_of_strs hys, hat⟩
  obtain ⟨h', g', d', tk', os'⟩ := s'
  dsimp only at g1 os1 kp hat ok
  subst g1 os1
  exact ⟨.ref p, _, I.call (ch := []) (Un.laid kp hp hf) (I.hok.laid kp hp ok) I.bare (fun _ h => nomatch h), rfl, q ys p hsrt hmem hlen hf⟩
end
end L2

namespace Kb
open PySem PySem.Spec PyProof.Rows L2
/-! the text -/
def topS (i : Nat) : Stmt := PySem.Challenge.pw_knownends_k11_whole_sketches_poured_by_a.main.body.getD i (.Pass ⟨0, 0, 0, 0⟩)
/-! facts -/
structure Dn (K : PySem.W.Frag) (mg : Str → Option Value) (nm : Str) (st : Stmt) (ps : List Str) where
  f : Addr
  fd : FuncData
  F : Fun K nm nm st f fd
  g : mg nm = some (.ref f)
  b : Binds K fd ps []
structure Cst (mg : Str → Option Value) (nm : Str) (v : V) where
  u : Value
  g : mg nm = some u
  r : RelV v u
structure Blt (mg : Str → Option Value) : Prop where
  n_len : mg "len" = none
  n_int : mg "int" = none
  n_abs : mg "abs" = none
  n_range : mg "range" = none
  n_isinstance : mg "isinstance" = none
  n_str : mg "str" = none
  n_all : mg "all" = none
  n_tuple : mg "tuple" = none
  n_bool : mg "bool" = none
  n_list : mg "list" = none
  n_dict : mg "dict" = none
  n_sum : mg "sum" = none
  n_min : mg "min" = none
  n_sorted : mg "sorted" = none
/-! heaps -/
theorem same_upd {H : Hp} {p : Addr} {o : HO} (h : H p = none) : Same H (upd H p o) := fun b x e => by
  rw [upd_ne (ne_of_none e h)]
  exact e
theorem Same.new {H H1 : Hp} {p : Addr} {o : HO} (x : Same H H1) (h : H1 p = none) : Same H (upd H1 p o) := fun b u e => same_upd h b u (x b u e)
theorem Same.gone {H H1 : Hp} {p : Addr} (x : Same H H1) (h : H1 p = none) : H p = none := by
  cases e : H p with
  | none => rfl
  | some o =>
    have := x _ _ e
    rw [h] at this
    cases this
/-- an object that was new is stored anew -/
theorem Same.put {H H1 : Hp} {p : Addr} {o : HO} (x : Same H H1) (h : H p = none) : Same H (upd H1 p o) := fun b u e => by
  rw [upd_ne (ne_of_none e h)]
  exact x b u e
theorem sql {K : PySem.W.Frag} {H : Hp} {a : Addr} {xs : List V} (h : H a = some (.lst xs)) : SqL K H a xs := .inl (.inl h)
theorem seqT {K : PySem.W.Frag} {H H' : Hp} {a : Addr} {xs : List V} (h : SqT K H a xs) (s : Same H H') : SqT K H' a xs := by
  rcases h with (h | ⟨o, h⟩) | h
  · exact .inl (.inl (s _ _ h))
  · exact .inl (.inr ⟨o, s _ _ h⟩)
  · exact .inr h
theorem tyT {K : PySem.W.Frag} {H : Hp} {a : Addr} {xs : List V} (h : SqT K H a xs) : TyX K H (.ref a) (.type "tuple") := by
  rcases h with (h | ⟨o, h⟩) | ⟨o, its, n, h, c, _⟩
  · exact .base (.tup h)
  · exact .fTuple h
  · exact .kTuple h c
/-- %, the rest as a letter -/
def rModB : R2 := fun x y H Q => ∃ i j, x = .int i ∧ y = .int j ∧ 0 < j ∧ ∀ m : Int, 0 ≤ m → m < j → m = i % j → Q (.int m) H
theorem op_modB {X : Cx} : OpR X (binaryOp .Mod) rModB := fun pins s σ H x y v u Q I rx ry h => by
  obtain ⟨i, j, e1, e2, hj, q⟩ := h
  exact op_mod pins s σ H x y v u Q I rx ry ⟨i, j, e1, e2, hj, q _ (Int.emod_nonneg _ (by omega)) (Int.emod_lt_of_pos _ hj) rfl⟩
theorem cmulR {i j : Int} (h1 : 0 ≤ j) (h2 : j < 10000000000) : CMul i j := .inr ⟨by omega, by omega⟩
theorem cmulL {i j : Int} (h1 : 0 ≤ i) (h2 : i < 10000000000) : CMul i j := .inl ⟨by omega, by omega⟩
/-! names -/
def cs (z : Str) : List Nat := z.cps.toList
theorem cs_len (z : Str) : (cs z).length = z.length := by simp [cs, Str.length]
theorem cs_inj {a b : Str} (h : cs a = cs b) : a = b := by
  cases a; cases b
  simp [cs] at h
  rw [h]
def nmC (c : Nat) : Bool := !decide (c < 97) && !decide (122 < c)
/-- a name -/
structure Nm (z : Str) : Prop where
  pos : 1 ≤ z.length
  len : z.length ≤ 8
  abc : ∀ c ∈ cs z, nmC c = true
theorem lt_one (a b : Nat) : decide ([a] < [b]) = decide (a < b) := by
  have : ([a] < [b]) ↔ a < b := by simp [List.cons_lt_cons_iff]
  by_cases h : a < b
  · rw [decide_eq_true h, decide_eq_true (this.mpr h)]
  · rw [decide_eq_false h, decide_eq_false (fun z => h (this.mp z))]
abbrev sP_is_int : Stmt := topS 8
abbrev NP_is_int : List Str := ["thing"]
theorem scP_is_int : FnScope ["thing"] ["thing"] (defScope sP_is_int) := ⟨rfl, rfl, rfl, by decide +kernel, rfl, by decide +kernel, by decide +kernel⟩
abbrev sP_is_number : Stmt := topS 9
abbrev NP_is_number : List Str := ["thing"]
theorem scP_is_number : FnScope ["thing"] ["thing"] (defScope sP_is_number) := ⟨rfl, rfl, rfl, by decide +kernel, rfl, by decide +kernel, by decide +kernel⟩
abbrev sP_is_room : Stmt := topS 10
abbrev NP_is_room : List Str := ["thing"]
theorem scP_is_room : FnScope ["thing"] ["thing"] (defScope sP_is_room) := ⟨rfl, rfl, rfl, by decide +kernel, rfl, by decide +kernel, by decide +kernel⟩
abbrev sP_is_name : Stmt := topS 15
abbrev NP_is_name : List Str := ["thing", "letter"]
theorem scP_is_name : FnScope ["thing", "letter"] ["thing"] (defScope sP_is_name) := ⟨rfl, rfl, rfl, by decide +kernel, rfl, by decide +kernel, by decide +kernel⟩
abbrev sP_is_stream : Stmt := topS 16
abbrev NP_is_stream : List Str := ["thing", "item"]
theorem scP_is_stream : FnScope ["thing", "item"] ["thing"] (defScope sP_is_stream) := ⟨rfl, rfl, rfl, by decide +kernel, rfl, by decide +kernel, by decide +kernel⟩
abbrev DnIsInt (K : PySem.W.Frag) (mg : Str → Option Value) := Dn K mg "is_int" sP_is_int ["thing"]
abbrev DnIsNumber (K : PySem.W.Frag) (mg : Str → Option Value) := Dn K mg "is_number" sP_is_number ["thing"]
abbrev DnIsRoom (K : PySem.W.Frag) (mg : Str → Option Value) := Dn K mg "is_room" sP_is_room ["thing"]
abbrev DnIsName (K : PySem.W.Frag) (mg : Str → Option Value) := Dn K mg "is_name" sP_is_name ["thing"]
abbrev DnIsStream (K : PySem.W.Frag) (mg : Str → Option Value) := Dn K mg "is_stream" sP_is_stream ["thing"]
section
variable {P : Program} {w : World} {K : PySem.W.Frag} {mg : Str → Option Value} {base : Heap}
/-! is_int, of ints -/
def spIsInt : Sp := fun vs H Q _ => ∃ i : Int, vs = [.int i] ∧ Q (.bl true) H
theorem ok_is_int (T : Blt mg) (d : DnIsInt K mg) : FnOk P w K mg base CX0 1 d.f d.fd ["thing"] spIsInt := by
  refine d.F.ok scP_is_int (fun vs H Q E h => ?_) (fun cdv A outer s H vs Q E hr h => ?_)
  · obtain ⟨i, rfl, _⟩ := h
    rfl
  · obtain ⟨i, rfl, q⟩ := h
    refine ⟨_, (pss_one (ps_ret (pe_and (pe_callB call_isi (by rfl) T.n_isinstance (by decide +kernel) (pa_cons (pv 0) (pa_cons (pe_bltn (v := .ty "int") (by rfl) T.n_int (by decide +kernel) rfl) pa_nil))) (pe_one (pe_not (pe_callB call_isi (by rfl) T.n_isinstance (by decide +kernel) (pa_cons (pv 0) (pa_cons (pe_bltn (v := .ty "bool") (by rfl) T.n_bool (by decide +kernel) rfl) pa_nil)))))))), ?_⟩
    refine ⟨.int i, rfl, .int i, _, _, _, true, rfl, .ty "int", .base (.int i), kit_ty (by decide +kernel), true, rfl, iteT ?_⟩
    exact ⟨.int i, rfl, .int i, _, _, _, false, rfl, .ty "bool", .base (.int i), kit_ty (by decide +kernel), false, rfl, q⟩
/-! is_number, of ints -/
def spIsNumber : Sp := fun vs H Q _ => ∃ i : Int, vs = [.int i] ∧ Q (.bl (decide (0 ≤ i))) H
theorem ok_is_number (T : Blt mg) (dP_is_int : DnIsInt K mg) (d : DnIsNumber K mg) : FnOk P w K mg base CX0 2 d.f d.fd ["thing"] spIsNumber := by
  have GP_is_int : FnOk P w K mg base CX0 1 dP_is_int.f dP_is_int.fd ["thing"] spIsInt := ok_is_int T dP_is_int
  refine d.F.ok scP_is_number (fun vs H Q E h => ?_) (fun cdv A outer s H vs Q E hr h => ?_)
  · obtain ⟨i, rfl, _⟩ := h
    rfl
  · obtain ⟨i, rfl, q⟩ := h
    refine ⟨_, (pss_one (ps_ret (pe_and (pe_call GP_is_int (hr.mono (by omega)) (by rfl) dP_is_int.g dP_is_int.F.kp dP_is_int.b .nil pass0 (pa_cons (pv 0) pa_nil)) (pe_one (pe_cmpR op_ge (pv 0) pe_int (nomark _)))))), ?_⟩
    exact ⟨.int i, rfl, i, rfl, true, rfl, iteT ⟨.int i, rfl, _, _, rfl, rfl, q⟩⟩
/-! is_room, of ints -/
def spIsRoom : Sp := fun vs H Q _ => ∃ i : Int, vs = [.int i] ∧ Q (.bl (decide (1 ≤ i) && decide (i ≤ 64))) H
theorem ok_is_room (T : Blt mg) (cM : Cst mg "MOST_ROOM" (.int 64)) (dP_is_int : DnIsInt K mg) (d : DnIsRoom K mg) : FnOk P w K mg base CX0 2 d.f d.fd ["thing"] spIsRoom := by
  have GP_is_int : FnOk P w K mg base CX0 1 dP_is_int.f dP_is_int.fd ["thing"] spIsInt := ok_is_int T dP_is_int
  refine d.F.ok scP_is_room (fun vs H Q E h => ?_) (fun cdv A outer s H vs Q E hr h => ?_)
  · obtain ⟨i, rfl, _⟩ := h
    rfl
  · obtain ⟨i, rfl, q⟩ := h
    refine ⟨_, (pss_one (ps_ret (pe_and (pe_call GP_is_int (hr.mono (by omega)) (by rfl) dP_is_int.g dP_is_int.F.kp dP_is_int.b .nil pass0 (pa_cons (pv 0) pa_nil)) (pe_one (pe_chain op_le op_le pe_int (pv 0) (pe_glob rfl cM.g cM.r)))))), ?_⟩
    refine ⟨.int i, rfl, i, rfl, true, rfl, iteT ⟨.int i, rfl, _, _, rfl, rfl, decide (1 ≤ i), rfl, ite2 (fun e => ⟨_, _, rfl, rfl, ?_⟩) (fun e => ?_)⟩⟩
    · rw [e, Bool.true_and] at q
      exact q
    · rw [show decide (1 ≤ i) = false from by simpa using e, Bool.false_and] at q
      exact q
/-! is_name, of names -/
def spIsName : Sp := fun vs H Q _ => ∃ z : Str, vs = [.str z] ∧ Nm z ∧ ∀ H', Same H H' → Q (.bl true) H'
theorem ok_is_name (T : Blt mg) (cL : Cst mg "LONGEST_NAME" (.int 8)) (d : DnIsName K mg) : FnOk P w K mg base CX0 1 d.f d.fd ["thing"] spIsName := by
  refine d.F.ok scP_is_name (fun vs H Q E h => ?_) (fun cdv A outer s H vs Q E hr h => ?_)
  · obtain ⟨z, rfl, _⟩ := h
    rfl
  · obtain ⟨z, rfl, nm, q⟩ := h
    refine ⟨_, (pss_cons (ps_if (PW.pt (pw_or (pt_not (pt_val (pe_callB call_isi (by rfl) T.n_isinstance (by decide +kernel) (pa_cons (pv 0) (pa_cons (pe_bltn (v := .ty "str") (by rfl) T.n_str (by decide +kernel) rfl) pa_nil))))) (pw_or1 (pt_not (pt_chain op_le op_le pe_int (pe_callB call_len_str (by rfl) T.n_len (by decide +kernel) (pa_cons (pv 0) pa_nil)) (pe_glob rfl cL.g cL.r))))))
      (pss_one (ps_ret pe_bl))
      pss_nil)
    (pss_one (ps_ret (pe_callB (cr_all rfl) (by rfl) T.n_all (by decide +kernel) (pa_cons (pe_lc (own := [("letter", 1)]) (g := gName 1) (tt := tYes) rfl scP_is_name.nd (pi_str (pv 0)) (blkOk_by (N := NP_is_name) (sc := defScope sP_is_name) (by decide +kernel)) (fun _ _ _ _ _ => pg_name (i := 1) scP_is_name.nd rfl (Or.inl rfl)) (fun _ _ _ _ _ => pts_nil) (fun _ _ _ _ _ => (pe_chain op_le_str op_le_str pe_str (pv 1) pe_str))) pa_nil))))), ?_⟩
    have h1 : decide ((1 : Int) ≤ (z.length : Int)) = true := decide_eq_true (by have := nm.pos; omega)
    have h8 : decide ((z.length : Int) ≤ 8) = true := decide_eq_true (by have := nm.len; omega)
    refine ⟨.str z, rfl, .str z, _, _, _, true, rfl, .ty "str", .base (.str z), kit_ty (by decide +kernel), true, rfl, iteF ?_⟩
    refine ⟨.str z, rfl, z, rfl, (by rw [sizeLine_eq]; have := nm.len; omega), _, _, rfl, rfl, true, congrArg V.bl h1, iteT ⟨_, _, rfl, rfl, true, congrArg V.bl h8, iteF ?_⟩⟩
    refine ⟨.str z, rfl, z, rfl, fun D nD => ?_⟩
    refine lc_it walk_str (fun i H3 => Same H H3 ∧ H3 D = some (.lst (((cs z).take i).map fun c => V.bl true))) ⟨same_upd nD, upd_same⟩ (fun _ _ _ _ => trivial) (fun i x H3 H4 hi h3 y => ?_) (fun H3 h3 => ?_)
    · obtain ⟨rfl, c, hc, rfl⟩ := y
      have hc2 : (cs z)[i]? = some c := by
        rw [← hc]
        simp [cs]
      have hcn := nm.abc c (List.mem_of_getElem? hc2)
      unfold nmC at hcn
      have ha : (!decide (c < 97)) = true := by cases h : (!decide (c < 97)) <;> simp_all
      have hz : (!decide (122 < c)) = true := by rw [ha, Bool.true_and] at hcn; exact hcn
      refine ⟨rfl, .str ⟨#[c]⟩, rfl, _, _, rfl, rfl, true, ?_, iteT ⟨_, _, rfl, rfl, ?_⟩⟩
      · show V.bl (!decide ([c] < (Str.ofString "a").cps.toList)) = _
        rw [show (Str.ofString "a").cps.toList = [97] by decide +kernel, lt_one, ha]
      · rw [show (!decide ((Str.ofString "z").cps.toList < [c])) = true by
          rw [show (Str.ofString "z").cps.toList = [122] by decide +kernel, lt_one, hz]]
        refine ⟨_, h3.2, ?_, fun b o e => ?_, ?_⟩
        · rw [List.length_map, List.length_take, sizeLine_eq]
          have := cs_len z
          have := nm.len
          omega
        · rw [upd_ne (ne_of_none e nD)]
          exact h3.1 b o e
        · rw [upd_same, List.take_add_one, hc2, List.map_append]
          rfl
    · refine ⟨D, (cs z).map fun _ => true, rfl, sql ?_, ?_⟩
      · rw [h3.2, List.map_map]
        rw [List.take_of_length_le (by
          show (cs z).length ≤ z.cps.size
          simp [cs])]
        rfl
      · rw [show (((cs z).map fun _ => true).all id) = true by simp]
        exact q H3 h3.1
/-! is_stream, of tuples of names -/
def spIsStream (K : PySem.W.Frag) : Sp := fun vs H Q _ => ∃ (a : Addr) (zs : List Str), vs = [.ref a] ∧ SqT K H a (zs.map V.str) ∧ (∀ z ∈ zs, Nm z) ∧ zs.length ≤ 100000 ∧ ∀ H', Same H H' → Q (.bl true) H'
theorem ok_is_stream (T : Blt mg) (cL : Cst mg "LONGEST_NAME" (.int 8)) (dP_is_name : DnIsName K mg) (d : DnIsStream K mg) : FnOk P w K mg base CX0 2 d.f d.fd ["thing"] (spIsStream K) := by
  have GP_is_name : FnOk P w K mg base CX0 1 dP_is_name.f dP_is_name.fd ["thing"] spIsName := ok_is_name T cL dP_is_name
  refine d.F.ok scP_is_stream (fun vs H Q E h => ?_) (fun cdv A outer s H vs Q E hr h => ?_)
  · obtain ⟨a, zs, rfl, _⟩ := h
    rfl
  · obtain ⟨a, zs, rfl, hS, hN, hl, q⟩ := h
    refine ⟨_, (pss_one (ps_ret (pe_and (pe_callB call_isi (by rfl) T.n_isinstance (by decide +kernel) (pa_cons (pv 0) (pa_cons (pe_bltn (v := .ty "tuple") (by rfl) T.n_tuple (by decide +kernel) rfl) pa_nil))) (pe_one (pe_callB (cr_all rfl) (by rfl) T.n_all (by decide +kernel) (pa_cons (pe_lc (own := [("item", 1)]) (g := gName 1) (tt := tYes) rfl scP_is_stream.nd (pi_tup (pv 0)) (blkOk_by (N := NP_is_stream) (sc := defScope sP_is_stream) (by decide +kernel)) (fun _ _ _ _ _ => pg_name (i := 1) scP_is_stream.nd rfl (Or.inl rfl)) (fun _ _ _ _ _ => pts_nil) (fun _ _ _ _ _ => (pe_call GP_is_name (hr.mono (by omega)) (by rfl) dP_is_name.g dP_is_name.F.kp dP_is_name.b .nil pass0 (pa_cons (pv 1) pa_nil)))) pa_nil)))))), ?_⟩
    refine ⟨.ref a, rfl, .ref a, _, _, _, true, rfl, .ty "tuple", tyT hS, kit_ty (by decide +kernel), true, rfl, iteT ?_⟩
    refine ⟨.ref a, rfl, a, rfl, ⟨_, hS⟩, fun D nD => lc_tup (xs := zs.map V.str) (fun i H3 => Same H H3 ∧ H3 D = some (.lst ((zs.take i).map fun _ => V.bl true))) ⟨same_upd nD, upd_same⟩ (fun i H3 _ h3 => seqT hS h3.1) (fun i x H3 hx h3 => ?_) (fun H3 h3 => ?_)⟩
    · obtain ⟨z, hz, rfl⟩ : ∃ z, zs[i]? = some z ∧ x = .str z := by
        rw [List.getElem?_map] at hx
        cases e : zs[i]? with
        | none => rw [e] at hx; cases hx
        | some z => rw [e] at hx; exact ⟨z, rfl, (Option.some.inj hx).symm⟩
      refine ⟨rfl, .str z, rfl, z, rfl, hN z (List.mem_of_getElem? hz), fun H4 s4 => ⟨_, s4 _ _ h3.2, ?_, fun b o e => ?_, ?_⟩⟩
      · rw [List.length_map, List.length_take, sizeLine_eq]
        omega
      · rw [upd_ne (ne_of_none e nD)]
        exact s4 b o (h3.1 b o e)
      · rw [upd_same, List.take_add_one, hz, List.map_append]
        rfl
    · refine ⟨D, zs.map fun _ => true, rfl, sql ?_, ?_⟩
      · rw [h3.2, List.length_map, List.take_length, List.map_map]
        rfl
      · rw [show ((zs.map fun _ => true).all id) = true by simp]
        exact q H3 h3.1
end
end Kb

namespace Kb
open PySem PySem.Spec PyProof.Rows L2
abbrev sP_is_tree : Stmt := topS 17
abbrev NP_is_tree : List Str := ["thing"]
theorem scP_is_tree : FnScope ["thing"] ["thing"] (defScope sP_is_tree) := ⟨rfl, rfl, rfl, by decide +kernel, rfl, by decide +kernel, by decide +kernel⟩
abbrev sP_is_tree_of : Stmt := topS 18
abbrev NP_is_tree_of : List Str := ["thing", "word", "is_right", "many", "height", "step"]
theorem scP_is_tree_of : FnScope ["thing", "word", "is_right", "many", "height", "step"] ["thing", "word", "is_right"] (defScope sP_is_tree_of) := ⟨rfl, rfl, rfl, by decide +kernel, rfl, by decide +kernel, by decide +kernel⟩
abbrev sP_is_put : Stmt := topS 19
abbrev NP_is_put : List Str := ["step", "word"]
theorem scP_is_put : FnScope ["step", "word"] ["step", "word"] (defScope sP_is_put) := ⟨rfl, rfl, rfl, by decide +kernel, rfl, by decide +kernel, by decide +kernel⟩
abbrev sP_is_pour : Stmt := topS 20
abbrev NP_is_pour : List Str := ["step"]
theorem scP_is_pour : FnScope ["step"] ["step"] (defScope sP_is_pour) := ⟨rfl, rfl, rfl, by decide +kernel, rfl, by decide +kernel, by decide +kernel⟩
abbrev DnIsTree (K : PySem.W.Frag) (mg : Str → Option Value) := Dn K mg "is_tree" sP_is_tree ["thing"]
structure DnIsPut (K : PySem.W.Frag) (mg : Str → Option Value) where
  p : Dn K mg "_is_put" sP_is_put ["step", "word"]
  o : Dn K mg "is_tree_of" sP_is_tree_of ["thing", "word", "is_right"]
abbrev DnIsPour (K : PySem.W.Frag) (mg : Str → Option Value) := Dn K mg "_is_pour" sP_is_pour ["step"]
/-! trees -/
inductive Stp
  | put (zs : List Str)
  | pour
def StpAt (K : PySem.W.Frag) (H : Hp) (v : V) : Stp → Prop
  | .put zs => ∃ a b, v = .ref a ∧ SqT K H a [.str (Str.ofString "stream"), .ref b] ∧ SqT K H b (zs.map V.str) ∧ (∀ z ∈ zs, Nm z) ∧ zs.length ≤ 100000
  | .pour => ∃ a, v = .ref a ∧ SqT K H a [.str (Str.ofString "pour")]
theorem StpAt.same {K : PySem.W.Frag} {H H' : Hp} {v : V} {t : Stp} (h : StpAt K H v t) (s : Same H H') : StpAt K H' v t := by
  cases t with
  | put zs =>
    obtain ⟨a, b, e, h1, h2, r⟩ := h
    exact ⟨a, b, e, seqT h1 s, seqT h2 s, r⟩
  | pour =>
    obtain ⟨a, e, h1⟩ := h
    exact ⟨a, e, seqT h1 s⟩
def hS (h : Int) : Stp → Int
  | .put _ => h + 1
  | .pour => h - 1
def cS (m : Int) : Stp → Int
  | .put zs => m + (zs.length : Nat)
  | .pour => m
def hgt (l : List Stp) : Int := l.foldl hS 0
def mny (l : List Stp) : Int := l.foldl cS 0
structure Tree (l : List Stp) : Prop where
  two : ∀ i, l[i]? = some .pour → 2 ≤ hgt (l.take i)
  one : hgt l = 1
  few : mny l ≤ 50000
  len : l.length ≤ 5000
theorem hgt_snoc {l : List Stp} {i : Nat} {t : Stp} (h : l[i]? = some t) : hgt (l.take (i + 1)) = hS (hgt (l.take i)) t := by
  unfold hgt
  rw [List.take_add_one, h, List.foldl_append]
  rfl
theorem mny_snoc {l : List Stp} {i : Nat} {t : Stp} (h : l[i]? = some t) : mny (l.take (i + 1)) = cS (mny (l.take i)) t := by
  unfold mny
  rw [List.take_add_one, h, List.foldl_append]
  rfl
def TreeAt (K : PySem.W.Frag) (H : Hp) (a : Addr) (l : List Stp) : Prop := ∃ vs, SqT K H a vs ∧ Paired (StpAt K H) vs l
theorem paired_same {K : PySem.W.Frag} {H H' : Hp} (s : Same H H') : ∀ {vs : List V} {l : List Stp}, Paired (StpAt K H) vs l → Paired (StpAt K H') vs l
  | _, _, .nil => .nil
  | _, _, .cons h t => .cons (h.same s) (paired_same s t)
theorem TreeAt.same {K : PySem.W.Frag} {H H' : Hp} {a : Addr} {l : List Stp} (h : TreeAt K H a l) (s : Same H H') : TreeAt K H' a l := by
  obtain ⟨vs, h1, h2⟩ := h
  exact ⟨vs, seqT h1 s, paired_same s h2⟩
theorem stream_ne : ¬ (V.str (Str.ofString "pour") = V.str (Str.ofString "stream")) := by decide +kernel
section
variable {P : Program} {w : World} {K : PySem.W.Frag} {mg : Str → Option Value} {base : Heap}
/-! _is_put -/
def isPut : Stp → Bool
  | .put _ => true
  | .pour => false
def spIsPut (K : PySem.W.Frag) : Sp := fun vs H Q _ => ∃ (v : V) (t : Stp), vs = [v, .str (Str.ofString "stream")] ∧ StpAt K H v t ∧ Q (.bl (isPut t)) H
theorem ok_is_put (T : Blt mg) (d : DnIsPut K mg) : FnOk P w K mg base CX0 1 d.p.f d.p.fd ["step", "word"] (spIsPut K) := by
  refine d.p.F.ok scP_is_put (fun vs H Q E h => ?_) (fun cdv A outer s H vs Q E hr h => ?_)
  · obtain ⟨v, t, rfl, _⟩ := h
    rfl
  · obtain ⟨v, t, rfl, ht, q⟩ := h
    refine ⟨_, (pss_one (ps_ret (pe_and (pe_callB call_isi (by rfl) T.n_isinstance (by decide +kernel) (pa_cons (pv 0) (pa_cons (pe_bltn (v := .ty "tuple") (by rfl) T.n_tuple (by decide +kernel) rfl) pa_nil))) (pe_and (pe_cmpR op_eq (pe_callB call_len_seq (by rfl) T.n_len (by decide +kernel) (pa_cons (pv 0) pa_nil)) pe_int (nomark _)) (pe_one (pe_cmpR op_eq (pe_ix ix_tup (pv 0) pe_int (fun _ _ => rfl)) (pv 1) (nomark _))))))), ?_⟩
    cases t with
    | put zs =>
      obtain ⟨a, b, rfl, h1, h2, h3, h4⟩ := ht
      refine ⟨.ref a, rfl, .ref a, _, _, _, true, rfl, .ty "tuple", tyT h1, kit_ty (by decide +kernel), true, rfl, iteT ?_⟩
      refine ⟨.ref a, rfl, a, _, rfl, .inr h1, rfl, true, congrArg V.bl (decide_eq_true rfl), iteT ?_⟩
      refine ⟨.ref a, rfl, a, _, _, _, rfl, rfl, h1, atI_nat (j := 0) rfl, .str (Str.ofString "stream"), rfl, rfl, ?_⟩
      rw [decide_eq_true rfl]
      exact q
    | pour =>
      obtain ⟨a, rfl, h1⟩ := ht
      refine ⟨.ref a, rfl, .ref a, _, _, _, true, rfl, .ty "tuple", tyT h1, kit_ty (by decide +kernel), true, rfl, iteT ?_⟩
      exact ⟨.ref a, rfl, a, _, rfl, .inr h1, rfl, false, congrArg V.bl (decide_eq_false (by decide)), iteF q⟩
/-! _is_pour -/
def spIsPour (K : PySem.W.Frag) : Sp := fun vs H Q _ => ∃ v : V, vs = [v] ∧ StpAt K H v .pour ∧ Q (.bl true) H
theorem ok_is_pour (T : Blt mg) (d : DnIsPour K mg) : FnOk P w K mg base CX0 1 d.f d.fd ["step"] (spIsPour K) := by
  refine d.F.ok scP_is_pour (fun vs H Q E h => ?_) (fun cdv A outer s H vs Q E hr h => ?_)
  · obtain ⟨v, rfl, _⟩ := h
    rfl
  · obtain ⟨v, rfl, ⟨a, rfl, h1⟩, q⟩ := h
    refine ⟨_, (pss_one (ps_ret (pe_and (pe_callB call_isi (by rfl) T.n_isinstance (by decide +kernel) (pa_cons (pv 0) (pa_cons (pe_bltn (v := .ty "tuple") (by rfl) T.n_tuple (by decide +kernel) rfl) pa_nil))) (pe_and (pe_cmpR op_eq (pe_callB call_len_seq (by rfl) T.n_len (by decide +kernel) (pa_cons (pv 0) pa_nil)) pe_int (nomark _)) (pe_one (pe_cmpR op_eq (pe_ix ix_tup (pv 0) pe_int (fun _ _ => rfl)) pe_str (nomark _))))))), ?_⟩
    refine ⟨.ref a, rfl, .ref a, _, _, _, true, rfl, .ty "tuple", tyT h1, kit_ty (by decide +kernel), true, rfl, iteT ?_⟩
    refine ⟨.ref a, rfl, a, _, rfl, .inr h1, rfl, true, congrArg V.bl (decide_eq_true rfl), iteT ?_⟩
    refine ⟨.ref a, rfl, a, _, _, _, rfl, rfl, h1, atI_nat (j := 0) rfl, rfl, ?_⟩
    rw [decide_eq_true rfl]
    exact q
/-! is_tree_of, is_tree -/
theorem paired_at {α β : Type} {F : α → β → Prop} : ∀ {xs : List α} {ys : List β}, Paired F xs ys → ∀ {i : Nat} {x : α}, xs[i]? = some x → ∃ y, ys[i]? = some y ∧ F x y := LiI.paired_get
def spIsTreeOf (K : PySem.W.Frag) (g : Addr) : Sp := fun vs H Q _ => ∃ (a : Addr) (l : List Stp), vs = [.ref a, .str (Str.ofString "stream"), .ref g] ∧ TreeAt K H a l ∧ Tree l ∧ ∀ H', Same H H' → Q (.bl true) H'
theorem ok_is_tree_of (T : Blt mg) (cL : Cst mg "LONGEST_NAME" (.int 8)) (cS' : Cst mg "MOST_STEPS" (.int 5000)) (cI : Cst mg "MOST_ITEMS" (.int 50000)) (dP_is_name : DnIsName K mg) (dP_is_stream : DnIsStream K mg) (dP_is_put : DnIsPut K mg) (dP_is_pour : DnIsPour K mg) :
    FnOk P w K mg base CX0 3 dP_is_put.o.f dP_is_put.o.fd ["thing", "word", "is_right"] (spIsTreeOf K dP_is_stream.f) := by
  have GP_is_stream : FnOk P w K mg base CX0 2 dP_is_stream.f dP_is_stream.fd ["thing"] (spIsStream K) := ok_is_stream T cL dP_is_name dP_is_stream
  have GP_is_put : FnOk P w K mg base CX0 1 dP_is_put.p.f dP_is_put.p.fd ["step", "word"] (spIsPut K) := ok_is_put T dP_is_put
  have GP_is_pour : FnOk P w K mg base CX0 1 dP_is_pour.f dP_is_pour.fd ["step"] (spIsPour K) := ok_is_pour T dP_is_pour
  refine dP_is_put.o.F.ok scP_is_tree_of (fun vs H Q E h => ?_) (fun cdv A outer s H vs Q E hr h => ?_)
  · obtain ⟨a, l, rfl, _⟩ := h
    rfl
  · obtain ⟨a, l, rfl, ⟨vs, hS, hp⟩, tr, q⟩ := h
    refine ⟨_, (pss_cons (ps_if (PW.pt (pw_or (pt_not (pt_val (pe_callB call_isi (by rfl) T.n_isinstance (by decide +kernel) (pa_cons (pv 0) (pa_cons (pe_bltn (v := .ty "tuple") (by rfl) T.n_tuple (by decide +kernel) rfl) pa_nil))))) (pw_or1 (pt_cmpR op_gt (pe_callB call_len_seq (by rfl) T.n_len (by decide +kernel) (pa_cons (pv 0) pa_nil)) (pe_glob rfl cS'.g cS'.r) (nomark _)))))
      (pss_one (ps_ret pe_bl))
      pss_nil)
    (pss_cons (ps_set (i := 3) scP_is_tree_of.nd rfl (Or.inl rfl) pe_int)
    (pss_cons (ps_set (i := 4) scP_is_tree_of.nd rfl (Or.inl rfl) pe_int)
    (pss_cons (ps_for PassesOwn.never rfl (pi_tup (pv 0)) (pg_name (i := 5) scP_is_tree_of.nd rfl (Or.inl rfl))
      (pss_one (ps_if (PW.pt (pw_and (pt_val (pe_call GP_is_put (hr.mono (by omega)) (by rfl) dP_is_put.p.g dP_is_put.p.F.kp dP_is_put.p.b .nil pass0 (pa_cons (pv 5) (pa_cons (pv 1) pa_nil)))) (pw_and1 (pt_val (pe_callL (i := 2) GP_is_stream (hr.mono (by omega)) rfl (.inl rfl) dP_is_stream.F.kp dP_is_stream.b .nil pass0 (pa_cons (pe_ix ix_tup (pv 5) pe_int (fun _ _ => rfl)) pa_nil))))))
        (pss_cons (ps_aug (i := 4) scP_is_tree_of.nd rfl (Or.inl rfl) pe_int ip_add)
        (pss_one (ps_aug (i := 3) scP_is_tree_of.nd rfl (Or.inl rfl) (pe_callB call_len_seq (by rfl) T.n_len (by decide +kernel) (pa_cons (pe_ix ix_tup (pv 5) pe_int (fun _ _ => rfl)) pa_nil)) ip_add)))
        (pss_one (ps_if (PW.pt (pw_and (pt_val (pe_call GP_is_pour (hr.mono (by omega)) (by rfl) dP_is_pour.g dP_is_pour.F.kp dP_is_pour.b .nil pass0 (pa_cons (pv 5) pa_nil))) (pw_and1 (pt_cmpR op_ge (pv 4) pe_int (nomark _)))))
          (pss_one (ps_aug (i := 4) scP_is_tree_of.nd rfl (Or.inl rfl) pe_int ip_sub))
          (pss_one (ps_ret pe_bl)))))))
    (pss_one (ps_ret (pe_and (pe_cmpR op_eq (pv 4) pe_int (nomark _)) (pe_one (pe_cmpR op_le (pv 3) (pe_glob rfl cI.g cI.r) (nomark _)))))))))), ?_⟩
    have hl : vs.length = l.length := Paired.length hp
    refine ⟨.ref a, rfl, .ref a, _, _, _, true, rfl, .ty "tuple", tyT hS, kit_ty (by decide +kernel), true, rfl, iteF ?_⟩
    refine ⟨.ref a, rfl, a, _, rfl, .inr hS, _, _, rfl, rfl, false, congrArg V.bl (decide_eq_false (by have := tr.len; omega)), iteF ?_⟩
    refine ⟨.ref a, rfl, a, rfl, ⟨_, hS⟩, for_tup (xs := vs) (fun i σ H3 => ∃ x, σ = [some (.ref a), some (.str (Str.ofString "stream")), some (.ref dP_is_stream.f), some (.int (mny (l.take i))), some (.int (hgt (l.take i))), x] ∧ Same H H3) ⟨none, rfl, Same.refl H⟩ (fun i σ H3 _ ⟨_, _, s3⟩ => seqT hS s3) ?_ ?_⟩
    · rintro i v σ H3 hi ⟨x, rfl, s3⟩
      obtain ⟨t, ht, hat⟩ := paired_at hp hi
      have hat3 := hat.same s3
      refine ⟨v, rfl, _, rfl, v, t, rfl, hat3, isPut t, rfl, ?_⟩
      have hh := hgt_snoc ht
      have hm := mny_snoc ht
      cases t with
      | put zs =>
        refine iteT ?_
        obtain ⟨b, c, rfl, h1, h2, h3, h4⟩ := hat3
        refine ⟨rfl, .ref b, rfl, b, _, _, _, rfl, rfl, h1, atI_nat (j := 1) rfl, c, zs, rfl, h2, h3, h4, fun H4 s4 => ⟨true, rfl, iteT ?_⟩⟩
        refine ⟨.int (hgt (l.take i)), rfl, _, _, rfl, rfl, ?_⟩
        refine ⟨.int (mny (l.take i)), rfl, .ref b, rfl, b, _, _, _, rfl, rfl, seqT h1 s4, atI_nat (j := 1) rfl, c, _, rfl, .inr (seqT h2 s4), _, _, rfl, rfl, ?_⟩
        refine ⟨some (.ref b), ?_, fun b o e => s4 b o (s3 b o e)⟩
        rw [hh, hm, List.length_map]
        rfl
      | pour =>
        refine iteF ?_
        have h2 := tr.two i ht
        refine ⟨v, rfl, v, rfl, hat3, true, rfl, iteT ⟨.int (hgt (l.take i)), rfl, _, _, rfl, rfl, true, congrArg V.bl (decide_eq_true (by omega)), iteT ?_⟩⟩
        refine ⟨.int (hgt (l.take i)), rfl, _, _, rfl, rfl, some v, ?_, s3⟩
        rw [hh, hm]
        rfl
    · rintro σ H3 ⟨x, rfl, s3⟩
      have e1 : l.take vs.length = l := by rw [hl, List.take_length]
      rw [e1]
      refine ⟨.int (hgt l), rfl, rfl, true, congrArg V.bl (decide_eq_true (by rw [tr.one])), iteT ⟨.int (mny l), rfl, _, _, rfl, rfl, ?_⟩⟩
      show Q (.bl (decide (mny l ≤ 50000))) H3
      rw [decide_eq_true tr.few]
      exact q H3 s3
def spIsTree (K : PySem.W.Frag) : Sp := fun vs H Q _ => ∃ (a : Addr) (l : List Stp), vs = [.ref a] ∧ TreeAt K H a l ∧ Tree l ∧ ∀ H', Same H H' → Q (.bl true) H'
theorem ok_is_tree (T : Blt mg) (cL : Cst mg "LONGEST_NAME" (.int 8)) (cS' : Cst mg "MOST_STEPS" (.int 5000)) (cI : Cst mg "MOST_ITEMS" (.int 50000)) (dP_is_name : DnIsName K mg) (dP_is_stream : DnIsStream K mg) (dP_is_put : DnIsPut K mg) (dP_is_pour : DnIsPour K mg) (d : DnIsTree K mg) :
    FnOk P w K mg base CX0 4 d.f d.fd ["thing"] (spIsTree K) := by
  have GP_is_tree_of : FnOk P w K mg base CX0 3 dP_is_put.o.f dP_is_put.o.fd ["thing", "word", "is_right"] (spIsTreeOf K dP_is_stream.f) := ok_is_tree_of T cL cS' cI dP_is_name dP_is_stream dP_is_put dP_is_pour
  refine d.F.ok scP_is_tree (fun vs H Q E h => ?_) (fun cdv A outer s H vs Q E hr h => ?_)
  · obtain ⟨a, l, rfl, _⟩ := h
    rfl
  · obtain ⟨a, l, rfl, hT, tr, q⟩ := h
    refine ⟨_, (pss_one (ps_ret (pe_call GP_is_tree_of (hr.mono (by omega)) (by rfl) dP_is_put.o.g dP_is_put.o.F.kp dP_is_put.o.b .nil pass0 (pa_cons (pv 0) (pa_cons pe_str (pa_cons (pe_glob (v := .ref dP_is_stream.f) rfl dP_is_stream.g rfl) pa_nil)))))), ?_⟩
    exact ⟨.ref a, rfl, a, l, rfl, hT, tr, q⟩
end
end Kb

namespace Kb
open PySem PySem.Spec PyProof.Rows L2 SrtZ
abbrev sP_are_counts : Stmt := topS 21
abbrev NP_are_counts : List Str := ["thing", "last", "pair"]
theorem scP_are_counts : FnScope ["thing", "last", "pair"] ["thing"] (defScope sP_are_counts) := ⟨rfl, rfl, rfl, by decide +kernel, rfl, by decide +kernel, by decide +kernel⟩
abbrev sP_is_counted : Stmt := topS 22
abbrev NP_is_counted : List Str := ["pair"]
theorem scP_is_counted : FnScope ["pair"] ["pair"] (defScope sP_is_counted) := ⟨rfl, rfl, rfl, by decide +kernel, rfl, by decide +kernel, by decide +kernel⟩
abbrev sP_lost_of : Stmt := topS 27
abbrev NP_lost_of : List Str := ["sketch", "_", "count"]
theorem scP_lost_of : FnScope ["sketch", "_", "count"] ["sketch"] (defScope sP_lost_of) := ⟨rfl, rfl, rfl, by decide +kernel, rfl, by decide +kernel, by decide +kernel⟩
abbrev sP_is_sketch : Stmt := topS 28
abbrev NP_is_sketch : List Str := ["thing", "room", "many", "off", "kept"]
theorem scP_is_sketch : FnScope ["thing", "room", "many", "off", "kept"] ["thing"] (defScope sP_is_sketch) := ⟨rfl, rfl, rfl, by decide +kernel, rfl, by decide +kernel, by decide +kernel⟩
abbrev sP_bare : Stmt := topS 29
abbrev NP_bare : List Str := ["room"]
theorem scP_bare : FnScope ["room"] ["room"] (defScope sP_bare) := ⟨rfl, rfl, rfl, by decide +kernel, rfl, by decide +kernel, by decide +kernel⟩
abbrev DnAreCounts (K : PySem.W.Frag) (mg : Str → Option Value) := Dn K mg "are_counts" sP_are_counts ["thing"]
abbrev DnIsCounted (K : PySem.W.Frag) (mg : Str → Option Value) := Dn K mg "_is_counted" sP_is_counted ["pair"]
abbrev DnLostOf (K : PySem.W.Frag) (mg : Str → Option Value) := Dn K mg "lost_of" sP_lost_of ["sketch"]
abbrev DnIsSketch (K : PySem.W.Frag) (mg : Str → Option Value) := Dn K mg "is_sketch" sP_is_sketch ["thing"]
abbrev DnBare (K : PySem.W.Frag) (mg : Str → Option Value) := Dn K mg "bare" sP_bare ["room"]
/-! counts -/
abbrev Ct := List (Str × Int)
def PrAt (K : PySem.W.Frag) (H : Hp) (t : Addr) (e : Str × Int) : Prop := SqT K H t [.str e.1, .int e.2]
/-- the tuple at k holds these pairs -/
def CtAt (K : PySem.W.Frag) (H : Hp) (k : Addr) (kvs : Ct) : Prop := ∃ ts : List Addr, SqT K H k (ts.map V.ref) ∧ Paired (PrAt K H) ts kvs
theorem prs_same {K : PySem.W.Frag} {H H' : Hp} (s : Same H H') : ∀ {ts : List Addr} {kvs : Ct}, Paired (PrAt K H) ts kvs → Paired (PrAt K H') ts kvs
  | _, _, .nil => .nil
  | _, _, .cons h t => .cons (seqT h s) (prs_same s t)
theorem CtAt.same {K : PySem.W.Frag} {H H' : Hp} {k : Addr} {kvs : Ct} (h : CtAt K H k kvs) (s : Same H H') : CtAt K H' k kvs := by
  obtain ⟨ts, h1, h2⟩ := h
  exact ⟨ts, seqT h1 s, prs_same s h2⟩
structure Cts (kvs : Ct) : Prop where
  nm : ∀ e ∈ kvs, Nm e.1
  pos : ∀ e ∈ kvs, 1 ≤ e.2
  asc : kvs.Pairwise fun a b => ltZ a.1 b.1 = true
def sumC (kvs : Ct) : Int := (kvs.map (·.2)).sum
theorem map_at {α β : Type} {f : α → β} {xs : List α} {i : Nat} {y : β} (h : (xs.map f)[i]? = some y) : ∃ x, xs[i]? = some x ∧ y = f x := by
  rw [List.getElem?_map] at h
  cases e : xs[i]? with
  | none => rw [e] at h; cases h
  | some x => rw [e] at h; exact ⟨x, rfl, (Option.some.inj h).symm⟩
section
variable {P : Program} {w : World} {K : PySem.W.Frag} {mg : Str → Option Value} {base : Heap}
/-! _is_counted -/
def spIsCounted (K : PySem.W.Frag) : Sp := fun vs H Q _ => ∃ (t : Addr) (e : Str × Int), vs = [.ref t] ∧ PrAt K H t e ∧ Nm e.1 ∧ 1 ≤ e.2 ∧ ∀ H', Same H H' → Q (.bl true) H'
theorem ok_is_counted (T : Blt mg) (cL : Cst mg "LONGEST_NAME" (.int 8)) (dP_is_int : DnIsInt K mg) (dP_is_name : DnIsName K mg) (d : DnIsCounted K mg) : FnOk P w K mg base CX0 2 d.f d.fd ["pair"] (spIsCounted K) := by
  have GP_is_int : FnOk P w K mg base CX0 1 dP_is_int.f dP_is_int.fd ["thing"] spIsInt := ok_is_int T dP_is_int
  have GP_is_name : FnOk P w K mg base CX0 1 dP_is_name.f dP_is_name.fd ["thing"] spIsName := ok_is_name T cL dP_is_name
  refine d.F.ok scP_is_counted (fun vs H Q E h => ?_) (fun cdv A outer s H vs Q E hr h => ?_)
  · obtain ⟨t, e, rfl, _⟩ := h
    rfl
  · obtain ⟨t, e, rfl, hp, hn, h1, q⟩ := h
    refine ⟨_, (pss_cons (ps_if (PW.pt (pw_or (pt_not (pt_val (pe_callB call_isi (by rfl) T.n_isinstance (by decide +kernel) (pa_cons (pv 0) (pa_cons (pe_bltn (v := .ty "tuple") (by rfl) T.n_tuple (by decide +kernel) rfl) pa_nil))))) (pw_or1 (pt_cmpR op_ne (pe_callB call_len_seq (by rfl) T.n_len (by decide +kernel) (pa_cons (pv 0) pa_nil)) pe_int (nomark _)))))
      (pss_one (ps_ret pe_bl))
      pss_nil)
    (pss_one (ps_ret (pe_and (pe_call GP_is_name (hr.mono (by omega)) (by rfl) dP_is_name.g dP_is_name.F.kp dP_is_name.b .nil pass0 (pa_cons (pe_ix ix_tup (pv 0) pe_int (fun _ _ => rfl)) pa_nil)) (pe_and (pe_call GP_is_int (hr.mono (by omega)) (by rfl) dP_is_int.g dP_is_int.F.kp dP_is_int.b .nil pass0 (pa_cons (pe_ix ix_tup (pv 0) pe_int (fun _ _ => rfl)) pa_nil)) (pe_one (pe_cmpR op_ge (pe_ix ix_tup (pv 0) pe_int (fun _ _ => rfl)) pe_int (nomark _)))))))), ?_⟩
    refine ⟨.ref t, rfl, .ref t, _, _, _, true, rfl, .ty "tuple", tyT hp, kit_ty (by decide +kernel), true, rfl, iteF ?_⟩
    refine ⟨.ref t, rfl, t, _, rfl, .inr hp, rfl, false, rfl, iteF ?_⟩
    refine ⟨.ref t, rfl, t, _, _, _, rfl, rfl, hp, atI_nat (j := 0) rfl, e.1, rfl, hn, fun H1 s1 => ⟨true, rfl, iteT ?_⟩⟩
    have hp1 : PrAt K H1 t e := seqT hp s1
    refine ⟨.ref t, rfl, t, _, _, _, rfl, rfl, hp1, atI_nat (j := 1) rfl, e.2, rfl, true, rfl, iteT ?_⟩
    refine ⟨.ref t, rfl, t, _, _, _, rfl, rfl, hp1, atI_nat (j := 1) rfl, _, _, rfl, rfl, ?_⟩
    show Q (.bl (decide (1 ≤ e.2))) H1
    rw [decide_eq_true h1]
    exact q H1 s1
/-! are_counts -/
def spAreCounts (K : PySem.W.Frag) : Sp := fun vs H Q _ => ∃ (k : Addr) (kvs : Ct), vs = [.ref k] ∧ CtAt K H k kvs ∧ Cts kvs ∧ ∀ H', Same H H' → Q (.bl true) H'
theorem ok_are_counts (T : Blt mg) (cL : Cst mg "LONGEST_NAME" (.int 8)) (dP_is_int : DnIsInt K mg) (dP_is_name : DnIsName K mg) (dP_is_counted : DnIsCounted K mg) (d : DnAreCounts K mg) : FnOk P w K mg base CX0 3 d.f d.fd ["thing"] (spAreCounts K) := by
  have GP_is_counted : FnOk P w K mg base CX0 2 dP_is_counted.f dP_is_counted.fd ["pair"] (spIsCounted K) := ok_is_counted T cL dP_is_int dP_is_name dP_is_counted
  refine d.F.ok scP_are_counts (fun vs H Q E h => ?_) (fun cdv A outer s H vs Q E hr h => ?_)
  · obtain ⟨k, kvs, rfl, _⟩ := h
    rfl
  · obtain ⟨k, kvs, rfl, ⟨ts, hS, hp⟩, hc, q⟩ := h
    refine ⟨_, (pss_cons (ps_if (pt_not (pt_val (pe_callB call_isi (by rfl) T.n_isinstance (by decide +kernel) (pa_cons (pv 0) (pa_cons (pe_bltn (v := .ty "tuple") (by rfl) T.n_tuple (by decide +kernel) rfl) pa_nil)))))
      (pss_one (ps_ret pe_bl))
      pss_nil)
    (pss_cons (ps_set (i := 1) scP_are_counts.nd rfl (Or.inl rfl) pe_str)
    (pss_cons (ps_for PassesOwn.never rfl (pi_tup (pv 0)) (pg_name (i := 2) scP_are_counts.nd rfl (Or.inl rfl))
      (pss_cons (ps_if (PW.pt (pw_or (pt_not (pt_val (pe_call GP_is_counted (hr.mono (by omega)) (by rfl) dP_is_counted.g dP_is_counted.F.kp dP_is_counted.b .nil pass0 (pa_cons (pv 2) pa_nil)))) (pw_or1 (pt_cmpR op_le_str (pe_ix ix_tup (pv 2) pe_int (fun _ _ => rfl)) (pv 1) (nomark _)))))
        (pss_one (ps_ret pe_bl))
        pss_nil)
      (pss_one (ps_set (i := 1) scP_are_counts.nd rfl (Or.inl rfl) (pe_ix ix_tup (pv 2) pe_int (fun _ _ => rfl))))))
    (pss_one (ps_ret pe_bl))))), ?_⟩
    refine ⟨.ref k, rfl, .ref k, _, _, _, true, rfl, .ty "tuple", tyT hS, kit_ty (by decide +kernel), true, rfl, iteF ?_⟩
    refine ⟨.ref k, rfl, k, rfl, ⟨_, hS⟩, for_tup (xs := ts.map V.ref) (fun i σ H3 => ∃ (la : Str) (x : Option V), σ = [some (.ref k), some (.str la), x] ∧ Same H H3 ∧ (i = 0 → la = Str.ofString "") ∧ ∀ j e, i = j + 1 → kvs[j]? = some e → la = e.1)
      ⟨Str.ofString "", none, rfl, Same.refl H, fun _ => rfl, fun j e h => by omega⟩ (fun i σ H3 _ ⟨_, _, _, s3, _⟩ => seqT hS s3) ?_ ?_⟩
    · rintro i v σ H3 hi ⟨la, x, rfl, s3, e0, e1⟩
      obtain ⟨t, ht, rfl⟩ := map_at hi
      obtain ⟨e, he, hat⟩ := paired_at hp ht
      have hm := List.mem_of_getElem? he
      refine ⟨.ref t, rfl, t, e, rfl, seqT hat s3, hc.nm e hm, hc.pos e hm, fun H4 s4 => ⟨true, rfl, iteF ?_⟩⟩
      have hat4 : PrAt K H4 t e := seqT hat fun b o z => s4 b o (s3 b o z)
      have hlt : decide (la.cps.toList < e.1.cps.toList) = true := by
        cases i with
        | zero =>
          rw [e0 rfl]
          have h1 := (hc.nm e hm).pos
          have : (Str.ofString "").cps.toList = [] := by decide +kernel
          rw [this]
          refine decide_eq_true ?_
          cases hz : e.1.cps.toList with
          | nil =>
            have : e.1.length = 0 := by rw [← cs_len]; unfold cs; rw [hz]; rfl
            omega
          | cons c r => exact List.nil_lt_cons c r
        | succ j =>
          obtain ⟨e', he'⟩ : ∃ e', kvs[j]? = some e' := ⟨kvs[j]'(by have := (List.getElem?_eq_some_iff.mp he).1; omega), by simp⟩
          rw [e1 j e' rfl he']
          exact (List.pairwise_iff_getElem.mp hc.asc) j (j + 1) (List.getElem?_eq_some_iff.mp he').1 (List.getElem?_eq_some_iff.mp he).1 (by omega) |> fun h => by
            rw [(List.getElem?_eq_some_iff.mp he').2, (List.getElem?_eq_some_iff.mp he).2] at h
            exact h
      refine ⟨.ref t, rfl, t, _, _, _, rfl, rfl, hat4, atI_nat (j := 0) rfl, .str la, rfl, _, _, rfl, rfl, false, ?_, iteF ?_⟩
      · show V.bl (!decide (la.cps.toList < e.1.cps.toList)) = _
        rw [hlt]
        rfl
      refine ⟨.ref t, rfl, t, _, _, _, rfl, rfl, hat4, atI_nat (j := 0) rfl, e.1, some (.ref t), rfl, fun b o z => s4 b o (s3 b o z), fun h => by omega, fun j e' h1 h2 => ?_⟩
      have : j = i := by omega
      subst this
      rw [he] at h2
      cases h2
      rfl
    · rintro σ H3 ⟨la, x, rfl, s3, _⟩
      exact q H3 s3
/-! lost_of -/
def spLostOf (K : PySem.W.Frag) : Sp := fun vs H Q _ => ∃ (s k : Addr) (room many off : Int) (kvs : Ct), vs = [.ref s] ∧ SqT K H s [.int room, .int many, .int off, .ref k] ∧ CtAt K H k kvs ∧ kvs.length ≤ 1000 ∧ ∀ H', Same H H' → Q (.int (many - sumC kvs)) H'
theorem ok_lost_of (T : Blt mg) (d : DnLostOf K mg) : FnOk P w K mg base CX0 1 d.f d.fd ["sketch"] (spLostOf K) := by
  refine d.F.ok scP_lost_of (fun vs H Q E h => ?_) (fun cdv A outer s H vs Q E hr h => ?_)
  · obtain ⟨s, k, _, _, _, _, rfl, _⟩ := h
    rfl
  · obtain ⟨s, k, room, many, off, kvs, rfl, hs, ⟨ts, hS, hp⟩, hl, q⟩ := h
    refine ⟨_, (pss_one (ps_ret (pe_op op_sub (pe_ix ix_tup (pv 0) pe_int (fun _ _ => rfl)) (pe_callB (cr_sum rfl) (by rfl) T.n_sum (by decide +kernel) (pa_cons (pe_lc (own := [("_", 1), ("count", 2)]) (g := gTup K 2 (gCons (gName 1) (gCons (gName 2) gNil))) (tt := tYes) rfl scP_lost_of.nd (pi_tup (pe_ix ix_tup (pv 0) pe_int (fun _ _ => rfl))) (blkOk_by (N := NP_lost_of) (sc := defScope sP_lost_of) (by decide +kernel)) (fun _ _ _ _ _ => pg_tup (by rfl) (pgs_cons (pg_name (i := 1) scP_lost_of.nd rfl (Or.inl rfl)) (pgs_cons (pg_name (i := 2) scP_lost_of.nd rfl (Or.inl rfl)) pgs_nil))) (fun _ _ _ _ _ => pts_nil) (fun _ _ _ _ _ => (pv 2))) pa_nil))))), ?_⟩
    refine ⟨.ref s, rfl, s, _, _, _, rfl, rfl, hs, atI_nat (j := 1) rfl, .ref s, rfl, s, _, _, _, rfl, rfl, hs, atI_nat (j := 3) rfl, k, rfl, ⟨_, hS⟩, fun D nD => lc_tup (xs := ts.map V.ref) (fun i H3 => Same H H3 ∧ H3 D = some (.lst ((kvs.take i).map fun e => V.int e.2))) ⟨same_upd nD, upd_same⟩ (fun i H3 _ h3 => seqT hS h3.1) (fun i x H3 hx h3 => ?_) (fun H3 h3 => ?_)⟩
    · obtain ⟨t, ht, rfl⟩ := map_at hx
      obtain ⟨e, he, hat⟩ := paired_at hp ht
      refine ⟨t, _, rfl, seqT hat h3.1, rfl, _, _, rfl, _, _, rfl, rfl, rfl, .int e.2, rfl, _, h3.2, ?_, fun b o z => ?_, ?_⟩
      · rw [List.length_map, List.length_take, sizeLine_eq]
        omega
      · rw [upd_ne (ne_of_none z nD)]
        exact h3.1 b o z
      · rw [upd_same, List.take_add_one, he, List.map_append]
        rfl
    · refine ⟨D, kvs.map (fun e : Str × Int => e.2), rfl, sql ?_, _, _, rfl, rfl, q H3 h3.1⟩
      rw [h3.2, List.length_map, Paired.length hp, List.take_length, List.map_map]
      rfl
/-! is_sketch -/
def skB (room many off : Int) (kvs : Ct) : Bool :=
  (decide (1 ≤ room) && decide (room ≤ 64)) && (decide (0 ≤ many) && (decide (0 ≤ off) && (decide ((kvs.length : Int) ≤ room) && (decide ((room + 1) * off ≤ many - sumC kvs) && decide (many - sumC kvs ≤ 2 * room * off)))))
def spIsSketch (K : PySem.W.Frag) : Sp := fun vs H Q _ => ∃ (s k : Addr) (room many off : Int) (kvs : Ct), vs = [.ref s] ∧ SqT K H s [.int room, .int many, .int off, .ref k] ∧ CtAt K H k kvs ∧ Cts kvs ∧ kvs.length ≤ 1000 ∧ ∀ H', Same H H' → Q (.bl (skB room many off kvs)) H'
theorem ok_is_sketch (T : Blt mg) (cM : Cst mg "MOST_ROOM" (.int 64)) (cL : Cst mg "LONGEST_NAME" (.int 8)) (dP_is_int : DnIsInt K mg) (dP_is_number : DnIsNumber K mg) (dP_is_room : DnIsRoom K mg) (dP_is_name : DnIsName K mg) (dP_is_counted : DnIsCounted K mg) (dP_are_counts : DnAreCounts K mg)
    (dP_lost_of : DnLostOf K mg) (d : DnIsSketch K mg) : FnOk P w K mg base CX0 4 d.f d.fd ["thing"] (spIsSketch K) := by
  have GP_is_room : FnOk P w K mg base CX0 2 dP_is_room.f dP_is_room.fd ["thing"] spIsRoom := ok_is_room T cM dP_is_int dP_is_room
  have GP_is_number : FnOk P w K mg base CX0 2 dP_is_number.f dP_is_number.fd ["thing"] spIsNumber := ok_is_number T dP_is_int dP_is_number
  have GP_are_counts : FnOk P w K mg base CX0 3 dP_are_counts.f dP_are_counts.fd ["thing"] (spAreCounts K) := ok_are_counts T cL dP_is_int dP_is_name dP_is_counted dP_are_counts
  have GP_lost_of : FnOk P w K mg base CX0 1 dP_lost_of.f dP_lost_of.fd ["sketch"] (spLostOf K) := ok_lost_of T dP_lost_of
  refine d.F.ok scP_is_sketch (fun vs H Q E h => ?_) (fun cdv A outer s H vs Q E hr h => ?_)
  · obtain ⟨s, k, _, _, _, _, rfl, _⟩ := h
    rfl
  · obtain ⟨s, k, room, many, off, kvs, rfl, hs, hk, hc, hl, q⟩ := h
    refine ⟨_, (pss_cons (ps_if (PW.pt (pw_or (pt_not (pt_val (pe_callB call_isi (by rfl) T.n_isinstance (by decide +kernel) (pa_cons (pv 0) (pa_cons (pe_bltn (v := .ty "tuple") (by rfl) T.n_tuple (by decide +kernel) rfl) pa_nil))))) (pw_or1 (pt_cmpR op_ne (pe_callB call_len_seq (by rfl) T.n_len (by decide +kernel) (pa_cons (pv 0) pa_nil)) pe_int (nomark _)))))
      (pss_one (ps_ret pe_bl))
      pss_nil)
    (pss_cons (ps_asg (pv 0) (pg_tup (by rfl) (pgs_cons (pg_name (i := 1) scP_is_sketch.nd rfl (Or.inl rfl)) (pgs_cons (pg_name (i := 2) scP_is_sketch.nd rfl (Or.inl rfl)) (pgs_cons (pg_name (i := 3) scP_is_sketch.nd rfl (Or.inl rfl)) (pgs_cons (pg_name (i := 4) scP_is_sketch.nd rfl (Or.inl rfl)) pgs_nil))))))
    (pss_cons (ps_if (PW.pt (pw_or (pt_not (pt_val (pe_call GP_is_room (hr.mono (by omega)) (by rfl) dP_is_room.g dP_is_room.F.kp dP_is_room.b .nil pass0 (pa_cons (pv 1) pa_nil)))) (pw_or (pt_not (pt_val (pe_call GP_is_number (hr.mono (by omega)) (by rfl) dP_is_number.g dP_is_number.F.kp dP_is_number.b .nil pass0 (pa_cons (pv 2) pa_nil)))) (pw_or1 (pt_not (pt_val (pe_call GP_is_number (hr.mono (by omega)) (by rfl) dP_is_number.g dP_is_number.F.kp dP_is_number.b .nil pass0 (pa_cons (pv 3) pa_nil))))))))
      (pss_one (ps_ret pe_bl))
      pss_nil)
    (pss_cons (ps_if (PW.pt (pw_or (pt_not (pt_val (pe_call GP_are_counts (hr.mono (by omega)) (by rfl) dP_are_counts.g dP_are_counts.F.kp dP_are_counts.b .nil pass0 (pa_cons (pv 4) pa_nil)))) (pw_or1 (pt_cmpR op_gt (pe_callB call_len_seq (by rfl) T.n_len (by decide +kernel) (pa_cons (pv 4) pa_nil)) (pv 1) (nomark _)))))
      (pss_one (ps_ret pe_bl))
      pss_nil)
    (pss_one (ps_ret (pe_chain op_le op_le (pe_op op_mul (pe_op op_add (pv 1) pe_int) (pv 3)) (pe_call GP_lost_of (hr.mono (by omega)) (by rfl) dP_lost_of.g dP_lost_of.F.kp dP_lost_of.b .nil pass0 (pa_cons (pv 0) pa_nil)) (pe_op op_mul (pe_op op_mul pe_int (pv 1)) (pv 3))))))))), ?_⟩
    refine ⟨.ref s, rfl, .ref s, _, _, _, true, rfl, .ty "tuple", tyT hs, kit_ty (by decide +kernel), true, rfl, iteF ?_⟩
    refine ⟨.ref s, rfl, s, _, rfl, .inr hs, rfl, false, rfl, iteF ?_⟩
    refine ⟨.ref s, rfl, s, _, rfl, hs, rfl, _, _, rfl, _, _, rfl, _, _, rfl, _, _, rfl, rfl, ?_⟩
    unfold skB at q
    refine ⟨.int room, rfl, room, rfl, _, rfl, ?_⟩
    cases eR : (decide (1 ≤ room) && decide (room ≤ 64)) with
    | false =>
      rw [eR, Bool.false_and] at q
      exact iteT (iteT (q H (Same.refl H)))
    | true =>
      rw [eR, Bool.true_and] at q
      refine iteF ⟨.int many, rfl, many, rfl, _, rfl, ?_⟩
      cases eM : decide (0 ≤ many) with
      | false =>
        rw [eM, Bool.false_and] at q
        exact iteT (iteT (q H (Same.refl H)))
      | true =>
        rw [eM, Bool.true_and] at q
        refine iteF ⟨.int off, rfl, off, rfl, _, rfl, ?_⟩
        cases eO : decide (0 ≤ off) with
        | false =>
          rw [eO, Bool.false_and] at q
          exact iteT (q H (Same.refl H))
        | true =>
          rw [eO, Bool.true_and] at q
          refine iteF ⟨.ref k, rfl, k, kvs, rfl, hk, hc, fun H1 s1 => ⟨true, rfl, iteF ?_⟩⟩
          have hr1 : 1 ≤ room ∧ room ≤ 64 := by
            rw [Bool.and_eq_true, decide_eq_true_eq, decide_eq_true_eq] at eR
            exact eR
          obtain ⟨ts, hS, hp⟩ := hk.same s1
          have el : (ts.map V.ref).length = kvs.length := by rw [List.length_map, Paired.length hp]
          refine ⟨.ref k, rfl, k, _, rfl, .inr hS, .int room, rfl, _, _, rfl, rfl, _, rfl, ?_⟩
          rw [el]
          by_cases eL : (kvs.length : Int) ≤ room
          · rw [show decide ((kvs.length : Int) > room) = false from decide_eq_false (by omega)]
            rw [decide_eq_true eL, Bool.true_and] at q
            refine iteF ?_
            refine ⟨.int room, rfl, _, _, rfl, rfl, .int off, rfl, _, _, rfl, rfl, cmulL (by omega) (by omega), .ref s, rfl, s, k, room, many, off, kvs, rfl, seqT hs s1, ⟨ts, hS, hp⟩, hl, fun H2 s2 => ⟨_, _, rfl, rfl, _, rfl, ?_⟩⟩
            by_cases e1 : (room + 1) * off ≤ many - sumC kvs
            · rw [decide_eq_true e1] at q ⊢
              rw [Bool.true_and] at q
              refine iteT ⟨.int room, rfl, _, _, rfl, rfl, cmulL (by decide) (by decide), .int off, rfl, _, _, rfl, rfl, cmulL (by omega) (by omega), _, _, rfl, rfl, ?_⟩
              exact q H2 fun b o z => s2 b o (s1 b o z)
            · rw [decide_eq_false e1] at q ⊢
              rw [Bool.false_and] at q
              exact iteF (q H2 fun b o z => s2 b o (s1 b o z))
          · rw [show decide ((kvs.length : Int) > room) = true from decide_eq_true (by omega)]
            rw [decide_eq_false eL, Bool.false_and] at q
            exact iteT (q H1 s1)
/-! bare -/
def spBare : Sp := fun vs H Q _ => ∃ room : Int, vs = [.int room] ∧ 1 ≤ room ∧ room ≤ 64 ∧ ∀ H' s k, Same H H' → H s = none → H' s = some (.tup [.int room, .int 0, .int 0, .ref k]) → Ptp H' k [] → Q (.ref s) H'
theorem ok_bare (T : Blt mg) (cM : Cst mg "MOST_ROOM" (.int 64)) (dP_is_int : DnIsInt K mg) (dP_is_room : DnIsRoom K mg) (d : DnBare K mg) : FnOk P w K mg base CX0 3 d.f d.fd ["room"] spBare := by
  have GP_is_room : FnOk P w K mg base CX0 2 dP_is_room.f dP_is_room.fd ["thing"] spIsRoom := ok_is_room T cM dP_is_int dP_is_room
  refine d.F.ok scP_bare (fun vs H Q E h => ?_) (fun cdv A outer s H vs Q E hr h => ?_)
  · obtain ⟨room, rfl, _⟩ := h
    rfl
  · obtain ⟨room, rfl, h1, h2, q⟩ := h
    refine ⟨_, (pss_cons (ps_if (pt_not (pt_val (pe_call GP_is_room (hr.mono (by omega)) (by rfl) dP_is_room.g dP_is_room.F.kp dP_is_room.b .nil pass0 (pa_cons (pv 0) pa_nil))))
      (pss_one ps_never)
      pss_nil)
    (pss_one (ps_ret (pe_tup (pa_cons (pv 0) (pa_cons pe_int (pa_cons pe_int (pa_cons (pe_tupF pa_nil) pa_nil)))))))), ?_⟩
    refine ⟨.int room, rfl, room, rfl, true, ?_, iteF ?_⟩
    · rw [decide_eq_true h1, decide_eq_true h2]
      rfl
    · refine ⟨.int room, rfl, (by show 0 ≤ sizeLine; decide), fun k o nk ho => ⟨(by show 4 ≤ sizeLine; decide), fun p np => ?_⟩⟩
      have s1 : Same H (upd H k (.frz o (.tup []))) := same_upd nk
      refine q _ p k (Same.new s1 np) (Same.gone s1 np) upd_same ⟨o, ?_, ho⟩
      rw [upd_ne (ne_of_none upd_same np)]
      exact upd_same
end
end Kb

namespace Kb
open PySem PySem.Spec PyProof.Rows L2 SrtZ
abbrev sTinit : Stmt := inClass (topS 25) 0
abbrev NTinit : List Str := ["self", "sketch", "kept"]
theorem scTinit : FnScope ["self", "sketch", "kept"] ["self", "sketch"] (defScope sTinit) := ⟨rfl, rfl, rfl, by decide +kernel, rfl, by decide +kernel, by decide +kernel⟩
abbrev sTsketch : Stmt := inClass (topS 25) 1
abbrev NTsketch : List Str := ["self"]
theorem scTsketch : FnScope ["self"] ["self"] (defScope sTsketch) := ⟨rfl, rfl, rfl, by decide +kernel, rfl, by decide +kernel, by decide +kernel⟩
abbrev sTfeed : Stmt := inClass (topS 25) 2
abbrev NTfeed : List Str := ["self", "name", "times", "amount"]
theorem scTfeed : FnScope ["self", "name", "times", "amount"] ["self", "name", "times"] (defScope sTfeed) := ⟨rfl, rfl, rfl, by decide +kernel, rfl, by decide +kernel, by decide +kernel⟩
abbrev sTpour : Stmt := inClass (topS 25) 3
abbrev NTpour : List Str := ["self", "sketch", "_", "many", "off", "kept", "name", "count", "falling"]
theorem scTpour : FnScope ["self", "sketch", "_", "many", "off", "kept", "name", "count", "falling"] ["self", "sketch"] (defScope sTpour) := ⟨rfl, rfl, rfl, by decide +kernel, rfl, by decide +kernel, by decide +kernel⟩
abbrev sTtake : Stmt := inClass (topS 25) 4
abbrev NTtake : List Str := ["self", "amount", "name", "count"]
theorem scTtake : FnScope ["self", "amount", "name", "count"] ["self", "amount"] (defScope sTtake) := ⟨rfl, rfl, rfl, by decide +kernel, rfl, by decide +kernel, by decide +kernel⟩
/-! the fields -/
theorem k_mr : ¬ (("room" : Str) = "seen") := by decide +kernel
theorem k_or : ¬ (("room" : Str) = "off") := by decide +kernel
theorem k_om : ¬ (("seen" : Str) = "off") := by decide +kernel
theorem k_cr : ¬ (("room" : Str) = "counts") := by decide +kernel
theorem k_cm : ¬ (("seen" : Str) = "counts") := by decide +kernel
theorem k_co : ¬ (("off" : Str) = "counts") := by decide +kernel
def fl (r m o : Int) (d : Addr) : List (Str × V) := [(("room" : Str), V.int r), (("seen" : Str), V.int m), (("off" : Str), V.int o), (("counts" : Str), V.ref d)]
theorem fl_mk (r m o : Int) (d : Addr) : putF "counts" (.ref d) (putF "off" (.int o) (putF "seen" (.int m) (putF "room" (.int r) []))) = fl r m o d := by
  show putF "counts" (.ref d) (putF "off" (.int o) (if ("room" : Str) = "seen" then _ else (("room" : Str), V.int r) :: [(("seen" : Str), V.int m)])) = _
  rw [if_neg k_mr]
  show putF "counts" (.ref d) (if ("room" : Str) = "off" then _ else (("room" : Str), V.int r) :: (if ("seen" : Str) = "off" then _ else (("seen" : Str), V.int m) :: [(("off" : Str), V.int o)])) = _
  rw [if_neg k_or, if_neg k_om]
  show (if ("room" : Str) = "counts" then _ else (("room" : Str), V.int r) :: (if ("seen" : Str) = "counts" then _ else (("seen" : Str), V.int m) :: (if ("off" : Str) = "counts" then _ else (("off" : Str), V.int o) :: [(("counts" : Str), V.ref d)]))) = _
  rw [if_neg k_cr, if_neg k_cm, if_neg k_co]
  rfl
theorem fl_many (r m o x : Int) (d : Addr) : putF "seen" (.int x) (fl r m o d) = fl r x o d := by
  show (if ("room" : Str) = "seen" then _ else (("room" : Str), V.int r) :: (if ("seen" : Str) = "seen" then _ else _)) = _
  rw [if_neg k_mr, if_pos rfl]
  rfl
theorem fl_off (r m o x : Int) (d : Addr) : putF "off" (.int x) (fl r m o d) = fl r m x d := by
  show (if ("room" : Str) = "off" then _ else (("room" : Str), V.int r) :: (if ("seen" : Str) = "off" then _ else (("seen" : Str), V.int m) :: (if ("off" : Str) = "off" then _ else _))) = _
  rw [if_neg k_or, if_neg k_om, if_pos rfl]
  rfl
theorem fl_counts (r m o : Int) (d x : Addr) : putF "counts" (.ref x) (fl r m o d) = fl r m o x := by
  show (if ("room" : Str) = "counts" then _ else (("room" : Str), V.int r) :: (if ("seen" : Str) = "counts" then _ else (("seen" : Str), V.int m) :: (if ("off" : Str) = "counts" then _ else (("off" : Str), V.int o) :: (if ("counts" : Str) = "counts" then _ else _)))) = _
  rw [if_neg k_cr, if_neg k_cm, if_neg k_co, if_pos rfl]
  rfl
theorem g_room (r m o : Int) (d : Addr) : (fl r m o d).lookup ("room" : Str) = some (.int r) := by
  rw [← fl_mk, lookup_putF, if_neg k_cr, lookup_putF, if_neg k_or, lookup_putF, if_neg k_mr, lookup_putF, if_pos rfl]
theorem g_many (r m o : Int) (d : Addr) : (fl r m o d).lookup ("seen" : Str) = some (.int m) := by
  rw [← fl_mk, lookup_putF, if_neg k_cm, lookup_putF, if_neg k_om, lookup_putF, if_pos rfl]
theorem g_off (r m o : Int) (d : Addr) : (fl r m o d).lookup ("off" : Str) = some (.int o) := by
  rw [← fl_mk, lookup_putF, if_neg k_co, lookup_putF, if_pos rfl]
theorem g_counts (r m o : Int) (d : Addr) : (fl r m o d).lookup ("counts" : Str) = some (.ref d) := by
  rw [← fl_mk, lookup_putF, if_pos rfl]
theorem g_no (r m o : Int) (d : Addr) {f : Str} (h1 : ¬ f = "counts") (h2 : ¬ f = "off") (h3 : ¬ f = "seen") (h4 : ¬ f = "room") : (fl r m o d).lookup f = none := by
  rw [← fl_mk, lookup_putF, if_neg h1, lookup_putF, if_neg h2, lookup_putF, if_neg h3, lookup_putF, if_neg h4]
  rfl
/-! counts in a dict -/
def getZ (kvs : Ct) (n : Str) : Option Int := (kvs.find? fun e => decide (e.1 = n)).map (·.2)
def putZ (kvs : Ct) (n : Str) (v : Int) : Ct := if (kvs.any fun e => decide (e.1 = n)) = true then kvs.map (fun e => if e.1 = n then (e.1, v) else e) else kvs ++ [(n, v)]
def addZ (kvs : Ct) (n : Str) (c : Int) : Ct := putZ kvs n ((getZ kvs n).getD 0 + c)
def takeZ (a : Int) (kvs : Ct) : Ct := (kvs.filter fun e => decide (a < e.2)).map fun e => (e.1, e.2 - a)
theorem ent_dec (e : Str × Int) (n : Str) : decide ((entZ e).1 = (Sum.inr n : Key)) = decide (e.1 = n) := key_rr _ _
theorem getZ_val (n : Str) : ∀ kvs : Ct, valV (kvs.map entZ) (Sum.inr n : Key) = (getZ kvs n).map V.int
  | [] => rfl
  | e :: r => by
    have ih := getZ_val n r
    unfold getZ at ih ⊢
    rw [List.map_cons]
    by_cases h : e.1 = n
    · rw [valV_pos (show (entZ e).1 = Sum.inr n by rw [← h])]
      simp [h]
    · rw [valV_neg (show ¬ (entZ e).1 = Sum.inr n from fun z => h (Sum.inr.inj z)), ih]
      simp [h]
theorem putZ_put (kvs : Ct) (n : Str) (v : Int) : putK (kvs.map entZ) (Sum.inr n : Key) (.int v) = (putZ kvs n v).map entZ := by
  unfold putK putZ
  have e : ((kvs.map entZ).any fun kv => decide (kv.1 = (Sum.inr n : Key))) = kvs.any fun e => decide (e.1 = n) := by
    rw [List.any_map]
    congr 1
    funext e
    exact ent_dec e n
  rw [e]
  by_cases h : (kvs.any fun e => decide (e.1 = n)) = true
  · rw [if_pos h, if_pos h, List.map_map, List.map_map]
    refine List.map_congr_left fun e _ => ?_
    show (if (Sum.inr e.1 : Key) = Sum.inr n then _ else _) = entZ (if e.1 = n then _ else _)
    by_cases h2 : e.1 = n
    · rw [if_pos h2, if_pos (by rw [h2])]
    · rw [if_neg h2, if_neg (fun z => h2 (Sum.inr.inj z))]
  · rw [if_neg h, if_neg h, List.map_append]
    rfl
abbrev NdZ (kvs : Ct) : Prop := (kvs.map (·.1)).Nodup
theorem getZ_none {kvs : Ct} {n : Str} : getZ kvs n = none ↔ n ∉ kvs.map (·.1) := by
  unfold getZ
  rw [Option.map_eq_none_iff, List.find?_eq_none]
  constructor
  · intro h z
    obtain ⟨e, he, rfl⟩ := List.mem_map.mp z
    have := h e he
    simp at this
  · intro h e he z
    exact h (List.mem_map.mpr ⟨e, he, of_decide_eq_true z⟩)
theorem any_getZ (n : Str) (kvs : Ct) : (kvs.any fun e => decide (e.1 = n)) = (getZ kvs n).isSome := by
  cases h : getZ kvs n with
  | none =>
    rw [getZ_none] at h
    show _ = false
    rw [List.any_eq_false]
    intro e he z
    exact h (List.mem_map.mpr ⟨e, he, of_decide_eq_true z⟩)
  | some v =>
    show _ = true
    rw [List.any_eq_true]
    unfold getZ at h
    cases hf : kvs.find? fun e => decide (e.1 = n) with
    | none => rw [hf] at h; cases h
    | some e =>
      have h2 := List.find?_some (p := fun e : Str × Int => decide (e.1 = n)) hf
      exact ⟨e, List.mem_of_find?_eq_some hf, h2⟩
theorem putZ_new {kvs : Ct} {n : Str} {v : Int} (h : getZ kvs n = none) : putZ kvs n v = kvs ++ [(n, v)] := by
  unfold putZ
  rw [any_getZ, h]
  exact if_neg (by decide)
theorem putZ_keys_old {kvs : Ct} {n : Str} {v : Int} (h : (getZ kvs n).isSome = true) : (putZ kvs n v).map (·.1) = kvs.map (·.1) := by
  unfold putZ
  rw [any_getZ, if_pos h, List.map_map]
  refine List.map_congr_left fun e _ => ?_
  show (if e.1 = n then _ else _ : Str × Int).1 = e.1
  split <;> rfl
theorem putZ_nd {kvs : Ct} {n : Str} {v : Int} (nd : NdZ kvs) : NdZ (putZ kvs n v) := by
  unfold NdZ
  cases h : getZ kvs n with
  | none =>
    rw [putZ_new h, List.map_append, List.nodup_append]
    refine ⟨nd, by simp, fun a ha b hb => ?_⟩
    rw [List.map_cons, List.map_nil, List.mem_singleton] at hb
    rw [hb]
    intro e
    have e' : a = n := e
    exact getZ_none.mp h (by rw [← e']; exact ha)
  | some x =>
    rw [putZ_keys_old (by rw [h]; rfl)]
    exact nd
theorem putZ_len {kvs : Ct} {n : Str} {v : Int} : (putZ kvs n v).length ≤ kvs.length + 1 := by
  cases h : getZ kvs n with
  | none => rw [putZ_new h, List.length_append]; exact Nat.le_refl _
  | some x =>
    have := congrArg List.length (putZ_keys_old (v := v) (show (getZ kvs n).isSome = true by rw [h]; rfl))
    rw [List.length_map, List.length_map] at this
    omega
theorem takeZ_nd {a : Int} {kvs : Ct} (nd : NdZ kvs) : NdZ (takeZ a kvs) := by
  unfold NdZ takeZ
  rw [List.map_map]
  exact List.Nodup.sublist (List.Sublist.map _ List.filter_sublist) nd
theorem takeZ_len {a : Int} {kvs : Ct} : (takeZ a kvs).length ≤ kvs.length := by
  unfold takeZ
  rw [List.length_map]
  exact List.length_filter_le _ _
theorem mergeZ : ∀ (more kvs : Ct), NdZ (kvs ++ more) → mergeK (kvs.map entZ) (more.map entZ) = (kvs ++ more).map entZ
  | [], kvs, _ => by
    rw [List.append_nil]
    rfl
  | e :: r, kvs, nd => by
    have nm : getZ kvs e.1 = none := getZ_none.mpr fun z => by
      unfold NdZ at nd
      rw [List.map_append, List.nodup_append] at nd
      exact nd.2.2 _ z _ (List.mem_map.mpr ⟨e, List.mem_cons_self, rfl⟩) rfl
    show mergeK (putK (kvs.map entZ) (Sum.inr e.1) (.int e.2)) (r.map entZ) = _
    rw [putZ_put, putZ_new nm, mergeZ r (kvs ++ [e]) (by rw [List.append_assoc]; exact nd), List.append_assoc]
    rfl
/-! a Tally -/
structure TalAt (C : Addr) (H : Hp) (t d : Addr) (r m o : Int) (kvs : Ct) : Prop where
  ob : ∃ dx, H t = some (.ins C dx (fl r m o d))
  dc : H d = some (.dK (kvs.map entZ))
theorem TalAt.ne {C : Addr} {H : Hp} {t d : Addr} {r m o : Int} {kvs : Ct} (h : TalAt C H t d r m o kvs) : t ≠ d := by
  obtain ⟨dx, e⟩ := h.ob
  exact ne_of e h.dc (by intro z; cases z)
theorem TalAt.same {C : Addr} {H H' : Hp} {t d : Addr} {r m o : Int} {kvs : Ct} (h : TalAt C H t d r m o kvs) (s : Same H H') : TalAt C H' t d r m o kvs := by
  obtain ⟨⟨dx, e⟩, e2⟩ := h
  exact ⟨⟨dx, s _ _ e⟩, s _ _ e2⟩
/-- all but the tally stays -/
def But (t d : Addr) (H H' : Hp) : Prop := ∀ b u, b ≠ t → b ≠ d → H b = some u → H' b = some u
theorem But.refl (t d : Addr) (H : Hp) : But t d H H := fun _ _ _ _ e => e
theorem But.trans {t d : Addr} {H H1 H2 : Hp} (x : But t d H H1) (y : But t d H1 H2) : But t d H H2 := fun b u n1 n2 e => y b u n1 n2 (x b u n1 n2 e)
theorem But.same {t d : Addr} {H H1 H2 : Hp} (x : But t d H H1) (y : Same H1 H2) : But t d H H2 := fun b u n1 n2 e => y b u (x b u n1 n2 e)
theorem But.upT {t d : Addr} {H H1 : Hp} {u : HO} (x : But t d H H1) : But t d H (upd H1 t u) := fun b v n1 n2 e => by
  rw [upd_ne n1]
  exact x b v n1 n2 e
theorem But.upD {t d : Addr} {H H1 : Hp} {u : HO} (x : But t d H H1) : But t d H (upd H1 d u) := fun b v n1 n2 e => by
  rw [upd_ne n2]
  exact x b v n1 n2 e
theorem But.new {t d p : Addr} {H H1 : Hp} {u : HO} (x : But t d H H1) (h : H1 p = none) : But t d H (upd H1 p u) := x.same (same_upd h)
/-- of the class, as the top has made it -/
structure Tal (K : PySem.W.Frag) (mg : Str → Option Value) where
  C : Addr
  fI : Addr
  fS : Addr
  fF : Addr
  fP : Addr
  fT : Addr
  dI : FuncData
  dS : FuncData
  dF : FuncData
  dP : FuncData
  dT : FuncData
  FI : Fun K "__init__" "Tally.__init__" sTinit fI dI
  FS : Fun K "sketch" "Tally.sketch" sTsketch fS dS
  FF : Fun K "gain" "Tally.gain" sTfeed fF dF
  FP : Fun K "pour" "Tally.pour" sTpour fP dP
  FT : Fun K "_take" "Tally._take" sTtake fT dT
  bI : Binds K dI ["self", "sketch"] []
  bS : Binds K dS ["self"] []
  bF : Binds K dF ["self", "name", "times"] []
  bP : Binds K dP ["self", "sketch"] []
  bT : Binds K dT ["self", "amount"] []
  mI : Mk K C fI
  mS : Meth K C "sketch" fS
  mF : Meth K C "gain" fF
  mP : Meth K C "pour" fP
  mT : Meth K C "_take" fT
  cl : Cls K C
  nR : NoAttr K C "room"
  nM : NoAttr K C "seen"
  nO : NoAttr K C "off"
  nC : NoAttr K C "counts"
  g : mg "Tally" = some (.ref C)
theorem ents_paired {K : PySem.W.Frag} {H : Hp} : ∀ {ts : List Addr} {kvs : Ct}, Paired (PrAt K H) ts kvs → Paired (fun p kv => SqT K H p [kV kv.1, kv.2]) ts (kvs.map entZ)
  | _, _, .nil => .nil
  | _, _, .cons h t => .cons h (ents_paired t)
theorem seq_upd {K : PySem.W.Frag} {H : Hp} {a t : Addr} {xs : List V} {C dx : Addr} {fs : List (Str × V)} {u : HO} (h : SqT K H a xs) (ht : H t = some (.ins C dx fs)) : SqT K (upd H t u) a xs := by
  rcases h with (h | ⟨o, h⟩) | h
  · exact .inl (.inl (by rw [upd_ne (ne_of h ht (by intro z; cases z))]; exact h))
  · exact .inl (.inr ⟨o, by rw [upd_ne (ne_of h ht (by intro z; cases z))]; exact h⟩)
  · exact .inr h
theorem prs_upd {K : PySem.W.Frag} {H : Hp} {t : Addr} {C dx : Addr} {fs : List (Str × V)} {u : HO} (ht : H t = some (.ins C dx fs)) : ∀ {ts : List Addr} {kvs : Ct}, Paired (PrAt K H) ts kvs → Paired (PrAt K (upd H t u)) ts kvs
  | _, _, .nil => .nil
  | _, _, .cons h q => .cons (seq_upd h ht) (prs_upd ht q)
section
variable {P : Program} {w : World} {K : PySem.W.Frag} {mg : Str → Option Value} {base : Heap}
/-! Tally.__init__ -/
def spTinit (K : PySem.W.Frag) (C : Addr) : Sp := fun vs H Q _ => ∃ (t dx s k : Addr) (r m o : Int) (ts : List Addr) (kvs : Ct), vs = [.ref t, .ref s] ∧ H t = some (.ins C dx []) ∧ SqT K H s [.int r, .int m, .int o, .ref k] ∧ Ptp H k (ts.map V.ref) ∧ Paired (PrAt K H) ts kvs ∧ NdZ kvs ∧
  ∀ H' d, (∀ b u, b ≠ t → H b = some u → H' b = some u) → H d = none → TalAt C H' t d r m o kvs → Q .non H'
theorem ok_Tinit (T : Blt mg) (L : Tal K mg) : FnOk P w K mg base CX0 1 L.fI L.dI ["self", "sketch"] (spTinit K L.C) := by
  refine L.FI.ok scTinit (fun vs H Q E h => ?_) (fun cdv A outer s H vs Q E hr h => ?_)
  · obtain ⟨t, dx, s, k, r, m, o, ts, kvs, rfl, _⟩ := h
    rfl
  · obtain ⟨t, dx, s, k, r, m, o, ts, kvs, rfl, ht, hs, hk, hp, nd, q⟩ := h
    refine ⟨_, (pss_cons (ps_asg (pv 1) (pg_tup (by rfl) (pgs_cons (pg_fld (pv 0)) (pgs_cons (pg_fld (pv 0)) (pgs_cons (pg_fld (pv 0)) (pgs_cons (pg_name (i := 2) scTinit.nd rfl (Or.inl rfl)) pgs_nil))))))
    (pss_one (ps_fld (pv 0) (pe_callTy (call_dictPT rfl) (by rfl) T.n_dict (by decide +kernel) (pa_cons (pv 2) pa_nil)) rfl))), ?_⟩
    have kt : k ≠ t := by
      obtain ⟨ob, e, _⟩ := hk
      exact ne_of e ht (by intro z; cases z)
    refine ⟨.ref s, rfl, s, _, rfl, hs, rfl, _, _, rfl, .ref t, rfl, t, L.C, dx, _, rfl, ht, L.cl, L.nR, (by show 0 < 1000; decide), ?_⟩
    refine ⟨_, _, rfl, .ref t, rfl, t, L.C, dx, _, rfl, upd_same, L.cl, L.nM, (by show 1 < 1000; decide), ?_⟩
    have l2 : (putF "seen" (V.int m) (putF "room" (V.int r) [])).length < 1000 := by
      show (if ("room" : Str) = "seen" then _ else (("room" : Str), V.int r) :: [(("seen" : Str), V.int m)]).length < 1000
      rw [if_neg k_mr]
      show 2 < 1000
      decide
    have l3 : (putF "off" (V.int o) (putF "seen" (V.int m) (putF "room" (V.int r) []))).length < 1000 := by
      show (putF "off" (V.int o) (if ("room" : Str) = "seen" then _ else (("room" : Str), V.int r) :: [(("seen" : Str), V.int m)])).length < 1000
      rw [if_neg k_mr]
      show (if ("room" : Str) = "off" then _ else (("room" : Str), V.int r) :: (if ("seen" : Str) = "off" then _ else (("seen" : Str), V.int m) :: [(("off" : Str), V.int o)])).length < 1000
      rw [if_neg k_or, if_neg k_om]
      show 3 < 1000
      decide
    refine ⟨_, _, rfl, .ref t, rfl, t, L.C, dx, _, rfl, upd_same, L.cl, L.nO, l2, ?_⟩
    rw [upd_upd, upd_upd]
    refine ⟨_, _, rfl, rfl, .ref k, rfl, k, ts, kvs.map entZ, rfl, hk.upd kt, ents_paired (prs_upd ht hp), fun d nd2 => ?_⟩
    have td : t ≠ d := ne_of_none upd_same nd2
    have nd0 : H d = none := by rw [upd_ne td.symm] at nd2; exact nd2
    refine ⟨.ref t, rfl, t, L.C, dx, _, rfl, (by rw [upd_ne td]; exact upd_same), L.cl, L.nC, l3, ?_⟩
    rw [fl_mk, show mergeK [] (kvs.map entZ) = kvs.map entZ from mergeZ kvs [] nd]
    refine q _ d (fun b u hb e => ?_) nd0 ⟨⟨dx, upd_same⟩, by rw [upd_ne td.symm]; exact upd_same⟩
    rw [upd_ne hb, upd_ne (ne_of_none e nd0), upd_ne hb]
    exact e
end
end Kb

namespace L2
section
variable {J : It} {n : Nat} {G : Hp → Prop} {Y : Nat → Hp → V → Hp → Prop}
/-- a dict comprehension over a walk -/
theorem dc_it (w : Walk J n G Y) {g : TG} {tt : TT} {tk tv : TE} {vs : List Nat} {σ : St} {H1 : Hp} {D : PySem.Addr} {Qd : Hp → Prop} (Pv : Nat → Hp → Prop) (h0 : Pv 0 (upd H1 D (.dK []))) (hG : ∀ i H, i ≤ n → Pv i H → G H)
    (hs : ∀ i x H H', i < n → Pv i H → Y i H x H' → g x (wipe σ vs) H' fun σ2 H2 => wipe σ2 vs = wipe σ vs ∧ tt σ2 H2 fun b H3 =>
      if b = true then tk σ2 H3 fun y H4 => tv σ2 H4 fun z H5 => ∃ kvs k, y = kV k ∧ H5 D = some (.dK kvs) ∧ kvs.length < PySem.sizeLine ∧ Pv (i + 1) (upd H5 D (.dK (putK kvs k z))) else Pv (i + 1) H3) (hd : ∀ H, Pv n H → Qd H) :
    ∃ W : Nat → Nat → Hp → Prop, (∃ m, W 0 m (upd H1 D (.dK []))) ∧ ∀ i m H, W i m H →
      (J.stop i H ∧ Qd H) ∨ (J.go i H ∧ ∃ Nx : Hp → Prop, (∀ H', Nx H' → ∃ m', m' < m ∧ W (i + 1) m' H') ∧ ∀ x H', J.yld i H x H' → g x (wipe σ vs) H' fun σ2 H2 => wipe σ2 vs = wipe σ vs ∧ tt σ2 H2 fun b H3 =>
        if b = true then tk σ2 H3 fun y H4 => tv σ2 H4 fun z H5 => ∃ kvs k, y = kV k ∧ H5 D = some (.dK kvs) ∧ kvs.length < PySem.sizeLine ∧ Nx (upd H5 D (.dK (putK kvs k z))) else Nx H3) := by
  refine ⟨fun i m H => m = n - i ∧ i ≤ n ∧ Pv i H, ⟨n, by simp, Nat.zero_le _, h0⟩, ?_⟩
  rintro i m H ⟨rfl, hi, p⟩
  have q := hG i H hi p
  by_cases hlt : i < n
  · refine .inr ⟨w.goes i H hlt q, Pv (i + 1), fun H' p' => ⟨n - (i + 1), by omega, rfl, hlt, p'⟩, fun x H' y => hs i x H H' hlt p (w.yields i H x H' hlt q y)⟩
  · have e : i = n := by omega
    subst e
    exact .inl ⟨w.stops H q, hd H p⟩
end
end L2
namespace Kb
open PySem PySem.Spec PyProof.Rows L2 SrtZ SrtO
def Asc (kvs : Ct) : Prop := kvs.Pairwise fun a b => ltZ a.1 b.1 = true
/-- sorted, names unlike: ascending -/
theorem asc_of {ys kvs : Ct} (h : Srtd lexZ ys) (p : ys.Perm kvs) (nd : NdZ kvs) : Asc ys := by
  have nd2 : (ys.map (·.1)).Nodup := (p.map (·.1)).nodup_iff.mpr nd
  rw [List.Nodup, List.pairwise_map] at nd2
  refine List.Pairwise.imp₂ (fun {a b} h1 h2 => ?_) h nd2
  rw [lexZ_ne (fun e => h2 e.symm)] at h1
  rcases bcase (ltZ a.1 b.1) with q | q
  · exact q
  · exact absurd (ltZ_tri q h1) h2
theorem asc_uniq {xs ys : Ct} (hx : Asc xs) (hy : Asc ys) (p : xs.Perm ys) : xs = ys :=
  List.Perm.eq_of_pairwise (le := fun (a b : Str × Int) => ltZ a.1 b.1 = true) (fun a b _ _ h1 h2 => by
    have := ltZ_asym h1
    rw [h2] at this
    cases this) hx hy p
theorem putZ_snoc {kvs : Ct} {n : Str} {v : Int} (h : n ∉ kvs.map (·.1)) : putZ kvs n v = kvs ++ [(n, v)] := putZ_new (getZ_none.mpr h)
theorem takeZ_snoc (a : Int) (kvs : Ct) (e : Str × Int) : takeZ a (kvs ++ [e]) = takeZ a kvs ++ (if a < e.2 then [(e.1, e.2 - a)] else []) := by
  unfold takeZ
  rw [List.filter_append, List.map_append]
  by_cases h : a < e.2
  · rw [if_pos h, List.filter_cons_of_pos (by simpa using h)]
    rfl
  · rw [if_neg h, List.filter_cons_of_neg (by simpa using h)]
    rfl
theorem takeZ_keys {a : Int} {kvs : Ct} {n : Str} (h : n ∈ (takeZ a kvs).map (·.1)) : n ∈ kvs.map (·.1) := by
  unfold takeZ at h
  rw [List.map_map] at h
  obtain ⟨e, he, rfl⟩ := List.mem_map.mp h
  exact List.mem_map.mpr ⟨e, (List.mem_filter.mp he).1, rfl⟩
section
variable {P : Program} {w : World} {K : PySem.W.Frag} {mg : Str → Option Value} {base : Heap}
/-! Tally.sketch -/
def spTsketch (C : Addr) : Sp := fun vs H Q _ => ∃ (t d : Addr) (r m o : Int) (kvs : Ct), vs = [.ref t] ∧ TalAt C H t d r m o kvs ∧ NdZ kvs ∧ kvs.length ≤ 1000 ∧
  ∀ H' s k (ys : Ct) (ts : List Addr), Same H H' → H s = none → H' s = some (.tup [.int r, .int m, .int o, .ref k]) → Ptp H' k (ts.map V.ref) → Paired (fun (t : Addr) (y : Str × Int) => H' t = some (.tup [.str y.1, .int y.2])) ts ys → ys.Perm kvs → Asc ys → Q (.ref s) H'
theorem ok_Tsketch (T : Blt mg) (L : Tal K mg) : FnOk P w K mg base CX0 1 L.fS L.dS ["self"] (spTsketch L.C) := by
  refine L.FS.ok scTsketch (fun vs H Q E h => ?_) (fun cdv A outer s H vs Q E hr h => ?_)
  · obtain ⟨t, d, r, m, o, kvs, rfl, _⟩ := h
    rfl
  · obtain ⟨t, d, r, m, o, kvs, rfl, ta, nd, hl, q⟩ := h
    refine ⟨_, (pss_one (ps_ret (pe_tup (pa_cons (pe_fld (pv 0) rfl) (pa_cons (pe_fld (pv 0) rfl) (pa_cons (pe_fld (pv 0) rfl) (pa_cons (pe_callTy call_tupleF (by rfl) T.n_tuple (by decide +kernel) (pa_cons (pe_callB (cr_sortedIZ rfl) (by rfl) T.n_sorted (by decide +kernel) (pa_cons (pe_bm0 PySem.F.plainAttrs_dict PySem.F.slot_dict_items PySem.F.type_dict_items mt_itemsK (pe_fld (pv 0) rfl)) pa_nil)) pa_nil)) pa_nil))))))), ?_⟩
    obtain ⟨⟨dx, ht⟩, hd⟩ := id ta
    refine ⟨.ref t, rfl, t, L.C, dx, _, _, rfl, ht, L.cl, L.nR, g_room _ _ _ _, .ref t, rfl, t, L.C, dx, _, _, rfl, ht, L.cl, L.nM, g_many _ _ _ _, .ref t, rfl, t, L.C, dx, _, _, rfl, ht, L.cl, L.nO, g_off _ _ _ _, ?_⟩
    refine ⟨.ref t, rfl, t, L.C, dx, _, _, rfl, ht, L.cl, L.nC, g_counts _ _ _ _, .inr (.inr (.inl ⟨rfl, .inl ⟨_, hd⟩⟩)), d, _, rfl, rfl, hd, fun p np => ?_⟩
    refine ⟨p, d, kvs, rfl, upd_same, (by rw [upd_ne (ne_of_none hd np)]; exact hd), fun H1 l ys ts s1 nl nts lts pm so hl1 hts => ?_⟩
    refine ⟨l, _, rfl, sql hl1, fun k ob nk ho => ⟨(by show 4 ≤ sizeLine; decide), fun s ns => ?_⟩⟩
    have sa : Same H (upd H p (DX.itemsO p d)) := same_upd np
    have sb : Same H H1 := fun b u e => s1 b u (sa b u e)
    have sc : Same H (upd H1 k (.frz ob (.tup (ts.map V.ref)))) := Same.new sb nk
    refine q _ s k ys ts (Same.new sc ns) (Same.gone sc ns) upd_same ⟨ob, ?_, ho⟩ ?_ pm (asc_of so pm nd)
    · rw [upd_ne (ne_of_none upd_same ns)]
      exact upd_same
    · have : ∀ {ts : List Addr} {ys : Ct}, Paired (fun (t : Addr) (y : Str × Int) => H1 t = some (.tup [.str y.1, .int y.2])) ts ys → Paired (fun (t : Addr) (y : Str × Int) => (upd (upd H1 k (.frz ob (.tup (ts.map V.ref)))) s (.tup [.int r, .int m, .int o, .ref k])) t = some (.tup [.str y.1, .int y.2])) ts ys := by
        intro ts ys h
        have gen : ∀ (u : HO) (ns' : (upd H1 k u) s = none) (v : HO) {ts : List Addr} {ys : Ct}, Paired (fun (t : Addr) (y : Str × Int) => H1 t = some (.tup [.str y.1, .int y.2])) ts ys → Paired (fun (t : Addr) (y : Str × Int) => (upd (upd H1 k u) s v) t = some (.tup [.str y.1, .int y.2])) ts ys := by
          intro u ns' v ts ys h
          induction h with
          | nil => exact .nil
          | cons h _ ih => exact .cons ((Same.new (same_upd nk) ns') _ _ h) ih
        exact gen _ (by
          have e : s ≠ k := (ne_of_none upd_same ns).symm
          rw [upd_ne e] at ns ⊢
          exact ns) _ h
      exact this hts
/-! Tally._take -/
def spTtake (C : Addr) : Sp := fun vs H Q _ => ∃ (t d : Addr) (r m o a : Int) (kvs : Ct), vs = [.ref t, .int a] ∧ TalAt C H t d r m o kvs ∧ NdZ kvs ∧ kvs.length ≤ 1000 ∧
  ∀ H' d', But t d H H' → H d' = none → TalAt C H' t d' r m (o + a) (takeZ a kvs) → Q .non H'
theorem ok_Ttake (T : Blt mg) (L : Tal K mg) : FnOk P w K mg base CX0 1 L.fT L.dT ["self", "amount"] (spTtake L.C) := by
  refine L.FT.ok scTtake (fun vs H Q E h => ?_) (fun cdv A outer s H vs Q E hr h => ?_)
  · obtain ⟨t, d, r, m, o, a, kvs, rfl, _⟩ := h
    rfl
  · obtain ⟨t, d, r, m, o, a, kvs, rfl, ta, nd, hl, q⟩ := h
    refine ⟨_, (pss_cons (ps_fldaug (pv 0) (pv 1) in_add)
    (pss_one (ps_fld (pv 0) (pe_lock (pe_dc rfl scTtake.nd (own := [("name", 2), ("count", 3)]) (g := gTup K 2 (gCons (gName 2) (gCons (gName 3) gNil))) (pi_items (pe_fld (pv 0) rfl)) (blkOk_by (N := NTtake) (sc := defScope sTtake) (by decide +kernel)) (fun _ _ _ _ _ => pg_tup (by rfl) (pgs_cons (pg_name (i := 2) scTtake.nd rfl (Or.inl rfl)) (pgs_cons (pg_name (i := 3) scTtake.nd rfl (Or.inl rfl)) pgs_nil))) (fun _ _ _ _ _ => pts_one (pt_cmpR op_gt (pv 3) (pv 1) (nomark _))) (fun _ _ _ _ _ => (pv 2)) (fun _ _ _ _ _ => (pe_op op_sub (pv 3) (pv 1))))) rfl))), ?_⟩
    obtain ⟨⟨dx, ht⟩, hd⟩ := id ta
    have td := ta.ne
    refine ⟨.ref t, rfl, t, L.C, dx, _, _, rfl, ht, L.cl, L.nO, g_off _ _ _ _, .int a, rfl, _, _, rfl, rfl, dx, _, ht, (by show 4 < 1000; decide), ?_⟩
    rw [fl_off]
    have hd1 : (upd H t (.ins L.C dx (fl r m (o + a) d))) d = some (.dK (kvs.map entZ)) := by rw [upd_ne td.symm]; exact hd
    refine ⟨d, _, hd1, trivial, fun od => ⟨.ref t, rfl, t, L.C, dx, _, _, rfl, (by rw [upd_ne td]; exact upd_same), L.cl, L.nC, g_counts _ _ _ _, d, od, kvs.map entZ, rfl, upd_same, fun D nD => ?_⟩⟩
    have tD : t ≠ D := ne_of_none (by rw [upd_ne td]; exact upd_same) nD
    have dD : d ≠ D := ne_of_none upd_same nD
    generalize hHl : upd (upd H t (.ins L.C dx (fl r m (o + a) d))) d (.frz od (.dK (kvs.map entZ))) = Hl at nD ⊢
    have hlt : Hl t = some (.ins L.C dx (fl r m (o + a) d)) := by rw [← hHl, upd_ne td]; exact upd_same
    have hld : Hl d = some (.frz od (.dK (kvs.map entZ))) := by rw [← hHl]; exact upd_same
    refine dc_it (walk_items (kvs := kvs.map entZ)) (fun i H3 => (∀ b u, b ≠ D → Hl b = some u → H3 b = some u) ∧ H3 D = some (.dK ((takeZ a (kvs.take i)).map entZ))) ⟨fun b u n e => by rw [upd_ne n]; exact e, upd_same⟩ (fun i H3 _ h3 => h3.1 d _ dD hld) (fun i x H3 H4 hi h3 y => ?_) (fun H3 h3 => ?_)
    · obtain ⟨Tp, x1, y1, rfl, nT, rfl, hx, hy⟩ := y
      dsimp only at hx hy
      rw [List.length_map] at hi
      have he : kvs[i]? = some kvs[i] := List.getElem?_eq_getElem hi
      generalize kvs[i] = e at he
      have hx1 : x1 = .str e.1 := by
        rw [List.getElem?_map, he] at hx
        exact (Option.some.inj hx).symm
      have hy1 : y1 = .int e.2 := by
        rw [List.getElem?_map, he] at hy
        exact (Option.some.inj hy).symm
      subst hx1 hy1
      have TD : Tp ≠ D := (ne_of_none h3.2 nT).symm
      refine ⟨Tp, _, rfl, .inl (.inl upd_same), rfl, _, _, rfl, _, _, rfl, rfl, rfl, .int e.2, rfl, .int a, rfl, _, _, rfl, rfl, _, rfl, ?_⟩
      have tk := takeZ_snoc a (kvs.take i) e
      have te : kvs.take (i + 1) = kvs.take i ++ [e] := by rw [List.take_add_one, he]; rfl
      refine ite2 (fun hgt => ?_) (fun hgt => ?_)
      · have hga : a < e.2 := of_decide_eq_true hgt
        refine ⟨.str e.1, rfl, .int e.2, rfl, .int a, rfl, _, _, rfl, rfl, _, Sum.inr e.1, rfl, (by rw [upd_ne TD.symm]; exact h3.2), ?_, fun b u nb e' => ?_, ?_⟩
        · rw [List.length_map, sizeLine_eq]
          have := takeZ_len (a := a) (kvs := kvs.take i)
          rw [List.length_take] at this
          omega
        · rw [upd_ne nb]
          by_cases hb : b = Tp
          · subst hb
            have := h3.1 b u nb e'
            rw [nT] at this
            cases this
          · rw [upd_ne hb]
            exact h3.1 b u nb e'
        · rw [upd_same, putZ_put, putZ_snoc, te, tk, if_pos hga]
          intro z
          have z2 := takeZ_keys z
          have nd2 := nd
          unfold NdZ at nd2
          rw [← List.take_append_drop i kvs, List.map_append, List.nodup_append] at nd2
          refine nd2.2.2 _ z2 e.1 (List.mem_map.mpr ⟨e, ?_, rfl⟩) rfl
          rw [List.drop_eq_getElem_cons hi]
          have := (List.getElem?_eq_some_iff.mp he).2
          rw [this]
          exact List.mem_cons_self
      · have hga : ¬ a < e.2 := fun z => hgt (decide_eq_true z)
        refine ⟨fun b u nb e' => ?_, ?_⟩
        · by_cases hb : b = Tp
          · subst hb
            have := h3.1 b u nb e'
            rw [nT] at this
            cases this
          · rw [upd_ne hb]
            exact h3.1 b u nb e'
        · rw [upd_ne TD.symm, te, tk, if_neg hga, List.append_nil]
          exact h3.2
    · have h3t := h3.1 t _ tD hlt
      have h3d := h3.1 d _ dD hld
      refine ⟨h3d, .ref t, rfl, t, L.C, dx, _, rfl, (by rw [upd_ne td]; exact h3t), L.cl, L.nC, (by show 4 < 1000; decide), ?_⟩
      rw [fl_counts]
      have h3D : H3 D = some (.dK ((takeZ a kvs).map entZ)) := by
        have := h3.2
        rw [List.length_map, List.take_length] at this
        exact this
      have nD0 : H D = none := by
        rw [← hHl, upd_ne dD.symm, upd_ne tD.symm] at nD
        exact nD
      refine q _ D (fun b u n1 n2 e => ?_) nD0 ⟨⟨dx, upd_same⟩, by rw [upd_ne tD.symm, upd_ne dD.symm]; exact h3D⟩
      rw [upd_ne n1, upd_ne n2]
      refine h3.1 b u (ne_of_none e nD0) ?_
      rw [← hHl, upd_ne n2, upd_ne n1]
      exact e
end
end Kb

namespace Kb
open PySem PySem.Spec PyProof.Rows L2 SrtZ SrtO
/-- the least count -/
def mnC : Ct → Int
  | [] => 0
  | [e] => e.2
  | e :: r => if e.2 ≤ mnC r then e.2 else mnC r
theorem mnC_spec : ∀ {kvs : Ct}, kvs ≠ [] → mnC kvs ∈ kvs.map (·.2) ∧ ∀ y ∈ kvs.map (·.2), mnC kvs ≤ y
  | [], h => absurd rfl h
  | [e], _ => ⟨by simp [mnC], fun y hy => by
    have : y = e.2 := by simpa using hy
    rw [this]
    exact Int.le_refl _⟩
  | e :: f :: r, _ => by
    obtain ⟨h1, h2⟩ := mnC_spec (kvs := f :: r) (by simp)
    show (if e.2 ≤ mnC (f :: r) then e.2 else mnC (f :: r)) ∈ _ ∧ ∀ y ∈ _, (if e.2 ≤ mnC (f :: r) then e.2 else mnC (f :: r)) ≤ y
    by_cases h : e.2 ≤ mnC (f :: r)
    · rw [if_pos h]
      refine ⟨by simp, fun y hy => ?_⟩
      rw [List.map_cons] at hy
      rcases List.mem_cons.mp hy with rfl | hy
      · exact Int.le_refl _
      · exact Int.le_trans h (h2 y hy)
    · rw [if_neg h]
      refine ⟨by rw [List.map_cons]; exact List.mem_cons_of_mem _ h1, fun y hy => ?_⟩
      rw [List.map_cons] at hy
      rcases List.mem_cons.mp hy with rfl | hy
      · omega
      · exact h2 y hy
theorem mnC_uniq {kvs : Ct} {m : Int} (h : m ∈ kvs.map (·.2)) (hm : ∀ y ∈ kvs.map (·.2), m ≤ y) : m = mnC kvs := by
  have ne : kvs ≠ [] := by
    rintro rfl
    simp at h
  obtain ⟨h1, h2⟩ := mnC_spec ne
  have a := h2 _ h
  have b := hm _ h1
  omega
/-- what a tally holds: many, off, counts -/
structure Tl where
  m : Int
  o : Int
  c : Ct
def full (r : Int) (n : Str) (kvs : Ct) : Bool := !(getZ kvs n).isSome && decide ((kvs.length : Int) = r)
def feedT (r : Int) (n : Str) (c : Int) (x : Tl) : Tl :=
  if full r n x.c = true then
    let a := if mnC x.c < c then mnC x.c else c
    ⟨x.m + c, x.o + a, if 0 < c - a then addZ (takeZ a x.c) n (c - a) else takeZ a x.c⟩
  else ⟨x.m + c, x.o, if 0 < c then addZ x.c n c else x.c⟩
def sumsZ (more kvs : Ct) : Ct := more.foldl (fun a e => addZ a e.1 e.2) kvs
def fallZ (kvs : Ct) (r : Int) : Int := ((kvs.map (·.2)).mergeSort (fun a b => decide (b ≤ a))).getD r.toNat 0
def pourT (r : Int) (y x : Tl) : Tl :=
  let all := sumsZ y.c x.c
  if r < (all.length : Int) then ⟨x.m + y.m, x.o + y.o + fallZ all r, takeZ (fallZ all r) all⟩ else ⟨x.m + y.m, x.o + y.o, all⟩
theorem fall_uniq {kvs : Ct} {ns : List Int} (p : ns.Perm (kvs.map (·.2))) (h : ns.Pairwise (· ≥ ·)) : ns = (kvs.map (·.2)).mergeSort (fun a b => decide (b ≤ a)) := by
  refine List.Perm.eq_of_pairwise (le := fun (a b : Int) => b ≤ a) (fun a b _ _ h1 h2 => Int.le_antisymm h2 h1) h ?_ (p.trans (List.mergeSort_perm _ _).symm)
  have := List.pairwise_mergeSort (le := fun (a b : Int) => decide (b ≤ a)) (fun a b c h1 h2 => by simp at *; omega) (fun a b => by simp; omega) (kvs.map (·.2))
  exact this.imp fun h => of_decide_eq_true h
theorem addZ_nd {kvs : Ct} {n : Str} {c : Int} (nd : NdZ kvs) : NdZ (addZ kvs n c) := putZ_nd nd
theorem addZ_len {kvs : Ct} {n : Str} {c : Int} : (addZ kvs n c).length ≤ kvs.length + 1 := putZ_len
theorem sumsZ_nd : ∀ {more kvs : Ct}, NdZ kvs → NdZ (sumsZ more kvs)
  | [], _, h => h
  | e :: r, kvs, h => sumsZ_nd (more := r) (addZ_nd (n := e.1) (c := e.2) h)
theorem sumsZ_len : ∀ {more kvs : Ct}, (sumsZ more kvs).length ≤ kvs.length + more.length
  | [], kvs => Nat.le_refl _
  | e :: r, kvs => by
    have h := sumsZ_len (more := r) (kvs := addZ kvs e.1 e.2)
    have h2 := addZ_len (kvs := kvs) (n := e.1) (c := e.2)
    show (sumsZ r (addZ kvs e.1 e.2)).length ≤ kvs.length + (r.length + 1)
    omega
theorem sumsZ_snoc {more kvs : Ct} {i : Nat} {e : Str × Int} (h : more[i]? = some e) : sumsZ (more.take (i + 1)) kvs = addZ (sumsZ (more.take i) kvs) e.1 e.2 := by
  unfold sumsZ
  rw [List.take_add_one, h, List.foldl_append]
  rfl
section
variable {P : Program} {w : World} {K : PySem.W.Frag} {mg : Str → Option Value} {base : Heap}
/-! Tally.feed -/
def spTfeed (C : Addr) : Sp := fun vs H Q _ => ∃ (t d : Addr) (r c : Int) (n : Str) (x : Tl), vs = [.ref t, .str n, .int c] ∧ TalAt C H t d r x.m x.o x.c ∧ NdZ x.c ∧ x.c.length ≤ 500 ∧ 1 ≤ r ∧
  ∀ H' d', But t d H H' → (d' = d ∨ H d' = none) → TalAt C H' t d' r (feedT r n c x).m (feedT r n c x).o (feedT r n c x).c → Q .non H'
theorem ok_Tfeed (T : Blt mg) (L : Tal K mg) : FnOk P w K mg base CX0 2 L.fF L.dF ["self", "name", "times"] (spTfeed L.C) := by
  have G_take : FnOk P w K mg base CX0 1 L.fT L.dT ["self", "amount"] (spTtake L.C) := ok_Ttake T L
  refine L.FF.ok scTfeed (fun vs H Q E h => ?_) (fun cdv A outer s H vs Q E hr h => ?_)
  · obtain ⟨t, d, r, c, n, x, rfl, _⟩ := h
    rfl
  · obtain ⟨t, d, r, c, n, ⟨m, o, kvs⟩, rfl, ta, nd, hl, hr1, q⟩ := h
    dsimp only at ta nd hl q
    have hu := hu_of hr
    refine ⟨_, (pss_cons (ps_fldaug (pv 0) (pv 2) in_add)
    (C8.pss_cut (ps_if (PW.pt (pw_and (pt_cmp (pc_dnotin hu (pv 1) (pe_fld (pv 0) rfl))) (pw_and1 (pt_cmpR op_eq (pe_callB call_lenD (by rfl) T.n_len (by decide +kernel) (pa_cons (pe_fld (pv 0) rfl) pa_nil)) (pe_fld (pv 0) rfl) (nomark _)))))
      (pss_cons (ps_set (i := 3) scTfeed.nd rfl (Or.inl rfl) (pe_callB (call_min2 rfl) (by rfl) T.n_min (by decide +kernel) (pa_cons (pv 2) (pa_cons (pe_callB (cr_minV rfl) (by rfl) T.n_min (by decide +kernel) (pa_cons (pe_bm0 PySem.F.plainAttrs_dict PySem.F.slot_dict_values PySem.F.type_dict_values mt_valuesK (pe_fld (pv 0) rfl)) pa_nil)) pa_nil))))
      (pss_cons (ps_expr (pe_meth (pv 0) L.cl L.mT G_take (hr.mono (by omega)) L.bT .nil pass0 (pa_cons (pv 3) pa_nil)))
      (pss_one (ps_aug (i := 2) scTfeed.nd rfl (Or.inl rfl) (pv 3) ip_sub))))
      pss_nil)
    (pss_one (ps_if (pt_cmpR op_gt (pv 2) pe_int (nomark _))
      (pss_one (ps_dput hu (pe_fld (pv 0) rfl) (pv 1) (pe_op op_add (pe_dget2 hu (pe_fld (pv 0) rfl) (pv 1) pe_int ⟨rfl, rfl, rfl, rfl⟩) (pv 2)) rfl))
      pss_nil)))), ?_⟩
    obtain ⟨⟨dx, ht⟩, hd⟩ := id ta
    have td := ta.ne
    refine ⟨.ref t, rfl, t, L.C, dx, _, _, rfl, ht, L.cl, L.nM, g_many _ _ _ _, .int c, rfl, _, _, rfl, rfl, dx, _, ht, (by show 4 < 1000; decide), ?_⟩
    rw [fl_many]
    have ta1 : TalAt L.C (upd H t (.ins L.C dx (fl r (m + c) o d))) t d r (m + c) o kvs := ⟨⟨dx, upd_same⟩, by rw [upd_ne td.symm]; exact hd⟩
    have bt1 : But t d H (upd H t (.ins L.C dx (fl r (m + c) o d))) := (But.refl t d H).upT
    generalize upd H t (.ins L.C dx (fl r (m + c) o d)) = H1 at ta1 bt1
    -- what stands behind the first if
    refine ⟨fun σ H2 => ∃ (d2 : Addr) (o2 c2 : Int) (kvs2 : Ct) (y : Option V), σ = [some (.ref t), some (.str n), some (.int c2), y] ∧ But t d H H2 ∧ (d2 = d ∨ H d2 = none) ∧ TalAt L.C H2 t d2 r (m + c) o2 kvs2 ∧ NdZ kvs2 ∧ kvs2.length ≤ 500 ∧
      feedT r n c ⟨m, o, kvs⟩ = ⟨m + c, o2, if 0 < c2 then addZ kvs2 n c2 else kvs2⟩, ?_, ?_⟩
    · obtain ⟨⟨dx1, ht1⟩, hd1⟩ := id ta1
      refine ⟨.str n, rfl, .ref t, rfl, t, L.C, dx1, _, _, rfl, ht1, L.cl, L.nC, g_counts _ _ _ _, d, _, rfl, DGet.k (k := Sum.inr n) hd1, _, rfl, ?_⟩
      rw [getZ_val]
      have stay : full r n kvs = false → ∃ (d2 : Addr) (o2 c2 : Int) (kvs2 : Ct) (y : Option V), [some (V.ref t), some (V.str n), some (V.int c), none] = [some (.ref t), some (.str n), some (.int c2), y] ∧ But t d H H1 ∧ (d2 = d ∨ H d2 = none) ∧ TalAt L.C H1 t d2 r (m + c) o2 kvs2 ∧ NdZ kvs2 ∧ kvs2.length ≤ 500 ∧
          feedT r n c ⟨m, o, kvs⟩ = ⟨m + c, o2, if 0 < c2 then addZ kvs2 n c2 else kvs2⟩ := fun hf => ⟨d, o, c, kvs, none, rfl, bt1, .inl rfl, ta1, nd, hl, by unfold feedT; rw [if_neg (by rw [hf]; decide)]⟩
      cases hg : getZ kvs n with
      | some v =>
        refine iteF ?_
        exact stay (by unfold full; rw [hg]; rfl)
      | none =>
        refine iteT ⟨.ref t, rfl, t, L.C, dx1, _, _, rfl, ht1, L.cl, L.nC, g_counts _ _ _ _, d, _, rfl, hd1, .ref t, rfl, t, L.C, dx1, _, _, rfl, ht1, L.cl, L.nR, g_room _ _ _ _, rfl, _, rfl, ?_⟩
        rw [List.length_map]
        by_cases hfull : (kvs.length : Int) = r
        · have hf : full r n kvs = true := by
            unfold full
            rw [hg, decide_eq_true hfull]
            rfl
          rw [show decide (V.int (kvs.length : Int) = V.int r) = true from decide_eq_true (by rw [hfull])]
          refine iteT ?_
          have hne : kvs ≠ [] := by
            rintro rfl
            have : (0 : Int) = r := hfull
            omega
          refine ⟨.int c, rfl, .ref t, rfl, t, L.C, dx1, _, _, rfl, ht1, L.cl, L.nC, g_counts _ _ _ _, .inr (.inr (.inl ⟨rfl, .inl ⟨_, hd1⟩⟩)), d, _, rfl, rfl, hd1, fun p np => ?_⟩
          refine ⟨p, d, kvs, rfl, upd_same, (by rw [upd_ne (ne_of_none hd1 np)]; exact hd1), List.length_pos_iff.mpr hne, fun mn h1 h2 => ?_⟩
          have emn := mnC_uniq h1 h2
          subst emn
          refine ⟨_, _, rfl, ?_⟩
          generalize ha : (if mnC kvs < c then mnC kvs else c) = a
          have ta2 : TalAt L.C (upd H1 p (valuesO p d)) t d r (m + c) o kvs := ta1.same (same_upd np)
          obtain ⟨⟨dx2, ht2⟩, _⟩ := id ta2
          refine ⟨.ref t, rfl, t, dx2, _, rfl, ht2, g_no _ _ _ _ (by decide +kernel) (by decide +kernel) (by decide +kernel) (by decide +kernel), .int a, rfl, t, d, r, m + c, o, a, kvs, rfl, ta2, nd, (by omega), fun H3 d3 b3 nd3 ta3 => ?_⟩
          refine ⟨.int c, rfl, .int a, rfl, _, _, rfl, rfl, d3, o + a, c - a, takeZ a kvs, some (.int a), rfl, ?_, .inr ?_, ta3, takeZ_nd nd, Nat.le_trans takeZ_len hl, ?_⟩
          · exact (bt1.new np).trans b3
          · have nd4 : H1 d3 = none := Same.gone (same_upd np) nd3
            cases e : H d3 with
            | none => rfl
            | some u =>
              by_cases e1 : d3 = t
              · subst e1
                rw [ht1] at nd4
                cases nd4
              · by_cases e2 : d3 = d
                · subst e2
                  rw [hd1] at nd4
                  cases nd4
                · have := bt1 d3 u e1 e2 e
                  rw [nd4] at this
                  cases this
          · unfold feedT
            rw [if_pos hf]
            dsimp only
            rw [ha]
        · have hf : full r n kvs = false := by
            unfold full
            rw [hg, decide_eq_false hfull]
            rfl
          rw [show decide (V.int (kvs.length : Int) = V.int r) = false from decide_eq_false (fun z => hfull (by injection z))]
          exact iteF (stay hf)
    · rintro σ H2 ⟨d2, o2, c2, kvs2, y, rfl, bt2, hd2, ta2, nd2, hl2, hf⟩
      rw [hf] at q
      dsimp only at q
      obtain ⟨⟨dx2, ht2⟩, hdd⟩ := id ta2
      have td2 := ta2.ne
      refine ⟨.int c2, rfl, _, _, rfl, rfl, _, rfl, ite2 (fun hp => ?_) fun hp => ?_⟩
      · have hp' : 0 < c2 := of_decide_eq_true hp
        rw [if_pos hp'] at q
        refine ⟨.ref t, rfl, t, L.C, dx2, _, _, rfl, ht2, L.cl, L.nC, g_counts _ _ _ _, d2, rfl, .inl ⟨_, .inl hdd⟩, .str n, rfl, _, DGet.k (k := Sum.inr n) hdd, ?_⟩
        rw [getZ_val]
        refine ⟨.int c2, rfl, (getZ kvs2 n).getD 0, c2, ?_, rfl, ?_⟩
        · cases getZ kvs2 n <;> rfl
        · refine ⟨.ref t, rfl, t, L.C, dx2, _, _, rfl, ht2, L.cl, L.nC, g_counts _ _ _ _, .str n, rfl, d2, _, rfl, DPut.k (k := Sum.inr n) hdd (by rw [List.length_map, sizeLine_eq]; omega), ?_⟩
          rw [putZ_put]
          refine q _ d2 (fun b u n1 n2 e => ?_) hd2 ⟨⟨dx2, by rw [upd_ne td2]; exact ht2⟩, upd_same⟩
          by_cases hb : b = d2
          · subst hb
            rcases hd2 with rfl | hd2
            · exact absurd rfl n2
            · rw [e] at hd2
              cases hd2
          · rw [upd_ne hb]
            exact bt2 b u n1 n2 e
      · have hp' : ¬ 0 < c2 := fun z => hp (decide_eq_true z)
        rw [if_neg hp'] at q
        exact q H2 d2 bt2 hd2 ta2
end
end Kb

namespace Kb
open PySem PySem.Spec PyProof.Rows L2 SrtZ SrtO
theorem seqT_but {K : PySem.W.Frag} {C : Addr} {H H' : Hp} {t d a : Addr} {r m o : Int} {kvs : Ct} {xs : List V} (h : SqT K H a xs) (ta : TalAt C H t d r m o kvs) (b : But t d H H') : SqT K H' a xs := by
  obtain ⟨⟨dx, ht⟩, hd⟩ := ta
  rcases h with (h | ⟨o, h⟩) | h
  · exact .inl (.inl (b a _ (ne_of h ht (by intro z; cases z)) (ne_of h hd (by intro z; cases z)) h))
  · exact .inl (.inr ⟨o, b a _ (ne_of h ht (by intro z; cases z)) (ne_of h hd (by intro z; cases z)) h⟩)
  · exact .inr h
theorem prs_but {K : PySem.W.Frag} {C : Addr} {H H' : Hp} {t d : Addr} {r m o : Int} {kvs : Ct} (ta : TalAt C H t d r m o kvs) (b : But t d H H') : ∀ {ts : List Addr} {ks : Ct}, Paired (PrAt K H) ts ks → Paired (PrAt K H') ts ks
  | _, _, .nil => .nil
  | _, _, .cons h q => .cons (seqT_but h ta b) (prs_but ta b q)
section
variable {P : Program} {w : World} {K : PySem.W.Frag} {mg : Str → Option Value} {base : Heap}
/-! Tally.pour -/
def spTpour (K : PySem.W.Frag) (C : Addr) : Sp := fun vs H Q _ => ∃ (t d s k : Addr) (r r2 : Int) (x y : Tl), vs = [.ref t, .ref s] ∧ TalAt C H t d r x.m x.o x.c ∧ NdZ x.c ∧ x.c.length ≤ 200 ∧ SqT K H s [.int r2, .int y.m, .int y.o, .ref k] ∧ CtAt K H k y.c ∧ y.c.length ≤ 200 ∧ 0 ≤ r ∧
  ∀ H' d', But t d H H' → (d' = d ∨ H d' = none) → TalAt C H' t d' r (pourT r y x).m (pourT r y x).o (pourT r y x).c → Q .non H'
theorem ok_Tpour (T : Blt mg) (L : Tal K mg) : FnOk P w K mg base CX0 2 L.fP L.dP ["self", "sketch"] (spTpour K L.C) := by
  have G_take : FnOk P w K mg base CX0 1 L.fT L.dT ["self", "amount"] (spTtake L.C) := ok_Ttake T L
  refine L.FP.ok scTpour (fun vs H Q E h => ?_) (fun cdv A outer s H vs Q E hr h => ?_)
  · obtain ⟨t, d, s, k, r, r2, x, y, rfl, _⟩ := h
    rfl
  · obtain ⟨t, d, s, k, r, r2, ⟨m, o, kvs⟩, ⟨m2, o2, ks⟩, rfl, ta, nd, hl, hs, ⟨ts, hS, hp⟩, hl2, hr0, q⟩ := h
    dsimp only at ta nd hl hs hp hl2 q
    have hu := hu_of hr
    obtain ⟨rn, rfl⟩ := Int.eq_ofNat_of_zero_le hr0
    refine ⟨_, (pss_cons (ps_asg (pv 1) (pg_tup (by rfl) (pgs_cons (pg_name (i := 2) scTpour.nd rfl (Or.inl rfl)) (pgs_cons (pg_name (i := 3) scTpour.nd rfl (Or.inl rfl)) (pgs_cons (pg_name (i := 4) scTpour.nd rfl (Or.inl rfl)) (pgs_cons (pg_name (i := 5) scTpour.nd rfl (Or.inl rfl)) pgs_nil))))))
    (pss_cons (ps_fldaug (pv 0) (pv 3) in_add)
    (pss_cons (ps_fldaug (pv 0) (pv 4) in_add)
    (pss_cons (ps_for PassesOwn.never rfl (pi_tup (pv 5)) (pg_tup (by rfl) (pgs_cons (pg_name (i := 6) scTpour.nd rfl (Or.inl rfl)) (pgs_cons (pg_name (i := 7) scTpour.nd rfl (Or.inl rfl)) pgs_nil)))
      (pss_one (ps_dput hu (pe_fld (pv 0) rfl) (pv 6) (pe_op op_add (pe_dget2 hu (pe_fld (pv 0) rfl) (pv 6) pe_int ⟨rfl, rfl, rfl, rfl⟩) (pv 7)) rfl)))
    (pss_one (ps_if (pt_cmpR op_gt (pe_callB call_lenD (by rfl) T.n_len (by decide +kernel) (pa_cons (pe_fld (pv 0) rfl) pa_nil)) (pe_fld (pv 0) rfl) (nomark _))
      (pss_cons (ps_set (i := 8) scTpour.nd rfl (Or.inl rfl) (pe_callBK (cr_sortedVR (b := true) rfl) (by rfl) T.n_sorted (by decide +kernel) (pa_cons (pe_bm0 PySem.F.plainAttrs_dict PySem.F.slot_dict_values PySem.F.type_dict_values mt_valuesK (pe_fld (pv 0) rfl)) pa_nil) (pk_cons pe_bl pk_nil)))
      (pss_one (ps_expr (pe_meth (pv 0) L.cl L.mT G_take (hr.mono (by omega)) L.bT .nil pass0 (pa_cons (pe_ix ix_list (pv 8) (pe_fld (pv 0) rfl) (fun _ _ => rfl)) pa_nil)))))
      pss_nil)))))), ?_⟩
    obtain ⟨⟨dx, ht⟩, hd⟩ := id ta
    have td := ta.ne
    refine ⟨.ref s, rfl, s, _, rfl, hs, rfl, _, _, rfl, _, _, rfl, _, _, rfl, _, _, rfl, rfl, ?_⟩
    refine ⟨.ref t, rfl, t, L.C, dx, _, _, rfl, ht, L.cl, L.nM, g_many _ _ _ _, .int m2, rfl, _, _, rfl, rfl, dx, _, ht, (by show 4 < 1000; decide), ?_⟩
    rw [fl_many]
    refine ⟨.ref t, rfl, t, L.C, dx, _, _, rfl, upd_same, L.cl, L.nO, g_off _ _ _ _, .int o2, rfl, _, _, rfl, rfl, dx, _, upd_same, (by show 4 < 1000; decide), ?_⟩
    rw [fl_off, upd_upd]
    have ta1 : TalAt L.C (upd H t (.ins L.C dx (fl rn (m + m2) (o + o2) d))) t d rn (m + m2) (o + o2) kvs := ⟨⟨dx, upd_same⟩, by rw [upd_ne td.symm]; exact hd⟩
    have bt1 : But t d H (upd H t (.ins L.C dx (fl rn (m + m2) (o + o2) d))) := (But.refl t d H).upT
    generalize upd H t (.ins L.C dx (fl rn (m + m2) (o + o2) d)) = H1 at ta1 bt1
    refine ⟨.ref k, rfl, k, rfl, ⟨_, seqT_but hS ta bt1⟩, for_tup (xs := ts.map V.ref) (fun i σ H3 => ∃ y6 y7 : Option V, σ = [some (.ref t), some (.ref s), some (.int r2), some (.int m2), some (.int o2), some (.ref k), y6, y7, none] ∧ But t d H H3 ∧ TalAt L.C H3 t d rn (m + m2) (o + o2) (sumsZ (ks.take i) kvs))
      ⟨none, none, rfl, bt1, ta1⟩ (fun i σ H3 _ ⟨_, _, _, b3, _⟩ => seqT_but hS ta b3) ?_ ?_⟩
    · rintro i v σ H3 hi ⟨y6, y7, rfl, b3, ta3⟩
      obtain ⟨tp, htp, rfl⟩ := map_at hi
      obtain ⟨e, he, hat⟩ := paired_at hp htp
      obtain ⟨⟨dx3, ht3⟩, hd3⟩ := id ta3
      refine ⟨tp, _, rfl, seqT_but hat ta b3, rfl, _, _, rfl, _, _, rfl, rfl, ?_⟩
      refine ⟨.ref t, rfl, t, L.C, dx3, _, _, rfl, ht3, L.cl, L.nC, g_counts _ _ _ _, d, rfl, .inl ⟨_, .inl hd3⟩, .str e.1, rfl, _, DGet.k (k := Sum.inr e.1) hd3, ?_⟩
      rw [getZ_val]
      refine ⟨.int e.2, rfl, (getZ (sumsZ (ks.take i) kvs) e.1).getD 0, e.2, ?_, rfl, ?_⟩
      · cases getZ (sumsZ (ks.take i) kvs) e.1 <;> rfl
      · have hlen := sumsZ_len (more := ks.take i) (kvs := kvs)
        rw [List.length_take] at hlen
        refine ⟨.ref t, rfl, t, L.C, dx3, _, _, rfl, ht3, L.cl, L.nC, g_counts _ _ _ _, .str e.1, rfl, d, _, rfl, DPut.k (k := Sum.inr e.1) hd3 (by rw [List.length_map, sizeLine_eq]; omega), ?_⟩
        rw [putZ_put]
        refine ⟨some (.str e.1), some (.int e.2), rfl, b3.upD, ⟨dx3, by rw [upd_ne td]; exact ht3⟩, ?_⟩
        rw [upd_same, sumsZ_snoc he]
        rfl
    · rintro σ H3 ⟨y6, y7, rfl, b3, ta3⟩
      have e1 : ks.take (ts.map V.ref).length = ks := by rw [List.length_map, Paired.length hp, List.take_length]
      rw [e1] at ta3
      obtain ⟨⟨dx3, ht3⟩, hd3⟩ := id ta3
      have hlen := sumsZ_len (more := ks) (kvs := kvs)
      have hnd := sumsZ_nd (more := ks) nd
      unfold pourT at q
      dsimp only at q
      generalize sumsZ ks kvs = all at ta3 hd3 hlen hnd q
      refine ⟨.ref t, rfl, t, L.C, dx3, _, _, rfl, ht3, L.cl, L.nC, g_counts _ _ _ _, d, _, rfl, hd3, .ref t, rfl, t, L.C, dx3, _, _, rfl, ht3, L.cl, L.nR, g_room _ _ _ _, _, _, rfl, rfl, _, rfl, ?_⟩
      rw [List.length_map]
      refine ite2 (fun hgt => ?_) fun hgt => ?_
      · have hlt : (rn : Int) < (all.length : Int) := of_decide_eq_true hgt
        rw [if_pos hlt] at q
        refine ⟨.ref t, rfl, t, L.C, dx3, _, _, rfl, ht3, L.cl, L.nC, g_counts _ _ _ _, .inr (.inr (.inl ⟨rfl, .inl ⟨_, hd3⟩⟩)), d, _, rfl, rfl, hd3, fun p np => ?_⟩
        refine ⟨p, d, all, rfl, rfl, upd_same, (by rw [upd_ne (ne_of_none hd3 np)]; exact hd3), fun ns l pm hdesc nl => ?_⟩
        have eu := fall_uniq pm hdesc
        have ta4 : TalAt L.C (upd (upd H3 p (valuesO p d)) l (.lst (ns.map V.int))) t d rn (m + m2) (o + o2) all := (ta3.same (same_upd np)).same (same_upd nl)
        obtain ⟨⟨dx4, ht4⟩, _⟩ := id ta4
        have hln : ns.length = all.length := by rw [pm.length_eq, List.length_map]
        have hat : (ns.map V.int)[rn]? = some (.int (fallZ all rn)) := by
          have h1 : rn < ns.length := by omega
          rw [List.getElem?_map, List.getElem?_eq_getElem h1]
          show some (V.int ns[rn]) = _
          unfold fallZ
          rw [← eu]
          simp [List.getD, h1]
        refine ⟨.ref t, rfl, t, dx4, _, rfl, ht4, g_no _ _ _ _ (by decide +kernel) (by decide +kernel) (by decide +kernel) (by decide +kernel), .ref l, rfl, .ref t, rfl, t, L.C, dx4, _, _, rfl, ht4, L.cl, L.nR, g_room _ _ _ _, l, _, _, _, rfl, rfl, sql upd_same, atI_nat hat, t, d, rn, m + m2, o + o2, fallZ all rn, all, rfl, ta4, hnd, (by omega), fun H5 d5 b5 nd5 ta5 => ?_⟩
        refine q H5 d5 (((b3.new np).new nl).trans b5) (.inr ?_) ta5
        have nd6 : H3 d5 = none := Same.gone (same_upd np) (Same.gone (same_upd nl) nd5)
        cases e : H d5 with
        | none => rfl
        | some u =>
          by_cases e1 : d5 = t
          · subst e1
            rw [ht3] at nd6
            cases nd6
          · by_cases e2 : d5 = d
            · subst e2
              rw [hd3] at nd6
              cases nd6
            · have := b3 d5 u e1 e2 e
              rw [nd6] at this
              cases this
      · have hlt : ¬ (rn : Int) < (all.length : Int) := fun z => hgt (decide_eq_true z)
        rw [if_neg hlt] at q
        exact q H3 d b3 (.inl rfl) ta3
end
end Kb

namespace Kb
open PySem PySem.Spec PyProof.Rows L2 SrtZ SrtO
/-! what stays true of a tally -/
structure TlOk (r : Int) (x : Tl) : Prop where
  nd : NdZ x.c
  len : (x.c.length : Int) ≤ r
  pos : ∀ e ∈ x.c, 1 ≤ e.2
  nm : ∀ e ∈ x.c, Nm e.1
theorem getZ_pos {kvs : Ct} {n : Str} (pos : ∀ e ∈ kvs, 1 ≤ e.2) : 0 ≤ (getZ kvs n).getD 0 := by
  unfold getZ
  cases h : kvs.find? fun e => decide (e.1 = n) with
  | none => exact Int.le_refl _
  | some e =>
    have := pos e (List.mem_of_find?_eq_some h)
    show 0 ≤ e.2
    omega
theorem putZ_mem {kvs : Ct} {n : Str} {v : Int} {e : Str × Int} (h : e ∈ putZ kvs n v) : e ∈ kvs ∨ e = (n, v) := by
  unfold putZ at h
  split at h
  · obtain ⟨f, hf, rfl⟩ := List.mem_map.mp h
    by_cases hn : f.1 = n
    · rw [if_pos hn]
      exact .inr (by rw [hn])
    · rw [if_neg hn]
      exact .inl hf
  · rcases List.mem_append.mp h with h | h
    · exact .inl h
    · exact .inr (List.mem_singleton.mp h)
theorem addZ_pos {kvs : Ct} {n : Str} {c : Int} (pos : ∀ e ∈ kvs, 1 ≤ e.2) (hc : 1 ≤ c) : ∀ e ∈ addZ kvs n c, 1 ≤ e.2 := fun e he => by
  rcases putZ_mem he with h | h
  · exact pos e h
  · have := getZ_pos (n := n) pos
    rw [h]
    show 1 ≤ _ + c
    omega
theorem addZ_nm {kvs : Ct} {n : Str} {c : Int} (nm : ∀ e ∈ kvs, Nm e.1) (hn : Nm n) : ∀ e ∈ addZ kvs n c, Nm e.1 := fun e he => by
  rcases putZ_mem he with h | h
  · exact nm e h
  · rw [h]
    exact hn
theorem addZ_len_old {kvs : Ct} {n : Str} {c : Int} (h : (getZ kvs n).isSome = true) : (addZ kvs n c).length = kvs.length := by
  have := congrArg List.length (putZ_keys_old (v := (getZ kvs n).getD 0 + c) h)
  rwa [List.length_map, List.length_map] at this
theorem takeZ_mem {a : Int} {kvs : Ct} {e : Str × Int} (h : e ∈ takeZ a kvs) : ∃ f ∈ kvs, a < f.2 ∧ e = (f.1, f.2 - a) := by
  unfold takeZ at h
  obtain ⟨f, hf, rfl⟩ := List.mem_map.mp h
  obtain ⟨h1, h2⟩ := List.mem_filter.mp hf
  exact ⟨f, h1, of_decide_eq_true h2, rfl⟩
theorem takeZ_pos {a : Int} {kvs : Ct} : ∀ e ∈ takeZ a kvs, 1 ≤ e.2 := fun e he => by
  obtain ⟨f, _, h, rfl⟩ := takeZ_mem he
  show 1 ≤ f.2 - a
  omega
theorem takeZ_nm {a : Int} {kvs : Ct} (nm : ∀ e ∈ kvs, Nm e.1) : ∀ e ∈ takeZ a kvs, Nm e.1 := fun e he => by
  obtain ⟨f, hf, _, rfl⟩ := takeZ_mem he
  exact nm f hf
/-- the least one goes when it is taken off -/
theorem takeZ_less {kvs : Ct} (ne : kvs ≠ []) : (takeZ (mnC kvs) kvs).length < kvs.length := by
  obtain ⟨h1, _⟩ := mnC_spec ne
  obtain ⟨e, he, h⟩ := List.mem_map.mp h1
  unfold takeZ
  rw [List.length_map]
  have h2 : (kvs.filter fun e => decide (mnC kvs < e.2)).length ≤ kvs.length := List.length_filter_le _ _
  rcases Nat.lt_or_ge (kvs.filter fun e => decide (mnC kvs < e.2)).length kvs.length with h3 | h3
  · exact h3
  · have h4 : (kvs.filter fun e => decide (mnC kvs < e.2)) = kvs := List.filter_sublist.eq_of_length (by omega)
    rw [← h4] at he
    have := of_decide_eq_true (List.mem_filter.mp he).2
    omega
theorem feedT_ok {r c : Int} {n : Str} {x : Tl} (h : TlOk r x) (hr : 1 ≤ r) (hn : Nm n) (hc : 0 ≤ c) : TlOk r (feedT r n c x) := by
  obtain ⟨nd, len, pos, nm⟩ := h
  unfold feedT
  cases hf : full r n x.c with
  | true =>
    have hfull : (x.c.length : Int) = r := by
      unfold full at hf
      rw [Bool.and_eq_true] at hf
      exact of_decide_eq_true hf.2
    have ne : x.c ≠ [] := by
      intro e
      rw [e] at hfull
      have : (0 : Int) = r := hfull
      omega
    rw [if_pos rfl]
    dsimp only
    generalize ha : (if mnC x.c < c then mnC x.c else c) = a
    by_cases hp : 0 < c - a
    · have ea : a = mnC x.c := by
        by_cases hm : mnC x.c < c
        · rw [if_pos hm] at ha
          exact ha.symm
        · rw [if_neg hm] at ha
          omega
      have hl := takeZ_less ne
      have hl2 := addZ_len (kvs := takeZ a x.c) (n := n) (c := c - a)
      refine ⟨?_, ?_, ?_, ?_⟩ <;> dsimp only <;> rw [if_pos hp]
      · exact addZ_nd (takeZ_nd nd)
      · rw [ea] at hl2 ⊢
        omega
      · exact addZ_pos takeZ_pos (by omega)
      · exact addZ_nm (takeZ_nm nm) hn
    · refine ⟨?_, ?_, ?_, ?_⟩ <;> dsimp only <;> rw [if_neg hp]
      · exact takeZ_nd nd
      · have := takeZ_len (a := a) (kvs := x.c)
        omega
      · exact takeZ_pos
      · exact takeZ_nm nm
  | false =>
    rw [if_neg (by decide)]
    by_cases hp : 0 < c
    · refine ⟨?_, ?_, ?_, ?_⟩ <;> dsimp only <;> rw [if_pos hp]
      · exact addZ_nd nd
      · cases hg : getZ x.c n with
        | some v =>
          rw [addZ_len_old (by rw [hg]; rfl)]
          exact len
        | none =>
          have h1 := addZ_len (kvs := x.c) (n := n) (c := c)
          unfold full at hf
          rw [hg] at hf
          have h2 : ¬ (x.c.length : Int) = r := by
            intro e
            rw [decide_eq_true e] at hf
            cases hf
          omega
      · exact addZ_pos pos (by omega)
      · exact addZ_nm nm hn
    · refine ⟨?_, ?_, ?_, ?_⟩ <;> dsimp only <;> rw [if_neg hp]
      · exact nd
      · exact len
      · exact pos
      · exact nm
def feedsT (r : Int) (zs : List Str) (x : Tl) : Tl := zs.foldl (fun x n => feedT r n 1 x) x
theorem feedsT_snoc {r : Int} {zs : List Str} {x : Tl} {i : Nat} {n : Str} (h : zs[i]? = some n) : feedsT r (zs.take (i + 1)) x = feedT r n 1 (feedsT r (zs.take i) x) := by
  unfold feedsT
  rw [List.take_add_one, h, List.foldl_append]
  rfl
theorem feedsT_ok {r : Int} (hr : 1 ≤ r) : ∀ {zs : List Str} {x : Tl}, TlOk r x → (∀ z ∈ zs, Nm z) → TlOk r (feedsT r zs x)
  | [], _, h, _ => h
  | z :: zs, x, h, hn => feedsT_ok (zs := zs) hr (feedT_ok h hr (hn z List.mem_cons_self) (by decide)) fun y hy => hn y (List.mem_cons_of_mem _ hy)
def tl0 : Tl := ⟨0, 0, []⟩
theorem tl0_ok {r : Int} (hr : 1 ≤ r) : TlOk r tl0 := ⟨List.nodup_nil, (by show (0 : Int) ≤ r; omega), (fun _ h => nomatch h), (fun _ h => nomatch h)⟩
theorem sumsZ_pos : ∀ {more kvs : Ct}, (∀ e ∈ more, 1 ≤ e.2) → (∀ e ∈ kvs, 1 ≤ e.2) → ∀ e ∈ sumsZ more kvs, 1 ≤ e.2
  | [], _, _, h => h
  | f :: r, kvs, hm, h => sumsZ_pos (more := r) (fun e he => hm e (List.mem_cons_of_mem _ he)) (addZ_pos h (hm f List.mem_cons_self))
theorem sumsZ_nm : ∀ {more kvs : Ct}, (∀ e ∈ more, Nm e.1) → (∀ e ∈ kvs, Nm e.1) → ∀ e ∈ sumsZ more kvs, Nm e.1
  | [], _, _, h => h
  | f :: r, kvs, hm, h => sumsZ_nm (more := r) (fun e he => hm e (List.mem_cons_of_mem _ he)) (addZ_nm h (hm f List.mem_cons_self))
/-- what is above the count at place r is at most r names -/
theorem fall_len {kvs : Ct} {r : Nat} (h : r < kvs.length) : (takeZ (fallZ kvs r) kvs).length ≤ r := by
  unfold takeZ
  rw [List.length_map]
  have hp := List.mergeSort_perm (kvs.map (·.2)) (fun a b => decide (b ≤ a))
  have hs := List.pairwise_mergeSort (le := fun (a b : Int) => decide (b ≤ a)) (fun a b c h1 h2 => by simp at *; omega) (fun a b => by simp; omega) (kvs.map (·.2))
  have e1 : (kvs.filter fun e => decide (fallZ kvs r < e.2)).length = ((kvs.map (·.2)).filter fun c => decide (fallZ kvs r < c)).length := by
    rw [List.filter_map, List.length_map]
    rfl
  rw [e1, ← (hp.filter _).length_eq]
  unfold fallZ
  rw [Int.toNat_natCast]
  generalize (kvs.map (·.2)).mergeSort (fun a b => decide (b ≤ a)) = s at hp hs
  have hl : r < s.length := by rw [hp.length_eq, List.length_map]; exact h
  have eg : s.getD r 0 = s[r] := by simp [List.getD, hl]
  rw [eg]
  generalize hv : s[r] = v
  have h1 : ((s.take r).filter fun c => decide (v < c)).length ≤ r := by
    have := List.length_filter_le (fun c => decide (v < c)) (s.take r)
    rw [List.length_take] at this
    omega
  have h2 : ((s.drop r).filter fun c => decide (v < c)) = [] := by
    rw [List.filter_eq_nil_iff]
    intro c hc z
    have z := of_decide_eq_true z
    have hd : (s.drop r).Pairwise fun a b => decide (b ≤ a) = true := hs.sublist (List.drop_sublist _ _)
    rw [List.drop_eq_getElem_cons hl] at hc hd
    rcases List.mem_cons.mp hc with e | hc
    · omega
    · have := of_decide_eq_true ((List.pairwise_cons.mp hd).1 c hc)
      omega
  have e3 : (s.filter fun c => decide (v < c)) = ((s.take r).filter fun c => decide (v < c)) ++ ((s.drop r).filter fun c => decide (v < c)) := by
    rw [← List.filter_append, List.take_append_drop]
  rw [e3, h2, List.append_nil]
  exact h1
theorem pourT_ok {r : Int} {x y : Tl} (hx : TlOk r x) (hy : TlOk r y) (hr : 0 ≤ r) : TlOk r (pourT r y x) := by
  obtain ⟨rn, rfl⟩ := Int.eq_ofNat_of_zero_le hr
  unfold pourT
  dsimp only
  have nd := sumsZ_nd (more := y.c) hx.nd
  have pos := sumsZ_pos hy.pos hx.pos
  have nm := sumsZ_nm hy.nm hx.nm
  generalize sumsZ y.c x.c = all at nd pos nm
  by_cases h : (rn : Int) < (all.length : Int)
  · rw [if_pos h]
    refine ⟨takeZ_nd nd, ?_, takeZ_pos, takeZ_nm nm⟩
    have := fall_len (kvs := all) (r := rn) (by omega)
    dsimp only
    omega
  · rw [if_neg h]
    exact ⟨nd, (by dsimp only; omega), pos, nm⟩
/-! the order of names -/
def srtZ (kvs : Ct) : Ct := kvs.mergeSort fun a b => !ltZ b.1 a.1
theorem srtZ_perm (kvs : Ct) : (srtZ kvs).Perm kvs := List.mergeSort_perm _ _
theorem srtZ_asc {kvs : Ct} (nd : NdZ kvs) : Asc (srtZ kvs) := by
  have hs := List.pairwise_mergeSort (le := fun (a b : Str × Int) => !ltZ b.1 a.1) (fun a b c h1 h2 => ?_) (fun a b => ?_) kvs
  · have nd2 : ((srtZ kvs).map (·.1)).Nodup := ((srtZ_perm kvs).map (·.1)).nodup_iff.mpr nd
    rw [List.Nodup, List.pairwise_map] at nd2
    refine List.Pairwise.imp₂ (fun {a b} h1 h2 => ?_) hs nd2
    rcases bcase (ltZ a.1 b.1) with q | q
    · exact q
    · have h3 : ltZ b.1 a.1 = false := by simpa using h1
      exact absurd (ltZ_tri q h3) h2
  · have h1 : ltZ b.1 a.1 = false := by simpa using h1
    have h2 : ltZ c.1 b.1 = false := by simpa using h2
    show (!ltZ c.1 a.1) = true
    rcases bcase (ltZ c.1 a.1) with q | q
    · rcases bcase (ltZ a.1 b.1) with p | p
      · have := ltZ_trans q p
        rw [h2] at this
        cases this
      · have e := ltZ_tri p h1
        rw [e, h2] at q
        cases q
    · rw [q]
      rfl
  · show ((!ltZ b.1 a.1) || (!ltZ a.1 b.1)) = true
    rcases bcase (ltZ b.1 a.1) with q | q
    · rw [ltZ_asym q]
      simp
    · rw [q]
      rfl
theorem srtZ_of {ys kvs : Ct} (h : Asc ys) (p : ys.Perm kvs) (nd : NdZ kvs) : ys = srtZ kvs := asc_uniq h (srtZ_asc nd) (p.trans (srtZ_perm kvs).symm)
def skT (x : Tl) : Tl := ⟨x.m, x.o, srtZ x.c⟩
theorem skT_ok {r : Int} {x : Tl} (h : TlOk r x) : TlOk r (skT x) := by
  have p := srtZ_perm x.c
  refine ⟨(p.map (·.1)).nodup_iff.mpr h.nd, ?_, fun e he => h.pos e (p.mem_iff.mp he), fun e he => h.nm e (p.mem_iff.mp he)⟩
  show ((srtZ x.c).length : Int) ≤ r
  rw [p.length_eq]
  exact h.len
/-! a tree's pile, the uppermost first -/
def stepT (r : Int) (st : List Tl) : Stp → List Tl
  | .put zs => feedsT r zs tl0 :: st
  | .pour => match st with
    | x :: y :: st => pourT r (skT x) y :: st
    | st => st
def runT (r : Int) (l : List Stp) : List Tl := l.foldl (stepT r) []
theorem runT_snoc {r : Int} {l : List Stp} {i : Nat} {t : Stp} (h : l[i]? = some t) : runT r (l.take (i + 1)) = stepT r (runT r (l.take i)) t := by
  unfold runT
  rw [List.take_add_one, h, List.foldl_append]
  rfl
end Kb

namespace Kb
open PySem PySem.Spec PyProof.Rows L2 SrtZ SrtO
abbrev sP_sketch_of : Stmt := topS 32
abbrev NP_sketch_of : List Str := ["room", "tree", "pile", "step", "tally", "name", "above"]
theorem scP_sketch_of : FnScope ["room", "tree", "pile", "step", "tally", "name", "above"] ["room", "tree"] (defScope sP_sketch_of) := ⟨rfl, rfl, rfl, by decide +kernel, rfl, by decide +kernel, by decide +kernel⟩
abbrev DnSketchOf (K : PySem.W.Frag) (mg : Str → Option Value) := Dn K mg "sketch_of" sP_sketch_of ["room", "tree"]
/-- a tally on the pile: its instance, its dict, what it holds -/
structure Pe where
  t : Addr
  d : Addr
  x : Tl
structure PileAt (C : Addr) (r : Int) (H : Hp) (l : List Pe) : Prop where
  at_ : ∀ e ∈ l, TalAt C H e.t e.d r e.x.m e.x.o e.x.c
  ok : ∀ e ∈ l, TlOk r e.x
  nt : (l.map (·.t)).Nodup
  nd : (l.map (·.d)).Nodup
theorem PileAt.same {C : Addr} {r : Int} {H H' : Hp} {l : List Pe} (h : PileAt C r H l) (s : Same H H') : PileAt C r H' l := ⟨fun e he => (h.at_ e he).same s, h.ok, h.nt, h.nd⟩
theorem TalAt.keep {C : Addr} {H H' : Hp} {t d : Addr} {r m o : Int} {kvs : Ct} (h : TalAt C H t d r m o kvs) (k : ∀ b u, (b = t ∨ b = d) → H b = some u → H' b = some u) : TalAt C H' t d r m o kvs := by
  obtain ⟨⟨dx, e⟩, e2⟩ := h
  exact ⟨⟨dx, k _ _ (.inl rfl) e⟩, k _ _ (.inr rfl) e2⟩
theorem run_len {r : Int} {l : List Stp} (two : ∀ i, l[i]? = some .pour → 2 ≤ hgt (l.take i)) : ∀ i, i ≤ l.length → ((runT r (l.take i)).length : Int) = hgt (l.take i)
  | 0, _ => rfl
  | i + 1, h => by
    have ih := run_len (r := r) two i (by omega)
    obtain ⟨t, ht⟩ : ∃ t, l[i]? = some t := ⟨l[i], List.getElem?_eq_getElem (by omega)⟩
    rw [runT_snoc ht, hgt_snoc ht]
    cases t with
    | put zs =>
      show (((feedsT r zs tl0 :: runT r (l.take i)).length : Nat) : Int) = _ + 1
      rw [List.length_cons]
      omega
    | pour =>
      have h2 := two i ht
      match hr : runT r (l.take i) with
      | [] => rw [hr] at ih; simp at ih; omega
      | [x] => rw [hr] at ih; simp at ih; omega
      | x :: y :: st =>
        rw [hr] at ih
        show (((pourT r (skT x) y :: st).length : Nat) : Int) = _ - 1
        rw [List.length_cons] at ih ⊢
        rw [List.length_cons] at ih
        omega
theorem run_short {r : Int} (l : List Stp) : (runT r l).length ≤ l.length := by
  have gen : ∀ (l : List Stp) (st : List Tl), (l.foldl (stepT r) st).length ≤ st.length + l.length := by
    intro l
    induction l with
    | nil => exact fun st => Nat.le_refl _
    | cons t l ih =>
      intro st
      have h := ih (stepT r st t)
      have h2 : (stepT r st t).length ≤ st.length + 1 := by
        cases t with
        | put zs => exact Nat.le_refl _
        | pour =>
          match st with
          | [] => exact Nat.zero_le _
          | [_] => show 1 ≤ 1 + 1; omega
          | _ :: _ :: st => show st.length + 1 ≤ st.length + 1 + 1 + 1; omega
      show (l.foldl (stepT r) (stepT r st t)).length ≤ st.length + (l.length + 1)
      omega
  have := gen l []
  simpa [runT] using this
theorem refs_rev (l : List Pe) (e : Pe) : ((e :: l).reverse.map fun e => V.ref e.t) = (l.reverse.map fun e => V.ref e.t) ++ [V.ref e.t] := by
  rw [List.reverse_cons, List.map_append]
  rfl
section
variable {P : Program} {w : World} {K : PySem.W.Frag} {mg : Str → Option Value} {base : Heap}
def spSketchOf (K : PySem.W.Frag) : Sp := fun vs H Q _ => ∃ (a : Addr) (r : Int) (l : List Stp) (x : Tl), vs = [.int r, .ref a] ∧ 1 ≤ r ∧ r ≤ 64 ∧ TreeAt K H a l ∧ Tree l ∧ (∀ zs, .put zs ∈ l → ∀ z ∈ zs, Nm z) ∧ runT r l = [x] ∧
  (TlOk r x → ∀ H' s k (ts : List Addr), Same H H' → H s = none → H' s = some (.tup [.int r, .int x.m, .int x.o, .ref k]) → Ptp H' k (ts.map V.ref) → Paired (fun (t : Addr) (y : Str × Int) => H' t = some (.tup [.str y.1, .int y.2])) ts (srtZ x.c) → Q (.ref s) H')
theorem ok_sketch_of (T : Blt mg) (cM : Cst mg "MOST_ROOM" (.int 64)) (cL : Cst mg "LONGEST_NAME" (.int 8)) (cS' : Cst mg "MOST_STEPS" (.int 5000)) (cI : Cst mg "MOST_ITEMS" (.int 50000)) (dP_is_int : DnIsInt K mg) (dP_is_room : DnIsRoom K mg) (dP_is_name : DnIsName K mg) (dP_is_stream : DnIsStream K mg)
    (dP_is_put : DnIsPut K mg) (dP_is_pour : DnIsPour K mg) (dP_is_tree : DnIsTree K mg) (dP_bare : DnBare K mg) (L : Tal K mg) (d : DnSketchOf K mg) : FnOk P w K mg base CX0 5 d.f d.fd ["room", "tree"] (spSketchOf K) := by
  have GP_is_room : FnOk P w K mg base CX0 2 dP_is_room.f dP_is_room.fd ["thing"] spIsRoom := ok_is_room T cM dP_is_int dP_is_room
  have GP_is_tree : FnOk P w K mg base CX0 4 dP_is_tree.f dP_is_tree.fd ["thing"] (spIsTree K) := ok_is_tree T cL cS' cI dP_is_name dP_is_stream dP_is_put dP_is_pour dP_is_tree
  have GP_bare : FnOk P w K mg base CX0 3 dP_bare.f dP_bare.fd ["room"] spBare := ok_bare T cM dP_is_int dP_is_room dP_bare
  have GI : FnOk P w K mg base CX0 1 L.fI L.dI ["self", "sketch"] (spTinit K L.C) := ok_Tinit T L
  have Gsketch : FnOk P w K mg base CX0 1 L.fS L.dS ["self"] (spTsketch L.C) := ok_Tsketch T L
  have Gfeed : FnOk P w K mg base CX0 2 L.fF L.dF ["self", "name", "times"] (spTfeed L.C) := ok_Tfeed T L
  have Gpour : FnOk P w K mg base CX0 2 L.fP L.dP ["self", "sketch"] (spTpour K L.C) := ok_Tpour T L
  refine d.F.ok scP_sketch_of (fun vs H Q E h => ?_) (fun cdv A outer s H vs Q E hr h => ?_)
  · obtain ⟨a, r, l, x, rfl, _⟩ := h
    rfl
  · obtain ⟨a, r, l, xe, rfl, hr1, hr2, ht, tr, hN, hrun, q⟩ := h
    refine ⟨_, (pss_cons (ps_if (pt_not (pt_val (pe_call GP_is_room (hr.mono (by omega)) (by rfl) dP_is_room.g dP_is_room.F.kp dP_is_room.b .nil pass0 (pa_cons (pv 0) pa_nil))))
      (pss_one ps_never)
      pss_nil)
    (pss_cons (ps_if (pt_not (pt_val (pe_call GP_is_tree (hr.mono (by omega)) (by rfl) dP_is_tree.g dP_is_tree.F.kp dP_is_tree.b .nil pass0 (pa_cons (pv 1) pa_nil))))
      (pss_one ps_never)
      pss_nil)
    (pss_cons (ps_set (i := 2) scP_sketch_of.nd rfl (Or.inl rfl) (pe_lst pa_nil))
    (pss_cons (ps_for PassesOwn.never rfl (pi_tup (pv 1)) (pg_name (i := 3) scP_sketch_of.nd rfl (Or.inl rfl))
      (pss_one (ps_if (pt_cmpR op_eq (pe_ix ix_tup (pv 3) pe_int (fun _ _ => rfl)) pe_str (nomark _))
        (pss_cons (ps_set (i := 4) scP_sketch_of.nd rfl (Or.inl rfl) (pe_make L.mI GI (hr.mono (by omega)) (by rfl) L.g L.bI .nil pass0 (pa_cons (pe_call GP_bare (hr.mono (by omega)) (by rfl) dP_bare.g dP_bare.F.kp dP_bare.b .nil pass0 (pa_cons (pv 0) pa_nil)) pa_nil)))
        (pss_cons (ps_for PassesOwn.never rfl (pi_tup (pe_ix ix_tup (pv 3) pe_int (fun _ _ => rfl))) (pg_name (i := 5) scP_sketch_of.nd rfl (Or.inl rfl))
          (pss_one (ps_expr (pe_meth (pv 4) L.cl L.mF Gfeed (hr.mono (by omega)) L.bF .nil pass0 (pa_cons (pv 5) (pa_cons pe_int pa_nil))))))
        (pss_one (ps_expr (pe_bm PySem.F.plainAttrs_list PySem.F.slot_list_append PySem.F.type_list_append mt_append (pv 2) (pa_cons (pv 4) pa_nil))))))
        (pss_cons (ps_set (i := 6) scP_sketch_of.nd rfl (Or.inl rfl) (pe_bm0 PySem.F.plainAttrs_list PySem.F.slot_list_pop PySem.F.type_list_pop mt_pop (pv 2)))
        (pss_one (ps_expr (pe_meth (pe_ix ix_list (pv 2) (pe_un un_neg pe_int) (fun _ _ => rfl)) L.cl L.mP Gpour (hr.mono (by omega)) L.bP .nil pass0 (pa_cons (pe_meth0 (pv 6) L.cl L.mS Gsketch (hr.mono (by omega)) L.bS .nil pass0) pa_nil))))))))
    (pss_one (ps_ret (pe_meth0 (pe_ix ix_list (pv 2) pe_int (fun _ _ => rfl)) L.cl L.mS Gsketch (hr.mono (by omega)) L.bS .nil pass0))))))), ?_⟩
    refine ⟨.int r, rfl, r, rfl, true, ?_, iteF ?_⟩
    · rw [decide_eq_true hr1, decide_eq_true hr2]
      rfl
    refine ⟨.ref a, rfl, a, l, rfl, ht, tr, fun H1 s1 => ⟨true, rfl, iteF ⟨(by show 0 ≤ sizeLine; decide), fun p np => ?_⟩⟩⟩
    have np0 : H p = none := Same.gone s1 np
    have s2 : Same H (upd H1 p (.lst [])) := Same.new s1 np
    obtain ⟨vs, hS, hp⟩ := ht
    have hl : vs.length = l.length := Paired.length hp
    refine ⟨.ref a, rfl, a, rfl, ⟨_, seqT hS s2⟩, for_tup (xs := vs) (fun i σ H3 => ∃ (pl : List Pe) (y3 y4 y5 y6 : Option V), σ = [some (.int r), some (.ref a), some (.ref p), y3, y4, y5, y6] ∧ Same H H3 ∧
      H3 p = some (.lst (pl.reverse.map fun e => V.ref e.t)) ∧ PileAt L.C r H3 pl ∧ pl.map (·.x) = runT r (l.take i) ∧ (∀ e ∈ pl, H e.t = none ∧ H e.d = none))
      ⟨[], none, none, none, none, rfl, s2, upd_same, ⟨(fun _ h => nomatch h), (fun _ h => nomatch h), List.nodup_nil, List.nodup_nil⟩, rfl, (fun _ h => nomatch h)⟩ (fun i σ H3 _ ⟨_, _, _, _, _, _, s3, _⟩ => seqT hS s3) ?_ ?_⟩
    · rintro i v σ H3 hi ⟨pl, y3, y4, y5, y6, rfl, s3, hpl, pa, hrn, hfr⟩
      obtain ⟨st, hst, hat⟩ := paired_at hp hi
      have hat3 := hat.same s3
      have hrs := runT_snoc (r := r) hst
      have hi2 : i < l.length := (List.getElem?_eq_some_iff.mp hst).1
      cases st with
      | put zs =>
        have hNz := hN zs (List.mem_of_getElem? hst)
        obtain ⟨b, c, rfl, h1, h2, _, hzl⟩ := hat3
        refine ⟨.ref b, rfl, b, _, _, _, rfl, rfl, h1, atI_nat (j := 0) rfl, rfl, true, congrArg V.bl (decide_eq_true rfl), iteT ?_⟩
        refine ⟨.int r, rfl, r, rfl, hr1, hr2, fun H4 sk k s4 nsk hsk hk t dx nt ndx hne => ?_⟩
        have s5 : Same H4 (upd (upd H4 dx (.own t)) t (.ins L.C dx [])) := Same.new (same_upd ndx) (by rw [upd_ne hne.symm]; exact nt)
        refine ⟨t, dx, sk, k, r, 0, 0, [], [], rfl, upd_same, .inl (.inl (s5 _ _ hsk)), hk.same s5, .nil, List.nodup_nil, fun H5 d5 kp5 nd5 ta5 => ⟨rfl, ?_⟩⟩
        have nt3 : H3 t = none := Same.gone s4 nt
        have s35 : Same H3 H5 := fun q u e => kp5 q u (ne_of_none e nt3) (s5 q u (s4 q u e))
        have nd53 : H3 d5 = none := Same.gone s4 (Same.gone s5 nd5)
        refine ⟨.ref b, rfl, b, _, _, _, rfl, rfl, seqT h1 s35, atI_nat (j := 1) rfl, c, rfl, ⟨_, seqT h2 s35⟩, for_tup (xs := zs.map V.str) (fun j σ H6 => ∃ (d6 : Addr) (z5 : Option V), σ = [some (.int r), some (.ref a), some (.ref p), some (.ref b), some (.ref t), z5, y6] ∧ Same H3 H6 ∧ H3 d6 = none ∧ TlOk r (feedsT r (zs.take j) tl0) ∧
          TalAt L.C H6 t d6 r (feedsT r (zs.take j) tl0).m (feedsT r (zs.take j) tl0).o (feedsT r (zs.take j) tl0).c) ⟨d5, y5, rfl, s35, nd53, tl0_ok hr1, ta5⟩ (fun j σ H6 _ ⟨_, _, _, s6, _⟩ => seqT h2 s6) ?_ ?_⟩
        · rintro j v σ H6 hj ⟨d6, z5, rfl, s6, nd6, ok6, ta6⟩
          obtain ⟨z, hz, rfl⟩ := map_at hj
          have hfs := feedsT_snoc (r := r) (x := tl0) hz
          have hok7 := feedT_ok ok6 hr1 (hNz z (List.mem_of_getElem? hz)) (c := 1) (by decide)
          rw [← hfs] at hok7
          obtain ⟨⟨dx6, ht6⟩, _⟩ := id ta6
          have hle := ok6.len
          refine ⟨.ref t, rfl, t, dx6, _, rfl, ht6, g_no _ _ _ _ (by decide +kernel) (by decide +kernel) (by decide +kernel) (by decide +kernel), .str z, rfl, t, d6, r, 1, z, feedsT r (zs.take j) tl0, rfl, ta6, ok6.nd, (by omega), hr1, fun H7 d7 b7 hd7 ta7 => ?_⟩
          rw [← hfs] at ta7
          refine ⟨d7, some (.str z), rfl, fun q u e => b7 q u (ne_of_none e nt3) (ne_of_none e nd6) (s6 q u e), ?_, hok7, ta7⟩
          rcases hd7 with rfl | hd7
          · exact nd6
          · exact Same.gone s6 hd7
        · rintro σ H6 ⟨d6, z5, rfl, s6, nd6, ok6, ta6⟩
          rw [List.length_map, List.take_length] at ok6 ta6
          have hp6 := s6 _ _ hpl
          have hplen : pl.length ≤ 5000 := by
            have h1 : (pl.map (·.x)).length = (runT r (l.take i)).length := by rw [hrn]
            rw [List.length_map] at h1
            have h2 := run_short (r := r) (l.take i)
            rw [List.length_take] at h2
            have := tr.len
            omega
          refine ⟨.ref p, rfl, .inl ⟨rfl, _, sql hp6⟩, .ref t, rfl, p, _, _, rfl, rfl, hp6, (by rw [List.length_map, List.length_reverse, sizeLine_eq]; omega), ?_⟩
          have keepT : ∀ {t d : Addr} {r m o : Int} {kvs : Ct} {u : HO}, TalAt L.C H6 t d r m o kvs → TalAt L.C (upd H6 p u) t d r m o kvs := fun {t d r m o kvs u} h => by
            obtain ⟨⟨dx, e⟩, e2⟩ := h
            exact ⟨⟨dx, by rw [upd_ne (ne_of e hp6 (by intro z; cases z))]; exact e⟩, by rw [upd_ne (ne_of e2 hp6 (by intro z; cases z))]; exact e2⟩
          have hnt : ∀ e ∈ pl, e.t ≠ t := fun e he => by
            obtain ⟨⟨dxe, e1⟩, _⟩ := pa.at_ e he
            exact ne_of_none e1 nt3
          have hndd : ∀ e ∈ pl, e.d ≠ d6 := fun e he => ne_of_none (pa.at_ e he).dc nd6
          refine ⟨⟨t, d6, feedsT r zs tl0⟩ :: pl, some (.ref b), some (.ref t), z5, y6, rfl, fun q u e => ?_, ?_, ⟨fun e he => ?_, fun e he => ?_, ?_, ?_⟩, ?_, fun e he => ?_⟩
          · rw [upd_ne (ne_of_none e np0)]
            exact s6 q u (s3 q u e)
          · rw [upd_same, refs_rev]
          · rcases List.mem_cons.mp he with rfl | he
            · exact keepT ta6
            · exact keepT ((pa.at_ e he).same s6)
          · rcases List.mem_cons.mp he with rfl | he
            · exact ok6
            · exact pa.ok e he
          · rw [List.map_cons, List.nodup_cons]
            refine ⟨fun z => ?_, pa.nt⟩
            obtain ⟨e, he, h⟩ := List.mem_map.mp z
            exact hnt e he h
          · rw [List.map_cons, List.nodup_cons]
            refine ⟨fun z => ?_, pa.nd⟩
            obtain ⟨e, he, h⟩ := List.mem_map.mp z
            exact hndd e he h
          · rw [List.map_cons, hrn, hrs]
            rfl
          · rcases List.mem_cons.mp he with rfl | he
            · exact ⟨Same.gone s3 nt3, Same.gone s3 nd6⟩
            · exact hfr e he
      | pour =>
        obtain ⟨b, rfl, h1⟩ := hat3
        have h2 := tr.two i hst
        have hlen := run_len (r := r) tr.two i (Nat.le_of_lt hi2)
        rw [← hrn, List.length_map] at hlen
        match pl, hlen, pa, hpl, hrn, hfr with
        | [], hlen, _, _, _, _ => simp at hlen; omega
        | [_], hlen, _, _, _, _ => simp at hlen; omega
        | e1 :: e2 :: pl, hlen, pa, hpl, hrn, hfr =>
          refine ⟨.ref b, rfl, b, _, _, _, rfl, rfl, h1, atI_nat (j := 0) rfl, rfl, false, congrArg V.bl (decide_eq_false stream_ne), iteF ?_⟩
          rw [refs_rev] at hpl
          refine ⟨.ref p, rfl, .inl ⟨rfl, _, sql hpl⟩, p, _, .ref e1.t, rfl, rfl, hpl, by simp, ?_⟩
          rw [List.dropLast_concat, refs_rev]
          have keepT : ∀ {t d : Addr} {r m o : Int} {kvs : Ct} {u : HO}, TalAt L.C H3 t d r m o kvs → TalAt L.C (upd H3 p u) t d r m o kvs := fun {t d r m o kvs u} h => by
            obtain ⟨⟨dx, e⟩, e2⟩ := h
            exact ⟨⟨dx, by rw [upd_ne (ne_of e hpl (by intro z; cases z))]; exact e⟩, by rw [upd_ne (ne_of e2 hpl (by intro z; cases z))]; exact e2⟩
          have m1 : e1 ∈ e1 :: e2 :: pl := List.mem_cons_self
          have m2 : e2 ∈ e1 :: e2 :: pl := List.mem_cons_of_mem _ List.mem_cons_self
          have ta1 := keepT (u := .lst ((pl.reverse.map fun e => V.ref e.t) ++ [V.ref e2.t])) (pa.at_ e1 m1)
          have ta2 := keepT (u := .lst ((pl.reverse.map fun e => V.ref e.t) ++ [V.ref e2.t])) (pa.at_ e2 m2)
          have taR : ∀ e ∈ pl, TalAt L.C (upd H3 p (.lst ((pl.reverse.map fun e => V.ref e.t) ++ [V.ref e2.t]))) e.t e.d r e.x.m e.x.o e.x.c := fun e he => keepT (pa.at_ e (List.mem_cons_of_mem _ (List.mem_cons_of_mem _ he)))
          have hp4 : (upd H3 p (.lst ((pl.reverse.map fun e => V.ref e.t) ++ [V.ref e2.t]))) p = some (.lst ((pl.reverse.map fun e => V.ref e.t) ++ [V.ref e2.t])) := upd_same
          have s4 : Same H (upd H3 p (.lst ((pl.reverse.map fun e => V.ref e.t) ++ [V.ref e2.t]))) := Same.put s3 np0
          generalize upd H3 p (.lst ((pl.reverse.map fun e => V.ref e.t) ++ [V.ref e2.t])) = H4 at ta1 ta2 taR hp4 s4
          obtain ⟨⟨dx1, ht1⟩, _⟩ := id ta1
          obtain ⟨⟨dx2, ht2⟩, hdd2⟩ := id ta2
          have ok1 := pa.ok e1 m1
          have ok2 := pa.ok e2 m2
          have l1 := ok1.len
          have l2 := ok2.len
          refine ⟨.ref p, rfl, _, rfl, p, _, _, _, rfl, rfl, sql hp4, atI_last _ _, e2.t, dx2, _, rfl, ht2, g_no _ _ _ _ (by decide +kernel) (by decide +kernel) (by decide +kernel) (by decide +kernel), ?_⟩
          refine ⟨.ref e1.t, rfl, e1.t, dx1, _, rfl, ht1, g_no _ _ _ _ (by decide +kernel) (by decide +kernel) (by decide +kernel) (by decide +kernel), e1.t, e1.d, r, e1.x.m, e1.x.o, e1.x.c, rfl, ta1, ok1.nd, (by omega), fun H5 s5 k5 ys ts sm5 ns5 hs5 hk5 hpr pm asc => ?_⟩
          have eys := srtZ_of asc pm ok1.nd
          have hpr2 : Paired (PrAt K H5) ts ys := by
            have gen : ∀ {ts : List Addr} {ys : Ct}, Paired (fun (t : Addr) (y : Str × Int) => H5 t = some (.tup [.str y.1, .int y.2])) ts ys → Paired (PrAt K H5) ts ys := by
              intro ts ys h
              induction h with
              | nil => exact .nil
              | cons h _ ih => exact .cons (.inl (.inl h)) ih
            exact gen hpr
          refine ⟨e2.t, e2.d, s5, k5, r, r, e2.x, ⟨e1.x.m, e1.x.o, ys⟩, rfl, ta2.same sm5, ok2.nd, (by omega), .inl (.inl hs5), ⟨ts, hk5.seq, hpr2⟩, (by dsimp only; rw [pm.length_eq]; omega), (by omega), fun H6 d6 b6 hd6 ta6 => ?_⟩
          subst eys
          have skeq : (⟨e1.x.m, e1.x.o, srtZ e1.x.c⟩ : Tl) = skT e1.x := rfl
          rw [skeq] at ta6
          have okp := pourT_ok ok2 (skT_ok ok1) (by omega)
          have np2 : p ≠ e2.t := ne_of hp4 ht2 (by intro z; cases z)
          have npd2 : p ≠ e2.d := ne_of hp4 hdd2 (by intro z; cases z)
          have nt' := pa.nt
          have nd' := pa.nd
          rw [List.map_cons, List.map_cons, List.nodup_cons, List.nodup_cons] at nt' nd'
          have fr2 := hfr e2 m2
          have nd6 : H d6 = none := by
            rcases hd6 with rfl | hd6
            · exact fr2.2
            · exact Same.gone s4 (Same.gone sm5 hd6)
          refine ⟨⟨e2.t, d6, pourT r (skT e1.x) e2.x⟩ :: pl, some (.ref b), y4, y5, some (.ref e1.t), rfl, fun q u e => b6 q u (ne_of_none e fr2.1) (ne_of_none e fr2.2) (sm5 q u (s4 q u e)), ?_, ⟨fun e he => ?_, fun e he => ?_, ?_, ?_⟩, ?_, fun e he => ?_⟩
          · rw [refs_rev]
            exact b6 p _ np2 npd2 (sm5 _ _ hp4)
          · rcases List.mem_cons.mp he with rfl | he
            · exact ta6
            · have te := (taR e he).same sm5
              obtain ⟨⟨dxe, hte⟩, hde⟩ := id te
              have n1 : e.t ≠ e2.t := fun z => nt'.2.1 (List.mem_map.mpr ⟨e, he, z⟩)
              have n2 : e.t ≠ e2.d := ne_of hte (sm5 _ _ hdd2) (by intro z; cases z)
              have n3 : e.d ≠ e2.t := ne_of hde (sm5 _ _ ht2) (by intro z; cases z)
              have n4 : e.d ≠ e2.d := fun z => nd'.2.1 (List.mem_map.mpr ⟨e, he, z⟩)
              exact ⟨⟨dxe, b6 _ _ n1 n2 hte⟩, b6 _ _ n3 n4 hde⟩
          · rcases List.mem_cons.mp he with rfl | he
            · exact okp
            · exact pa.ok e (List.mem_cons_of_mem _ (List.mem_cons_of_mem _ he))
          · rw [List.map_cons, List.nodup_cons]
            exact nt'.2
          · rw [List.map_cons, List.nodup_cons]
            refine ⟨fun z => ?_, nd'.2.2⟩
            obtain ⟨e, he, h⟩ := List.mem_map.mp z
            rcases hd6 with rfl | hd6
            · exact nd'.2.1 (List.mem_map.mpr ⟨e, he, h⟩)
            · have := ((taR e he).same sm5).dc
              rw [show e.d = d6 from h, hd6] at this
              cases this
          · rw [List.map_cons, hrs, ← hrn]
            rfl
          · rcases List.mem_cons.mp he with rfl | he
            · exact ⟨fr2.1, nd6⟩
            · exact hfr e (List.mem_cons_of_mem _ (List.mem_cons_of_mem _ he))
    · rintro σ H3 ⟨pl, y3, y4, y5, y6, rfl, s3, hpl, pa, hrn, hfr⟩
      rw [hl, List.take_length, hrun] at hrn
      match pl, pa, hpl, hrn, hfr with
      | [e], pa, hpl, hrn, hfr =>
        have ex : e.x = xe := by simpa using hrn
        have m1 : e ∈ [e] := List.mem_cons_self
        have ta := pa.at_ e m1
        have ok := pa.ok e m1
        obtain ⟨⟨dx, hte⟩, _⟩ := id ta
        have l1 := ok.len
        refine ⟨.ref p, rfl, p, _, _, _, rfl, rfl, sql hpl, atI_nat (j := 0) rfl, e.t, dx, _, rfl, hte, g_no _ _ _ _ (by decide +kernel) (by decide +kernel) (by decide +kernel) (by decide +kernel), e.t, e.d, r, e.x.m, e.x.o, e.x.c, rfl, ta, ok.nd, (by omega), fun H5 s5 k5 ys ts sm5 ns5 hs5 hk5 hpr pm asc => ?_⟩
        have eys := srtZ_of asc pm ok.nd
        subst eys
        rw [ex] at ok hs5 hpr
        exact q ok H5 s5 k5 ts (fun b u z => sm5 b u (s3 b u z)) (Same.gone s3 ns5) hs5 hk5 hpr
end
end Kb

namespace Kb
open PySem PySem.Spec PyProof.Rows L2 SrtZ SrtO
abbrev spot : Stmt := topS 34
abbrev Npot : List Str := ["_law_script", "_law_cells", "_law_greats", "_law_smalls", "_law_item"]
theorem scpot : FnScope ["_law_script", "_law_cells", "_law_greats", "_law_smalls", "_law_item"] ["_law_script"] (defScope spot) := ⟨rfl, rfl, rfl, by decide +kernel, rfl, by decide +kernel, by decide +kernel⟩
abbrev sdraw : Stmt := topS 35
abbrev Ndraw : List Str := ["_law_pot_here", "_law_many", "_law_turn", "_law_number", "_law_seed"]
theorem scdraw : FnScope ["_law_pot_here", "_law_many", "_law_turn", "_law_number", "_law_seed"] ["_law_pot_here", "_law_many"] (defScope sdraw) := ⟨rfl, rfl, rfl, by decide +kernel, rfl, by decide +kernel, by decide +kernel⟩
abbrev sany : Stmt := topS 36
abbrev Nany : List Str := ["_law_pot_here", "_law_items"]
theorem scany : FnScope ["_law_pot_here", "_law_items"] ["_law_pot_here", "_law_items"] (defScope sany) := ⟨rfl, rfl, rfl, by decide +kernel, rfl, by decide +kernel, by decide +kernel⟩
abbrev Dnpot (K : PySem.W.Frag) (mg : Str → Option Value) := Dn K mg "_law_pot" spot ["_law_script"]
abbrev Dndraw (K : PySem.W.Frag) (mg : Str → Option Value) := Dn K mg "_law_draw" sdraw ["_law_pot_here", "_law_many"]
abbrev Dnany (K : PySem.W.Frag) (mg : Str → Option Value) := Dn K mg "_law_any" sany ["_law_pot_here", "_law_items"]
/-- the pot that is drawn from: its list, the great numbers, the small ones -/
structure Pot (a g s : Addr) (H : Hp) : Prop where
  ag : a ≠ g
  as : a ≠ s
  gs : g ≠ s
  ex : ∃ (gs ss : List Int) (turn z : Int), H a = some (.lst [.ref g, .ref s, .int turn, .int z]) ∧ H g = some (.lst (gs.map V.int)) ∧ H s = some (.lst (ss.map V.int)) ∧ (∀ x ∈ gs, 0 ≤ x) ∧ 1 ≤ ss.length ∧ ss.length ≤ 64 ∧ (∀ x ∈ ss, 0 ≤ x ∧ x < 1000000007) ∧ 0 ≤ turn ∧ 0 ≤ z ∧ z < 999983
/-- all but the pot stays -/
def Ex (a g s : Addr) (H H' : Hp) : Prop := ∀ b o, b ≠ a → b ≠ g → b ≠ s → H b = some o → H' b = some o
theorem Ex.refl (a g s : Addr) (H : Hp) : Ex a g s H H := fun _ _ _ _ _ h => h
theorem Ex.trans {a g s : Addr} {H H1 H2 : Hp} (x : Ex a g s H H1) (y : Ex a g s H1 H2) : Ex a g s H H2 := fun b o n1 n2 n3 h => y b o n1 n2 n3 (x b o n1 n2 n3 h)
theorem Ex.upA {a g s : Addr} {H H1 : Hp} {u : HO} (x : Ex a g s H H1) : Ex a g s H (upd H1 a u) := fun b o n1 n2 n3 h => by
  rw [upd_ne n1]
  exact x b o n1 n2 n3 h
theorem Ex.upG {a g s : Addr} {H H1 : Hp} {u : HO} (x : Ex a g s H H1) : Ex a g s H (upd H1 g u) := fun b o n1 n2 n3 h => by
  rw [upd_ne n2]
  exact x b o n1 n2 n3 h
theorem Ex.same {a g s : Addr} {H H1 H2 : Hp} (x : Ex a g s H H1) (y : Same H1 H2) : Ex a g s H H2 := fun b o n1 n2 n3 h => y b o (x b o n1 n2 n3 h)
theorem Pot.same {a g s : Addr} {H H' : Hp} (h : Pot a g s H) (y : Same H H') : Pot a g s H' := by
  obtain ⟨n1, n2, n3, gs, ss, turn, z, e1, e2, e3, r⟩ := h
  exact ⟨n1, n2, n3, gs, ss, turn, z, y _ _ e1, y _ _ e2, y _ _ e3, r⟩
theorem Pot.nea {a g s p : Addr} {H : Hp} (h : Pot a g s H) (hp : H p = none) : p ≠ a ∧ p ≠ g ∧ p ≠ s := by
  obtain ⟨_, _, _, gs, ss, turn, z, e1, e2, e3, _⟩ := h
  exact ⟨(ne_of_none e1 hp).symm, (ne_of_none e2 hp).symm, (ne_of_none e3 hp).symm⟩
/-- what is no list of the pot's stays -/
theorem Ex.at {a g s b : Addr} {H H' : Hp} {o : HO} (x : Ex a g s H H') (h : Pot a g s H) (hb : H b = some o) (hl : ∀ xs, o ≠ .lst xs) : H' b = some o := by
  obtain ⟨_, _, _, gs, ss, turn, z, e1, e2, e3, _⟩ := h
  exact x b o (ne_of hb e1 (hl _)) (ne_of hb e2 (hl _)) (ne_of hb e3 (hl _)) hb
theorem Ex.tup {K : PySem.W.Frag} {a g s b : Addr} {H H' : Hp} {xs : List V} (x : Ex a g s H H') (h : Pot a g s H) (hb : SqT K H b xs) : SqT K H' b xs := by
  rcases hb with (hb | ⟨o, hb⟩) | hb
  · exact .inl (.inl (x.at h hb (by intro _ z; cases z)))
  · exact .inl (.inr ⟨o, x.at h hb (by intro _ z; cases z)⟩)
  · exact .inr hb
theorem Ex.new {a g s p : Addr} {H H1 : Hp} {u : HO} (x : Ex a g s H H1) (h : H1 p = none) : Ex a g s H (upd H1 p u) := x.same (same_upd h)
theorem rd_ix {K : PySem.W.Frag} {σ : L2.St} {H : Hp} {Q : VK} {a : Addr} {xs : List V} {v : V} {n : Nat} (k : Nat) (h0 : σ[n]? = some (some (.ref a))) (hS : SqL K H a xs) (hv : xs[k]? = some v) (q : Q v H) :
    tOp (rIxL K) (tVar n) (tC (.int (k : Int))) σ H Q := ⟨.ref a, h0, a, xs, k, v, rfl, rfl, hS, atI_nat hv, q⟩
theorem rd_set {H : Hp} {σ : L2.St} {a : Addr} {xs : List V} {v : V} {n : Nat} (k : Nat) {R : L2.St → Hp → Prop} (h0 : σ[n]? = some (some (.ref a))) (h : H a = some (.lst xs)) (hk : k < xs.length) (q : R σ (upd H a (.lst (xs.set k v)))) :
    gSub (tVar n) (tC (.int (k : Int))) rSetL v σ H R := ⟨.ref a, h0, a, xs, k, k, rfl, rfl, h, by unfold ixN; rw [if_pos (by omega), if_pos (by omega)]; simp, q⟩
theorem cut63 {xs : List V} (h : xs.length ≤ 63) : cutV xs none (some 63) = xs := by
  unfold cutV
  rw [show HT.sIx xs.length xs.length (some 63) = min 63 xs.length from HT.sIx_nat xs.length xs.length 63, HT.sIx_none, List.drop_zero, Nat.sub_zero]
  exact List.take_of_length_le (by omega)
section
variable {P : Program} {w : World} {K : PySem.W.Frag} {mg : Str → Option Value} {base : Heap}
/-! _law_draw -/
def spDraw : Sp := fun vs H Q _ => ∃ (a g s : Addr) (n : Int), vs = [.ref a, .int n] ∧ Pot a g s H ∧ 0 < n ∧ n < 1073741824 ∧ ∀ H' (r : Int), Ex a g s H H' → Pot a g s H' → 0 ≤ r → r < n → Q (.int r) H'
theorem ok_draw (T : Blt mg) (d : Dndraw K mg) : FnOk P w K mg base CX0 1 d.f d.fd ["_law_pot_here", "_law_many"] spDraw := by
  refine d.F.ok scdraw (fun vs H Q E h => ?_) (fun cdv A outer s H vs Q E hr h => ?_)
  · obtain ⟨a, g, s, n, rfl, _⟩ := h
    rfl
  · obtain ⟨a, g, s, n, rfl, ⟨nag, nas, ngs, gs, ss, turn, z, ea, eg, es, pg, l1, l64, ps, ht0, hz0, hz1⟩, hn0, hn1, q⟩ := h
    refine ⟨_, (pss_cons (ps_set (i := 2) scdraw.nd rfl (Or.inl rfl) (pe_ix ix_list (pv 0) pe_int (fun _ _ => rfl)))
    (pss_cons (ps_asg (pe_op op_add (pv 2) pe_int) (pg_sub (pv 0) pe_int set_list))
    (pss_cons (ps_if (pt_cmpR op_gt (pe_callB call_len_seq (by rfl) T.n_len (by decide +kernel) (pa_cons (pe_ix ix_list (pv 0) pe_int (fun _ _ => rfl)) pa_nil)) pe_int (nomark _))
      (pss_cons (ps_set (i := 3) scdraw.nd rfl (Or.inl rfl) (pe_ix ix_list (pe_ix ix_list (pv 0) pe_int (fun _ _ => rfl)) pe_int (fun _ _ => rfl)))
      (pss_cons (ps_asg (pe_op op_fdiv (pv 3) (pv 1)) (pg_sub (pe_ix ix_list (pv 0) pe_int (fun _ _ => rfl)) pe_int set_list))
      (C8.pss_cut (ps_if (pt_cmpR op_lt (pv 3) (pv 1) (nomark _))
        (pss_one (ps_expr (pe_bm PySem.F.plainAttrs_list PySem.F.slot_list_pop PySem.F.type_list_pop mt_popAt (pe_ix ix_list (pv 0) pe_int (fun _ _ => rfl)) (pa_cons pe_int pa_nil))))
        pss_nil)
      (pss_one (ps_ret (pe_op op_modB (pe_callTy call_int1 (by rfl) T.n_int (by decide +kernel) (pa_cons (pv 3) pa_nil)) (pv 1)))))))
      pss_nil)
    (pss_cons (ps_set (i := 4) scdraw.nd rfl (Or.inl rfl) (pe_op op_add (pe_op op_add (pe_op op_mul (pe_ix ix_list (pe_ix ix_list (pv 0) pe_int (fun _ _ => rfl)) (pe_op op_modB (pe_callTy call_int1 (by rfl) T.n_int (by decide +kernel) (pa_cons (pv 2) pa_nil)) (pe_callB call_len_seq (by rfl) T.n_len (by decide +kernel) (pa_cons (pe_ix ix_list (pv 0) pe_int (fun _ _ => rfl)) pa_nil))) (fun _ _ => rfl)) pe_int) (pe_op op_mul pe_int (pv 2))) (pe_op op_mul (pe_ix ix_list (pv 0) pe_int (fun _ _ => rfl)) pe_int)))
    (pss_cons (ps_set (i := 3) scdraw.nd rfl (Or.inl rfl) (pe_op op_modB (pe_callTy call_int1 (by rfl) T.n_int (by decide +kernel) (pa_cons (pe_op op_add (pe_op op_mul (pv 4) pe_int) pe_int) pa_nil)) pe_int))
    (pss_cons (ps_set (i := 3) scdraw.nd rfl (Or.inl rfl) (pe_op op_modB (pe_callTy call_int1 (by rfl) T.n_int (by decide +kernel) (pa_cons (pe_op op_mul (pv 3) (pe_op op_add (pe_op op_fdiv (pv 3) pe_int) pe_int)) pa_nil)) pe_int))
    (pss_cons (ps_set (i := 3) scdraw.nd rfl (Or.inl rfl) (pe_op op_modB (pe_callTy call_int1 (by rfl) T.n_int (by decide +kernel) (pa_cons (pe_op op_add (pe_op op_mul (pv 3) (pe_op op_add (pe_op op_fdiv (pv 3) pe_int) pe_int)) (pv 2)) pa_nil)) pe_int))
    (pss_one (ps_ret (pe_op op_modB (pe_callTy call_int1 (by rfl) T.n_int (by decide +kernel) (pa_cons (pe_op op_fdiv (pv 3) pe_int) pa_nil)) (pv 1))))))))))), ?_⟩
    refine rd_ix 2 rfl (sql ea) rfl ⟨.int turn, rfl, _, _, rfl, rfl, rd_set 2 rfl ea (by decide : 2 < 4) ?_⟩
    have ea1 : (upd H a (.lst ([V.ref g, V.ref s, V.int turn, V.int z].set 2 (V.int (turn + 1))))) a = some (.lst [.ref g, .ref s, .int (turn + 1), .int z]) := upd_same
    have eg1 : (upd H a (.lst ([V.ref g, V.ref s, V.int turn, V.int z].set 2 (V.int (turn + 1))))) g = some (.lst (gs.map V.int)) := by rw [upd_ne nag.symm]; exact eg
    have es1 : (upd H a (.lst ([V.ref g, V.ref s, V.int turn, V.int z].set 2 (V.int (turn + 1))))) s = some (.lst (ss.map V.int)) := by rw [upd_ne nas.symm]; exact es
    have ex1 : Ex a g s H (upd H a (.lst ([V.ref g, V.ref s, V.int turn, V.int z].set 2 (V.int (turn + 1))))) := (Ex.refl a g s H).upA
    generalize upd H a (.lst ([V.ref g, V.ref s, V.int turn, V.int z].set 2 (V.int (turn + 1)))) = H1 at ea1 eg1 es1 ex1
    refine rd_ix 0 rfl (sql ea1) rfl ⟨g, _, rfl, .inl (sql eg1), _, _, rfl, rfl, _, rfl, ite2 (fun hp => ?_) fun _ => ?_⟩
    · -- a digit of a great one
      have hl : 0 < gs.length := by
        have := of_decide_eq_true hp
        rw [List.length_map] at this
        omega
      obtain ⟨x, gr, rfl⟩ : ∃ x gr, gs = x :: gr := by
        cases gs with
        | nil => simp at hl
        | cons x gr => exact ⟨x, gr, rfl⟩
      have hx0 := pg x List.mem_cons_self
      refine rd_ix 0 rfl (sql ea1) rfl ⟨g, _, _, _, rfl, rfl, sql eg1, atI_nat (j := 0) rfl, ?_⟩
      refine ⟨.int x, rfl, .int n, rfl, _, _, rfl, rfl, ⟨hn0, hn1⟩, ?_⟩
      refine rd_ix 0 rfl (sql ea1) rfl ⟨g, _, _, 0, rfl, rfl, eg1, (by unfold ixN; rw [if_pos (by decide), if_pos (by rw [List.length_map, List.length_cons]; omega)]; rfl), ?_⟩
      have eg2 : (upd H1 g (.lst (((x :: gr).map V.int).set 0 (V.int (x / n))))) g = some (.lst ((x / n :: gr).map V.int)) := upd_same
      have ea2 : (upd H1 g (.lst (((x :: gr).map V.int).set 0 (V.int (x / n))))) a = some (.lst [.ref g, .ref s, .int (turn + 1), .int z]) := by rw [upd_ne nag]; exact ea1
      have es2 : (upd H1 g (.lst (((x :: gr).map V.int).set 0 (V.int (x / n))))) s = some (.lst (ss.map V.int)) := by rw [upd_ne ngs.symm]; exact es1
      have ex2 : Ex a g s H (upd H1 g (.lst (((x :: gr).map V.int).set 0 (V.int (x / n))))) := ex1.upG
      have hq0 : 0 ≤ x / n := Int.ediv_nonneg hx0 (by omega)
      have pg2 : ∀ y ∈ x / n :: gr, 0 ≤ y := fun y hy => by
        rcases List.mem_cons.mp hy with rfl | hy
        · exact hq0
        · exact pg y (List.mem_cons_of_mem _ hy)
      generalize upd H1 g (.lst (((x :: gr).map V.int).set 0 (V.int (x / n)))) = H2 at eg2 ea2 es2 ex2
      refine ⟨fun σ H3 => σ = [some (.ref a), some (.int n), some (.int turn), some (.int x), none] ∧ Ex a g s H H3 ∧ Pot a g s H3, ?_, ?_⟩
      · refine ⟨.int x, rfl, .int n, rfl, _, _, rfl, rfl, _, rfl, ite2 (fun _ => ?_) fun _ => ?_⟩
        · refine rd_ix 0 rfl (sql ea2) rfl ⟨.inl ⟨rfl, _, sql eg2⟩, g, _, 0, 0, .int (x / n), rfl, rfl, eg2, by decide, by decide, (by rw [List.length_map, List.length_cons]; unfold seqIndex?; simp), rfl, ?_⟩
          refine ⟨rfl, ex2.upG, nag, nas, ngs, gr, ss, turn + 1, z, by rw [upd_ne nag]; exact ea2, by rw [upd_same]; rfl, by rw [upd_ne ngs.symm]; exact es2, fun y hy => pg2 y (List.mem_cons_of_mem _ hy), l1, l64, ps, by omega, hz0, hz1⟩
        · exact ⟨rfl, ex2, nag, nas, ngs, x / n :: gr, ss, turn + 1, z, ea2, eg2, es2, pg2, l1, l64, ps, by omega, hz0, hz1⟩
      · rintro σ H3 ⟨rfl, ex3, pot3⟩
        exact ⟨.int x, rfl, .inl ⟨_, rfl, .int n, rfl, _, _, rfl, rfl, hn0, fun r r0 r1 _ => q H3 r ex3 pot3 r0 r1⟩⟩
    · have pot1 : Pot a g s H1 := ⟨nag, nas, ngs, gs, ss, turn + 1, z, ea1, eg1, es1, pg, l1, l64, ps, by omega, hz0, hz1⟩
      refine rd_ix 1 rfl (sql ea1) rfl ⟨.int turn, rfl, .inl ⟨_, rfl, ?_⟩⟩
      refine rd_ix 1 rfl (sql ea1) rfl ⟨s, _, rfl, .inl (sql es1), _, _, rfl, rfl, (by rw [List.length_map]; omega), fun m m0 m1 _ => ?_⟩
      obtain ⟨mn, rfl⟩ := Int.eq_ofNat_of_zero_le m0
      rw [List.length_map] at m1
      have hm : mn < ss.length := by omega
      have hx : (ss.map V.int)[mn]? = some (.int ss[mn]) := by rw [List.getElem?_map, List.getElem?_eq_getElem hm]; rfl
      obtain ⟨hs0, hs1⟩ := ps _ (List.getElem_mem hm)
      refine ⟨s, _, _, _, rfl, rfl, sql es1, atI_nat hx, _, _, rfl, rfl, cmulR (by decide) (by decide), .int turn, rfl, _, _, rfl, rfl, cmulL (by decide) (by decide), _, _, rfl, rfl, ?_⟩
      refine rd_ix 3 rfl (sql ea1) rfl ⟨_, _, rfl, rfl, cmulR (by decide) (by decide), _, _, rfl, rfl, ?_⟩
      refine ⟨_, rfl, _, _, rfl, rfl, cmulR (by decide) (by decide), _, _, rfl, rfl, .inl ⟨_, rfl, _, _, rfl, rfl, (by show (0 : Int) < 2147483647; decide), fun x1 a0 a1 _ => ?_⟩⟩
      refine ⟨.int x1, rfl, .int x1, rfl, _, _, rfl, rfl, ⟨by decide, by decide⟩, _, _, rfl, rfl, _, _, rfl, rfl, cmulL a0 (by omega), .inl ⟨_, rfl, _, _, rfl, rfl, (by show (0 : Int) < 2147483629; decide), fun x2 b0 b1 _ => ?_⟩⟩
      refine ⟨.int x2, rfl, .int x2, rfl, _, _, rfl, rfl, ⟨by decide, by decide⟩, _, _, rfl, rfl, _, _, rfl, rfl, cmulL b0 (by omega), .int turn, rfl, _, _, rfl, rfl, .inl ⟨_, rfl, _, _, rfl, rfl, (by show (0 : Int) < 2147483399; decide), fun x3 c0 c1 _ => ?_⟩⟩
      exact ⟨.int x3, rfl, _, _, rfl, rfl, ⟨by decide, by decide⟩, .inl ⟨_, rfl, .int n, rfl, _, _, rfl, rfl, hn0, fun r r0 r1 _ => q H1 r ex1 pot1 r0 r1⟩⟩
/-! _law_any -/
def spAny (K : PySem.W.Frag) : Sp := fun vs H Q _ => ∃ (a g s b : Addr) (ys : List V), vs = [.ref a, .ref b] ∧ Pot a g s H ∧ b ≠ a ∧ b ≠ g ∧ b ≠ s ∧ H b = some (.lst ys) ∧ 0 < ys.length ∧ ys.length ≤ 1000 ∧ ∀ H' y, Ex a g s H H' → Pot a g s H' → y ∈ ys → Q y H'
theorem ok_any (T : Blt mg) (ddraw : Dndraw K mg) (d : Dnany K mg) : FnOk P w K mg base CX0 2 d.f d.fd ["_law_pot_here", "_law_items"] (spAny K) := by
  have Gdraw : FnOk P w K mg base CX0 1 ddraw.f ddraw.fd ["_law_pot_here", "_law_many"] spDraw := ok_draw T ddraw
  refine d.F.ok scany (fun vs H Q E h => ?_) (fun cdv A outer s H vs Q E hr h => ?_)
  · obtain ⟨a, g, s, b, ys, rfl, _⟩ := h
    rfl
  · obtain ⟨a, g, s, b, ys, rfl, hp, n1, n2, n3, hb, hl, hl2, q⟩ := h
    refine ⟨_, (pss_one (ps_ret (pe_ix ix_list (pv 1) (pe_call Gdraw (hr.mono (by omega)) (by rfl) ddraw.g ddraw.F.kp ddraw.b .nil pass0 (pa_cons (pv 0) (pa_cons (pe_callB call_len_seq (by rfl) T.n_len (by decide +kernel) (pa_cons (pv 1) pa_nil)) pa_nil))) (fun _ _ => rfl)))), ?_⟩
    refine ⟨.ref b, rfl, .ref a, rfl, .ref b, rfl, b, _, rfl, .inl (sql hb), a, g, s, _, rfl, hp, (by omega), (by omega), fun H1 r x1 p1 r0 r1 => ?_⟩
    obtain ⟨rn, rfl⟩ := Int.eq_ofNat_of_zero_le r0
    have hr1 : rn < ys.length := by omega
    exact ⟨b, ys, _, ys[rn], rfl, rfl, sql (x1 b _ n1 n2 n3 hb), atI_nat (List.getElem?_eq_getElem hr1), q H1 _ x1 p1 (List.getElem_mem hr1)⟩
end
end Kb

namespace Kb
open PySem PySem.Spec PyProof.Rows L2 SrtZ SrtO
section
variable {P : Program} {w : World} {K : PySem.W.Frag} {mg : Str → Option Value} {base : Heap}
/-! _law_pot -/
def spPot (K : PySem.W.Frag) : Sp := fun vs H Q _ => ∃ (a : Addr) (ns : List Int), vs = [.ref a] ∧ SqL K H a (ns.map V.int) ∧ ns.length ≤ 63 ∧ ∀ H' p g s, Same H H' → Pot p g s H' → Q (.ref p) H'
theorem absI (x : Int) : 0 ≤ (if x < 0 then -x else x) := by split <;> omega
theorem sqlSame {K : PySem.W.Frag} {H H' : Hp} {a : Addr} {xs : List V} (h : SqL K H a xs) (s : Same H H') : SqL K H' a xs := s.seq h
/-- a comprehension of ints with a test -/
theorem fm_snoc (f : Int → Option Int) {ns : List Int} {i : Nat} {x : Int} (h : ns[i]? = some x) : (ns.take (i + 1)).filterMap f = (ns.take i).filterMap f ++ (match f x with | some y => [y] | none => []) := by
  rw [List.take_add_one, h, List.filterMap_append]
  congr 1
  show List.filterMap f [x] = _
  rw [List.filterMap_cons, List.filterMap_nil]
  cases f x <;> rfl
theorem fm_len (f : Int → Option Int) (ns : List Int) : (ns.filterMap f).length ≤ ns.length := List.length_filterMap_le _ _
theorem ok_pot (T : Blt mg) (d : Dnpot K mg) : FnOk P w K mg base CX0 1 d.f d.fd ["_law_script"] (spPot K) := by
  refine d.F.ok scpot (fun vs H Q E h => ?_) (fun cdv A outer s H vs Q E hr h => ?_)
  · obtain ⟨a, ns, rfl, _⟩ := h
    rfl
  · obtain ⟨a, ns, rfl, hS, hlen, q⟩ := h
    refine ⟨_, (pss_cons (ps_setLc (i := 1) (own := [("_law_item", 4)]) (g := gName 4) (tt := tYes) rfl scpot.nd rfl rfl (sw_true rfl rfl rfl (by decide +kernel)) (pi_list (pe_slice sl_list (pv 0) po_none (po_some pe_int))) (blkOk_by (N := Npot) (sc := defScope spot) (by decide +kernel)) (fun _ _ _ _ _ => pg_name (i := 4) scpot.nd rfl (Or.inl rfl)) (fun _ _ _ _ _ => pts_nil) (fun _ _ _ _ _ => (pe_callTy call_int1 (by rfl) T.n_int (by decide +kernel) (pa_cons (pv 4) pa_nil))))
    (pss_cons (ps_setLc (i := 2) (own := [("_law_item", 4)]) (g := gName 4) rfl scpot.nd rfl rfl (sw_true rfl rfl rfl (by decide +kernel)) (pi_list (pv 1)) (blkOk_by (N := Npot) (sc := defScope spot) (by decide +kernel)) (fun _ _ _ _ _ => pg_name (i := 4) scpot.nd rfl (Or.inl rfl)) (fun _ _ _ _ _ => pts_one (pt_cmpR op_ge (pe_callB call_abs (by rfl) T.n_abs (by decide +kernel) (pa_cons (pv 4) pa_nil)) (pe_op op_pow pe_int pe_int) (nomark _))) (fun _ _ _ _ _ => (pe_callB call_abs (by rfl) T.n_abs (by decide +kernel) (pa_cons (pv 4) pa_nil))))
    (pss_cons (ps_set (i := 3) scpot.nd rfl (Or.inl rfl) (pe_op op_cat (pe_lc (own := [("_law_item", 4)]) (g := gName 4) rfl scpot.nd (pi_list (pv 1)) (blkOk_by (N := Npot) (sc := defScope spot) (by decide +kernel)) (fun _ _ _ _ _ => pg_name (i := 4) scpot.nd rfl (Or.inl rfl)) (fun _ _ _ _ _ => pts_one (pt_cmpR op_lt (pe_callB call_abs (by rfl) T.n_abs (by decide +kernel) (pa_cons (pv 4) pa_nil)) (pe_op op_pow pe_int pe_int) (nomark _))) (fun _ _ _ _ _ => (pe_op op_modB (pe_callTy call_int1 (by rfl) T.n_int (by decide +kernel) (pa_cons (pv 4) pa_nil)) pe_int))) (pe_lst (pa_cons (pe_op op_add (pe_callB call_len_seq (by rfl) T.n_len (by decide +kernel) (pa_cons (pv 1) pa_nil)) pe_int) pa_nil))))
    (pss_one (ps_ret (pe_lst (pa_cons (pv 2) (pa_cons (pv 3) (pa_cons pe_int (pa_cons (pe_op op_modB (pe_callTy call_int1 (by rfl) T.n_int (by decide +kernel) (pa_cons (pe_callB (cr_sum rfl) (by rfl) T.n_sum (by decide +kernel) (pa_cons (pv 3) pa_nil)) pa_nil)) pe_int) pa_nil)))))))))), ?_⟩
    refine ⟨.ref a, rfl, 63, rfl, a, _, rfl, hS, fun c nc => ?_⟩
    rw [cut63 (by rw [List.length_map]; exact hlen)]
    -- cells
    refine ⟨c, rfl, ⟨_, sql upd_same⟩, fun D nD => lc_list (xs := ns.map V.int) (fun i H3 => Same H H3 ∧ H3 c = some (.lst (ns.map V.int)) ∧ H3 D = some (.lst ((ns.take i).map V.int)))
      ⟨Same.new (same_upd nc) nD, by rw [upd_ne (ne_of_none upd_same nD)]; exact upd_same, upd_same⟩ (fun i H3 _ h3 => sql h3.2.1) (fun i x H3 hx h3 => ?_) (fun H3 h3 => ?_)⟩
    · obtain ⟨x, hx', rfl⟩ := map_at hx
      have cD : c ≠ D := ne_of_none upd_same nD
      have nD0 : H D = none := Same.gone (same_upd nc) nD
      refine ⟨rfl, .int x, rfl, .inl ⟨_, rfl, _, h3.2.2, ?_, Same.put h3.1 nD0, by rw [upd_ne cD]; exact h3.2.1, ?_⟩⟩
      · rw [List.length_map, List.length_take, sizeLine_eq]
        omega
      · rw [upd_same, List.take_add_one, hx', List.map_append]
        rfl
    · obtain ⟨s3, hc3, hD3⟩ := h3
      have nD0 : H D = none := Same.gone (same_upd nc) nD
      rw [List.length_map, List.take_length] at hD3
      -- greats
      refine ⟨.ref D, rfl, D, rfl, ⟨_, sql hD3⟩, fun G nG => lc_list (xs := ns.map V.int) (fun i H4 => Same H H4 ∧ H4 D = some (.lst (ns.map V.int)) ∧ ∃ gs : List Int, gs.length ≤ i ∧ (∀ x ∈ gs, 0 ≤ x) ∧ H4 G = some (.lst (gs.map V.int)))
        ⟨Same.new s3 nG, by rw [upd_ne (ne_of_none hD3 nG)]; exact hD3, [], Nat.le_refl _, (fun _ h => nomatch h), upd_same⟩ (fun i H4 _ h4 => sql h4.2.1) (fun i x H4 hx h4 => ?_) (fun H4 h4 => ?_)⟩
      · obtain ⟨x, hx', rfl⟩ := map_at hx
        have hi := (List.getElem?_eq_some_iff.mp hx').1
        have DG : D ≠ G := ne_of_none hD3 nG
        have nG0 : H G = none := Same.gone s3 nG
        obtain ⟨s4, hD4, gs, gl, gp, hG4⟩ := h4
        refine ⟨rfl, .int x, rfl, x, rfl, _, _, rfl, rfl, ⟨by decide, by decide, by decide⟩, _, _, rfl, rfl, _, rfl, ite2 (fun _ => ?_) fun _ => ?_⟩
        · refine ⟨.int x, rfl, x, rfl, _, hG4, ?_, Same.put s4 nG0, by rw [upd_ne DG]; exact hD4, gs ++ [if x < 0 then -x else x], ?_, fun y hy => ?_, ?_⟩
          · rw [List.length_map, sizeLine_eq]
            omega
          · rw [List.length_append, List.length_singleton]
            omega
          · rcases List.mem_append.mp hy with hy | hy
            · exact gp y hy
            · rw [List.mem_singleton.mp hy]
              exact absI x
          · rw [upd_same, List.map_append]
            rfl
        · exact ⟨s4, hD4, gs, by omega, gp, hG4⟩
      · obtain ⟨s4, hD4, gs, gl, gp, hG4⟩ := h4
        rw [List.length_map] at gl
        have nG0 : H G = none := Same.gone s3 nG
        -- smalls
        refine ⟨.ref D, rfl, D, rfl, ⟨_, sql hD4⟩, fun S nS => lc_list (xs := ns.map V.int) (fun i H5 => Same H H5 ∧ H5 D = some (.lst (ns.map V.int)) ∧ H5 G = some (.lst (gs.map V.int)) ∧ ∃ ss : List Int, ss.length ≤ i ∧ (∀ x ∈ ss, 0 ≤ x ∧ x < 1000000007) ∧ H5 S = some (.lst (ss.map V.int)))
          ⟨Same.new s4 nS, by rw [upd_ne (ne_of_none hD4 nS)]; exact hD4, by rw [upd_ne (ne_of_none hG4 nS)]; exact hG4, [], Nat.le_refl _, (fun _ h => nomatch h), upd_same⟩ (fun i H5 _ h5 => sql h5.2.1) (fun i x H5 hx h5 => ?_) (fun H5 h5 => ?_)⟩
        · obtain ⟨x, hx', rfl⟩ := map_at hx
          have hi := (List.getElem?_eq_some_iff.mp hx').1
          have DS : D ≠ S := ne_of_none hD4 nS
          have GS : G ≠ S := ne_of_none hG4 nS
          have nS0 : H S = none := Same.gone s4 nS
          obtain ⟨s5, hD5, hG5, ss, sl, sp, hS5⟩ := h5
          refine ⟨rfl, .int x, rfl, x, rfl, _, _, rfl, rfl, ⟨by decide, by decide, by decide⟩, _, _, rfl, rfl, _, rfl, ite2 (fun _ => ?_) fun _ => ?_⟩
          · refine ⟨.int x, rfl, .inl ⟨_, rfl, _, _, rfl, rfl, (by show (0 : Int) < 1000000007; decide), fun m m0 m1 _ => ⟨_, hS5, ?_, Same.put s5 nS0, by rw [upd_ne DS]; exact hD5, by rw [upd_ne GS]; exact hG5, ss ++ [m], ?_, fun y hy => ?_, ?_⟩⟩⟩
            · rw [List.length_map, sizeLine_eq]
              omega
            · rw [List.length_append, List.length_singleton]
              omega
            · rcases List.mem_append.mp hy with hy | hy
              · exact sp y hy
              · rw [List.mem_singleton.mp hy]
                exact ⟨m0, m1⟩
            · rw [upd_same, List.map_append]
              rfl
          · exact ⟨s5, hD5, hG5, ss, by omega, sp, hS5⟩
        · obtain ⟨s5, hD5, hG5, ss, sl, sp, hS5⟩ := h5
          rw [List.length_map] at sl
          refine ⟨.ref D, rfl, D, _, rfl, .inl (sql hD5), _, _, rfl, rfl, (by show 1 ≤ sizeLine; decide), fun L nL => ?_⟩
          rw [List.length_map]
          refine ⟨S, L, _, _, rfl, rfl, by rw [upd_ne (ne_of_none hS5 nL)]; exact hS5, upd_same, (by rw [List.length_map, sizeLine_eq]; show ss.length + 1 ≤ _; omega), fun M nM => ?_⟩
          have s6 : Same H (upd H5 L (.lst [V.int ((ns.length : Int) + 1)])) := Same.new s5 nL
          have hG6 : (upd H5 L (.lst [V.int ((ns.length : Int) + 1)])) G = some (.lst (gs.map V.int)) := by rw [upd_ne (ne_of_none hG5 nL)]; exact hG5
          have hM : ss.map V.int ++ [V.int ((ns.length : Int) + 1)] = (ss ++ [(ns.length : Int) + 1]).map V.int := by rw [List.map_append]; rfl
          rw [hM]
          refine ⟨.ref G, rfl, .ref M, rfl, .ref M, rfl, M, _, rfl, sql upd_same, .inl ⟨_, rfl, _, _, rfl, rfl, (by show (0 : Int) < 999983; decide), fun z z0 z1 _ => ⟨(by show 4 ≤ sizeLine; decide), fun p np => ?_⟩⟩⟩
          have eG : (upd (upd H5 L (.lst [V.int ((ns.length : Int) + 1)])) M (.lst ((ss ++ [(ns.length : Int) + 1]).map V.int))) G = some (.lst (gs.map V.int)) := by rw [upd_ne (ne_of_none hG6 nM)]; exact hG6
          refine q _ p G M (Same.new (Same.new s6 nM) np) ⟨(ne_of_none eG np).symm, (ne_of_none upd_same np).symm, ne_of_none hG6 nM, gs, ss ++ [(ns.length : Int) + 1], 0, z, upd_same, by rw [upd_ne (ne_of_none eG np)]; exact eG, by rw [upd_ne (ne_of_none upd_same np)]; exact upd_same, gp, ?_, ?_, fun y hy => ?_, Int.le_refl _, z0, z1⟩
          · rw [List.length_append, List.length_singleton]
            omega
          · rw [List.length_append, List.length_singleton]
            omega
          · rcases List.mem_append.mp hy with hy | hy
            · exact sp y hy
            · rw [List.mem_singleton.mp hy]
              omega
end
end Kb

namespace Kb
open PySem PySem.Spec PyProof.Rows L2 SrtZ SrtO
abbrev ssketch : Stmt := topS 44
abbrev Nsketch : List Str := ["_law_room", "_law_many", "_law_state", "_law_name"]
theorem scsketch : FnScope ["_law_room", "_law_many", "_law_state", "_law_name"] ["_law_room", "_law_many", "_law_state"] (defScope ssketch) := ⟨rfl, rfl, rfl, by decide +kernel, rfl, by decide +kernel, by decide +kernel⟩
abbrev sis : Stmt := topS 45
abbrev Nis : List Str := ["_law_told", "_law_due", "_law_k"]
theorem scis : FnScope ["_law_told", "_law_due", "_law_k"] ["_law_told", "_law_due"] (defScope sis) := ⟨rfl, rfl, rfl, by decide +kernel, rfl, by decide +kernel, by decide +kernel⟩
abbrev Dnsketch (K : PySem.W.Frag) (mg : Str → Option Value) := Dn K mg "_law_sketch" ssketch ["_law_room", "_law_many", "_law_state"]
abbrev Dnis (K : PySem.W.Frag) (mg : Str → Option Value) := Dn K mg "_law_is" sis ["_law_told", "_law_due"]
/-- the pair that a tuple of the heap holds -/
def rdP (H : Hp) (t : Addr) : Str × Int := match H t with
  | some (.tup [.str x, .int y]) => (x, y)
  | _ => (⟨#[]⟩, 0)
theorem rdP_of {H : Hp} {t : Addr} {e : Str × Int} (h : H t = some (.tup [.str e.1, .int e.2])) : rdP H t = e := by
  unfold rdP
  rw [h]
theorem paired_snoc {α β : Type} {F : α → β → Prop} : ∀ {xs : List α} {ys : List β} {x : α} {y : β}, Paired F xs ys → F x y → Paired F (xs ++ [x]) (ys ++ [y])
  | _, _, _, _, .nil, h => .cons h .nil
  | _, _, _, _, .cons h t, k => .cons h (paired_snoc t k)
theorem paired_imp {α β : Type} {F G : α → β → Prop} (h : ∀ a b, F a b → G a b) : ∀ {xs : List α} {ys : List β}, Paired F xs ys → Paired G xs ys
  | _, _, .nil => .nil
  | _, _, .cons a t => .cons (h _ _ a) (paired_imp h t)
theorem paired_rd {H : Hp} : ∀ {ts : List Addr} {kvs : Ct}, Paired (fun (t : Addr) (e : Str × Int) => H t = some (.tup [.str e.1, .int e.2])) ts kvs → ts.map (rdP H) = kvs ∧ ∀ t ∈ ts, H t = some (.tup [.str (rdP H t).1, .int (rdP H t).2])
  | _, _, .nil => ⟨rfl, fun _ h => nomatch h⟩
  | _, _, .cons h t => by
    obtain ⟨h1, h2⟩ := paired_rd t
    have e := rdP_of h
    refine ⟨by rw [List.map_cons, h1, e], fun u hu => ?_⟩
    rcases List.mem_cons.mp hu with rfl | hu
    · rw [e]
      exact h
    · exact h2 u hu
theorem paired_map {H : Hp} {k : Addr → Str × Int} : ∀ {ts : List Addr}, (∀ t ∈ ts, H t = some (.tup [.str (k t).1, .int (k t).2])) → Paired (fun (t : Addr) (e : Str × Int) => H t = some (.tup [.str e.1, .int e.2])) ts (ts.map k)
  | [], _ => .nil
  | t :: ts, h => .cons (h t List.mem_cons_self) (paired_map fun u hu => h u (List.mem_cons_of_mem _ hu))
section
variable {P : Program} {w : World} {K : PySem.W.Frag} {mg : Str → Option Value} {base : Heap}
/-! _law_sketch -/
def spSketch (K : PySem.W.Frag) : Sp := fun vs H Q _ => ∃ (r m o : Int) (st d : Addr) (kvs : Ct), vs = [.int r, .int m, .ref st] ∧ SqT K H st [.int o, .ref d] ∧ H d = some (.dK (kvs.map entZ)) ∧ NdZ kvs ∧ kvs.length ≤ 1000 ∧
  ∀ H' s k (ts : List Addr), Same H H' → H s = none → H' s = some (.tup [.int r, .int m, .int o, .ref k]) → Ptp H' k (ts.map V.ref) → Paired (fun (t : Addr) (y : Str × Int) => H' t = some (.tup [.str y.1, .int y.2])) ts (srtZ kvs) → Q (.ref s) H'
theorem getZ_self {kvs : Ct} {i : Nat} {e : Str × Int} (nd : NdZ kvs) (h : kvs[i]? = some e) : getZ kvs e.1 = some e.2 := by
  have hm := List.mem_of_getElem? h
  clear h
  unfold getZ
  induction kvs with
  | nil => cases hm
  | cons f r ih =>
    unfold NdZ at nd
    rw [List.map_cons, List.nodup_cons] at nd
    rcases List.mem_cons.mp hm with rfl | hm
    · simp
    · have : ¬ f.1 = e.1 := fun z => nd.1 (List.mem_map.mpr ⟨e, hm, z.symm⟩)
      rw [List.find?_cons_of_neg (by simpa using this)]
      exact ih nd.2 hm
theorem ok_sketch (T : Blt mg) (d : Dnsketch K mg) : FnOk P w K mg base CX0 1 d.f d.fd ["_law_room", "_law_many", "_law_state"] (spSketch K) := by
  refine d.F.ok scsketch (fun vs H Q E h => ?_) (fun cdv A outer s H vs Q E hr h => ?_)
  · obtain ⟨r, m, o, st, dd, kvs, rfl, _⟩ := h
    rfl
  · obtain ⟨r, m, o, st, dd, kvs, rfl, hst, hd, nd, hl, q⟩ := h
    have hu := hu_of hr
    refine ⟨_, (pss_one (ps_ret (pe_tup (pa_cons (pv 0) (pa_cons (pv 1) (pa_cons (pe_ix ix_tup (pv 2) pe_int (fun _ _ => rfl)) (pa_cons (pe_callTy call_tupleF (by rfl) T.n_tuple (by decide +kernel) (pa_cons (pe_callB cr_sortedPZ (by rfl) T.n_sorted (by decide +kernel) (pa_cons (pe_lock (pe_lc (own := [("_law_name", 3)]) (g := gName 3) (tt := tYes) rfl scsketch.nd (pi_keys (pe_ix ix_tup (pv 2) pe_int (fun _ _ => rfl))) (blkOk_by (N := Nsketch) (sc := defScope ssketch) (by decide +kernel)) (fun _ _ _ _ _ => pg_name (i := 3) scsketch.nd rfl (Or.inl rfl)) (fun _ _ _ _ _ => pts_nil) (fun _ _ _ _ _ => (pe_tup (pa_cons (pv 3) (pa_cons (pe_dget hu (pe_ix (r := rIxT K) ix_tup (pv 2) pe_int (fun _ _ => rfl)) (pv 3) (fun _ _ => rfl)) pa_nil)))))) pa_nil)) pa_nil)) pa_nil))))))), ?_⟩
    refine ⟨.int r, rfl, .int m, rfl, .ref st, rfl, st, _, _, _, rfl, rfl, hst, atI_nat (j := 0) rfl, dd, _, hd, trivial, fun od => ?_⟩
    have hst1 : SqT K (upd H dd (.frz od (.dK (kvs.map entZ)))) st [.int o, .ref dd] := by
      rcases hst with (h | ⟨o', h⟩) | h
      · exact .inl (.inl (by rw [upd_ne (ne_of h hd (by intro z; cases z))]; exact h))
      · exact .inl (.inr ⟨o', by rw [upd_ne (ne_of h hd (by intro z; cases z))]; exact h⟩)
      · exact .inr h
    refine ⟨.ref st, rfl, st, _, _, _, rfl, rfl, hst1, atI_nat (j := 1) rfl, dd, od, rfl, .inl ⟨_, upd_same, fun D nD => ?_⟩⟩
    generalize hHl : upd H dd (.frz od (.dK (kvs.map entZ))) = Hl at nD hst1 ⊢
    have hld : Hl dd = some (.frz od (.dK (kvs.map entZ))) := by rw [← hHl]; exact upd_same
    have dD : dd ≠ D := ne_of_none hld nD
    have nD0 : H D = none := by
      rw [← hHl, upd_ne dD.symm] at nD
      exact nD
    refine lc_it (walk_keys (kvs := kvs.map entZ)) (fun i H3 => Same Hl H3 ∧ ∃ ts : List Addr, H3 D = some (.lst (ts.map V.ref)) ∧ Paired (fun (t : Addr) (e : Str × Int) => H3 t = some (.tup [.str e.1, .int e.2])) ts (kvs.take i))
      ⟨same_upd nD, [], upd_same, .nil⟩ (fun i H3 _ h3 => h3.1 _ _ hld) (fun i x H3 H4 hi h3 y => ?_) (fun H3 h3 => ?_)
    · obtain ⟨rfl, k, v, hkv, rfl⟩ := y
      obtain ⟨e, he, hkv2⟩ := map_at hkv
      cases hkv2
      obtain ⟨s3, ts, hD, hpr⟩ := h3
      refine ⟨rfl, .str e.1, rfl, .ref st, rfl, st, _, _, _, rfl, rfl, seqT hst1 s3, atI_nat (j := 1) rfl, .str e.1, rfl, dd, .int e.2, rfl, ?_, (by show 2 ≤ sizeLine; decide), fun p np => ?_⟩
      · refine .inl ⟨kvs.map entZ, Sum.inr e.1, .inr ⟨od, s3 _ _ hld⟩, rfl, ?_⟩
        rw [getZ_val, getZ_self nd he]
        rfl
      · have Dp : D ≠ p := ne_of_none hD np
        refine ⟨_, by rw [upd_ne Dp]; exact hD, ?_, Same.put (Same.new s3 np) nD, ts ++ [p], by rw [upd_same, List.map_append]; rfl, ?_⟩
        · rw [List.length_map, Paired.length hpr, List.length_take, sizeLine_eq]
          omega
        · rw [List.take_add_one, he]
          refine paired_snoc (paired_imp (fun t e' ht => ?_) hpr) ?_
          · rw [upd_ne (ne_of ht hD (by intro z; cases z)), upd_ne (ne_of_none ht np)]
            exact ht
          · rw [upd_ne Dp.symm]
            exact upd_same
    · obtain ⟨s3, ts, hD, hpr⟩ := h3
      have e1 : kvs.take (kvs.map entZ).length = kvs := by rw [List.length_map, List.take_length]
      rw [e1] at hpr
      refine ⟨s3 _ _ hld, ?_⟩
      have hpr5 : Paired (fun (t : Addr) (e : Str × Int) => (upd H3 dd (.dK (kvs.map entZ))) t = some (.tup [.str e.1, .int e.2])) ts kvs := paired_imp (fun t e' ht => by
        rw [upd_ne (ne_of ht (s3 _ _ hld) (by intro z; cases z))]
        exact ht) hpr
      have hD5 : (upd H3 dd (.dK (kvs.map entZ))) D = some (.lst (ts.map V.ref)) := by rw [upd_ne dD.symm]; exact hD
      have s5 : Same H (upd H3 dd (.dK (kvs.map entZ))) := fun b u e => by
        by_cases hb : b = dd
        · subst hb
          rw [hd] at e
          cases e
          exact upd_same
        · rw [upd_ne hb]
          refine s3 b u ?_
          rw [← hHl, upd_ne hb]
          exact e
      generalize upd H3 dd (.dK (kvs.map entZ)) = H5 at hpr5 hD5 s5 ⊢
      obtain ⟨r1, r2⟩ := paired_rd hpr5
      refine ⟨D, ts, rdP H5, rfl, sql hD5, r2, fun us l pm so nl => ?_⟩
      refine ⟨l, _, rfl, sql upd_same, fun k ob nk ho => ⟨(by show 4 ≤ sizeLine; decide), fun s ns => ?_⟩⟩
      have sa : Same H5 (upd (upd (upd H5 l (.lst (us.map V.ref))) k (.frz ob (.tup (us.map V.ref)))) s (.tup [.int r, .int m, .int o, .ref k])) := Same.new (Same.new (same_upd nl) nk) ns
      have pm2 : (us.map (rdP H5)).Perm kvs := by
        have := pm.map (rdP H5)
        rwa [r1] at this
      have eys := srtZ_of (asc_of so pm2 nd) pm2 nd
      refine q _ s k us (fun b u e => sa b u (s5 b u e)) ?_ upd_same ⟨ob, ?_, ho⟩ ?_
      · exact Same.gone s5 (Same.gone (Same.new (same_upd nl) nk) ns)
      · rw [upd_ne (ne_of_none upd_same ns)]
        exact upd_same
      · rw [← eys]
        exact paired_map fun t ht => sa _ _ (r2 t (pm.mem_iff.mp ht))
/-! _law_is -/
def Leq (x y : V) : Prop := (∃ i : Int, x = .int i ∧ y = .int i) ∨ ∃ z : Str, x = .str z ∧ y = .str z
def Eqv (K : PySem.W.Frag) : Nat → Hp → V → V → Prop
  | 0, _, x, y => Leq x y
  | n + 1, H, x, y => Leq x y ∨ ∃ (a b : Addr) (xs ys : List V), x = .ref a ∧ y = .ref b ∧ SqT K H a xs ∧ SqT K H b ys ∧ xs.length = ys.length ∧ xs.length ≤ 100000 ∧ ∀ (i : Nat) (u v : V), xs[i]? = some u → ys[i]? = some v → Eqv K n H u v
theorem Eqv.same {K : PySem.W.Frag} {H H' : Hp} (s : Same H H') : ∀ {n : Nat} {x y : V}, Eqv K n H x y → Eqv K n H' x y
  | 0, _, _, h => h
  | n + 1, x, y, h => by
    rcases h with h | ⟨a, b, xs, ys, e1, e2, h1, h2, h3, h4, h5⟩
    · exact .inl h
    · exact .inr ⟨a, b, xs, ys, e1, e2, seqT h1 s, seqT h2 s, h3, h4, fun i u v hu hv => Eqv.same s (h5 i u v hu hv)⟩
def spIs (K : PySem.W.Frag) (n : Nat) : Sp := fun vs H Q _ => ∃ x y : V, vs = [x, y] ∧ Eqv K n H x y ∧ ∀ H', Same H H' → Q (.bl true) H'
def spIs' (K : PySem.W.Frag) : Nat → Sp
  | 0 => fun _ _ _ _ => False
  | n + 1 => spIs K n
theorem Eqv.cases {K : PySem.W.Frag} {n : Nat} {H : Hp} {x y : V} (h : Eqv K n H x y) : Leq x y ∨ ∃ m, n = m + 1 ∧ ∃ (a b : Addr) (xs ys : List V), x = .ref a ∧ y = .ref b ∧ SqT K H a xs ∧ SqT K H b ys ∧ xs.length = ys.length ∧ xs.length ≤ 100000 ∧ ∀ (i : Nat) (u v : V), xs[i]? = some u → ys[i]? = some v → Eqv K m H u v := by
  cases n with
  | zero => exact .inl h
  | succ n =>
    rcases h with h | h
    · exact .inl h
    · exact .inr ⟨n, rfl, h⟩
theorem ok_is' (T : Blt mg) (dis : Dnis K mg) (n : Nat) (Gis : FnOk P w K mg base CX0 (n + 1) dis.f dis.fd ["_law_told", "_law_due"] (spIs' K n)) : FnOk P w K mg base CX0 (n + 2) dis.f dis.fd ["_law_told", "_law_due"] (spIs K n) := by
  refine dis.F.ok scis (fun vs H Q E h => ?_) (fun cdv A outer s H vs Q E hr h => ?_)
  · obtain ⟨x, y, rfl, _⟩ := h
    rfl
  · obtain ⟨x, y, rfl, he, q⟩ := h
    refine ⟨_, (pss_cons (ps_if (pt_val (pe_callB call_isiT (by rfl) T.n_isinstance (by decide +kernel) (pa_cons (pv 1) (pa_cons (pe_tup (pa_cons (pe_bltn (v := .ty "tuple") (by rfl) T.n_tuple (by decide +kernel) rfl) (pa_cons (pe_bltn (v := .ty "list") (by rfl) T.n_list (by decide +kernel) rfl) pa_nil))) pa_nil))))
      (pss_cons (ps_if (PW.pt (pw_or (pt_cmpR op_ne (pe_callB call_isi (by rfl) T.n_isinstance (by decide +kernel) (pa_cons (pv 0) (pa_cons (pe_bltn (v := .ty "tuple") (by rfl) T.n_tuple (by decide +kernel) rfl) pa_nil))) (pe_callB call_isi (by rfl) T.n_isinstance (by decide +kernel) (pa_cons (pv 1) (pa_cons (pe_bltn (v := .ty "tuple") (by rfl) T.n_tuple (by decide +kernel) rfl) pa_nil))) (nomark _)) (pw_or1 (pt_cmpR op_ne (pe_callB call_isi (by rfl) T.n_isinstance (by decide +kernel) (pa_cons (pv 0) (pa_cons (pe_bltn (v := .ty "list") (by rfl) T.n_list (by decide +kernel) rfl) pa_nil))) (pe_callB call_isi (by rfl) T.n_isinstance (by decide +kernel) (pa_cons (pv 1) (pa_cons (pe_bltn (v := .ty "list") (by rfl) T.n_list (by decide +kernel) rfl) pa_nil))) (nomark _)))))
        (pss_one (ps_ret pe_bl))
        pss_nil)
      (pss_one (ps_ret (pe_and (pe_cmpR op_eq (pe_callB call_len_seq (by rfl) T.n_len (by decide +kernel) (pa_cons (pv 0) pa_nil)) (pe_callB call_len_seq (by rfl) T.n_len (by decide +kernel) (pa_cons (pv 1) pa_nil)) (nomark _)) (pe_one (pe_callB (cr_all rfl) (by rfl) T.n_all (by decide +kernel) (pa_cons (pe_lc (own := [("_law_k", 2)]) (g := gName 2) (tt := tYes) rfl scis.nd (pi_range1 (by rfl) T.n_range (pa_cons (pe_callB call_len_seq (by rfl) T.n_len (by decide +kernel) (pa_cons (pv 1) pa_nil)) pa_nil)) (blkOk_by (N := Nis) (sc := defScope sis) (by decide +kernel)) (fun _ _ _ _ _ => pg_name (i := 2) scis.nd rfl (Or.inl rfl)) (fun _ _ _ _ _ => pts_nil) (fun _ _ _ _ _ => (pe_call Gis (hr.mono (by omega)) (by rfl) dis.g dis.F.kp dis.b .nil pass0 (pa_cons (pe_ix (r := rIxT K) ix_tup (pv 0) (pv 2) (fun _ _ => rfl)) (pa_cons (pe_ix (r := rIxT K) ix_tup (pv 1) (pv 2) (fun _ _ => rfl)) pa_nil))))) pa_nil)))))))
      pss_nil)
    (pss_one (ps_ret (pe_and (pe_cmpR op_eq (pe_callB call_isi (by rfl) T.n_isinstance (by decide +kernel) (pa_cons (pv 0) (pa_cons (pe_bltn (v := .ty "bool") (by rfl) T.n_bool (by decide +kernel) rfl) pa_nil))) (pe_callB call_isi (by rfl) T.n_isinstance (by decide +kernel) (pa_cons (pv 1) (pa_cons (pe_bltn (v := .ty "bool") (by rfl) T.n_bool (by decide +kernel) rfl) pa_nil))) (nomark _)) (pe_one (pe_cmpR op_eq (pv 0) (pv 1) (nomark _))))))), ?_⟩
    rcases he.cases with (⟨i, rfl, rfl⟩ | ⟨z, rfl, rfl⟩) | ⟨m, rfl, a, b, xs, ys, rfl, rfl, h1, h2, hl, hl2, h5⟩
    · refine ⟨.int i, rfl, (by show 2 ≤ sizeLine; decide), fun tp ntp => ⟨.int i, tp, _, _, [.type "tuple", .type "list"], false, rfl, upd_same, .cons (.ty "tuple") (.cons (.ty "list") .nil), .base (.int i), kitAny_cons (kit_ty (b := "tuple") (r := false) (by decide +kernel)) (fun _ => kitAny_cons (kit_ty (b := "list") (r := false) (by decide +kernel)) (fun _ => rfl) (fun h => by cases h)) (fun h => by cases h), false, rfl, iteF ?_⟩⟩
      refine ⟨.int i, rfl, .int i, _, _, _, false, rfl, .ty "bool", .base (.int i), kit_ty (by decide +kernel), .int i, rfl, .int i, _, _, _, false, rfl, .ty "bool", .base (.int i), kit_ty (by decide +kernel), rfl, true, rfl, iteT ⟨.int i, rfl, .int i, rfl, rfl, ?_⟩⟩
      rw [decide_eq_true rfl]
      exact q _ (same_upd ntp)
    · refine ⟨.str z, rfl, (by show 2 ≤ sizeLine; decide), fun tp ntp => ⟨.str z, tp, _, _, [.type "tuple", .type "list"], false, rfl, upd_same, .cons (.ty "tuple") (.cons (.ty "list") .nil), .base (.str z), kitAny_cons (kit_ty (b := "tuple") (r := false) (by decide +kernel)) (fun _ => kitAny_cons (kit_ty (b := "list") (r := false) (by decide +kernel)) (fun _ => rfl) (fun h => by cases h)) (fun h => by cases h), false, rfl, iteF ?_⟩⟩
      refine ⟨.str z, rfl, .str z, _, _, _, false, rfl, .ty "bool", .base (.str z), kit_ty (by decide +kernel), .str z, rfl, .str z, _, _, _, false, rfl, .ty "bool", .base (.str z), kit_ty (by decide +kernel), rfl, true, rfl, iteT ⟨.str z, rfl, .str z, rfl, rfl, ?_⟩⟩
      rw [decide_eq_true rfl]
      exact q _ (same_upd ntp)
    · refine ⟨.ref b, rfl, (by show 2 ≤ sizeLine; decide), fun tp ntp => ⟨.ref b, tp, _, _, [.type "tuple", .type "list"], true, rfl, upd_same, .cons (.ty "tuple") (.cons (.ty "list") .nil), tyT (seqT h2 (same_upd ntp)), kitAny_cons (kit_ty (b := "tuple") (r := true) (by decide +kernel)) (fun h => by cases h) (fun _ => rfl), true, rfl, iteT ?_⟩⟩
      have s1 : Same H (upd H tp (.tup [V.ty "tuple", V.ty "list"])) := same_upd ntp
      generalize upd H tp (.tup [V.ty "tuple", V.ty "list"]) = H1 at s1 ⊢
      have g1 := seqT h1 s1
      have g2 := seqT h2 s1
      refine ⟨.ref a, rfl, .ref a, _, _, _, true, rfl, .ty "tuple", tyT g1, kit_ty (by decide +kernel), .ref b, rfl, .ref b, _, _, _, true, rfl, .ty "tuple", tyT g2, kit_ty (by decide +kernel), rfl, false, rfl, iteF ?_⟩
      refine ⟨.ref a, rfl, .ref a, _, _, _, false, rfl, .ty "list", tyT g1, kit_ty (by decide +kernel), .ref b, rfl, .ref b, _, _, _, false, rfl, .ty "list", tyT g2, kit_ty (by decide +kernel), rfl, false, rfl, iteF ?_⟩
      refine ⟨.ref a, rfl, a, _, rfl, .inr g1, .ref b, rfl, b, _, rfl, .inr g2, rfl, true, congrArg V.bl (decide_eq_true (by rw [hl])), iteT ?_⟩
      refine ⟨.ref b, rfl, b, _, rfl, .inr g2, ys.length, rfl, by omega, by omega, fun D nD => ?_⟩
      rw [Int.toNat_natCast]
      refine lc_range (lo := 0) (n := ys.length) (fun i H3 => Same H1 H3 ∧ H3 D = some (.lst ((List.range i).map fun _ => V.bl true))) ⟨same_upd nD, upd_same⟩ (fun i H3 hi h3 => ?_) (fun H3 h3 => ?_)
      · have hxi : xs[i]? = some (xs[i]'(by omega)) := List.getElem?_eq_getElem (by omega)
        have hyi : ys[i]? = some ys[i] := List.getElem?_eq_getElem hi
        have ev := Eqv.same (fun b u e => h3.1 b u (s1 b u e)) (h5 i _ _ hxi hyi)
        refine ⟨rfl, .ref a, rfl, .int (0 + (i : Int)), rfl, a, _, _, _, rfl, rfl, seqT g1 h3.1, (by rw [Int.zero_add]; exact atI_nat hxi), .ref b, rfl, .int (0 + (i : Int)), rfl, b, _, _, _, rfl, rfl, seqT g2 h3.1, (by rw [Int.zero_add]; exact atI_nat hyi), _, _, rfl, ev, fun H4 s4 => ⟨_, s4 _ _ h3.2, ?_, ?_, ?_⟩⟩
        · rw [List.length_map, List.length_range, sizeLine_eq]
          omega
        · exact Same.put (fun b u e => s4 b u (h3.1 b u e)) nD
        · rw [upd_same, List.range_succ, List.map_append]
          rfl
      · refine ⟨D, (List.range ys.length).map fun _ => true, rfl, sql (by rw [h3.2, List.map_map]; rfl), ?_⟩
        rw [show (((List.range ys.length).map fun _ => true).all id) = true by simp]
        exact q H3 fun b u e => h3.1 b u (s1 b u e)
theorem ok_is (T : Blt mg) (dis : Dnis K mg) : ∀ n : Nat, FnOk P w K mg base CX0 (n + 1) dis.f dis.fd ["_law_told", "_law_due"] (spIs' K n)
  | 0 => dis.F.ok scis (fun _ _ _ _ h => h.elim) (fun _ _ _ _ _ _ _ _ _ h => h.elim)
  | n + 1 => ok_is' T dis n (ok_is T dis n)
end
end Kb

namespace Kb
open PySem PySem.Spec PyProof.Rows L2 SrtZ SrtO
/-! sketches on the heap -/
abbrev PrT (H : Hp) (t : Addr) (y : Str × Int) : Prop := H t = some (.tup [.str y.1, .int y.2])
theorem eqv_pair {K : PySem.W.Frag} {H : Hp} {t t2 : Addr} {e : Str × Int} (h1 : PrT H t e) (h2 : PrT H t2 e) : Eqv K 1 H (.ref t) (.ref t2) :=
  .inr ⟨t, t2, _, _, rfl, rfl, .inl (.inl h1), .inl (.inl h2), rfl, (by show 2 ≤ 100000; decide), fun i u v hu hv => by
    match i, hu, hv with
    | 0, hu, hv =>
      cases hu
      cases hv
      exact .inr ⟨_, rfl, rfl⟩
    | 1, hu, hv =>
      cases hu
      cases hv
      exact .inl ⟨_, rfl, rfl⟩
    | i + 2, hu, hv => simp at hu⟩
theorem eqv_counts {K : PySem.W.Frag} {H : Hp} {k k2 : Addr} {ts ts2 : List Addr} {ys : Ct} (h1 : SqT K H k (ts.map V.ref)) (h2 : SqT K H k2 (ts2.map V.ref)) (p1 : Paired (PrT H) ts ys) (p2 : Paired (PrT H) ts2 ys) (hl : ys.length ≤ 100000) : Eqv K 2 H (.ref k) (.ref k2) :=
  .inr ⟨k, k2, _, _, rfl, rfl, h1, h2, (by rw [List.length_map, List.length_map, Paired.length p1, Paired.length p2]), (by rw [List.length_map, Paired.length p1]; exact hl), fun i u v hu hv => by
    obtain ⟨t, ht, rfl⟩ := map_at hu
    obtain ⟨t2, ht2, rfl⟩ := map_at hv
    obtain ⟨e, he, f⟩ := paired_at p1 ht
    obtain ⟨e2, he2, f2⟩ := paired_at p2 ht2
    rw [he] at he2
    cases he2
    exact eqv_pair f f2⟩
theorem eqv_sketch {K : PySem.W.Frag} {H : Hp} {s s2 k k2 : Addr} {r m o : Int} {ts ts2 : List Addr} {ys : Ct} (g1 : H s = some (.tup [.int r, .int m, .int o, .ref k])) (g2 : H s2 = some (.tup [.int r, .int m, .int o, .ref k2])) (h1 : SqT K H k (ts.map V.ref)) (h2 : SqT K H k2 (ts2.map V.ref)) (p1 : Paired (PrT H) ts ys) (p2 : Paired (PrT H) ts2 ys) (hl : ys.length ≤ 100000) : Eqv K 3 H (.ref s) (.ref s2) :=
  .inr ⟨s, s2, _, _, rfl, rfl, .inl (.inl g1), .inl (.inl g2), rfl, (by show 4 ≤ 100000; decide), fun i u v hu hv => by
    match i, hu, hv with
    | 0, hu, hv =>
      cases hu
      cases hv
      exact .inl (.inl ⟨_, rfl, rfl⟩)
    | 1, hu, hv =>
      cases hu
      cases hv
      exact .inl (.inl ⟨_, rfl, rfl⟩)
    | 2, hu, hv =>
      cases hu
      cases hv
      exact .inl (.inl ⟨_, rfl, rfl⟩)
    | 3, hu, hv =>
      cases hu
      cases hv
      exact eqv_counts h1 h2 p1 p2 hl
    | i + 4, hu, hv => simp at hu⟩
def SkAt (H : Hp) (s : Addr) (r : Int) (x : Tl) : Prop := ∃ (k : Addr) (ts : List Addr), H s = some (.tup [.int r, .int x.m, .int x.o, .ref k]) ∧ Ptp H k (ts.map V.ref) ∧ Paired (PrT H) ts (srtZ x.c)
theorem SkAt.same {H H' : Hp} {s : Addr} {r : Int} {x : Tl} (h : SkAt H s r x) (y : Same H H') : SkAt H' s r x := by
  obtain ⟨k, ts, h1, h2, h3⟩ := h
  exact ⟨k, ts, y _ _ h1, h2.same y, paired_imp (fun t e h => y _ _ h) h3⟩
theorem SkAt.congr {H : Hp} {s : Addr} {r : Int} {x y : Tl} (h : SkAt H s r x) (e : skT x = skT y) : SkAt H s r y := by
  obtain ⟨m, o, c⟩ := x
  obtain ⟨m2, o2, c2⟩ := y
  unfold skT at e
  injection e with e1 e2 e3
  dsimp only at e1 e2 e3
  subst e1 e2
  obtain ⟨k, ts, h1, h2, h3⟩ := h
  exact ⟨k, ts, h1, h2, by dsimp only at h3 ⊢; rw [← e3]; exact h3⟩
theorem eqv_sk {K : PySem.W.Frag} {H : Hp} {s s2 : Addr} {r : Int} {x : Tl} (h : SkAt H s r x) (h2 : SkAt H s2 r x) (hl : x.c.length ≤ 100000) : Eqv K 3 H (.ref s) (.ref s2) := by
  obtain ⟨k, ts, a1, a2, a3⟩ := h
  obtain ⟨k2, ts2, b1, b2, b3⟩ := h2
  exact eqv_sketch a1 b1 a2.seq b2.seq a3 b3 (by rw [(srtZ_perm x.c).length_eq]; exact hl)
/-! the order in which counts stand means nothing -/
theorem getZ_perm {a b : Ct} (p : a.Perm b) (nd : NdZ a) (n : Str) : getZ a n = getZ b n := by
  have ndb : NdZ b := by
    unfold NdZ
    exact (p.map (·.1)).nodup_iff.mp nd
  cases ha : getZ a n with
  | none =>
    have := getZ_none.mp ha
    exact (getZ_none.mpr fun h => this ((p.map (·.1)).mem_iff.mpr h)).symm
  | some v =>
    have : ∃ e ∈ a, e.1 = n ∧ e.2 = v := by
      unfold getZ at ha
      cases h : a.find? fun e => decide (e.1 = n) with
      | none => rw [h] at ha; cases ha
      | some e =>
        rw [h] at ha
        exact ⟨e, List.mem_of_find?_eq_some h, of_decide_eq_true (List.find?_some (p := fun e : Str × Int => decide (e.1 = n)) h), Option.some.inj ha⟩
    obtain ⟨e, he, rfl, rfl⟩ := this
    obtain ⟨i, hi⟩ := List.mem_iff_getElem?.mp (p.mem_iff.mp he)
    exact (getZ_self ndb hi).symm
theorem putZ_perm {a b : Ct} (p : a.Perm b) (n : Str) (v : Int) : (putZ a n v).Perm (putZ b n v) := by
  have e : (a.any fun e => decide (e.1 = n)) = (b.any fun e => decide (e.1 = n)) := by
    rw [Bool.eq_iff_iff, List.any_eq_true, List.any_eq_true]
    exact ⟨fun ⟨x, h, k⟩ => ⟨x, p.mem_iff.mp h, k⟩, fun ⟨x, h, k⟩ => ⟨x, p.mem_iff.mpr h, k⟩⟩
  unfold putZ
  rw [e]
  split
  · exact p.map _
  · exact p.append_right _
theorem addZ_perm {a b : Ct} (p : a.Perm b) (nd : NdZ a) (n : Str) (c : Int) : (addZ a n c).Perm (addZ b n c) := by
  unfold addZ
  rw [getZ_perm p nd]
  exact putZ_perm p _ _
theorem takeZ_perm {a b : Ct} (p : a.Perm b) (k : Int) : (takeZ k a).Perm (takeZ k b) := (p.filter _).map _
theorem mnC_perm {a b : Ct} (p : a.Perm b) : mnC a = mnC b := by
  by_cases h : a = []
  · subst h
    have := p.symm.eq_nil
    subst this
    rfl
  · obtain ⟨h1, h2⟩ := mnC_spec h
    have q := p.map (·.2)
    exact mnC_uniq (q.mem_iff.mp h1) fun y hy => h2 y (q.mem_iff.mpr hy)
theorem full_perm {a b : Ct} (p : a.Perm b) (nd : NdZ a) (r : Int) (n : Str) : full r n a = full r n b := by
  unfold full
  rw [getZ_perm p nd, p.length_eq]
theorem srtZ_eq {a b : Ct} (p : a.Perm b) (nd : NdZ a) : srtZ a = srtZ b := by
  have ndb : NdZ b := by
    unfold NdZ
    exact (p.map (·.1)).nodup_iff.mp nd
  exact srtZ_of (srtZ_asc nd) ((srtZ_perm a).trans p) ndb
theorem feed_skT {r c : Int} {n : Str} {x : Tl} (nd : NdZ x.c) : skT (feedT r n c (skT x)) = skT (feedT r n c x) := by
  obtain ⟨m, o, kvs⟩ := x
  have p := srtZ_perm kvs
  have nds : NdZ (srtZ kvs) := (p.map (·.1)).nodup_iff.mpr nd
  unfold feedT skT
  dsimp only
  rw [full_perm p nds, mnC_perm p]
  by_cases hf : full r n kvs = true
  · rw [if_pos hf, if_pos hf]
    dsimp only
    generalize (if mnC kvs < c then mnC kvs else c) = a
    have e : srtZ (if 0 < c - a then addZ (takeZ a (srtZ kvs)) n (c - a) else takeZ a (srtZ kvs)) = srtZ (if 0 < c - a then addZ (takeZ a kvs) n (c - a) else takeZ a kvs) := by
      have pt := takeZ_perm p a
      have ndt : NdZ (takeZ a (srtZ kvs)) := takeZ_nd nds
      split
      · exact srtZ_eq (addZ_perm pt ndt _ _) (addZ_nd ndt)
      · exact srtZ_eq pt ndt
    rw [e]
  · rw [if_neg hf, if_neg hf]
    dsimp only
    have e : srtZ (if 0 < c then addZ (srtZ kvs) n c else srtZ kvs) = srtZ (if 0 < c then addZ kvs n c else kvs) := by
      split
      · exact srtZ_eq (addZ_perm p nds _ _) (addZ_nd nds)
      · exact srtZ_eq p nds
    rw [e]
theorem skT_skT {x : Tl} (nd : NdZ x.c) : skT (skT x) = skT x := by
  obtain ⟨m, o, kvs⟩ := x
  unfold skT
  dsimp only
  rw [srtZ_eq (srtZ_perm kvs) ((srtZ_perm kvs).map (·.1) |>.nodup_iff.mpr nd)]
end Kb

namespace Kb
open PySem PySem.Spec PyProof.Rows L2 SrtZ SrtO
/-! counts, read behind a change -/
theorem getZ_cons (e : Str × Int) (kvs : Ct) (k : Str) : getZ (e :: kvs) k = if e.1 = k then some e.2 else getZ kvs k := by
  unfold getZ
  by_cases h : e.1 = k
  · rw [List.find?_cons_of_pos (by simpa using h), if_pos h]
    rfl
  · rw [List.find?_cons_of_neg (by simpa using h), if_neg h]
theorem getZ_app (a b : Ct) (k : Str) : getZ (a ++ b) k = (getZ a k).or (getZ b k) := by
  induction a with
  | nil => simp [getZ]
  | cons e a ih =>
    rw [List.cons_append, getZ_cons, getZ_cons, ih]
    split <;> rfl
theorem getZ_repl (kvs : Ct) (n : Str) (v : Int) (k : Str) : getZ (kvs.map fun e => if e.1 = n then (e.1, v) else e) k = if k = n then (getZ kvs n).map fun _ => v else getZ kvs k := by
  induction kvs with
  | nil => simp [getZ]
  | cons e r ih =>
    rw [List.map_cons, getZ_cons, getZ_cons, ih, getZ_cons]
    by_cases h1 : e.1 = n
    · rw [if_pos h1]
      dsimp only
      by_cases h2 : e.1 = k
      · rw [if_pos h2, if_pos (h2.symm.trans h1), if_pos h1]
        rfl
      · rw [if_neg h2, if_neg h2]
        by_cases h3 : k = n
        · exact absurd (h1.trans h3.symm) h2
        · rw [if_neg h3, if_neg h3]
    · rw [if_neg h1]
      by_cases h2 : e.1 = k
      · rw [if_pos h2, if_neg (fun z => h1 (h2.trans z)), if_pos h2]
      · rw [if_neg h2, if_neg h2, if_neg h1]
theorem getZ_put (kvs : Ct) (n : Str) (v : Int) (k : Str) : getZ (putZ kvs n v) k = if k = n then some v else getZ kvs k := by
  unfold putZ
  rw [any_getZ]
  cases h : getZ kvs n with
  | some u =>
    rw [if_pos (show (some u).isSome = true from rfl), getZ_repl, h]
    rfl
  | none =>
    rw [if_neg (show ¬ (none : Option Int).isSome = true by decide), getZ_app]
    by_cases e : k = n
    · subst e
      rw [h, if_pos rfl, getZ_cons, if_pos rfl]
      rfl
    · rw [if_neg e, getZ_cons, if_neg (Ne.symm e)]
      cases getZ kvs k <;> rfl
theorem getZ_take {a : Int} : ∀ {kvs : Ct}, NdZ kvs → ∀ k, getZ (takeZ a kvs) k = (getZ kvs k).bind fun v => if a < v then some (v - a) else none
  | [], _, k => rfl
  | e :: r, nd, k => by
    unfold NdZ at nd
    rw [List.map_cons, List.nodup_cons] at nd
    have ih := getZ_take (a := a) (kvs := r) nd.2 k
    have hno : e.1 = k → getZ r k = none := fun h => getZ_none.mpr (h ▸ nd.1)
    unfold takeZ at ih ⊢
    by_cases h : a < e.2
    · rw [List.filter_cons_of_pos (by simpa using h), List.map_cons, getZ_cons, getZ_cons]
      by_cases h2 : e.1 = k
      · rw [if_pos h2, if_pos h2]
        show some (e.2 - a) = if a < e.2 then _ else _
        rw [if_pos h]
      · rw [if_neg h2, if_neg h2]
        exact ih
    · rw [List.filter_cons_of_neg (by simpa using h), ih, getZ_cons]
      by_cases h2 : e.1 = k
      · rw [if_pos h2, hno h2]
        show none = if a < e.2 then _ else _
        rw [if_neg h]
      · rw [if_neg h2]
theorem putZ_putZ (kvs : Ct) (n : Str) (u v : Int) : putZ (putZ kvs n u) n v = putZ kvs n v := by
  cases h : getZ kvs n with
  | some g =>
    have e : ∀ w : Int, putZ kvs n w = kvs.map fun e => if e.1 = n then (e.1, w) else e := fun w => by
      unfold putZ
      rw [any_getZ, h, if_pos (show (some g).isSome = true from rfl)]
    rw [e u, e v]
    unfold putZ
    rw [any_getZ, getZ_repl, if_pos rfl, h, if_pos (show ((some g).map fun _ => u).isSome = true from rfl), List.map_map]
    refine List.map_congr_left fun e _ => ?_
    show (if (if e.1 = n then (e.1, u) else e).1 = n then ((if e.1 = n then (e.1, u) else e).1, v) else (if e.1 = n then (e.1, u) else e)) = _
    by_cases h1 : e.1 = n
    · rw [if_pos h1, if_pos h1, if_pos h1]
    · rw [if_neg h1, if_neg h1]
  | none =>
    rw [putZ_new h, putZ_new h]
    have hz := getZ_none.mp h
    unfold putZ
    rw [any_getZ, getZ_app, h, getZ_cons, if_pos rfl, if_pos (show ((none : Option Int).or (some u)).isSome = true from rfl), List.map_append]
    congr 1
    · have : ∀ e ∈ kvs, (if e.1 = n then (e.1, v) else e) = e := fun e he => by
        rw [if_neg (fun q => hz (List.mem_map.mpr ⟨e, he, q⟩))]
      rw [List.map_congr_left this, List.map_id']
    · show [if n = n then (n, v) else (n, u)] = _
      rw [if_pos rfl]
theorem addZ_addZ (kvs : Ct) (n : Str) (c e : Int) : addZ (addZ kvs n c) n e = addZ kvs n (c + e) := by
  unfold addZ
  rw [getZ_put, if_pos rfl, putZ_putZ]
  show putZ kvs n ((getZ kvs n).getD 0 + c + e) = _
  rw [Int.add_assoc]
theorem takeZ_takeZ {a b : Int} (hb : 0 ≤ b) : ∀ kvs : Ct, takeZ b (takeZ a kvs) = takeZ (a + b) kvs
  | [] => rfl
  | e :: r => by
    have ih := takeZ_takeZ hb (a := a) r
    unfold takeZ at ih ⊢
    by_cases h : a < e.2
    · rw [List.filter_cons_of_pos (by simpa using h), List.map_cons]
      by_cases h2 : a + b < e.2
      · rw [List.filter_cons_of_pos (by simp; omega), List.map_cons, ih, List.filter_cons_of_pos (by simpa using h2), List.map_cons]
        congr 2
        show e.2 - a - b = e.2 - (a + b)
        omega
      · rw [List.filter_cons_of_neg (by simp; omega), ih, List.filter_cons_of_neg (by simpa using h2)]
    · rw [List.filter_cons_of_neg (by simpa using h), ih, List.filter_cons_of_neg (by simp; omega)]
theorem takeZ_zero : ∀ {kvs : Ct}, (∀ e ∈ kvs, 1 ≤ e.2) → takeZ 0 kvs = kvs
  | [], _ => rfl
  | e :: r, h => by
    have ih := takeZ_zero (kvs := r) fun f hf => h f (List.mem_cons_of_mem _ hf)
    have h1 := h e List.mem_cons_self
    unfold takeZ at ih ⊢
    rw [List.filter_cons_of_pos (by simp; omega), List.map_cons, ih]
    congr 1
    show (e.1, e.2 - 0) = e
    rw [Int.sub_zero]
/-- less than the least is taken off: all stay -/
theorem takeZ_all : ∀ {kvs : Ct} {c : Int}, (∀ e ∈ kvs, c < e.2) → takeZ c kvs = kvs.map fun e => (e.1, e.2 - c)
  | [], _, _ => rfl
  | e :: r, c, h => by
    have ih := takeZ_all (kvs := r) (c := c) fun f hf => h f (List.mem_cons_of_mem _ hf)
    unfold takeZ at ih ⊢
    rw [List.filter_cons_of_pos (by simpa using h e List.mem_cons_self), List.map_cons, ih]
    rfl
theorem sumC_cons' (e : Str × Int) (kvs : Ct) : sumC (e :: kvs) = e.2 + sumC kvs := by
  unfold sumC
  rw [List.map_cons, List.sum_cons]
theorem sumC_perm' {a b : Ct} (p : a.Perm b) : sumC a = sumC b := by
  induction p with
  | nil => rfl
  | cons x _ ih => rw [sumC_cons', sumC_cons', ih]
  | swap x y l =>
    rw [sumC_cons', sumC_cons', sumC_cons', sumC_cons']
    omega
  | trans _ _ ih1 ih2 => rw [ih1, ih2]
theorem sumC_app : ∀ a b : Ct, sumC (a ++ b) = sumC a + sumC b
  | [], b => by show sumC b = 0 + sumC b; omega
  | e :: a, b => by
    rw [List.cons_append, sumC_cons', sumC_cons', sumC_app a b]
    omega
theorem sumC_repl {n : Str} {v : Int} : ∀ {kvs : Ct} {g : Int}, NdZ kvs → getZ kvs n = some g → sumC (kvs.map fun e => if e.1 = n then (e.1, v) else e) = sumC kvs + (v - g)
  | [], _, _, h => by cases h
  | e :: r, g, nd, h => by
    unfold NdZ at nd
    rw [List.map_cons, List.nodup_cons] at nd
    rw [getZ_cons] at h
    rw [List.map_cons, sumC_cons', sumC_cons']
    by_cases h1 : e.1 = n
    · rw [if_pos h1] at h ⊢
      have : ∀ f ∈ r, (if f.1 = n then (f.1, v) else f) = f := fun f hf => by
        rw [if_neg (fun q => nd.1 (List.mem_map.mpr ⟨f, hf, q.trans h1.symm⟩))]
      rw [List.map_congr_left this, List.map_id']
      have := Option.some.inj h
      show v + _ = _
      omega
    · rw [if_neg h1] at h ⊢
      rw [sumC_repl nd.2 h]
      omega
theorem sumC_add {kvs : Ct} {n : Str} {c : Int} (nd : NdZ kvs) : sumC (addZ kvs n c) = sumC kvs + c := by
  unfold addZ putZ
  rw [any_getZ]
  cases h : getZ kvs n with
  | some g =>
    rw [if_pos (show (some g).isSome = true from rfl), sumC_repl nd h]
    show _ + (g + c - g) = _
    omega
  | none =>
    rw [if_neg (show ¬ (none : Option Int).isSome = true by decide), sumC_app]
    show sumC kvs + (0 + c + 0) = _
    omega
theorem sumC_take1 : ∀ {kvs : Ct}, (∀ e ∈ kvs, 1 ≤ e.2) → sumC (takeZ 1 kvs) = sumC kvs - (kvs.length : Int)
  | [], _ => rfl
  | e :: r, h => by
    have ih := sumC_take1 (kvs := r) fun f hf => h f (List.mem_cons_of_mem _ hf)
    have h1 := h e List.mem_cons_self
    rw [sumC_cons', List.length_cons]
    unfold takeZ at ih ⊢
    by_cases h2 : 1 < e.2
    · rw [List.filter_cons_of_pos (by simpa using h2), List.map_cons, sumC_cons', ih]
      show e.2 - 1 + _ = _
      omega
    · rw [List.filter_cons_of_neg (by simpa using h2), ih]
      omega
theorem full_of {r : Int} {n : Str} {kvs : Ct} (h : full r n kvs = true) : getZ kvs n = none ∧ (kvs.length : Int) = r := by
  unfold full at h
  rw [Bool.and_eq_true] at h
  refine ⟨?_, of_decide_eq_true h.2⟩
  cases e : getZ kvs n with
  | none => rfl
  | some _ =>
    rw [e] at h
    exact absurd h.1 (by intro z; cases z)
theorem full_yes {r : Int} {n : Str} {kvs : Ct} (h : getZ kvs n = none) (h2 : (kvs.length : Int) = r) : full r n kvs = true := by
  unfold full
  rw [h, decide_eq_true h2]
  rfl
theorem full_no' {r : Int} {n : Str} {kvs : Ct} (h : (getZ kvs n).isSome = true ∨ ¬ (kvs.length : Int) = r) : full r n kvs = false := by
  unfold full
  rcases h with h | h
  · rw [h]
    rfl
  · rw [decide_eq_false h, Bool.and_false]
theorem mn_pos {kvs : Ct} (ne : kvs ≠ []) (pos : ∀ e ∈ kvs, 1 ≤ e.2) : 1 ≤ mnC kvs := by
  obtain ⟨h, _⟩ := mnC_spec ne
  obtain ⟨e, he, h⟩ := List.mem_map.mp h
  rw [← h]
  exact pos e he
theorem ne_of_full {r : Int} {kvs : Ct} (hr : 1 ≤ r) (h : (kvs.length : Int) = r) : kvs ≠ [] := by
  rintro rfl
  have : (0 : Int) = r := h
  omega
theorem feed_lt {r c m o : Int} {n : Str} {kvs : Ct} (hf : full r n kvs = true) (hc : c ≤ mnC kvs) : feedT r n c ⟨m, o, kvs⟩ = ⟨m + c, o + c, takeZ c kvs⟩ := by
  unfold feedT
  dsimp only
  rw [hf, if_pos rfl, if_neg (show ¬ mnC kvs < c by omega), if_neg (show ¬ 0 < c - c by omega)]
theorem feed_gt {r c m o : Int} {n : Str} {kvs : Ct} (hf : full r n kvs = true) (hc : mnC kvs < c) : feedT r n c ⟨m, o, kvs⟩ = ⟨m + c, o + mnC kvs, addZ (takeZ (mnC kvs) kvs) n (c - mnC kvs)⟩ := by
  unfold feedT
  dsimp only
  rw [hf, if_pos rfl, if_pos hc, if_pos (show 0 < c - mnC kvs by omega)]
theorem feed_add {r c m o : Int} {n : Str} {kvs : Ct} (hf : full r n kvs = false) (hc : 0 < c) : feedT r n c ⟨m, o, kvs⟩ = ⟨m + c, o, addZ kvs n c⟩ := by
  unfold feedT
  dsimp only
  rw [hf, if_neg (by decide), if_pos hc]
theorem feed_zero {r : Int} {n : Str} {x : Tl} (ok : TlOk r x) (hr : 1 ≤ r) : feedT r n 0 x = x := by
  obtain ⟨m, o, kvs⟩ := x
  cases hf : full r n kvs with
  | true =>
    obtain ⟨_, hl⟩ := full_of hf
    have h1 := mn_pos (ne_of_full hr hl) ok.pos
    rw [feed_lt hf (by omega), takeZ_zero ok.pos, Int.add_zero, Int.add_zero]
  | false =>
    unfold feedT
    dsimp only
    rw [hf, if_neg (by decide), if_neg (by decide), Int.add_zero]
theorem full_added {r c : Int} {n : Str} {kvs : Ct} : full r n (addZ kvs n c) = false := full_no' (.inl (by unfold addZ; rw [getZ_put, if_pos rfl]; rfl))
theorem full_less {r : Int} {n : Str} {kvs : Ct} (hr : 1 ≤ r) (hl : (kvs.length : Int) = r) : full r n (takeZ (mnC kvs) kvs) = false := full_no' (.inr (by have := takeZ_less (ne_of_full hr hl); omega))
theorem feed_iter {r c : Int} {n : Str} {x : Tl} (ok : TlOk r x) (hr : 1 ≤ r) (hc : 0 ≤ c) : feedT r n (c + 1) x = feedT r n 1 (feedT r n c x) := by
  obtain ⟨m, o, kvs⟩ := x
  have ok0 := ok
  obtain ⟨nd, len, pos, nm⟩ := ok
  dsimp only at nd len pos nm
  have e0 : m + (c + 1) = m + c + 1 := by omega
  by_cases h0 : 0 < c
  · cases hf : full r n kvs with
    | false => rw [feed_add hf (by omega), feed_add hf h0, feed_add full_added (by decide), addZ_addZ, e0]
    | true =>
      obtain ⟨hg, hl⟩ := full_of hf
      have ne := ne_of_full hr hl
      obtain ⟨hm, hle⟩ := mnC_spec ne
      by_cases hcm : c < mnC kvs
      · have hall : ∀ e ∈ kvs, c < e.2 := fun e he => by
          have := hle e.2 (List.mem_map.mpr ⟨e, he, rfl⟩)
          omega
        have ht := takeZ_all hall
        have hy : full r n (takeZ c kvs) = true := full_yes (by rw [getZ_take nd, hg]; rfl) (by rw [ht, List.length_map]; exact hl)
        have hmn : mnC (takeZ c kvs) = mnC kvs - c := by
          refine (mnC_uniq ?_ fun y hy => ?_).symm
          · rw [ht, List.map_map]
            obtain ⟨e, he, h⟩ := List.mem_map.mp hm
            exact List.mem_map.mpr ⟨e, he, by show e.2 - c = _; rw [h]⟩
          · rw [ht, List.map_map] at hy
            obtain ⟨e, he, rfl⟩ := List.mem_map.mp hy
            have := hle e.2 (List.mem_map.mpr ⟨e, he, rfl⟩)
            show mnC kvs - c ≤ e.2 - c
            omega
        rw [feed_lt hf (by omega), feed_lt hf (by omega), feed_lt hy (by omega), takeZ_takeZ (by decide), e0, Int.add_assoc o c 1]
      · by_cases hcm2 : c = mnC kvs
        · rw [feed_gt hf (by omega), feed_lt hf (by omega), hcm2, feed_add (full_less hr hl) (by decide), ← hcm2, e0]
          congr 2
          omega
        · rw [feed_gt hf (by omega), feed_gt hf (by omega), feed_add full_added (by decide), addZ_addZ, e0]
          congr 2
          omega
  · have : c = 0 := by omega
    subst this
    rw [feed_zero ok0 hr]
    rfl
/-! what feeding leaves true -/
/-- of an exact stream: so much was taken off -/
structure Fd (r : Int) (x : Tl) : Prop where
  lost : x.m - sumC x.c = (r + 1) * x.o
  off : 0 ≤ x.o
theorem fd0 (r : Int) : Fd r tl0 := ⟨by show (0 : Int) - 0 = (r + 1) * 0; rw [Int.mul_zero]; rfl, Int.le_refl _⟩
theorem fd_feed {r : Int} {n : Str} {x : Tl} (ok : TlOk r x) (hr : 1 ≤ r) (h : Fd r x) : Fd r (feedT r n 1 x) := by
  obtain ⟨m, o, kvs⟩ := x
  obtain ⟨hl, ho⟩ := h
  dsimp only at hl ho
  cases hf : full r n kvs with
  | false =>
    rw [feed_add hf (by decide)]
    refine ⟨?_, ho⟩
    show m + 1 - sumC (addZ kvs n 1) = _
    rw [sumC_add (show NdZ kvs from ok.nd)]
    show _ = (r + 1) * o
    omega
  | true =>
    obtain ⟨hg, hlen⟩ := full_of hf
    have m1 := mn_pos (ne_of_full hr hlen) ok.pos
    rw [feed_lt hf (by omega)]
    refine ⟨?_, by dsimp only; omega⟩
    show m + 1 - sumC (takeZ 1 kvs) = (r + 1) * (o + 1)
    rw [sumC_take1 (show ∀ e ∈ kvs, 1 ≤ e.2 from ok.pos), Int.mul_add, ← hl, hlen]
    omega
theorem fd_sk {r : Int} {x : Tl} (ok : TlOk r x) (hr1 : 1 ≤ r) (hr2 : r ≤ 64) (h : Fd r x) (hm : 0 ≤ x.m) : skB r x.m x.o (srtZ x.c) = true := by
  have p := srtZ_perm x.c
  have es : sumC (srtZ x.c) = sumC x.c := sumC_perm' p
  have hl := h.lost
  have ho := h.off
  have h2 : (r + 1) * x.o ≤ 2 * r * x.o := Int.mul_le_mul_of_nonneg_right (by omega) ho
  have hlen : ((srtZ x.c).length : Int) ≤ r := by rw [p.length_eq]; exact ok.len
  unfold skB
  rw [es, hl, decide_eq_true hr1, decide_eq_true hr2, decide_eq_true hm, decide_eq_true ho, decide_eq_true hlen, decide_eq_true (Int.le_refl _), decide_eq_true h2]
  rfl
def gd (kvs : Ct) (k : Str) : Int := (getZ kvs k).getD 0
theorem gd_add (kvs : Ct) (n : Str) (c : Int) (k : Str) : gd (addZ kvs n c) k = gd kvs k + if k = n then c else 0 := by
  unfold gd addZ
  rw [getZ_put]
  by_cases h : k = n
  · subst h
    rw [if_pos rfl, if_pos rfl]
    rfl
  · rw [if_neg h, if_neg h, Int.add_zero]
theorem gd_take1 {kvs : Ct} (nd : NdZ kvs) (pos : ∀ e ∈ kvs, 1 ≤ e.2) (k : Str) : gd (takeZ 1 kvs) k = if 0 < gd kvs k then gd kvs k - 1 else 0 := by
  unfold gd
  rw [getZ_take nd]
  cases h : getZ kvs k with
  | none => rfl
  | some v =>
    have hv : 1 ≤ v := by
      have := getZ_pos (n := k) pos
      unfold getZ at h
      cases hh : kvs.find? fun e => decide (e.1 = k) with
      | none => rw [hh] at h; cases h
      | some e =>
        rw [hh] at h
        have h1 := pos e (List.mem_of_find?_eq_some hh)
        have h2 := Option.some.inj h
        have h3 : e.2 = v := h2
        omega
    show (if 1 < v then some (v - 1) else none).getD 0 = if 0 < v then v - 1 else 0
    rw [if_pos (show 0 < v by omega)]
    by_cases h1 : 1 < v
    · rw [if_pos h1]
      rfl
    · rw [if_neg h1]
      show (0 : Int) = v - 1
      omega
/-- the true counts lie from the kept ones to off above -/
def Tru (kc : Ct) (x : Tl) : Prop := ∀ k, 0 ≤ gd kc k - gd x.c k ∧ gd kc k - gd x.c k ≤ x.o
theorem tru0 : Tru [] tl0 := fun k => ⟨Int.le_refl _, Int.le_refl _⟩
theorem tru_feed {r : Int} {n : Str} {x : Tl} {kc : Ct} (ok : TlOk r x) (hr : 1 ≤ r) (h : Tru kc x) : Tru (addZ kc n 1) (feedT r n 1 x) := by
  obtain ⟨m, o, kvs⟩ := x
  intro k
  obtain ⟨a, b⟩ := h k
  dsimp only at a b
  rw [gd_add]
  cases hf : full r n kvs with
  | false =>
    rw [feed_add hf (by decide)]
    dsimp only
    rw [gd_add]
    omega
  | true =>
    obtain ⟨hg, hlen⟩ := full_of hf
    have m1 := mn_pos (ne_of_full hr hlen) ok.pos
    rw [feed_lt hf (by omega)]
    dsimp only
    rw [gd_take1 (show NdZ kvs from ok.nd) (show ∀ e ∈ kvs, 1 ≤ e.2 from ok.pos)]
    have hp : 0 ≤ gd kvs k := getZ_pos ok.pos
    by_cases hk : k = n
    · subst hk
      have : gd kvs k = 0 := by
        unfold gd
        rw [hg]
        rfl
      rw [if_pos rfl, this, if_neg (by decide)]
      omega
    · rw [if_neg hk]
      split <;> omega
end Kb

namespace Kb
open PySem PySem.Spec PyProof.Rows L2 SrtZ SrtO
def S (l : List Nat) : Str := ⟨l.toArray⟩
theorem cs_S (l : List Nat) : cs (S l) = l := by simp [cs, S]
theorem S_cs (z : Str) : S (cs z) = z := by cases z; simp [cs, S]
theorem S_len (l : List Nat) : (S l).length = l.length := by simp [S, Str.length]
theorem cs_app (a b : Str) : cs (a ++ b) = cs a ++ cs b := by
  show (a.cps ++ b.cps).toList = _
  simp [cs]
theorem join0 : ∀ ys : List Str, Str.join (S []) ys = S (ys.map cs).flatten
  | [] => rfl
  | [x] => by
    show x = _
    simp [S_cs]
  | x :: y :: r => by
    show x ++ S [] ++ Str.join (S []) (y :: r) = _
    rw [join0 (y :: r)]
    apply cs_inj
    rw [cs_app, cs_app, cs_S, cs_S, cs_S]
    simp
theorem join_signs (l : List Nat) : Txt.join (S []) (l.map fun c => S [c]) = S l := by
  rw [show Txt.join (S []) (l.map fun c => S [c]) = Str.join (S []) (l.map fun c => S [c]) from PySem.StrLaws.glued_eq_join _ _, join0]
  congr 1
  induction l with
  | nil => rfl
  | cons c l ih =>
    rw [List.map_cons, List.map_cons, List.flatten_cons, ih, cs_S]
    rfl
theorem abc_at : ∀ m : Fin 26, (Str.ofString "abcdefghijklmnopqrstuvwxyz").cps.toList[m.val]? = some (97 + m.val) := by decide +kernel
abbrev snames : Stmt := topS 37
abbrev Nnames : List Str := ["_law_pot_here", "_law_names_here", "_law_many", "_law_turn", "_law_k"]
theorem scnames : FnScope ["_law_pot_here", "_law_names_here", "_law_many", "_law_turn", "_law_k"] ["_law_pot_here"] (defScope snames) := ⟨rfl, rfl, rfl, by decide +kernel, rfl, by decide +kernel, by decide +kernel⟩
abbrev Dnnames (K : PySem.W.Frag) (mg : Str → Option Value) := Dn K mg "_law_names" snames ["_law_pot_here"]
theorem nm_of {z : Str} (h : (decide (1 ≤ z.length) && decide (z.length ≤ 8) && (cs z).all nmC) = true) : Nm z := by
  rw [Bool.and_eq_true, Bool.and_eq_true] at h
  exact ⟨of_decide_eq_true h.1.1, of_decide_eq_true h.1.2, List.all_eq_true.mp h.2⟩
theorem Ex.put {a g s p : Addr} {H H1 : Hp} {u : HO} (x : Ex a g s H H1) (h : H p = none) : Ex a g s H (upd H1 p u) := fun b o n1 n2 n3 e => by
  rw [upd_ne (ne_of_none e h)]
  exact x b o n1 n2 n3 e
theorem Pot.put {a g s p : Addr} {H : Hp} {u : HO} (h : Pot a g s H) (n : p ≠ a ∧ p ≠ g ∧ p ≠ s) : Pot a g s (upd H p u) := by
  obtain ⟨n1, n2, n3, gs, ss, turn, z, e1, e2, e3, r⟩ := h
  exact ⟨n1, n2, n3, gs, ss, turn, z, by rw [upd_ne n.1.symm]; exact e1, by rw [upd_ne n.2.1.symm]; exact e2, by rw [upd_ne n.2.2.symm]; exact e3, r⟩
section
variable {P : Program} {w : World} {K : PySem.W.Frag} {mg : Str → Option Value} {base : Heap}
/-! _law_names -/
def spNames : Sp := fun vs H Q _ => ∃ (a g s : Addr), vs = [.ref a] ∧ Pot a g s H ∧
  ∀ H' l (ns : List Str), Ex a g s H H' → Pot a g s H' → H l = none → H' l = some (.lst (ns.map V.str)) → (∀ z ∈ ns, Nm z) → 0 < ns.length → ns.length ≤ 100 → Q (.ref l) H'
theorem ok_names (T : Blt mg) (nset : mg "set" = none) (ddraw : Dndraw K mg) (dany : Dnany K mg) (d : Dnnames K mg) : FnOk P w K mg base CX0 3 d.f d.fd ["_law_pot_here"] spNames := by
  have Gdraw : FnOk P w K mg base CX0 1 ddraw.f ddraw.fd ["_law_pot_here", "_law_many"] spDraw := ok_draw T ddraw
  have Gany : FnOk P w K mg base CX0 2 dany.f dany.fd ["_law_pot_here", "_law_items"] (spAny K) := ok_any T ddraw dany
  refine d.F.ok scnames (fun vs H Q E h => ?_) (fun cdv A outer s H vs Q E hr h => ?_)
  · obtain ⟨a, g, s, rfl, _⟩ := h
    rfl
  · obtain ⟨a, g, s', rfl, hp, q⟩ := h
    refine ⟨_, (pss_cons (ps_setLc (i := 1) (own := [("_law_turn", 3)]) (g := gName 3) (tt := tYes) rfl scnames.nd rfl rfl (sw_true rfl rfl rfl (by decide +kernel)) (pi_range1 (by rfl) T.n_range (pa_cons pe_int pa_nil)) (blkOk_by (N := Nnames) (sc := defScope snames) (by decide +kernel)) (fun _ _ _ _ _ => pg_name (i := 3) scnames.nd rfl (Or.inl rfl)) (fun _ _ _ _ _ => pts_nil) (fun _ _ _ _ _ => (pe_call Gany (hr.mono (by omega)) (by rfl) dany.g dany.F.kp dany.b .nil pass0 (pa_cons (pv 0) (pa_cons (pe_lst (pa_cons pe_str (pa_cons pe_str (pa_cons pe_str (pa_cons pe_str (pa_cons pe_str pa_nil)))))) pa_nil)))))
    (pss_cons (ps_for PassesOwn.never rfl (pi_range1 (by rfl) T.n_range (pa_cons (pe_call Gany (hr.mono (by omega)) (by rfl) dany.g dany.F.kp dany.b .nil pass0 (pa_cons (pv 0) (pa_cons (pe_lst (pa_cons pe_int (pa_cons pe_int (pa_cons pe_int (pa_cons pe_int (pa_cons pe_int pa_nil)))))) pa_nil))) pa_nil)) (pg_name (i := 3) scnames.nd rfl (Or.inl rfl))
      (pss_cons (ps_set (i := 2) scnames.nd rfl (Or.inl rfl) (pe_op op_add pe_int (pe_call Gdraw (hr.mono (by omega)) (by rfl) ddraw.g ddraw.F.kp ddraw.b .nil pass0 (pa_cons (pv 0) (pa_cons pe_int pa_nil)))))
      (pss_one (ps_expr (pe_bm PySem.F.plainAttrs_list PySem.F.slot_list_append PySem.F.type_list_append mt_append (pv 1) (pa_cons (pe_join pe_str (pe_lc (own := [("_law_k", 4)]) (g := gName 4) (tt := tYes) rfl scnames.nd (pi_range1 (by rfl) T.n_range (pa_cons (pv 2) pa_nil)) (blkOk_by (N := Nnames) (sc := defScope snames) (by decide +kernel)) (fun _ _ _ _ _ => pg_name (i := 4) scnames.nd rfl (Or.inl rfl)) (fun _ _ _ _ _ => pts_nil) (fun _ _ _ _ _ => (pe_ix ix_str pe_str (pe_call Gdraw (hr.mono (by omega)) (by rfl) ddraw.g ddraw.F.kp ddraw.b .nil pass0 (pa_cons (pv 0) (pa_cons pe_int pa_nil))) (fun _ _ => rfl))))) pa_nil))))))
    (pss_one (ps_ret (pe_callB (cr_sortedSS rfl) (by rfl) T.n_sorted (by decide +kernel) (pa_cons (pe_callTy (cr_setOfS rfl) (by rfl) nset (by decide +kernel) (pa_cons (pv 1) pa_nil)) pa_nil)))))), ?_⟩
    refine ⟨2, rfl, by decide, by decide, fun D nD => ?_⟩
    have hD := hp.nea nD
    have p0 : Pot a g s' (upd H D (.lst [])) := hp.same (same_upd nD)
    refine lc_range (lo := 0) (n := 2) (fun i H4 => Ex a g s' H H4 ∧ Pot a g s' H4 ∧ ∃ ns : List Str, H4 D = some (.lst (ns.map V.str)) ∧ ns.length = i ∧ ∀ z ∈ ns, Nm z) ⟨(Ex.refl a g s' H).put nD, p0, [], upd_same, rfl, fun _ h => nomatch h⟩ (fun i H4 hi h4 => ?_) (fun H4 h4 => ?_)
    · obtain ⟨x4, p4, ns, hD4, hns, hnm⟩ := h4
      refine ⟨rfl, .ref a, rfl, (by show 5 ≤ sizeLine; decide), fun b nb => ?_⟩
      have hb := p4.nea nb
      refine ⟨a, g, s', b, _, rfl, p4.same (same_upd nb), hb.1, hb.2.1, hb.2.2, upd_same, (by show 0 < 5; decide), (by show 5 ≤ 1000; decide), fun H5 y x5 p5 hy => ?_⟩
      obtain ⟨z, rfl, hz⟩ : ∃ z, y = .str z ∧ Nm z := by
        simp only [List.mem_cons, List.not_mem_nil, or_false] at hy
        rcases hy with rfl | rfl | rfl | rfl | rfl
        all_goals exact ⟨_, rfl, nm_of (by decide +kernel)⟩
      refine ⟨_, x5 D _ hD.1 hD.2.1 hD.2.2 (same_upd nb _ _ hD4), ?_, Ex.put (fun b' o n1 n2 n3 e => x5 b' o n1 n2 n3 (same_upd nb _ _ (x4 b' o n1 n2 n3 e))) nD, p5.put hD, ns ++ [z], ?_, ?_, fun u hu => ?_⟩
      · rw [List.length_map, hns, sizeLine_eq]
        omega
      · rw [upd_same, List.map_append]
        rfl
      · rw [List.length_append, hns]
        rfl
      · rcases List.mem_append.mp hu with hu | hu
        · exact hnm u hu
        · rw [List.mem_singleton.mp hu]
          exact hz
    obtain ⟨x4, p4, ns, hD4, hns, hnm⟩ := h4
    -- the lot
    refine ⟨.ref a, rfl, (by show 5 ≤ sizeLine; decide), fun b nb => ?_⟩
    have hb := p4.nea nb
    refine ⟨a, g, s', b, _, rfl, p4.same (same_upd nb), hb.1, hb.2.1, hb.2.2, upd_same, (by show 0 < 5; decide), (by show 5 ≤ 1000; decide), fun H5 y x5 p5 hy => ?_⟩
    have hD5 := x5 D _ hD.1 hD.2.1 hD.2.2 (same_upd nb _ _ hD4)
    have x05 : Ex a g s' H H5 := fun b' o n1 n2 n3 e => x5 b' o n1 n2 n3 (same_upd nb _ _ (x4 b' o n1 n2 n3 e))
    obtain ⟨m, rfl, hm⟩ : ∃ m : Nat, y = .int (m : Int) ∧ m ≤ 40 := by
      simp only [List.mem_cons, List.not_mem_nil, or_false] at hy
      rcases hy with rfl | rfl | rfl | rfl | rfl
      · exact ⟨1, rfl, by decide⟩
      · exact ⟨3, rfl, by decide⟩
      · exact ⟨6, rfl, by decide⟩
      · exact ⟨12, rfl, by decide⟩
      · exact ⟨40, rfl, by decide⟩
    refine ⟨m, rfl, by omega, by omega, ?_⟩
    rw [Int.toNat_natCast]
    refine for_range (lo := 0) (n := m) (fun i σ H6 => ∃ y2 y3 y4 : Option V, σ = [some (.ref a), some (.ref D), y2, y3, y4] ∧ Ex a g s' H H6 ∧ Pot a g s' H6 ∧ ∃ ns : List Str, H6 D = some (.lst (ns.map V.str)) ∧ ns.length = 2 + i ∧ ∀ z ∈ ns, Nm z) ⟨_, _, _, rfl, x05, p5, ns, hD5, hns, hnm⟩ ?_ ?_
    · rintro i σ H6 hi ⟨y2, y3, y4, rfl, x6, p6, ns, hD6, hns, hnm⟩
      refine ⟨.ref a, rfl, a, g, s', 3, rfl, p6, (by decide), (by decide), fun H7 c x7 p7 c0 c1 => ⟨_, _, rfl, rfl, ?_⟩⟩
      obtain ⟨cn, rfl⟩ := Int.eq_ofNat_of_zero_le c0
      have hD7 := x7 D _ hD.1 hD.2.1 hD.2.2 hD6
      have x07 := x6.trans x7
      refine ⟨.ref D, rfl, .inl ⟨rfl, _, sql hD7⟩, ⟨_, rfl⟩, .int (1 + (cn : Int)), rfl, ((1 + cn : Nat) : Int), (by push_cast; rfl), (by omega), (by omega), fun D2 nD2 => ?_⟩
      rw [Int.toNat_natCast]
      have hD2 := p7.nea nD2
      have DD2 : D ≠ D2 := ne_of_none hD7 nD2
      have nD20 : H D2 = none := by
        cases e : H D2 with
        | none => rfl
        | some o =>
          have := x07 D2 o hD2.1 hD2.2.1 hD2.2.2 e
          rw [nD2] at this
          cases this
      refine lc_range (lo := 0) (n := 1 + cn) (fun i H8 => Ex a g s' H7 H8 ∧ Pot a g s' H8 ∧ ∃ l : List Nat, H8 D2 = some (.lst (l.map fun c => V.str (S [c]))) ∧ l.length = i ∧ ∀ c ∈ l, nmC c = true) ⟨(Ex.refl a g s' H7).put nD2, p7.same (same_upd nD2), [], upd_same, rfl, fun _ h => nomatch h⟩ (fun i H8 hi h8 => ?_) (fun H8 h8 => ?_)
      · obtain ⟨x8, p8, l, hD8, hl, hc⟩ := h8
        refine ⟨rfl, .ref a, rfl, a, g, s', 26, rfl, p8, (by decide), (by decide), fun H9 c x9 p9 c0 c26 => ?_⟩
        obtain ⟨c, rfl⟩ := Int.eq_ofNat_of_zero_le c0
        have hc26 : c < 26 := by omega
        have hz : (Str.ofString "abcdefghijklmnopqrstuvwxyz").length ≤ sizeLine := by
          rw [show (Str.ofString "abcdefghijklmnopqrstuvwxyz").length = 26 by decide +kernel, sizeLine_eq]
          decide
        refine ⟨_, _, _, rfl, rfl, hz, atI_nat (abc_at ⟨c, hc26⟩), _, x9 D2 _ hD2.1 hD2.2.1 hD2.2.2 hD8, ?_, (x8.trans x9).put nD2, p9.put hD2, l ++ [97 + c], ?_, ?_, fun u hu => ?_⟩
        · rw [List.length_map, hl, sizeLine_eq]
          omega
        · rw [upd_same, List.map_append]
          rfl
        · rw [List.length_append, hl]
          rfl
        · rcases List.mem_append.mp hu with hu | hu
          · exact hc u hu
          · rw [List.mem_singleton.mp hu]
            unfold nmC
            simp
            omega
      obtain ⟨x8, p8, l, hD8, hl, hc⟩ := h8
      have ej : Txt.join (Str.ofString "") (l.map fun c => S [c]) = S l := join_signs l
      refine ⟨_, D2, l.map fun c => S [c], rfl, rfl, .inl (sql (by rw [hD8, List.map_map]; rfl)), ?_, ?_⟩
      · rw [List.map_map, List.length_map]
        have : ((List.map ((fun x => x.length) ∘ fun c => S [c]) l)).sum = l.length := by
          clear hl hc hD8 ej
          induction l with
          | nil => rfl
          | cons x r ih =>
            rw [List.map_cons, List.sum_cons, ih, List.length_cons]
            show 1 + _ = _
            omega
        rw [this]
        show l.length + l.length * 0 ≤ 16777216
        omega
      · rw [ej]
        have hD8b := x8 D _ hD.1 hD.2.1 hD.2.2 hD7
        refine ⟨D, _, _, rfl, rfl, hD8b, ?_, _, _, _, rfl, Ex.put (x07.trans x8) nD, p8.put hD, ns ++ [S l], ?_, ?_, fun u hu => ?_⟩
        · rw [List.length_map, hns, sizeLine_eq]
          omega
        · rw [upd_same, List.map_append]
          rfl
        · rw [List.length_append, hns]
          rfl
        · rcases List.mem_append.mp hu with hu | hu
          · exact hnm u hu
          · rw [List.mem_singleton.mp hu]
            exact ⟨by rw [S_len]; omega, by rw [S_len]; omega, by rw [cs_S]; exact hc⟩
    · rintro σ H6 ⟨y2, y3, y4, rfl, x6, p6, ns, hD6, hns, hnm⟩
      refine ⟨.ref D, rfl, D, ns, rfl, sql hD6, (by omega), fun st n nst hn => ?_⟩
      refine ⟨st, _, n, rfl, upd_same, (by omega), fun ys l hsrt hmem hlen nl => ?_⟩
      have s7 : Same H6 (upd (upd H6 st (SetS P w st (hasZ ns ns.length) n)) l (.lst (ys.map V.str))) := Same.new (same_upd nst) nl
      have hmem2 : ∀ z, z ∈ ys ↔ z ∈ ns := fun z => by
        rw [hmem z]
        unfold hasZ
        rw [List.take_length, List.any_eq_true]
        exact ⟨fun ⟨x, hx, h⟩ => of_decide_eq_true h ▸ hx, fun h => ⟨z, h, decide_eq_true rfl⟩⟩
      refine q _ l ys (x6.same s7) (p6.same s7) ?_ upd_same (fun z hz => hnm z ((hmem2 z).mp hz)) ?_ (by omega)
      · cases e : H l with
        | none => rfl
        | some o =>
          have nl6 : H6 l = none := Same.gone (same_upd nst) nl
          have hl := p6.nea nl6
          have := x6 l o hl.1 hl.2.1 hl.2.2 e
          rw [nl6] at this
          cases this
      · cases hys : ys with
        | cons _ _ => exact Nat.succ_pos _
        | nil =>
          cases hnn : ns with
          | nil => rw [hnn] at hns; exact absurd hns (by show ¬ 0 = 2 + m; omega)
          | cons z r =>
            have := (hmem2 z).mpr (by rw [hnn]; exact List.mem_cons_self)
            rw [hys] at this
            cases this
end
end Kb

namespace Kb
open PySem PySem.Spec PyProof.Rows L2 SrtZ SrtO
abbrev sstream : Stmt := topS 38
abbrev Nstream : List Str := ["_law_pot_here", "_law_names_here", "_law_most", "_law_many", "_law_way", "_law_few", "_law_turn", "_law_k"]
theorem scstream : FnScope ["_law_pot_here", "_law_names_here", "_law_most", "_law_many", "_law_way", "_law_few", "_law_turn", "_law_k"] ["_law_pot_here", "_law_names_here", "_law_most"] (defScope sstream) := ⟨rfl, rfl, rfl, by decide +kernel, rfl, by decide +kernel, by decide +kernel⟩
abbrev Dnstream (K : PySem.W.Frag) (mg : Str → Option Value) := Dn K mg "_law_stream" sstream ["_law_pot_here", "_law_names_here", "_law_most"]
def rLenK (K : PySem.W.Frag) : List V → Hp → VK → Prop := fun xs H Q => ∃ p ys, xs = [V.ref p] ∧ (SqL K H p ys ∨ SqT K H p ys) ∧ Q (V.int (ys.length : Int)) H
/-- a list of names beside the pot -/
structure Lot (a g s : Addr) (H : Hp) (l : Addr) (ns : List Str) : Prop where
  ne : l ≠ a ∧ l ≠ g ∧ l ≠ s
  at_ : H l = some (.lst (ns.map V.str))
  pos : 0 < ns.length
  len : ns.length ≤ 100
  nm : ∀ z ∈ ns, Nm z
theorem Lot.ex {a g s l : Addr} {H H' : Hp} {ns : List Str} (h : Lot a g s H l ns) (x : Ex a g s H H') : Lot a g s H' l ns := ⟨h.ne, x l _ h.ne.1 h.ne.2.1 h.ne.2.2 h.at_, h.pos, h.len, h.nm⟩
theorem Lot.same {a g s l : Addr} {H H' : Hp} {ns : List Str} (h : Lot a g s H l ns) (x : Same H H') : Lot a g s H' l ns := ⟨h.ne, x _ _ h.at_, h.pos, h.len, h.nm⟩
theorem ex_gone {a g s p : Addr} {H H1 : Hp} (x : Ex a g s H H1) (h : Pot a g s H1) (hp : H1 p = none) : H p = none := by
  cases e : H p with
  | none => rfl
  | some o =>
    have n := h.nea hp
    have := x p o n.1 n.2.1 n.2.2 e
    rw [hp] at this
    cases this
section
variable {P : Program} {w : World} {K : PySem.W.Frag} {mg : Str → Option Value} {base : Heap}
/-! _law_stream -/
def spStream : Sp := fun vs H Q _ => ∃ (a g s l : Addr) (ns : List Str) (m : Int), vs = [.ref a, .ref l, .int m] ∧ Pot a g s H ∧ Lot a g s H l ns ∧ 0 ≤ m ∧ m ≤ 400 ∧
  ∀ H' t (zs : List Str), Ex a g s H H' → Pot a g s H' → H t = none → H' t = some (.tup (zs.map V.str)) → (∀ z ∈ zs, Nm z) → zs.length ≤ 400 → Q (.ref t) H'
theorem ok_stream (T : Blt mg) (ddraw : Dndraw K mg) (dany : Dnany K mg) (d : Dnstream K mg) : FnOk P w K mg base CX0 3 d.f d.fd ["_law_pot_here", "_law_names_here", "_law_most"] spStream := by
  have Gdraw : FnOk P w K mg base CX0 1 ddraw.f ddraw.fd ["_law_pot_here", "_law_many"] spDraw := ok_draw T ddraw
  have Gany : FnOk P w K mg base CX0 2 dany.f dany.fd ["_law_pot_here", "_law_items"] (spAny K) := ok_any T ddraw dany
  refine d.F.ok scstream (fun vs H Q E h => ?_) (fun cdv A outer s H vs Q E hr h => ?_)
  · obtain ⟨a, g, s, l, ns, m, rfl, _⟩ := h
    rfl
  · obtain ⟨a, g, s', l, ns, m, rfl, hp, lot, hm0, hm1, q⟩ := h
    refine ⟨_, (pss_cons (ps_set (i := 3) scstream.nd rfl (Or.inl rfl) (pe_call Gdraw (hr.mono (by omega)) (by rfl) ddraw.g ddraw.F.kp ddraw.b .nil pass0 (pa_cons (pv 0) (pa_cons (pe_op op_add (pv 2) pe_int) pa_nil))))
    (pss_cons (ps_set (i := 4) scstream.nd rfl (Or.inl rfl) (pe_call Gdraw (hr.mono (by omega)) (by rfl) ddraw.g ddraw.F.kp ddraw.b .nil pass0 (pa_cons (pv 0) (pa_cons pe_int pa_nil))))
    (pss_cons (ps_if (pt_cmpR op_eq (pv 4) pe_int (nomark _))
      (pss_one (ps_ret (pe_callTy call_tuple_of (by rfl) T.n_tuple (by decide +kernel) (pa_cons (pe_lc (own := [("_law_k", 7)]) (g := gName 7) (tt := tYes) rfl scstream.nd (pi_range1 (by rfl) T.n_range (pa_cons (pv 3) pa_nil)) (blkOk_by (N := Nstream) (sc := defScope sstream) (by decide +kernel)) (fun _ _ _ _ _ => pg_name (i := 7) scstream.nd rfl (Or.inl rfl)) (fun _ _ _ _ _ => pts_nil) (fun _ _ _ _ _ => (pe_ix (r := rIxL K) ix_list (pv 1) (pe_op op_modB (pe_callTy call_int1 (by rfl) T.n_int (by decide +kernel) (pa_cons (pv 7) pa_nil)) (pe_callB (r := rLenK K) call_len_seq (by rfl) T.n_len PySem.boot_len (pa_cons (pv 1) pa_nil))) (fun _ _ => rfl)))) pa_nil))))
      pss_nil)
    (pss_cons (ps_if (pt_cmpR op_eq (pv 4) pe_int (nomark _))
      (pss_cons (ps_asg (pe_lc (own := [("_law_turn", 6)]) (g := gName 6) (tt := tYes) rfl scstream.nd (pi_range1 (by rfl) T.n_range (pa_cons pe_int pa_nil)) (blkOk_by (N := Nstream) (sc := defScope sstream) (by decide +kernel)) (fun _ _ _ _ _ => pg_name (i := 6) scstream.nd rfl (Or.inl rfl)) (fun _ _ _ _ _ => pts_nil) (fun _ _ _ _ _ => (pe_call Gany (hr.mono (by omega)) (by rfl) dany.g dany.F.kp dany.b .nil pass0 (pa_cons (pv 0) (pa_cons (pv 1) pa_nil))))) (pg_name (i := 5) scstream.nd rfl (Or.inr rfl)))
      (pss_one (ps_ret (pe_callTy call_tuple_of (by rfl) T.n_tuple (by decide +kernel) (pa_cons (pe_lc (own := [("_law_k", 7)]) (g := gName 7) (tt := tYes) rfl scstream.nd (pi_range1 (by rfl) T.n_range (pa_cons (pv 3) pa_nil)) (blkOk_by (N := Nstream) (sc := defScope sstream) (by decide +kernel)) (fun _ _ _ _ _ => pg_name (i := 7) scstream.nd rfl (Or.inl rfl)) (fun _ _ _ _ _ => pts_nil) (fun _ _ _ _ _ => (pe_call Gany (hr.mono (by omega)) (by rfl) dany.g dany.F.kp dany.b .nil pass0 (pa_cons (pv 0) (pa_cons (pe_ifExp (pt_cmpR op_gt (pe_call Gdraw (hr.mono (by omega)) (by rfl) ddraw.g ddraw.F.kp ddraw.b .nil pass0 (pa_cons (pv 0) (pa_cons pe_int pa_nil))) pe_int (nomark _)) (pv 5) (pv 1)) pa_nil))))) pa_nil)))))
      pss_nil)
    (pss_one (ps_ret (pe_callTy call_tuple_of (by rfl) T.n_tuple (by decide +kernel) (pa_cons (pe_lc (own := [("_law_k", 7)]) (g := gName 7) (tt := tYes) rfl scstream.nd (pi_range1 (by rfl) T.n_range (pa_cons (pv 3) pa_nil)) (blkOk_by (N := Nstream) (sc := defScope sstream) (by decide +kernel)) (fun _ _ _ _ _ => pg_name (i := 7) scstream.nd rfl (Or.inl rfl)) (fun _ _ _ _ _ => pts_nil) (fun _ _ _ _ _ => (pe_call Gany (hr.mono (by omega)) (by rfl) dany.g dany.F.kp dany.b .nil pass0 (pa_cons (pv 0) (pa_cons (pv 1) pa_nil))))) pa_nil)))))))), ?_⟩
    refine ⟨.ref a, rfl, .int m, rfl, _, _, rfl, rfl, a, g, s', _, rfl, hp, (by omega), (by omega), fun H1 n x1 p1 n0 n1 => ?_⟩
    obtain ⟨n, rfl⟩ := Int.eq_ofNat_of_zero_le n0
    have hn : n ≤ 400 := by omega
    refine ⟨.ref a, rfl, a, g, s', 4, rfl, p1, (by decide), (by decide), fun H2 y x2 p2 y0 y1 => ?_⟩
    have x02 := x1.trans x2
    have lot2 := lot.ex x02
    -- what a comprehension of drawn items leads to
    have fin : ∀ (H3 : Hp) (D : Addr) (zs : List Str), H2 D = none → Ex a g s' H2 H3 → Pot a g s' H3 → H3 D = some (.lst (zs.map V.str)) → zs.length = n → (∀ z ∈ zs, Nm z) → ∀ t, H3 t = none → Q (.ref t) (upd H3 t (.tup (zs.map V.str))) := fun H3 D zs nD x3 p3 hD hl hnm t nt =>
      q _ t zs ((x02.trans x3).same (same_upd nt)) (p3.same (same_upd nt)) (ex_gone (x02.trans x3) p3 nt) upd_same hnm (by omega)
    refine ⟨.int y, rfl, rfl, _, rfl, ite2 (fun _ => ?_) fun _ => ?_⟩
    · refine ⟨.int (n : Int), rfl, n, rfl, by omega, by omega, fun D nD => ?_⟩
      rw [Int.toNat_natCast]
      have hD := p2.nea nD
      refine lc_range (lo := 0) (n := n) (fun i H3 => Same H2 H3 ∧ ∃ zs : List Str, H3 D = some (.lst (zs.map V.str)) ∧ zs.length = i ∧ ∀ z ∈ zs, Nm z) ⟨same_upd nD, [], upd_same, rfl, fun _ h => nomatch h⟩ (fun i H3 hi h3 => ?_) (fun H3 h3 => ?_)
      · obtain ⟨s3, zs, hD3, hl, hnm⟩ := h3
        have lot3 := lot2.same s3
        refine ⟨rfl, .ref l, rfl, .int (0 + (i : Int)), rfl, .inl ⟨_, rfl, .ref l, rfl, l, _, rfl, .inl (sql lot3.at_), _, _, rfl, rfl, (by rw [List.length_map]; have := lot3.pos; omega), fun k k0 k1 _ => ?_⟩⟩
        obtain ⟨k, rfl⟩ := Int.eq_ofNat_of_zero_le k0
        rw [List.length_map] at k1
        have hk : k < ns.length := by omega
        refine ⟨l, _, _, .str ns[k], rfl, rfl, sql lot3.at_, atI_nat (by rw [List.getElem?_map, List.getElem?_eq_getElem hk]; rfl), _, hD3, ?_, Same.put s3 nD, zs ++ [ns[k]], ?_, ?_, fun u hu => ?_⟩
        · rw [List.length_map, hl, sizeLine_eq]
          omega
        · rw [upd_same, List.map_append]
          rfl
        · rw [List.length_append, hl]
          rfl
        · rcases List.mem_append.mp hu with hu | hu
          · exact hnm u hu
          · rw [List.mem_singleton.mp hu]
            exact lot3.nm _ (List.getElem_mem hk)
      · obtain ⟨s3, zs, hD3, hl, hnm⟩ := h3
        exact ⟨D, _, rfl, .inl ⟨sql hD3, fun t nt => fin H3 D zs nD (Ex.refl a g s' H2 |>.same s3) (p2.same s3) hD3 hl hnm t nt⟩⟩
    · refine ⟨.int y, rfl, rfl, _, rfl, ite2 (fun _ => ?_) fun _ => ?_⟩
      · refine ⟨3, rfl, by decide, by decide, fun D nD => ?_⟩
        have hD := p2.nea nD
        refine lc_range (lo := 0) (n := 3) (fun i H3 => Ex a g s' H2 H3 ∧ Pot a g s' H3 ∧ ∃ zs : List Str, H3 D = some (.lst (zs.map V.str)) ∧ zs.length = i ∧ ∀ z ∈ zs, Nm z) ⟨(Ex.refl a g s' H2).put nD, p2.same (same_upd nD), [], upd_same, rfl, fun _ h => nomatch h⟩ (fun i H3 hi h3 => ?_) (fun H3 h3 => ?_)
        · obtain ⟨x3, p3, zs, hD3, hl, hnm⟩ := h3
          have lot3 := lot2.ex x3
          refine ⟨rfl, .ref a, rfl, .ref l, rfl, a, g, s', l, _, rfl, p3, lot3.ne.1, lot3.ne.2.1, lot3.ne.2.2, lot3.at_, (by rw [List.length_map]; exact lot3.pos), (by rw [List.length_map]; have := lot3.len; omega), fun H4 v x4 p4 hv => ?_⟩
          obtain ⟨z, hz, rfl⟩ := List.mem_map.mp hv
          refine ⟨_, x4 D _ hD.1 hD.2.1 hD.2.2 hD3, ?_, (x3.trans x4).put nD, p4.put hD, zs ++ [z], ?_, ?_, fun u hu => ?_⟩
          · rw [List.length_map, hl, sizeLine_eq]
            omega
          · rw [upd_same, List.map_append]
            rfl
          · rw [List.length_append, hl]
            rfl
          · rcases List.mem_append.mp hu with hu | hu
            · exact hnm u hu
            · rw [List.mem_singleton.mp hu]
              exact lot3.nm _ hz
        · obtain ⟨x3, p3, few, hD3, hl3, hnm3⟩ := h3
          have lotF : Lot a g s' H3 D few := ⟨hD, hD3, by omega, by omega, hnm3⟩
          refine ⟨.int (n : Int), rfl, n, rfl, by omega, by omega, fun D2 nD2 => ?_⟩
          rw [Int.toNat_natCast]
          have hD2 := p3.nea nD2
          refine lc_range (lo := 0) (n := n) (fun i H5 => Ex a g s' H3 H5 ∧ Pot a g s' H5 ∧ ∃ zs : List Str, H5 D2 = some (.lst (zs.map V.str)) ∧ zs.length = i ∧ ∀ z ∈ zs, Nm z) ⟨(Ex.refl a g s' H3).put nD2, p3.same (same_upd nD2), [], upd_same, rfl, fun _ h => nomatch h⟩ (fun i H5 hi h5 => ?_) (fun H5 h5 => ?_)
          · obtain ⟨x5, p5, zs, hD5, hl, hnm⟩ := h5
            refine ⟨rfl, .ref a, rfl, .ref a, rfl, a, g, s', 3, rfl, p5, (by decide), (by decide), fun H6 c x6 p6 c0 c1 => ?_⟩
            have hD6 := x6 D2 _ hD2.1 hD2.2.1 hD2.2.2 hD5
            have x36 := x5.trans x6
            have lotF6 := lotF.ex x36
            have lot6 := lot2.ex (x3.trans x36)
            have go : ∀ {L : Addr} {ms : List Str}, Lot a g s' H6 L ms → spAny K [.ref a, .ref L] H6 (fun y H7 => ∃ acc, H7 D2 = some (.lst acc) ∧ acc.length < sizeLine ∧ (Ex a g s' H3 (upd H7 D2 (.lst (acc ++ [y]))) ∧ Pot a g s' (upd H7 D2 (.lst (acc ++ [y]))) ∧ ∃ zs : List Str, (upd H7 D2 (.lst (acc ++ [y]))) D2 = some (.lst (zs.map V.str)) ∧ zs.length = i + 1 ∧ ∀ z ∈ zs, Nm z)) E := fun {L ms} lt => by
              refine ⟨a, g, s', L, _, rfl, p6, lt.ne.1, lt.ne.2.1, lt.ne.2.2, lt.at_, (by rw [List.length_map]; exact lt.pos), (by rw [List.length_map]; have := lt.len; omega), fun H7 v x7 p7 hv => ?_⟩
              obtain ⟨z, hz, rfl⟩ := List.mem_map.mp hv
              refine ⟨_, x7 D2 _ hD2.1 hD2.2.1 hD2.2.2 hD6, ?_, (x36.trans x7).put nD2, p7.put hD2, zs ++ [z], ?_, ?_, fun u hu => ?_⟩
              · rw [List.length_map, hl, sizeLine_eq]
                omega
              · rw [upd_same, List.map_append]
                rfl
              · rw [List.length_append, hl]
                rfl
              · rcases List.mem_append.mp hu with hu | hu
                · exact hnm u hu
                · rw [List.mem_singleton.mp hu]
                  exact lt.nm _ hz
            exact ⟨_, _, rfl, rfl, _, rfl, ite2 (fun _ => ⟨.ref D, rfl, go lotF6⟩) fun _ => ⟨.ref l, rfl, go lot6⟩⟩
          · obtain ⟨x5, p5, zs, hD5, hl, hnm⟩ := h5
            exact ⟨D2, _, rfl, .inl ⟨sql hD5, fun t nt => q _ t zs ((x02.trans (x3.trans x5)).same (same_upd nt)) (p5.same (same_upd nt)) (ex_gone (x02.trans (x3.trans x5)) p5 nt) upd_same hnm (by omega)⟩⟩
      · refine ⟨.int (n : Int), rfl, n, rfl, by omega, by omega, fun D nD => ?_⟩
        rw [Int.toNat_natCast]
        have hD := p2.nea nD
        refine lc_range (lo := 0) (n := n) (fun i H3 => Ex a g s' H2 H3 ∧ Pot a g s' H3 ∧ ∃ zs : List Str, H3 D = some (.lst (zs.map V.str)) ∧ zs.length = i ∧ ∀ z ∈ zs, Nm z) ⟨(Ex.refl a g s' H2).put nD, p2.same (same_upd nD), [], upd_same, rfl, fun _ h => nomatch h⟩ (fun i H3 hi h3 => ?_) (fun H3 h3 => ?_)
        · obtain ⟨x3, p3, zs, hD3, hl, hnm⟩ := h3
          have lot3 := lot2.ex x3
          refine ⟨rfl, .ref a, rfl, .ref l, rfl, a, g, s', l, _, rfl, p3, lot3.ne.1, lot3.ne.2.1, lot3.ne.2.2, lot3.at_, (by rw [List.length_map]; exact lot3.pos), (by rw [List.length_map]; have := lot3.len; omega), fun H4 v x4 p4 hv => ?_⟩
          obtain ⟨z, hz, rfl⟩ := List.mem_map.mp hv
          refine ⟨_, x4 D _ hD.1 hD.2.1 hD.2.2 hD3, ?_, (x3.trans x4).put nD, p4.put hD, zs ++ [z], ?_, ?_, fun u hu => ?_⟩
          · rw [List.length_map, hl, sizeLine_eq]
            omega
          · rw [upd_same, List.map_append]
            rfl
          · rw [List.length_append, hl]
            rfl
          · rcases List.mem_append.mp hu with hu | hu
            · exact hnm u hu
            · rw [List.mem_singleton.mp hu]
              exact lot3.nm _ hz
        · obtain ⟨x3, p3, zs, hD3, hl, hnm⟩ := h3
          exact ⟨D, _, rfl, .inl ⟨sql hD3, fun t nt => fin H3 D zs nD x3 p3 hD3 hl hnm t nt⟩⟩
end
end Kb

namespace Kb
open PySem PySem.Spec PyProof.Rows L2 SrtZ SrtO
abbrev sfed : Stmt := topS 41
abbrev Nfed : List Str := ["_law_room", "_law_state", "_law_name", "_law_off", "_law_counts", "_law_later", "_law_other"]
theorem scfed : FnScope ["_law_room", "_law_state", "_law_name", "_law_off", "_law_counts", "_law_later", "_law_other"] ["_law_room", "_law_state", "_law_name"] (defScope sfed) := ⟨rfl, rfl, rfl, by decide +kernel, rfl, by decide +kernel, by decide +kernel⟩
abbrev Dnfed (K : PySem.W.Frag) (mg : Str → Option Value) := Dn K mg "_law_fed" sfed ["_law_room", "_law_state", "_law_name"]
section
variable {P : Program} {w : World} {K : PySem.W.Frag} {mg : Str → Option Value} {base : Heap}
/-! _law_fed -/
def spFedL (K : PySem.W.Frag) : Sp := fun vs H Q _ => ∃ (r : Int) (st d : Addr) (n : Str) (x : Tl), vs = [.int r, .ref st, .str n] ∧ SqT K H st [.int x.o, .ref d] ∧ H d = some (.dK (x.c.map entZ)) ∧ TlOk r x ∧ 1 ≤ r ∧ r ≤ 64 ∧
  ∀ H' st' d', Same H H' → H st' = none → H d' = none → H' st' = some (.tup [.int (feedT r n 1 x).o, .ref d']) → H' d' = some (.dK ((feedT r n 1 x).c.map entZ)) → Q (.ref st') H'
theorem ok_fedL (T : Blt mg) (d : Dnfed K mg) : FnOk P w K mg base CX0 1 d.f d.fd ["_law_room", "_law_state", "_law_name"] (spFedL K) := by
  refine d.F.ok scfed (fun vs H Q E h => ?_) (fun cdv A outer s H vs Q E hr h => ?_)
  · obtain ⟨r, st, dd, n, x, rfl, _⟩ := h
    rfl
  · obtain ⟨r, st, dd, n, ⟨m, o, kvs⟩, rfl, hst, hd, ok, hr1, hr2, q⟩ := h
    dsimp only at hst hd
    have hu := hu_of hr
    refine ⟨_, (pss_cons (ps_asg (pv 1) (pg_tup (by rfl) (pgs_cons (pg_name (i := 3) scfed.nd rfl (Or.inl rfl)) (pgs_cons (pg_name (i := 4) scfed.nd rfl (Or.inl rfl)) pgs_nil))))
    (pss_cons (ps_asg (pe_callTy call_dictD (by rfl) T.n_dict (by decide +kernel) (pa_cons (pv 4) pa_nil)) (pg_name (i := 5) scfed.nd rfl (Or.inr rfl)))
    (pss_cons (ps_if (PW.pt (pw_or (pt_cmp (pc_din hu (pv 2) (pv 5))) (pw_or1 (pt_cmpR op_lt (pe_callB call_lenD (by rfl) T.n_len (by decide +kernel) (pa_cons (pv 5) pa_nil)) (pv 0) (nomark _)))))
      (pss_cons (ps_dput hu (pv 5) (pv 2) (pe_op op_add (pe_dget2 hu (pv 5) (pv 2) pe_int ⟨rfl, rfl, rfl, rfl⟩) pe_int) rfl)
      (pss_one (ps_ret (pe_tup (pa_cons (pv 3) (pa_cons (pv 5) pa_nil))))))
      pss_nil)
    (pss_one (ps_ret (pe_tup (pa_cons (pe_op op_add (pv 3) pe_int) (pa_cons (pe_callTy (call_dictP rfl) (by rfl) T.n_dict (by decide +kernel) (pa_cons (pe_lock (pe_lc (own := [("_law_other", 6)]) (g := gName 6) rfl scfed.nd (pi_keys (pv 5)) (blkOk_by (N := Nfed) (sc := defScope sfed) (by decide +kernel)) (fun _ _ _ _ _ => pg_name (i := 6) scfed.nd rfl (Or.inl rfl)) (fun _ _ _ _ _ => pts_one (pt_cmpR op_gt (pe_dget hu (pv 5) (pv 6) (fun _ _ => rfl)) pe_int (nomark _))) (fun _ _ _ _ _ => (pe_tup (pa_cons (pv 6) (pa_cons (pe_op op_sub (pe_dget hu (pv 5) (pv 6) (fun _ _ => rfl)) pe_int) pa_nil)))))) pa_nil)) pa_nil)))))))), ?_⟩
    refine ⟨.ref st, rfl, st, _, rfl, hst, rfl, _, _, rfl, _, _, rfl, rfl, ?_⟩
    refine ⟨.ref dd, rfl, dd, kvs.map entZ, rfl, .inl hd, fun p np => ?_⟩
    have hp : (upd H p (.dK (kvs.map entZ))) p = some (.dK (kvs.map entZ)) := upd_same
    have s1 : Same H (upd H p (.dK (kvs.map entZ))) := same_upd np
    generalize upd H p (.dK (kvs.map entZ)) = H1 at hp s1 ⊢
    have hlen : kvs.length ≤ 64 := by
      have : (kvs.length : Int) ≤ r := ok.len
      omega
    refine ⟨.str n, rfl, .ref p, rfl, p, _, rfl, DGet.k (k := Sum.inr n) hp, _, rfl, ?_⟩
    rw [getZ_val]
    cases hf : full r n kvs with
    | false =>
      cases hg : getZ kvs n
      case' none =>
        refine iteF ⟨.ref p, rfl, p, _, rfl, hp, .int r, rfl, _, _, rfl, rfl, true, congrArg V.bl (decide_eq_true (by
          rw [List.length_map]
          have h1 : (kvs.length : Int) ≤ r := ok.len
          have h2 : ¬ (kvs.length : Int) = r := fun z => by
            rw [full_yes hg z] at hf
            cases hf
          omega)), iteT ?_⟩
      case' some v => refine iteT ?_
      all_goals
        refine ⟨.ref p, rfl, p, rfl, .inl ⟨_, .inl hp⟩, .str n, rfl, _, DGet.k (k := Sum.inr n) hp, ?_⟩
        rw [getZ_val]
        refine ⟨(getZ kvs n).getD 0, 1, ?_, rfl, ?_⟩
        · cases getZ kvs n <;> rfl
        · refine ⟨.ref p, rfl, .str n, rfl, p, _, rfl, DPut.k (k := Sum.inr n) hp (by rw [List.length_map, sizeLine_eq]; omega), ?_⟩
          rw [putZ_put]
          rw [feed_add hf (by decide)] at q
          dsimp only at q
          refine ⟨.int o, rfl, .ref p, rfl, (by show 2 ≤ sizeLine; decide), fun t nt => ?_⟩
          have tp : p ≠ t := ne_of_none upd_same nt
          exact q _ t p (Same.new (Same.put s1 np) nt) (Same.gone (Same.put s1 np) nt) np upd_same (by rw [upd_ne tp]; exact upd_same)
    | true =>
      obtain ⟨hg, hl⟩ := full_of hf
      have m1 := mn_pos (ne_of_full hr1 hl) ok.pos
      rw [feed_lt hf m1] at q
      dsimp only at q
      rw [hg]
      refine iteF ⟨.ref p, rfl, p, _, rfl, hp, .int r, rfl, _, _, rfl, rfl, false, congrArg V.bl (decide_eq_false (by rw [List.length_map]; omega)), iteF ?_⟩
      refine ⟨.int o, rfl, _, _, rfl, rfl, p, _, hp, trivial, fun od => ?_⟩
      refine ⟨.ref p, rfl, p, od, rfl, .inl ⟨_, upd_same, fun D nD => ?_⟩⟩
      generalize hHl : upd H1 p (.frz od (.dK (kvs.map entZ))) = Hl at nD ⊢
      have hld : Hl p = some (.frz od (.dK (kvs.map entZ))) := by rw [← hHl]; exact upd_same
      have dD : p ≠ D := ne_of_none hld nD
      have nD1 : H1 D = none := by
        rw [← hHl, upd_ne dD.symm] at nD
        exact nD
      refine lc_it (walk_keys (kvs := kvs.map entZ)) (fun i H3 => Same Hl H3 ∧ ∃ ts : List Addr, H3 D = some (.lst (ts.map V.ref)) ∧ ts.length ≤ i ∧ Paired (PrT H3) ts (takeZ 1 (kvs.take i)))
        ⟨same_upd nD, [], upd_same, Nat.le_refl _, .nil⟩ (fun i H3 _ h3 => h3.1 _ _ hld) (fun i x H3 H4 hi h3 y => ?_) (fun H3 h3 => ?_)
      · obtain ⟨rfl, k, v, hkv, rfl⟩ := y
        obtain ⟨e, he, hkv2⟩ := map_at hkv
        cases hkv2
        obtain ⟨s3, ts, hD, htl, hpr⟩ := h3
        have dg : DGet H4 p (.str e.1) (some (.int e.2)) := .inl ⟨kvs.map entZ, Sum.inr e.1, .inr ⟨od, s3 _ _ hld⟩, rfl, by
          rw [getZ_val, getZ_self ok.nd he]
          rfl⟩
        refine ⟨rfl, .ref p, rfl, .str e.1, rfl, p, .int e.2, rfl, dg, _, _, rfl, rfl, _, rfl, ite2 (fun hgt => ?_) fun hgt => ?_⟩
        · have hgt := of_decide_eq_true hgt
          refine ⟨.str e.1, rfl, .ref p, rfl, .str e.1, rfl, p, .int e.2, rfl, dg, _, _, rfl, rfl, (by show 2 ≤ sizeLine; decide), fun t nt => ?_⟩
          have Dp : D ≠ t := ne_of_none hD nt
          refine ⟨_, by rw [upd_ne Dp]; exact hD, ?_, Same.put (Same.new s3 nt) nD, ts ++ [t], by rw [upd_same, List.map_append]; rfl, by rw [List.length_append, List.length_singleton]; omega, ?_⟩
          · rw [List.length_map, sizeLine_eq]
            rw [List.length_map] at hi
            omega
          · rw [List.take_add_one, he]
            show Paired _ _ (takeZ 1 (kvs.take i ++ [e]))
            rw [takeZ_snoc, if_pos (show 1 < e.2 by omega)]
            refine paired_snoc (paired_imp (fun t e' ht => ?_) hpr) ?_
            · show _ = _
              rw [upd_ne (ne_of ht hD (by intro z; cases z)), upd_ne (ne_of_none ht nt)]
              exact ht
            · show _ = _
              rw [upd_ne Dp.symm]
              exact upd_same
        · have hgt : ¬ 1 < e.2 := fun z => hgt (decide_eq_true z)
          refine ⟨s3, ts, hD, by omega, ?_⟩
          rw [List.take_add_one, he]
          show Paired _ _ (takeZ 1 (kvs.take i ++ [e]))
          rw [takeZ_snoc, if_neg hgt, List.append_nil]
          exact hpr
      · obtain ⟨s3, ts, hD, htl, hpr⟩ := h3
        rw [List.length_map, List.take_length] at hpr
        refine ⟨s3 _ _ hld, ?_⟩
        have hpr5 : Paired (PrT (upd H3 p (.dK (kvs.map entZ)))) ts (takeZ 1 kvs) := paired_imp (fun t e' ht => by
          show _ = _
          rw [upd_ne (ne_of ht (s3 _ _ hld) (by intro z; cases z))]
          exact ht) hpr
        have hD5 : (upd H3 p (.dK (kvs.map entZ))) D = some (.lst (ts.map V.ref)) := by rw [upd_ne dD.symm]; exact hD
        have s5 : Same H (upd H3 p (.dK (kvs.map entZ))) := fun b u e => by
          have hb : b ≠ p := ne_of_none e np
          rw [upd_ne hb]
          refine s3 b u ?_
          rw [← hHl, upd_ne hb]
          exact s1 b u e
        generalize upd H3 p (.dK (kvs.map entZ)) = H5 at hpr5 hD5 s5 ⊢
        refine ⟨D, ts, (takeZ 1 kvs).map entZ, rfl, sql hD5, ents_paired (paired_imp (fun t e h => .inl (.inl h)) hpr5), fun p2 np2 => ?_⟩
        have em : mergeK [] ((takeZ 1 kvs).map entZ) = (takeZ 1 kvs).map entZ := mergeZ (takeZ 1 kvs) [] (by rw [List.nil_append]; exact takeZ_nd ok.nd)
        rw [em]
        refine ⟨(by show 2 ≤ sizeLine; decide), fun t nt => ?_⟩
        have tp : p2 ≠ t := ne_of_none upd_same nt
        exact q _ t p2 (Same.new (Same.new s5 np2) nt) (Same.gone (Same.new s5 np2) nt) (Same.gone s5 np2) upd_same (by rw [upd_ne tp]; exact upd_same)
end
end Kb

namespace Kb
open PySem PySem.Spec PyProof.Rows L2 SrtZ SrtO
abbrev sP_counts_of : Stmt := topS 23
theorem scP_counts_of : FnScope ["tree", "many", "step", "name"] ["tree"] (defScope sP_counts_of) := ⟨rfl, rfl, rfl, by decide +kernel, rfl, by decide +kernel, by decide +kernel⟩
abbrev sP_need_two : Stmt := topS 30
theorem scP_need_two : FnScope ["one", "other"] ["one", "other"] (defScope sP_need_two) := ⟨rfl, rfl, rfl, by decide +kernel, rfl, by decide +kernel, by decide +kernel⟩
abbrev sP_poured : Stmt := topS 31
theorem scP_poured : FnScope ["one", "other", "tally"] ["one", "other"] (defScope sP_poured) := ⟨rfl, rfl, rfl, by decide +kernel, rfl, by decide +kernel, by decide +kernel⟩
abbrev DnCountsOf (K : PySem.W.Frag) (mg : Str → Option Value) := Dn K mg "counts_of" sP_counts_of ["tree"]
abbrev DnNeedTwo (K : PySem.W.Frag) (mg : Str → Option Value) := Dn K mg "need_two" sP_need_two ["one", "other"]
abbrev DnPoured (K : PySem.W.Frag) (mg : Str → Option Value) := Dn K mg "poured" sP_poured ["one", "other"]
/-- how often each name stands in the streams -/
def cntZ (zs : List Str) (kc : Ct) : Ct := zs.foldl (fun k n => addZ k n 1) kc
def cntS (kc : Ct) : Stp → Ct
  | .put zs => cntZ zs kc
  | .pour => kc
def cntT (l : List Stp) : Ct := l.foldl cntS []
theorem cntZ_snoc {zs : List Str} {kc : Ct} {i : Nat} {n : Str} (h : zs[i]? = some n) : cntZ (zs.take (i + 1)) kc = addZ (cntZ (zs.take i) kc) n 1 := by
  unfold cntZ
  rw [List.take_add_one, h, List.foldl_append]
  rfl
theorem cntT_snoc {l : List Stp} {i : Nat} {t : Stp} (h : l[i]? = some t) : cntT (l.take (i + 1)) = cntS (cntT (l.take i)) t := by
  unfold cntT
  rw [List.take_add_one, h, List.foldl_append]
  rfl
theorem cntZ_nd : ∀ {zs : List Str} {kc : Ct}, NdZ kc → NdZ (cntZ zs kc)
  | [], _, h => h
  | z :: zs, kc, h => cntZ_nd (zs := zs) (addZ_nd (n := z) (c := 1) h)
theorem cntZ_len : ∀ {zs : List Str} {kc : Ct}, (cntZ zs kc).length ≤ kc.length + zs.length
  | [], _ => Nat.le_refl _
  | z :: zs, kc => by
    have h := cntZ_len (zs := zs) (kc := addZ kc z 1)
    have h2 := addZ_len (kvs := kc) (n := z) (c := 1)
    show (cntZ zs (addZ kc z 1)).length ≤ kc.length + (zs.length + 1)
    omega
theorem cntS_nd {kc : Ct} {t : Stp} (h : NdZ kc) : NdZ (cntS kc t) := by
  cases t with
  | put zs => exact cntZ_nd h
  | pour => exact h
theorem cntT_nd (l : List Stp) : NdZ (cntT l) := by
  have gen : ∀ (l : List Stp) (kc : Ct), NdZ kc → NdZ (l.foldl cntS kc) := by
    intro l
    induction l with
    | nil => exact fun _ h => h
    | cons t l ih => exact fun kc h => ih _ (cntS_nd h)
  exact gen l [] List.nodup_nil
theorem mny_mono (l : List Stp) (i : Nat) : mny (l.take i) ≤ mny l := by
  have gen : ∀ (l : List Stp) (m : Int), m ≤ l.foldl cS m := by
    intro l
    induction l with
    | nil => exact fun m => Int.le_refl _
    | cons t l ih =>
      intro m
      have h := ih (cS m t)
      have h2 : m ≤ cS m t := by
        cases t with
        | put zs => show m ≤ m + (zs.length : Nat); omega
        | pour => exact Int.le_refl _
      exact Int.le_trans h2 h
  unfold mny
  have := gen (l.drop i) ((l.take i).foldl cS 0)
  rw [← List.foldl_append, List.take_append_drop] at this
  exact this
theorem cntT_len : ∀ l : List Stp, ((cntT l).length : Int) ≤ mny l := by
  have gen : ∀ (l : List Stp) (kc : Ct) (m : Int), (kc.length : Int) ≤ m → ((l.foldl cntS kc).length : Int) ≤ l.foldl cS m := by
    intro l
    induction l with
    | nil => exact fun _ _ h => h
    | cons t l ih =>
      intro kc m h
      refine ih _ _ ?_
      cases t with
      | put zs =>
        have := cntZ_len (zs := zs) (kc := kc)
        show ((cntZ zs kc).length : Int) ≤ m + (zs.length : Nat)
        omega
      | pour => exact h
  exact fun l => gen l [] 0 (Int.le_refl _)
theorem cts_of {r : Int} {x : Tl} (ok : TlOk r x) : Cts (srtZ x.c) := by
  have p := srtZ_perm x.c
  exact ⟨fun e he => ok.nm e (p.mem_iff.mp he), fun e he => ok.pos e (p.mem_iff.mp he), srtZ_asc ok.nd⟩
section
variable {P : Program} {w : World} {K : PySem.W.Frag} {mg : Str → Option Value} {base : Heap}
/-! counts_of -/
def spCountsOf (K : PySem.W.Frag) : Sp := fun vs H Q _ => ∃ (a : Addr) (l : List Stp), vs = [.ref a] ∧ TreeAt K H a l ∧ Tree l ∧
  ∀ H' k (ts : List Addr), Same H H' → Ptp H' k (ts.map V.ref) → Paired (PrT H') ts (srtZ (cntT l)) → Q (.ref k) H'
theorem ok_counts_of (T : Blt mg) (cL : Cst mg "LONGEST_NAME" (.int 8)) (cS' : Cst mg "MOST_STEPS" (.int 5000)) (cI : Cst mg "MOST_ITEMS" (.int 50000)) (dP_is_name : DnIsName K mg) (dP_is_stream : DnIsStream K mg) (dP_is_put : DnIsPut K mg) (dP_is_pour : DnIsPour K mg) (dP_is_tree : DnIsTree K mg) (d : DnCountsOf K mg) :
    FnOk P w K mg base CX0 5 d.f d.fd ["tree"] (spCountsOf K) := by
  have GP_is_tree : FnOk P w K mg base CX0 4 dP_is_tree.f dP_is_tree.fd ["thing"] (spIsTree K) := ok_is_tree T cL cS' cI dP_is_name dP_is_stream dP_is_put dP_is_pour dP_is_tree
  refine d.F.ok scP_counts_of (fun vs H Q E h => ?_) (fun cdv A outer s H vs Q E hr h => ?_)
  · obtain ⟨a, l, rfl, _⟩ := h
    rfl
  · obtain ⟨a, l, rfl, ht, tr, q⟩ := h
    have hu := hu_of hr
    refine ⟨_, (pss_cons (ps_if (pt_not (pt_val (pe_call GP_is_tree (hr.mono (by omega)) (by rfl) dP_is_tree.g dP_is_tree.F.kp dP_is_tree.b .nil pass0 (pa_cons (pv 0) pa_nil))))
      (pss_one ps_never)
      pss_nil)
    (pss_cons (ps_set (i := 1) scP_counts_of.nd rfl (Or.inl rfl) pe_dnewK)
    (pss_cons (ps_for PassesOwn.never rfl (pi_tup (pv 0)) (pg_name (i := 2) scP_counts_of.nd rfl (Or.inl rfl))
      (pss_one (ps_if (pt_cmpR op_eq (pe_ix ix_tup (pv 2) pe_int (fun _ _ => rfl)) pe_str (nomark _))
        (pss_one (ps_for PassesOwn.never rfl (pi_tup (pe_ix ix_tup (pv 2) pe_int (fun _ _ => rfl))) (pg_name (i := 3) scP_counts_of.nd rfl (Or.inl rfl))
          (pss_one (ps_dput hu (pv 1) (pv 3) (pe_op op_add (pe_dget2 hu (pv 1) (pv 3) pe_int ⟨rfl, rfl, rfl, rfl⟩) pe_int) rfl))))
        pss_nil)))
    (pss_one (ps_ret (pe_callTy call_tupleF (by rfl) T.n_tuple (by decide +kernel) (pa_cons (pe_callB (cr_sortedIZ rfl) (by rfl) T.n_sorted (by decide +kernel) (pa_cons (pe_bm0 PySem.F.plainAttrs_dict PySem.F.slot_dict_items PySem.F.type_dict_items mt_itemsK (pv 1)) pa_nil)) pa_nil))))))), ?_⟩
    refine ⟨.ref a, rfl, a, l, rfl, ht, tr, fun H1 s1 => ⟨true, rfl, iteF fun c nc => ?_⟩⟩
    obtain ⟨vs, hS, hp⟩ := ht
    have hl : vs.length = l.length := Paired.length hp
    have nc0 : H c = none := Same.gone s1 nc
    have s2 : Same H (upd H1 c (.dK [])) := Same.new s1 nc
    have few := tr.few
    refine ⟨.ref a, rfl, a, rfl, ⟨_, seqT hS s2⟩, for_tup (xs := vs) (fun i σ H3 => ∃ y2 y3 : Option V, σ = [some (.ref a), some (.ref c), y2, y3] ∧ Same H H3 ∧ H3 c = some (.dK ((cntT (l.take i)).map entZ))) ⟨none, none, rfl, s2, upd_same⟩ (fun i σ H3 _ ⟨_, _, _, s3, _⟩ => seqT hS s3) ?_ ?_⟩
    · rintro i v σ H3 hi ⟨y2, y3, rfl, s3, hc3⟩
      obtain ⟨st, hst, hat⟩ := paired_at hp hi
      have hat3 := hat.same s3
      have snoc := cntT_snoc hst
      have l0 := cntT_len (l.take i)
      have m0 := mny_mono l i
      have m1 := mny_mono l (i + 1)
      cases st with
      | put zs =>
        obtain ⟨b, t, rfl, h1, h2, _, hzl⟩ := hat3
        refine ⟨.ref b, rfl, b, _, _, _, rfl, rfl, h1, atI_nat (j := 0) rfl, rfl, true, congrArg V.bl (decide_eq_true rfl), iteT ?_⟩
        refine ⟨.ref b, rfl, b, _, _, _, rfl, rfl, h1, atI_nat (j := 1) rfl, t, rfl, ⟨_, h2⟩, for_tup (xs := zs.map V.str) (fun j σ H6 => ∃ z5 : Option V, σ = [some (.ref a), some (.ref c), some (.ref b), z5] ∧ Same H H6 ∧ SqT K H6 t (zs.map V.str) ∧ H6 c = some (.dK ((cntZ (zs.take j) (cntT (l.take i))).map entZ))) ⟨y3, rfl, s3, h2, hc3⟩ (fun j σ H6 _ ⟨_, _, _, h, _⟩ => h) ?_ ?_⟩
        · rintro j v σ H6 hj ⟨z5, rfl, s6, h6, hc6⟩
          obtain ⟨z, hz, rfl⟩ := map_at hj
          have lj := cntZ_len (zs := zs.take j) (kc := cntT (l.take i))
          rw [List.length_take] at lj
          refine ⟨.ref c, rfl, c, rfl, .inl ⟨_, .inl hc6⟩, .str z, rfl, _, DGet.k (k := Sum.inr z) hc6, ?_⟩
          rw [getZ_val]
          refine ⟨(getZ (cntZ (zs.take j) (cntT (l.take i))) z).getD 0, 1, ?_, rfl, ?_⟩
          · cases getZ (cntZ (zs.take j) (cntT (l.take i))) z <;> rfl
          refine ⟨.ref c, rfl, .str z, rfl, c, _, rfl, DPut.k (k := Sum.inr z) hc6 (by rw [List.length_map, sizeLine_eq]; omega), ?_⟩
          rw [putZ_put]
          refine ⟨some (.str z), rfl, Same.put s6 nc0, ?_, ?_⟩
          · rcases h6 with (h | ⟨o', h⟩) | h
            · exact .inl (.inl (by rw [upd_ne (ne_of h hc6 (by intro z; cases z))]; exact h))
            · exact .inl (.inr ⟨o', by rw [upd_ne (ne_of h hc6 (by intro z; cases z))]; exact h⟩)
            · exact .inr h
          · rw [upd_same, cntZ_snoc hz]
            rfl
        · rintro σ H6 ⟨z5, rfl, s6, h6, hc6⟩
          rw [List.length_map, List.take_length] at hc6
          refine ⟨_, _, rfl, s6, ?_⟩
          rw [snoc]
          exact hc6
      | pour =>
        obtain ⟨b, rfl, h1⟩ := hat3
        refine ⟨.ref b, rfl, b, _, _, _, rfl, rfl, h1, atI_nat (j := 0) rfl, rfl, false, congrArg V.bl (decide_eq_false stream_ne), iteF ?_⟩
        refine ⟨_, _, rfl, s3, ?_⟩
        rw [snoc]
        exact hc3
    · rintro σ H3 ⟨y2, y3, rfl, s3, hc3⟩
      rw [hl, List.take_length] at hc3
      refine ⟨.ref c, rfl, .inr (.inr (.inl ⟨rfl, .inl ⟨_, hc3⟩⟩)), c, _, rfl, rfl, hc3, fun p np => ?_⟩
      refine ⟨p, c, cntT l, rfl, upd_same, (by rw [upd_ne (ne_of_none hc3 np)]; exact hc3), fun H4 l4 ys ts s4 nl nts lts pm so hl4 hts => ?_⟩
      refine ⟨l4, _, rfl, sql hl4, fun k ob nk ho => ?_⟩
      have s5 : Same H H4 := fun b u e => s4 b u (Same.new s3 np b u e)
      have eys := srtZ_of (asc_of so pm (cntT_nd l)) pm (cntT_nd l)
      subst eys
      exact q _ k ts (Same.new s5 nk) ⟨ob, upd_same, ho⟩ (paired_imp (fun t e h => same_upd nk _ _ h) hts)
/-! need_two, poured -/
def spNeedTwo : Sp := fun vs H Q _ => ∃ (s1 s2 : Addr) (r : Int) (x y : Tl), vs = [.ref s1, .ref s2] ∧ SkAt H s1 r x ∧ SkAt H s2 r y ∧ r ≤ 64 ∧ TlOk r x ∧ TlOk r y ∧ skB r x.m x.o (srtZ x.c) = true ∧ skB r y.m y.o (srtZ y.c) = true ∧ ∀ H', Same H H' → Q .non H'
theorem ok_need_two (T : Blt mg) (cM : Cst mg "MOST_ROOM" (.int 64)) (cL : Cst mg "LONGEST_NAME" (.int 8)) (dP_is_int : DnIsInt K mg) (dP_is_number : DnIsNumber K mg) (dP_is_room : DnIsRoom K mg) (dP_is_name : DnIsName K mg) (dP_is_counted : DnIsCounted K mg) (dP_are_counts : DnAreCounts K mg) (dP_lost_of : DnLostOf K mg) (dP_is_sketch : DnIsSketch K mg)
    (d : DnNeedTwo K mg) : FnOk P w K mg base CX0 5 d.f d.fd ["one", "other"] spNeedTwo := by
  have GP_is_sketch : FnOk P w K mg base CX0 4 dP_is_sketch.f dP_is_sketch.fd ["thing"] (spIsSketch K) := ok_is_sketch T cM cL dP_is_int dP_is_number dP_is_room dP_is_name dP_is_counted dP_are_counts dP_lost_of dP_is_sketch
  refine d.F.ok scP_need_two (fun vs H Q E h => ?_) (fun cdv A outer s H vs Q E hr h => ?_)
  · obtain ⟨s1, s2, r, x, y, rfl, _⟩ := h
    rfl
  · obtain ⟨a1, a2, r, x, y, rfl, k1, k2, hr2, ok1, ok2, b1, b2, q⟩ := h
    refine ⟨_, (pss_cons (ps_if (PW.pt (pw_or (pt_not (pt_val (pe_call GP_is_sketch (hr.mono (by omega)) (by rfl) dP_is_sketch.g dP_is_sketch.F.kp dP_is_sketch.b .nil pass0 (pa_cons (pv 0) pa_nil)))) (pw_or1 (pt_not (pt_val (pe_call GP_is_sketch (hr.mono (by omega)) (by rfl) dP_is_sketch.g dP_is_sketch.F.kp dP_is_sketch.b .nil pass0 (pa_cons (pv 1) pa_nil)))))))
      (pss_one ps_never)
      pss_nil)
    (pss_one (ps_if (pt_cmpR op_ne (pe_ix ix_tup (pv 0) pe_int (fun _ _ => rfl)) (pe_ix ix_tup (pv 1) pe_int (fun _ _ => rfl)) (nomark _))
      (pss_one ps_never)
      pss_nil))), ?_⟩
    have l1 := ok1.len
    have l2 := ok2.len
    obtain ⟨k, ts, h1, h2, h3⟩ := id k1
    refine ⟨.ref a1, rfl, a1, k, r, x.m, x.o, srtZ x.c, rfl, .inl (.inl h1), ⟨ts, h2.seq, paired_imp (fun t e h => .inl (.inl h)) h3⟩, cts_of ok1, (by rw [(srtZ_perm x.c).length_eq]; omega), fun H1 s1 => ⟨true, congrArg V.bl b1, iteF ?_⟩⟩
    obtain ⟨k, ts, h1, h2, h3⟩ := k2.same s1
    refine ⟨.ref a2, rfl, a2, k, r, y.m, y.o, srtZ y.c, rfl, .inl (.inl h1), ⟨ts, h2.seq, paired_imp (fun t e h => .inl (.inl h)) h3⟩, cts_of ok2, (by rw [(srtZ_perm y.c).length_eq]; omega), fun H2 s2 => ⟨true, congrArg V.bl b2, iteF ?_⟩⟩
    have s12 : Same H H2 := fun b u e => s2 b u (s1 b u e)
    obtain ⟨k, ts, h1, _⟩ := k1.same s12
    obtain ⟨k', ts', h1', _⟩ := k2.same s12
    refine ⟨.ref a1, rfl, a1, _, _, _, rfl, rfl, .inl (.inl h1), atI_nat (j := 0) rfl, .ref a2, rfl, a2, _, _, _, rfl, rfl, .inl (.inl h1'), atI_nat (j := 0) rfl, rfl, false, ?_, iteF (q H2 s12)⟩
    rw [decide_eq_true rfl]
    rfl
def spPoured : Sp := fun vs H Q _ => ∃ (s1 s2 : Addr) (r : Int) (x y : Tl), vs = [.ref s1, .ref s2] ∧ SkAt H s1 r x ∧ SkAt H s2 r y ∧ 1 ≤ r ∧ r ≤ 64 ∧ TlOk r x ∧ TlOk r y ∧ skB r x.m x.o (srtZ x.c) = true ∧ skB r y.m y.o (srtZ y.c) = true ∧
  ∀ H' s', Same H H' → H s' = none → SkAt H' s' r (pourT r (skT y) (skT x)) → Q (.ref s') H'
theorem ok_poured (T : Blt mg) (cM : Cst mg "MOST_ROOM" (.int 64)) (cL : Cst mg "LONGEST_NAME" (.int 8)) (dP_is_int : DnIsInt K mg) (dP_is_number : DnIsNumber K mg) (dP_is_room : DnIsRoom K mg) (dP_is_name : DnIsName K mg) (dP_is_counted : DnIsCounted K mg) (dP_are_counts : DnAreCounts K mg) (dP_lost_of : DnLostOf K mg) (dP_is_sketch : DnIsSketch K mg)
    (L : Tal K mg) (dP_need_two : DnNeedTwo K mg) (d : DnPoured K mg) : FnOk P w K mg base CX0 6 d.f d.fd ["one", "other"] spPoured := by
  have GP_need_two : FnOk P w K mg base CX0 5 dP_need_two.f dP_need_two.fd ["one", "other"] spNeedTwo := ok_need_two T cM cL dP_is_int dP_is_number dP_is_room dP_is_name dP_is_counted dP_are_counts dP_lost_of dP_is_sketch dP_need_two
  have GI : FnOk P w K mg base CX0 1 L.fI L.dI ["self", "sketch"] (spTinit K L.C) := ok_Tinit T L
  have Gsketch : FnOk P w K mg base CX0 1 L.fS L.dS ["self"] (spTsketch L.C) := ok_Tsketch T L
  have Gpour : FnOk P w K mg base CX0 2 L.fP L.dP ["self", "sketch"] (spTpour K L.C) := ok_Tpour T L
  refine d.F.ok scP_poured (fun vs H Q E h => ?_) (fun cdv A outer s H vs Q E hr h => ?_)
  · obtain ⟨s1, s2, r, x, y, rfl, _⟩ := h
    rfl
  · obtain ⟨a1, a2, r, x, y, rfl, k1, k2, hr1, hr2, ok1, ok2, b1, b2, q⟩ := h
    refine ⟨_, (pss_cons (ps_expr (pe_call GP_need_two (hr.mono (by omega)) (by rfl) dP_need_two.g dP_need_two.F.kp dP_need_two.b .nil pass0 (pa_cons (pv 0) (pa_cons (pv 1) pa_nil))))
    (pss_cons (ps_set (i := 2) scP_poured.nd rfl (Or.inl rfl) (pe_make L.mI GI (hr.mono (by omega)) (by rfl) L.g L.bI .nil pass0 (pa_cons (pv 0) pa_nil)))
    (pss_cons (ps_expr (pe_meth (pv 2) L.cl L.mP Gpour (hr.mono (by omega)) L.bP .nil pass0 (pa_cons (pv 1) pa_nil)))
    (pss_one (ps_ret (pe_meth0 (pv 2) L.cl L.mS Gsketch (hr.mono (by omega)) L.bS .nil pass0)))))), ?_⟩
    refine ⟨.ref a1, rfl, .ref a2, rfl, a1, a2, r, x, y, rfl, k1, k2, hr2, ok1, ok2, b1, b2, fun H2 s12 => ?_⟩
    have okx := skT_ok ok1
    have oky := skT_ok ok2
    have lx := okx.len
    have ly := oky.len
    obtain ⟨k, ts, h1, h2, h3⟩ := k1.same s12
    refine ⟨.ref a1, rfl, fun t dx nt ndx hne => ?_⟩
    have s5 : Same H2 (upd (upd H2 dx (.own t)) t (.ins L.C dx [])) := Same.new (same_upd ndx) (by rw [upd_ne hne.symm]; exact nt)
    refine ⟨t, dx, a1, k, r, x.m, x.o, ts, srtZ x.c, rfl, upd_same, .inl (.inl (s5 _ _ h1)), h2.same s5, paired_imp (fun t e h => .inl (.inl (s5 _ _ h))) h3, okx.nd, fun H5 d5 kp5 nd5 ta5 => ⟨rfl, ?_⟩⟩
    have nt0 : H t = none := Same.gone s12 nt
    have s35 : Same H H5 := fun q u e => kp5 q u (ne_of_none e nt0) (s5 q u (s12 q u e))
    have nd50 : H d5 = none := Same.gone s12 (Same.gone s5 nd5)
    obtain ⟨⟨dx5, ht5⟩, _⟩ := id ta5
    obtain ⟨k', ts', h1', h2', h3'⟩ := k2.same s35
    refine ⟨.ref t, rfl, t, dx5, _, rfl, ht5, g_no _ _ _ _ (by decide +kernel) (by decide +kernel) (by decide +kernel) (by decide +kernel), .ref a2, rfl, t, d5, a2, k', r, r, skT x, skT y, rfl, ta5, okx.nd, (by show (skT x).c.length ≤ 200; omega), .inl (.inl h1'), ⟨ts', h2'.seq, paired_imp (fun t e h => .inl (.inl h)) h3'⟩, (by show (skT y).c.length ≤ 200; omega), (by omega), fun H7 d7 b7 hd7 ta7 => ?_⟩
    have s07 : Same H H7 := fun q u e => b7 q u (ne_of_none e nt0) (ne_of_none e nd50) (s35 q u e)
    have ok7 := pourT_ok okx oky (by omega)
    have l7 := ok7.len
    obtain ⟨⟨dx7, ht7⟩, _⟩ := id ta7
    refine ⟨.ref t, rfl, t, dx7, _, rfl, ht7, g_no _ _ _ _ (by decide +kernel) (by decide +kernel) (by decide +kernel) (by decide +kernel), t, d7, r, _, _, _, rfl, ta7, ok7.nd, (by omega), fun H8 s8 k8 ys ts8 sm8 ns8 hs8 hk8 hpr pm asc => ?_⟩
    have eys := srtZ_of asc pm ok7.nd
    subst eys
    exact q H8 s8 (fun b u e => sm8 b u (s07 b u e)) (Same.gone s07 ns8) ⟨k8, ts8, hs8, hk8, hpr⟩
end
end Kb

namespace Kb
open PySem PySem.Spec PyProof.Rows L2 SrtZ SrtO
abbrev stree : Stmt := topS 39
theorem sctree : FnScope ["_law_pot_here", "_law_names_here", "_law_leaves", "_law_most", "_law_steps", "_law_pile", "_law_turn", "_law_again"] ["_law_pot_here", "_law_names_here", "_law_leaves", "_law_most"] (defScope stree) := ⟨rfl, rfl, rfl, by decide +kernel, rfl, by decide +kernel, by decide +kernel⟩
abbrev scounted : Stmt := topS 40
theorem sccounted : FnScope ["_law_tree_here", "_law_found", "_law_step", "_law_name"] ["_law_tree_here"] (defScope scounted) := ⟨rfl, rfl, rfl, by decide +kernel, rfl, by decide +kernel, by decide +kernel⟩
abbrev Dntree (K : PySem.W.Frag) (mg : Str → Option Value) := Dn K mg "_law_tree" stree ["_law_pot_here", "_law_names_here", "_law_leaves", "_law_most"]
abbrev Dncounted (K : PySem.W.Frag) (mg : Str → Option Value) := Dn K mg "_law_counted" scounted ["_law_tree_here"]
def Vl : Int → List Stp → Prop
  | _, [] => True
  | h, .put _ :: l => Vl (h + 1) l
  | h, .pour :: l => 2 ≤ h ∧ Vl (h - 1) l
theorem vl_at : ∀ {l : List Stp} {h : Int} {i : Nat}, Vl h l → l[i]? = some .pour → 2 ≤ (l.take i).foldl hS h
  | [], _, i, _, e => by simp at e
  | .put zs :: l, h, 0, v, e => by cases e
  | .pour :: l, h, 0, v, _ => v.1
  | .put zs :: l, h, i + 1, v, e => vl_at (l := l) (h := h + 1) v (by simpa using e)
  | .pour :: l, h, i + 1, v, e => vl_at (l := l) (h := h - 1) v.2 (by simpa using e)
theorem vl_app : ∀ {l l' : List Stp} {h : Int}, Vl h l → Vl (l.foldl hS h) l' → Vl h (l ++ l')
  | [], _, _, _, v => v
  | .put zs :: l, l', h, v, w => vl_app (l := l) (h := h + 1) v w
  | .pour :: l, l', h, v, w => ⟨v.1, vl_app (l := l) (h := h - 1) v.2 w⟩
theorem vl_pours : ∀ (n : Nat) (h : Int), (n : Int) + 1 ≤ h → Vl h (List.replicate n .pour) ∧ (List.replicate n Stp.pour).foldl hS h = h - n
  | 0, h, _ => ⟨trivial, by show h = h - 0; omega⟩
  | n + 1, h, hn => by
    obtain ⟨a, b⟩ := vl_pours n (h - 1) (by omega)
    refine ⟨⟨by omega, a⟩, ?_⟩
    show (List.replicate n Stp.pour).foldl hS (h - 1) = _
    rw [b]
    omega
theorem cs_pours : ∀ (n : Nat) (m : Int), (List.replicate n Stp.pour).foldl cS m = m
  | 0, _ => rfl
  | n + 1, m => cs_pours n m
/-- a tree as it is being drawn -/
structure Gr (i : Nat) (pile : Int) (l : List Stp) : Prop where
  vl : Vl 0 l
  ht : hgt l = pile
  pos : 1 ≤ i → 1 ≤ pile
  few : mny l ≤ 400 * i
  len : (l.length : Int) = 2 * i - pile
  nm : ∀ zs, .put zs ∈ l → ∀ z ∈ zs, Nm z
theorem gr0 : Gr 0 0 [] := ⟨trivial, rfl, fun h => absurd h (by decide), Int.le_refl _, rfl, fun _ h => nomatch h⟩
theorem gr_put {i : Nat} {pile : Int} {l : List Stp} {zs : List Str} (g : Gr i pile l) (hp : 0 ≤ pile) (hz : ∀ z ∈ zs, Nm z) (hl : zs.length ≤ 400) : Gr (i + 1) (pile + 1) (l ++ [.put zs]) := by
  obtain ⟨vl, ht, pos, few, len, nm⟩ := g
  refine ⟨vl_app vl (by trivial), ?_, fun _ => by omega, ?_, ?_, fun ys hy => ?_⟩
  · unfold hgt at ht ⊢
    rw [List.foldl_append, ht]
    rfl
  · unfold mny at few ⊢
    rw [List.foldl_append]
    show l.foldl cS 0 + (zs.length : Nat) ≤ _
    push_cast
    omega
  · rw [List.length_append, List.length_singleton]
    push_cast
    omega
  · rcases List.mem_append.mp hy with h | h
    · exact nm ys h
    · rcases List.mem_singleton.mp h with h
      cases h
      exact hz
theorem gr_pours {i : Nat} {pile : Int} {l : List Stp} (g : Gr i pile l) (n : Nat) (hn : (n : Int) + 1 ≤ pile) : Gr i (pile - n) (l ++ List.replicate n .pour) := by
  obtain ⟨vl, ht, pos, few, len, nm⟩ := g
  have hh : l.foldl hS 0 = pile := ht
  obtain ⟨a, b⟩ := vl_pours n (l.foldl hS 0) (by rw [hh]; exact hn)
  refine ⟨vl_app vl a, ?_, fun h => by omega, ?_, ?_, fun ys hy => ?_⟩
  · unfold hgt
    rw [List.foldl_append, b, hh]
  · unfold mny at few ⊢
    rw [List.foldl_append, cs_pours]
    exact few
  · rw [List.length_append, List.length_replicate]
    push_cast
    omega
  · rcases List.mem_append.mp hy with h | h
    · exact nm ys h
    · cases (List.eq_of_mem_replicate h)
theorem gr_tree {i : Nat} {l : List Stp} (g : Gr i 1 l) (hi : i ≤ 100) : Tree l := by
  obtain ⟨vl, ht, pos, few, len, nm⟩ := g
  exact ⟨fun j e => vl_at vl e, ht, by omega, by omega⟩
theorem StpAt.ex {K : PySem.W.Frag} {a g s : Addr} {H H' : Hp} {v : V} {t : Stp} (h : StpAt K H v t) (x : Ex a g s H H') (p : Pot a g s H) : StpAt K H' v t := by
  cases t with
  | put zs =>
    obtain ⟨a, b, e, h1, h2, r⟩ := h
    exact ⟨a, b, e, x.tup p h1, x.tup p h2, r⟩
  | pour =>
    obtain ⟨a, e, h1⟩ := h
    exact ⟨a, e, x.tup p h1⟩
theorem sq_upd {K : PySem.W.Frag} {H : Hp} {a t : Addr} {xs ys : List V} {u : HO} (h : SqT K H a xs) (ht : H t = some (.lst ys)) : SqT K (upd H t u) a xs := by
  rcases h with (h | ⟨o, h⟩) | h
  · exact .inl (.inl (by rw [upd_ne (ne_of h ht (by intro z; cases z))]; exact h))
  · exact .inl (.inr ⟨o, by rw [upd_ne (ne_of h ht (by intro z; cases z))]; exact h⟩)
  · exact .inr h
theorem StpAt.put {K : PySem.W.Frag} {H : Hp} {t : Addr} {ys : List V} {u : HO} {v : V} {st : Stp} (h : StpAt K H v st) (ht : H t = some (.lst ys)) : StpAt K (upd H t u) v st := by
  cases st with
  | put zs =>
    obtain ⟨a, b, e, h1, h2, r⟩ := h
    exact ⟨a, b, e, sq_upd h1 ht, sq_upd h2 ht, r⟩
  | pour =>
    obtain ⟨a, e, h1⟩ := h
    exact ⟨a, e, sq_upd h1 ht⟩
theorem paired_app {α β : Type} {F : α → β → Prop} : ∀ {xs xs' : List α} {ys ys' : List β}, Paired F xs ys → Paired F xs' ys' → Paired F (xs ++ xs') (ys ++ ys')
  | _, _, _, _, .nil, h => h
  | _, _, _, _, .cons h t, k => .cons h (paired_app t k)
theorem paired_rep {α β : Type} {F : α → β → Prop} {x : α} {y : β} (h : F x y) : ∀ n : Nat, Paired F (List.replicate n x) (List.replicate n y)
  | 0 => .nil
  | n + 1 => .cons h (paired_rep h n)
theorem rep_flat (n : Nat) (v : V) : (List.replicate n [v]).flatten = List.replicate n v := by
  induction n with
  | zero => rfl
  | succ n ih => rw [List.replicate_succ, List.flatten_cons, ih]; rfl
section
variable {P : Program} {w : World} {K : PySem.W.Frag} {mg : Str → Option Value} {base : Heap}
/-! _law_tree -/
def spTree (K : PySem.W.Frag) : Sp := fun vs H Q _ => ∃ (a g s l : Addr) (ns : List Str) (lv : Nat) (m : Int), vs = [.ref a, .ref l, .int (lv : Int), .int m] ∧ Pot a g s H ∧ Lot a g s H l ns ∧ 1 ≤ lv ∧ lv ≤ 40 ∧ 0 ≤ m ∧ m ≤ 400 ∧
  ∀ H' t (vs : List V) (st : List Stp), Ex a g s H H' → Pot a g s H' → H t = none → H' t = some (.tup vs) → Paired (StpAt K H') vs st → Gr lv 1 st → Q (.ref t) H'
theorem ok_tree (T : Blt mg) (ddraw : Dndraw K mg) (dany : Dnany K mg) (dstream : Dnstream K mg) (d : Dntree K mg) : FnOk P w K mg base CX0 4 d.f d.fd ["_law_pot_here", "_law_names_here", "_law_leaves", "_law_most"] (spTree K) := by
  have Gdraw : FnOk P w K mg base CX0 1 ddraw.f ddraw.fd ["_law_pot_here", "_law_many"] spDraw := ok_draw T ddraw
  have Gstream : FnOk P w K mg base CX0 3 dstream.f dstream.fd ["_law_pot_here", "_law_names_here", "_law_most"] spStream := ok_stream T ddraw dany dstream
  refine d.F.ok sctree (fun vs H Q E h => ?_) (fun cdv A outer s H vs Q E hr h => ?_)
  · obtain ⟨a, g, s, l, ns, lv, m, rfl, _⟩ := h
    rfl
  · obtain ⟨a, g, s', l, ns, lv, m, rfl, pot, lot, lv1, lv2, hm0, hm1, q⟩ := h
    refine ⟨_, (pss_cons (ps_par (i := 4) (j := 5) (by rfl) sctree.nd rfl rfl (by decide) rfl rfl (pa_cons (pe_lst pa_nil) (pa_cons pe_int pa_nil)) (by rfl))
    (pss_cons (ps_for PassesOwn.never rfl (pi_range1 (by rfl) T.n_range (pa_cons (pv 2) pa_nil)) (pg_name (i := 6) sctree.nd rfl (Or.inl rfl))
      (pss_cons (ps_expr (pe_bm PySem.F.plainAttrs_list PySem.F.slot_list_append PySem.F.type_list_append mt_append (pv 4) (pa_cons (pe_tup (pa_cons pe_str (pa_cons (pe_call Gstream (hr.mono (by omega)) (by rfl) dstream.g dstream.F.kp dstream.b .nil pass0 (pa_cons (pv 0) (pa_cons (pv 1) (pa_cons (pv 3) pa_nil)))) pa_nil))) pa_nil)))
      (pss_cons (ps_set (i := 5) sctree.nd rfl (Or.inl rfl) (pe_op op_add (pv 5) pe_int))
      (pss_one (ps_for PassesOwn.never rfl (pi_range1 (by rfl) T.n_range (pa_cons (pe_call Gdraw (hr.mono (by omega)) (by rfl) ddraw.g ddraw.F.kp ddraw.b .nil pass0 (pa_cons (pv 0) (pa_cons pe_int pa_nil))) pa_nil)) (pg_name (i := 7) sctree.nd rfl (Or.inl rfl))
        (pss_one (ps_if (pt_cmpR op_gt (pv 5) pe_int (nomark _))
          (pss_cons (ps_expr (pe_bm PySem.F.plainAttrs_list PySem.F.slot_list_append PySem.F.type_list_append mt_append (pv 4) (pa_cons (pe_tup (pa_cons pe_str pa_nil)) pa_nil)))
          (pss_one (ps_set (i := 5) sctree.nd rfl (Or.inl rfl) (pe_op op_sub (pv 5) pe_int))))
          pss_nil)))))))
    (pss_one (ps_ret (pe_callTy call_tuple_of (by rfl) T.n_tuple (by decide +kernel) (pa_cons (pe_op op_cat (pv 4) (pe_op op_rep (pe_lst (pa_cons (pe_tup (pa_cons pe_str pa_nil)) pa_nil)) (pe_op op_sub (pv 5) pe_int))) pa_nil)))))), ?_⟩
    refine ⟨(by show 0 ≤ sizeLine; decide), fun D nD => ⟨_, _, rfl, ?_⟩⟩
    have hD := pot.nea nD
    refine ⟨.int (lv : Int), rfl, lv, rfl, by omega, by omega, ?_⟩
    rw [Int.toNat_natCast]
    refine for_range (lo := 0) (n := lv) (fun i σ H3 => ∃ (pile : Int) (vs : List V) (st : List Stp) (y6 y7 : Option V), σ = [some (.ref a), some (.ref l), some (.int (lv : Int)), some (.int m), some (.ref D), some (.int pile), y6, y7] ∧ Ex a g s' H H3 ∧ Pot a g s' H3 ∧ H3 D = some (.lst vs) ∧ Paired (StpAt K H3) vs st ∧ Gr i pile st ∧ 0 ≤ pile ∧ pile ≤ i)
      ⟨0, [], [], none, none, rfl, (Ex.refl a g s' H).put nD, pot.same (same_upd nD), upd_same, .nil, gr0, Int.le_refl _, Int.le_refl _⟩ ?_ ?_
    · rintro i σ H3 hi ⟨pile, vs, st, y6, y7, rfl, x3, p3, hD3, hpr, gr, hp0, hp1⟩
      have lot3 := lot.ex x3
      refine ⟨.ref D, rfl, .inl ⟨rfl, _, sql hD3⟩, .ref a, rfl, .ref l, rfl, .int m, rfl, a, g, s', l, ns, m, rfl, p3, lot3, hm0, hm1, fun H4 t zs x4 p4 nt ht hz hzl => ⟨(by show 2 ≤ sizeLine; decide), fun b nb => ?_⟩⟩
      have hD4 := x4 D _ hD.1 hD.2.1 hD.2.2 hD3
      have sb := same_upd (o := .tup [.str (Str.ofString "stream"), .ref t]) nb
      have hD5 := sb _ _ hD4
      have p5 := p4.same sb
      have x5 : Ex a g s' H (upd H4 b (.tup [.str (Str.ofString "stream"), .ref t])) := (x3.trans x4).same sb
      have hpr5 : Paired (StpAt K (upd H4 b (.tup [.str (Str.ofString "stream"), .ref t]))) (vs ++ [.ref b]) (st ++ [.put zs]) := paired_app (paired_imp (fun v t h => (h.ex x4 p3).same sb) hpr) (.cons ⟨b, t, rfl, .inl (.inl upd_same), .inl (.inl (sb _ _ ht)), hz, by omega⟩ .nil)
      generalize upd H4 b (.tup [.str (Str.ofString "stream"), .ref t]) = H5 at hD5 p5 x5 hpr5 ⊢
      have lvs : vs.length = st.length := Paired.length hpr
      have gl := gr.len
      refine ⟨D, vs, _, rfl, rfl, hD5, (by rw [lvs, sizeLine_eq]; omega), .int pile, rfl, _, _, rfl, rfl, ?_⟩
      have hD6 : (upd H5 D (.lst (vs ++ [.ref b]))) D = some (.lst (vs ++ [.ref b])) := upd_same
      have p6 := p5.put hD (u := .lst (vs ++ [.ref b]))
      have x6 := Ex.put x5 nD (u := .lst (vs ++ [.ref b]))
      have hpr6 : Paired (StpAt K (upd H5 D (.lst (vs ++ [.ref b])))) (vs ++ [.ref b]) (st ++ [.put zs]) := paired_imp (fun v t h => h.put hD5) hpr5
      generalize upd H5 D (.lst (vs ++ [.ref b])) = H6 at hD6 p6 x6 hpr6 ⊢
      have gr6 := gr_put gr hp0 hz hzl
      refine ⟨.ref a, rfl, a, g, s', 3, rfl, p6, (by decide), (by decide), fun H7 c x7 p7 c0 c1 => ?_⟩
      obtain ⟨c, rfl⟩ := Int.eq_ofNat_of_zero_le c0
      refine ⟨c, rfl, by omega, by omega, ?_⟩
      rw [Int.toNat_natCast]
      refine for_range (lo := 0) (n := c) (fun _ σ H8 => ∃ (pile : Int) (vs : List V) (st : List Stp) (y7 : Option V), σ = [some (.ref a), some (.ref l), some (.int (lv : Int)), some (.int m), some (.ref D), some (.int pile), some (.int (0 + (i : Int))), y7] ∧ Ex a g s' H H8 ∧ Pot a g s' H8 ∧ H8 D = some (.lst vs) ∧ Paired (StpAt K H8) vs st ∧ Gr (i + 1) pile st ∧ 0 ≤ pile ∧ pile ≤ i + 1)
        ⟨_, _, _, _, rfl, x6.trans x7, p7, x7 D _ hD.1 hD.2.1 hD.2.2 hD6, paired_imp (fun v t h => h.ex x7 p6) hpr6, gr6, by omega, by omega⟩ ?_ ?_
      · rintro j σ H8 hj ⟨pl, vs8, st8, z7, rfl, x8, p8, hD8, hpr8, gr8, hq0, hq1⟩
        refine ⟨.int pl, rfl, _, _, rfl, rfl, _, rfl, ite2 (fun hgt => ?_) fun _ => ?_⟩
        · have hgt := of_decide_eq_true hgt
          refine ⟨.ref D, rfl, .inl ⟨rfl, _, sql hD8⟩, (by show 1 ≤ sizeLine; decide), fun b nb => ?_⟩
          have sb := same_upd (o := .tup [.str (Str.ofString "pour")]) nb
          have hD9 := sb _ _ hD8
          have hpr9 : Paired (StpAt K (upd H8 b (.tup [.str (Str.ofString "pour")]))) (vs8 ++ [.ref b]) (st8 ++ [.pour]) := paired_app (paired_imp (fun v t h => h.same sb) hpr8) (.cons ⟨b, rfl, .inl (.inl upd_same)⟩ .nil)
          have p9 := p8.same sb
          have x9 : Ex a g s' H (upd H8 b (.tup [.str (Str.ofString "pour")])) := x8.same sb
          generalize upd H8 b (.tup [.str (Str.ofString "pour")]) = H9 at hD9 hpr9 p9 x9 ⊢
          have lvs : vs8.length = st8.length := Paired.length hpr8
          have gl := gr8.len
          have g9 := gr_pours gr8 1 (by omega)
          refine ⟨D, vs8, _, rfl, rfl, hD9, (by rw [lvs, sizeLine_eq]; omega), .int pl, rfl, _, _, rfl, rfl, ?_⟩
          exact ⟨pl - 1, vs8 ++ [.ref b], st8 ++ [.pour], _, rfl, x9.put nD, p9.put hD, upd_same, paired_imp (fun v t h => h.put hD9) hpr9, g9, by omega, by omega⟩
        · exact ⟨pl, vs8, st8, _, rfl, x8, p8, hD8, hpr8, gr8, hq0, hq1⟩
      · rintro σ H8 ⟨pl, vs8, st8, z7, rfl, x8, p8, hD8, hpr8, gr8, hq0, hq1⟩
        exact ⟨pl, vs8, st8, _, _, rfl, x8, p8, hD8, hpr8, gr8, hq0, by push_cast; omega⟩
    · rintro σ H3 ⟨pile, vs, st, y6, y7, rfl, x3, p3, hD3, hpr, gr, hp0, hp1⟩
      have hp2 := gr.pos lv1
      obtain ⟨n, hn⟩ : ∃ n : Nat, pile - 1 = (n : Int) := ⟨(pile - 1).toNat, by omega⟩
      have gl := gr.len
      have lvs : vs.length = st.length := Paired.length hpr
      refine ⟨.ref D, rfl, (by show 1 ≤ sizeLine; decide), fun b nb => ⟨(by show 1 ≤ sizeLine; decide), fun l1 nl1 => ?_⟩⟩
      have sb : Same H3 (upd (upd H3 b (.tup [.str (Str.ofString "pour")])) l1 (.lst [.ref b])) := Same.new (same_upd nb) nl1
      have hb : (upd (upd H3 b (.tup [.str (Str.ofString "pour")])) l1 (.lst [.ref b])) b = some (.tup [.str (Str.ofString "pour")]) := same_upd nl1 _ _ upd_same
      refine ⟨.int pile, rfl, _, _, rfl, rfl, l1, (n : Int), _, rfl, (by show V.int (pile - 1) = _; rw [hn]), upd_same, (by omega), (by omega), (by rw [Int.toNat_natCast, sizeLine_eq]; show 1 * n ≤ _; omega), fun l2 nl2 => ?_⟩
      rw [Int.toNat_natCast, rep_flat]
      have sc := Same.new (o := .lst (List.replicate n (V.ref b))) sb nl2
      refine ⟨D, l2, _, _, rfl, rfl, sc _ _ hD3, upd_same, (by rw [List.length_replicate, lvs, sizeLine_eq]; omega), fun l3 nl3 => ?_⟩
      have sd := Same.new (o := .lst (vs ++ List.replicate n (V.ref b))) sc nl3
      refine ⟨l3, _, rfl, .inl ⟨sql upd_same, fun t nt => ?_⟩⟩
      have se := Same.new (o := .tup (vs ++ List.replicate n (V.ref b))) sd nt
      have g9 := gr_pours gr n (by omega)
      have e1 : pile - (n : Int) = 1 := by omega
      rw [e1] at g9
      have hbt := Same.new (o := .tup (vs ++ List.replicate n (V.ref b))) (Same.new (o := .lst (vs ++ List.replicate n (V.ref b))) (same_upd nl2 (o := .lst (List.replicate n (V.ref b)))) nl3) nt _ _ hb
      exact q _ t _ _ (x3.same se) (p3.same se) (ex_gone (x3.same sd) (p3.same sd) nt) upd_same (paired_app (paired_imp (fun v t h => h.same se) hpr) (paired_rep ⟨b, rfl, .inl (.inl hbt)⟩ n)) g9
/-! _law_counted -/
def spCounted (K : PySem.W.Frag) : Sp := fun vs H Q _ => ∃ (a : Addr) (l : List Stp), vs = [.ref a] ∧ TreeAt K H a l ∧ mny l ≤ 50000 ∧
  ∀ H' d, Same H H' → H d = none → H' d = some (.dK ((cntT l).map entZ)) → Q (.ref d) H'
theorem ok_counted (T : Blt mg) (d : Dncounted K mg) : FnOk P w K mg base CX0 1 d.f d.fd ["_law_tree_here"] (spCounted K) := by
  refine d.F.ok sccounted (fun vs H Q E h => ?_) (fun cdv A outer s H vs Q E hr h => ?_)
  · obtain ⟨a, l, rfl, _⟩ := h
    rfl
  · obtain ⟨a, l, rfl, ht, few, q⟩ := h
    have hu := hu_of hr
    refine ⟨_, (pss_cons (ps_set (i := 1) sccounted.nd rfl (Or.inl rfl) pe_dnewK)
    (pss_cons (ps_for PassesOwn.never rfl (pi_tup (pv 0)) (pg_name (i := 2) sccounted.nd rfl (Or.inl rfl))
      (pss_one (ps_if (pt_cmpR op_eq (pe_callB call_len_seq (by rfl) T.n_len (by decide +kernel) (pa_cons (pv 2) pa_nil)) pe_int (nomark _))
        (pss_one (ps_for PassesOwn.never rfl (pi_tup (pe_ix ix_tup (pv 2) pe_int (fun _ _ => rfl))) (pg_name (i := 3) sccounted.nd rfl (Or.inl rfl))
          (pss_one (ps_dput hu (pv 1) (pv 3) (pe_op op_add (pe_dget2 hu (pv 1) (pv 3) pe_int ⟨rfl, rfl, rfl, rfl⟩) pe_int) rfl))))
        pss_nil)))
    (pss_one (ps_ret (pv 1))))), ?_⟩
    refine fun c nc => ?_
    obtain ⟨vs, hS, hp⟩ := ht
    have hl : vs.length = l.length := Paired.length hp
    have s2 : Same H (upd H c (.dK [])) := same_upd nc
    refine ⟨.ref a, rfl, a, rfl, ⟨_, seqT hS s2⟩, for_tup (xs := vs) (fun i σ H3 => ∃ y2 y3 : Option V, σ = [some (.ref a), some (.ref c), y2, y3] ∧ Same H H3 ∧ H3 c = some (.dK ((cntT (l.take i)).map entZ))) ⟨none, none, rfl, s2, upd_same⟩ (fun i σ H3 _ ⟨_, _, _, s3, _⟩ => seqT hS s3) ?_ ?_⟩
    · rintro i v σ H3 hi ⟨y2, y3, rfl, s3, hc3⟩
      obtain ⟨st, hst, hat⟩ := paired_at hp hi
      have hat3 := hat.same s3
      have snoc := cntT_snoc hst
      have l0 := cntT_len (l.take i)
      have m0 := mny_mono l i
      cases st with
      | put zs =>
        obtain ⟨b, t, rfl, h1, h2, _, hzl⟩ := hat3
        refine ⟨.ref b, rfl, b, _, rfl, .inr h1, rfl, true, congrArg V.bl (decide_eq_true rfl), iteT ?_⟩
        refine ⟨.ref b, rfl, b, _, _, _, rfl, rfl, h1, atI_nat (j := 1) rfl, t, rfl, ⟨_, h2⟩, for_tup (xs := zs.map V.str) (fun j σ H6 => ∃ z5 : Option V, σ = [some (.ref a), some (.ref c), some (.ref b), z5] ∧ Same H H6 ∧ SqT K H6 t (zs.map V.str) ∧ H6 c = some (.dK ((cntZ (zs.take j) (cntT (l.take i))).map entZ))) ⟨y3, rfl, s3, h2, hc3⟩ (fun j σ H6 _ ⟨_, _, _, h, _⟩ => h) ?_ ?_⟩
        · rintro j v σ H6 hj ⟨z5, rfl, s6, h6, hc6⟩
          obtain ⟨z, hz, rfl⟩ := map_at hj
          have lj := cntZ_len (zs := zs.take j) (kc := cntT (l.take i))
          rw [List.length_take] at lj
          refine ⟨.ref c, rfl, c, rfl, .inl ⟨_, .inl hc6⟩, .str z, rfl, _, DGet.k (k := Sum.inr z) hc6, ?_⟩
          rw [getZ_val]
          refine ⟨(getZ (cntZ (zs.take j) (cntT (l.take i))) z).getD 0, 1, ?_, rfl, ?_⟩
          · cases getZ (cntZ (zs.take j) (cntT (l.take i))) z <;> rfl
          refine ⟨.ref c, rfl, .str z, rfl, c, _, rfl, DPut.k (k := Sum.inr z) hc6 (by rw [List.length_map, sizeLine_eq]; omega), ?_⟩
          rw [putZ_put]
          refine ⟨some (.str z), rfl, Same.put s6 nc, ?_, ?_⟩
          · rcases h6 with (h | ⟨o', h⟩) | h
            · exact .inl (.inl (by rw [upd_ne (ne_of h hc6 (by intro z; cases z))]; exact h))
            · exact .inl (.inr ⟨o', by rw [upd_ne (ne_of h hc6 (by intro z; cases z))]; exact h⟩)
            · exact .inr h
          · rw [upd_same, cntZ_snoc hz]
            rfl
        · rintro σ H6 ⟨z5, rfl, s6, h6, hc6⟩
          rw [List.length_map, List.take_length] at hc6
          refine ⟨_, _, rfl, s6, ?_⟩
          rw [snoc]
          exact hc6
      | pour =>
        obtain ⟨b, rfl, h1⟩ := hat3
        refine ⟨.ref b, rfl, b, _, rfl, .inr h1, rfl, false, congrArg V.bl (decide_eq_false (by intro z; cases z)), iteF ?_⟩
        refine ⟨_, _, rfl, s3, ?_⟩
        rw [snoc]
        exact hc3
    · rintro σ H3 ⟨y2, y3, rfl, s3, hc3⟩
      rw [hl, List.take_length] at hc3
      exact ⟨.ref c, rfl, q H3 c s3 nc hc3⟩
end
end Kb

namespace Kb
open PySem PySem.Spec PyProof.Rows L2 SrtZ SrtO
/-! pouring, in any order of the counts -/
theorem mem_getZ {kvs : Ct} (nd : NdZ kvs) (e : Str × Int) : e ∈ kvs ↔ getZ kvs e.1 = some e.2 := by
  constructor
  · intro h
    obtain ⟨i, hi⟩ := List.mem_iff_getElem?.mp h
    exact getZ_self nd hi
  · intro h
    unfold getZ at h
    cases hf : kvs.find? fun f => decide (f.1 = e.1) with
    | none => rw [hf] at h; cases h
    | some f =>
      rw [hf] at h
      have h1 : f.1 = e.1 := of_decide_eq_true (List.find?_some (p := fun f : Str × Int => decide (f.1 = e.1)) hf)
      have h2 : f.2 = e.2 := Option.some.inj h
      have : f = e := Prod.ext h1 h2
      rw [← this]
      exact List.mem_of_find?_eq_some hf
theorem nd_nodup {kvs : Ct} (nd : NdZ kvs) : kvs.Nodup := by
  unfold NdZ at nd
  rw [List.Nodup, List.pairwise_map] at nd
  exact nd.imp fun h e => h (by rw [e])
theorem perm_of_getZ {a b : Ct} (na : NdZ a) (nb : NdZ b) (h : ∀ k, getZ a k = getZ b k) : a.Perm b :=
  (List.perm_ext_iff_of_nodup (nd_nodup na) (nd_nodup nb)).mpr fun e => by rw [mem_getZ na, mem_getZ nb, h]
theorem getZ_sums : ∀ {more kvs : Ct}, NdZ more → ∀ k, getZ (sumsZ more kvs) k = match getZ more k with | none => getZ kvs k | some c => some (gd kvs k + c)
  | [], kvs, _, k => rfl
  | e :: r, kvs, nd, k => by
    unfold NdZ at nd
    rw [List.map_cons, List.nodup_cons] at nd
    have ih := getZ_sums (more := r) (kvs := addZ kvs e.1 e.2) nd.2 k
    show getZ (sumsZ r (addZ kvs e.1 e.2)) k = _
    rw [ih, getZ_cons]
    by_cases h : e.1 = k
    · rw [if_pos h, getZ_none.mpr (h ▸ nd.1)]
      show getZ (addZ kvs e.1 e.2) k = some (gd kvs k + e.2)
      unfold addZ gd
      rw [getZ_put, if_pos h.symm, h]
    · rw [if_neg h]
      have e1 : getZ (addZ kvs e.1 e.2) k = getZ kvs k := by
        unfold addZ
        rw [getZ_put, if_neg (Ne.symm h)]
      have e2 : gd (addZ kvs e.1 e.2) k = gd kvs k := by
        unfold gd
        rw [e1]
      rw [e1, e2]
theorem gd_sums {more kvs : Ct} (nd : NdZ more) (k : Str) : gd (sumsZ more kvs) k = gd kvs k + gd more k := by
  unfold gd
  rw [getZ_sums nd]
  cases getZ more k with
  | none => exact (Int.add_zero _).symm
  | some c => rfl
theorem sums_perm {a a' b b' : Ct} (pa : a.Perm a') (pb : b.Perm b') (na : NdZ a) (nb : NdZ b) : (sumsZ a b).Perm (sumsZ a' b') := by
  have na' : NdZ a' := (pa.map (·.1)).nodup_iff.mp na
  have nb' : NdZ b' := (pb.map (·.1)).nodup_iff.mp nb
  refine perm_of_getZ (sumsZ_nd nb) (sumsZ_nd nb') fun k => ?_
  rw [getZ_sums na, getZ_sums na', getZ_perm pa na, getZ_perm pb nb]
  unfold gd
  rw [getZ_perm pb nb]
theorem fall_perm {a b : Ct} (p : a.Perm b) (r : Int) : fallZ a r = fallZ b r := by
  have hs := List.pairwise_mergeSort (le := fun (a b : Int) => decide (b ≤ a)) (fun a b c h1 h2 => by simp at *; omega) (fun a b => by simp; omega) (a.map (·.2))
  have := fall_uniq (kvs := b) (ns := (a.map (·.2)).mergeSort fun a b => decide (b ≤ a)) ((List.mergeSort_perm _ _).trans (p.map (·.2))) (hs.imp fun h => of_decide_eq_true h)
  unfold fallZ
  rw [this]
theorem skT_eq {x x' : Tl} (nd : NdZ x.c) (h : skT x = skT x') : x.m = x'.m ∧ x.o = x'.o ∧ x.c.Perm x'.c := by
  obtain ⟨m, o, c⟩ := x
  obtain ⟨m', o', c'⟩ := x'
  unfold skT at h
  injection h with e1 e2 e3
  dsimp only at e1 e2 e3
  exact ⟨e1, e2, (srtZ_perm c).symm.trans (by rw [e3]; exact srtZ_perm c')⟩
theorem pour_skT {r : Int} {x x' y y' : Tl} (nx : NdZ x.c) (ny : NdZ y.c) (hx : skT x = skT x') (hy : skT y = skT y') : skT (pourT r y x) = skT (pourT r y' x') := by
  obtain ⟨x1, x2, x3⟩ := skT_eq nx hx
  obtain ⟨y1, y2, y3⟩ := skT_eq ny hy
  have p := sums_perm y3 x3 ny nx
  have nd := sumsZ_nd (more := y.c) nx
  unfold pourT
  dsimp only
  rw [p.length_eq, fall_perm p, x1, x2, y1, y2]
  split
  · unfold skT
    dsimp only
    rw [srtZ_eq (takeZ_perm p _) (takeZ_nd nd)]
  · unfold skT
    dsimp only
    rw [srtZ_eq p nd]
/-! two runs: the program's and the law's own -/
def stepL (r : Int) (st : List Tl) : Stp → List Tl
  | .put zs => feedsT r zs tl0 :: st
  | .pour => match st with
    | x :: y :: st => pourT r x y :: st
    | st => st
def runL (r : Int) (l : List Stp) : List Tl := l.foldl (stepL r) []
theorem runL_snoc {r : Int} {l : List Stp} {i : Nat} {t : Stp} (h : l[i]? = some t) : runL r (l.take (i + 1)) = stepL r (runL r (l.take i)) t := by
  unfold runL
  rw [List.take_add_one, h, List.foldl_append]
  rfl
theorem runL_ok {r : Int} (hr : 1 ≤ r) : ∀ {l : List Stp} {st : List Tl}, (∀ zs, .put zs ∈ l → ∀ z ∈ zs, Nm z) → (∀ x ∈ st, TlOk r x) → ∀ x ∈ l.foldl (stepL r) st, TlOk r x
  | [], _, _, h => h
  | t :: l, st, hn, h => by
    refine runL_ok hr (l := l) (fun zs hz => hn zs (List.mem_cons_of_mem _ hz)) ?_
    cases t with
    | put zs =>
      intro x hx
      rcases List.mem_cons.mp hx with rfl | hx
      · exact feedsT_ok hr (tl0_ok hr) (hn zs List.mem_cons_self)
      · exact h x hx
    | pour =>
      match st, h with
      | [], h => exact h
      | [_], h => exact h
      | a :: b :: st, h =>
        intro x hx
        rcases List.mem_cons.mp hx with rfl | hx
        · exact pourT_ok (h b (List.mem_cons_of_mem _ List.mem_cons_self)) (h a List.mem_cons_self) (by omega)
        · exact h x (List.mem_cons_of_mem _ (List.mem_cons_of_mem _ hx))
theorem runTL {r : Int} (hr : 1 ≤ r) : ∀ {l : List Stp} {st st' : List Tl}, (∀ zs, .put zs ∈ l → ∀ z ∈ zs, Nm z) → (∀ x ∈ st, TlOk r x) → (∀ x ∈ st', TlOk r x) → st.map skT = st'.map skT → (l.foldl (stepT r) st).map skT = (l.foldl (stepL r) st').map skT
  | [], _, _, _, _, _, h => h
  | t :: l, st, st', hn, h1, h2, h => by
    have hn' : ∀ zs, .put zs ∈ l → ∀ z ∈ zs, Nm z := fun zs hz => hn zs (List.mem_cons_of_mem _ hz)
    cases t with
    | put zs =>
      have ok := feedsT_ok hr (tl0_ok hr) (hn zs List.mem_cons_self)
      refine runTL hr (l := l) hn' (fun x hx => ?_) (fun x hx => ?_) ?_
      · rcases List.mem_cons.mp hx with rfl | hx
        · exact ok
        · exact h1 x hx
      · rcases List.mem_cons.mp hx with rfl | hx
        · exact ok
        · exact h2 x hx
      · show skT _ :: st.map skT = skT _ :: st'.map skT
        rw [h]
    | pour =>
      match st, st', h, h1, h2 with
      | [], [], h, h1, h2 => exact runTL hr (l := l) hn' h1 h2 h
      | [a], [b], h, h1, h2 => exact runTL hr (l := l) hn' h1 h2 h
      | [_], _ :: _ :: _, h, _, _ => simp at h
      | _ :: _ :: _, [_], h, _, _ => simp at h
      | a :: b :: st, a' :: b' :: st', h, h1, h2 =>
        injection h with e1 h
        injection h with e2 h
        have oa := h1 a List.mem_cons_self
        have ob := h1 b (List.mem_cons_of_mem _ List.mem_cons_self)
        have oa' := h2 a' List.mem_cons_self
        have ob' := h2 b' (List.mem_cons_of_mem _ List.mem_cons_self)
        refine runTL hr (l := l) hn' (fun x hx => ?_) (fun x hx => ?_) ?_
        · rcases List.mem_cons.mp hx with rfl | hx
          · exact pourT_ok ob (skT_ok oa) (by omega)
          · exact h1 x (List.mem_cons_of_mem _ (List.mem_cons_of_mem _ hx))
        · rcases List.mem_cons.mp hx with rfl | hx
          · exact pourT_ok ob' oa' (by omega)
          · exact h2 x (List.mem_cons_of_mem _ (List.mem_cons_of_mem _ hx))
        · show skT (pourT r (skT a) b) :: st.map skT = skT (pourT r a' b') :: st'.map skT
          rw [pour_skT ob.nd (skT_ok oa).nd e2 ((skT_skT oa.nd).trans e1), h]
/-- a tree's run stands beside what was on the pile -/
theorem run_beside {r : Int} : ∀ {l : List Stp} {st base : List Tl} {h : Int}, Vl h l → (st.length : Int) = h → l.foldl (stepL r) (st ++ base) = l.foldl (stepL r) st ++ base
  | [], _, _, _, _, _ => rfl
  | .put zs :: l, st, base, h, v, e => run_beside (l := l) (st := feedsT r zs tl0 :: st) (h := h + 1) v (by rw [List.length_cons]; omega)
  | .pour :: l, st, base, h, v, e => by
    match st, e with
    | [], e => exact absurd v.1 (by simp at e; omega)
    | [_], e => exact absurd v.1 (by simp at e; omega)
    | a :: b :: st, e => exact run_beside (l := l) (st := pourT r a b :: st) (h := h - 1) v.2 (by rw [List.length_cons] at e ⊢; rw [List.length_cons] at e; omega)
theorem runL_len {r : Int} : ∀ {l : List Stp} {st : List Tl} {h : Int}, Vl h l → (st.length : Int) = h → ((l.foldl (stepL r) st).length : Int) = l.foldl hS h
  | [], _, _, _, e => e
  | .put zs :: l, st, h, v, e => runL_len (l := l) (st := feedsT r zs tl0 :: st) (h := h + 1) v (by rw [List.length_cons]; omega)
  | .pour :: l, st, h, v, e => by
    match st, e with
    | [], e => exact absurd v.1 (by simp at e; omega)
    | [_], e => exact absurd v.1 (by simp at e; omega)
    | a :: b :: st, e => exact runL_len (l := l) (st := pourT r a b :: st) (h := h - 1) v.2 (by rw [List.length_cons] at e ⊢; rw [List.length_cons] at e; omega)
/-! what pouring leaves true -/
def minS (f : Int) (cs : List Int) : Int := (cs.map fun c => if f < c then f else c).sum
theorem minS_cons (f c : Int) (cs : List Int) : minS f (c :: cs) = (if f < c then f else c) + minS f cs := by
  unfold minS
  rw [List.map_cons, List.sum_cons]
theorem minS_perm {f : Int} {a b : List Int} (p : a.Perm b) : minS f a = minS f b := by
  induction p with
  | nil => rfl
  | cons x _ ih => rw [minS_cons, minS_cons, ih]
  | swap x y l =>
    rw [minS_cons, minS_cons, minS_cons, minS_cons]
    omega
  | trans _ _ ih1 ih2 => rw [ih1, ih2]
theorem sumC_take {f : Int} : ∀ kvs : Ct, sumC (takeZ f kvs) = sumC kvs - minS f (kvs.map (·.2))
  | [] => rfl
  | e :: r => by
    have ih := sumC_take (f := f) r
    rw [sumC_cons', List.map_cons, minS_cons]
    unfold takeZ at ih ⊢
    by_cases h : f < e.2
    · rw [List.filter_cons_of_pos (by simpa using h), List.map_cons, sumC_cons', ih, if_pos h]
      show e.2 - f + _ = _
      omega
    · rw [List.filter_cons_of_neg (by simpa using h), ih, if_neg h]
      omega
theorem minS_le {f : Int} : ∀ cs : List Int, minS f cs ≤ (cs.length : Int) * f
  | [] => by show (0 : Int) ≤ 0 * f; omega
  | c :: cs => by
    have ih := minS_le (f := f) cs
    rw [minS_cons, List.length_cons]
    have e : ((cs.length + 1 : Nat) : Int) * f = (cs.length : Int) * f + f := by push_cast; rw [Int.add_mul, Int.one_mul]
    rw [e]
    split <;> omega
theorem minS_ge {f : Int} (hf : 0 ≤ f) : ∀ {cs : List Int} {n : Nat}, (∀ c ∈ cs, 0 ≤ c) → (∀ i c, i < n → cs[i]? = some c → f ≤ c) → n ≤ cs.length → (n : Int) * f ≤ minS f cs
  | [], n, _, _, hn => by
    have : n = 0 := by simpa using hn
    subst this
    show (0 : Int) * f ≤ 0
    omega
  | c :: cs, 0, h0, _, _ => by
    have ih := minS_ge hf (cs := cs) (n := 0) (fun c hc => h0 c (List.mem_cons_of_mem _ hc)) (fun i c h => absurd h (by omega)) (Nat.zero_le _)
    rw [minS_cons]
    have h1 := h0 c List.mem_cons_self
    split <;> omega
  | c :: cs, n + 1, h0, hc, hn => by
    have ih := minS_ge hf (cs := cs) (n := n) (fun c hc => h0 c (List.mem_cons_of_mem _ hc)) (fun i c h e => hc (i + 1) c (by omega) (by simpa using e)) (by rw [List.length_cons] at hn; omega)
    have h1 := hc 0 c (by omega) rfl
    rw [minS_cons]
    have e : ((n + 1 : Nat) : Int) * f = (n : Int) * f + f := by push_cast; rw [Int.add_mul, Int.one_mul]
    rw [e]
    split <;> omega
theorem fall_spec {kvs : Ct} {r : Nat} (h : r < kvs.length) (pos : ∀ e ∈ kvs, 1 ≤ e.2) : 1 ≤ fallZ kvs r ∧ ((r : Int) + 1) * fallZ kvs r ≤ minS (fallZ kvs r) (kvs.map (·.2)) := by
  have hp := List.mergeSort_perm (kvs.map (·.2)) (fun a b => decide (b ≤ a))
  have hs := List.pairwise_mergeSort (le := fun (a b : Int) => decide (b ≤ a)) (fun a b c h1 h2 => by simp at *; omega) (fun a b => by simp; omega) (kvs.map (·.2))
  have p1 : ∀ c ∈ (kvs.map (·.2)).mergeSort (fun a b => decide (b ≤ a)), 1 ≤ c := fun c hc => by
    obtain ⟨e, he, rfl⟩ := List.mem_map.mp (hp.mem_iff.mp hc)
    exact pos e he
  rw [← minS_perm hp]
  unfold fallZ
  rw [Int.toNat_natCast]
  have hl : r < ((kvs.map (·.2)).mergeSort (fun a b => decide (b ≤ a))).length := by rw [hp.length_eq, List.length_map]; exact h
  generalize (kvs.map (·.2)).mergeSort (fun a b => decide (b ≤ a)) = s at hs p1 hl
  have eg : s.getD r 0 = s[r] := by simp [List.getD, hl]
  rw [eg]
  have h1 := p1 _ (List.getElem_mem hl)
  refine ⟨h1, ?_⟩
  have := minS_ge (f := s[r]) (by omega) (cs := s) (n := r + 1) (fun c hc => by have := p1 c hc; omega) (fun i c hi hc => ?_) (by omega)
  · push_cast at this
    exact this
  · obtain ⟨hil, rfl⟩ := List.getElem?_eq_some_iff.mp hc
    by_cases e : i = r
    · subst e
      exact Int.le_refl _
    · exact of_decide_eq_true (List.pairwise_iff_getElem.mp hs i r hil hl (by omega))
theorem sumC_sums : ∀ {more kvs : Ct}, NdZ kvs → sumC (sumsZ more kvs) = sumC kvs + sumC more
  | [], kvs, _ => by show sumC kvs = sumC kvs + 0; omega
  | e :: r, kvs, nd => by
    show sumC (sumsZ r (addZ kvs e.1 e.2)) = _
    rw [sumC_sums (more := r) (addZ_nd nd), sumC_add nd, sumC_cons']
    omega
/-- within the bounds -/
structure Bd (r : Int) (x : Tl) : Prop where
  low : (r + 1) * x.o ≤ x.m - sumC x.c
  high : x.m - sumC x.c ≤ 2 * r * x.o
  off : 0 ≤ x.o
  many : 0 ≤ x.m
theorem bd_pour {r : Int} {x y : Tl} (hr : 1 ≤ r) (ox : TlOk r x) (oy : TlOk r y) (hx : Bd r x) (hy : Bd r y) : Bd r (pourT r y x) := by
  obtain ⟨rn, rfl⟩ := Int.eq_ofNat_of_zero_le (show 0 ≤ r by omega)
  have es := sumC_sums (more := y.c) ox.nd
  have ll := sumsZ_len (more := y.c) (kvs := x.c)
  have pos := sumsZ_pos oy.pos ox.pos
  have lx := ox.len
  have ly := oy.len
  obtain ⟨a1, a2, a3, a4⟩ := hx
  obtain ⟨b1, b2, b3, b4⟩ := hy
  unfold pourT
  dsimp only
  generalize sumsZ y.c x.c = all at es ll pos
  have d1 : ((rn : Int) + 1) * (x.o + y.o) = ((rn : Int) + 1) * x.o + ((rn : Int) + 1) * y.o := Int.mul_add _ _ _
  have d2 : 2 * (rn : Int) * (x.o + y.o) = 2 * (rn : Int) * x.o + 2 * (rn : Int) * y.o := Int.mul_add _ _ _
  split
  · rename_i h
    obtain ⟨f1, f2⟩ := fall_spec (kvs := all) (r := rn) (by omega) pos
    have f3 := minS_le (f := fallZ all rn) (all.map (·.2))
    rw [List.length_map] at f3
    have f4 : (all.length : Int) * fallZ all rn ≤ 2 * (rn : Int) * fallZ all rn := Int.mul_le_mul_of_nonneg_right (by omega) (by omega)
    have d3 : ((rn : Int) + 1) * (x.o + y.o + fallZ all rn) = ((rn : Int) + 1) * (x.o + y.o) + ((rn : Int) + 1) * fallZ all rn := Int.mul_add _ _ _
    have d4 : 2 * (rn : Int) * (x.o + y.o + fallZ all rn) = 2 * (rn : Int) * (x.o + y.o) + 2 * (rn : Int) * fallZ all rn := Int.mul_add _ _ _
    refine ⟨?_, ?_, ?_, ?_⟩ <;> dsimp only
    · rw [sumC_take, d3]
      omega
    · rw [sumC_take, d4]
      omega
    · omega
    · omega
  · refine ⟨?_, ?_, ?_, ?_⟩ <;> dsimp only <;> omega
theorem bd_feeds {r : Int} (hr : 1 ≤ r) : ∀ {zs : List Str} {x : Tl}, TlOk r x → Fd r x → 0 ≤ x.m → (∀ z ∈ zs, Nm z) → Fd r (feedsT r zs x) ∧ (feedsT r zs x).m = x.m + (zs.length : Int)
  | [], x, _, f, _, _ => ⟨f, by show x.m = x.m + 0; omega⟩
  | z :: zs, x, ok, f, hm, hn => by
    have em : (feedT r z 1 x).m = x.m + 1 := by
      unfold feedT
      split <;> rfl
    obtain ⟨a, b⟩ := bd_feeds hr (zs := zs) (x := feedT r z 1 x) (feedT_ok ok hr (hn z List.mem_cons_self) (by decide)) (fd_feed ok hr f) (by rw [em]; omega) fun y hy => hn y (List.mem_cons_of_mem _ hy)
    refine ⟨a, ?_⟩
    show (feedsT r zs (feedT r z 1 x)).m = _
    rw [b, em, List.length_cons]
    push_cast
    omega
theorem bd_stream {r : Int} {zs : List Str} (hr : 1 ≤ r) (hn : ∀ z ∈ zs, Nm z) : Bd r (feedsT r zs tl0) ∧ (feedsT r zs tl0).m = (zs.length : Int) := by
  obtain ⟨f, e⟩ := bd_feeds hr (tl0_ok hr) (fd0 r) (Int.le_refl _) hn
  have e : (feedsT r zs tl0).m = (zs.length : Int) := by rw [e]; show 0 + _ = _; omega
  have ho := f.off
  have h2 : (r + 1) * (feedsT r zs tl0).o ≤ 2 * r * (feedsT r zs tl0).o := Int.mul_le_mul_of_nonneg_right (by omega) ho
  exact ⟨⟨by rw [f.lost]; exact Int.le_refl _, by rw [f.lost]; exact h2, ho, by rw [e]; omega⟩, e⟩
/-- the true counts, as a function -/
def TruF (f : Str → Int) (x : Tl) : Prop := ∀ k, 0 ≤ f k - gd x.c k ∧ f k - gd x.c k ≤ x.o
theorem gd_take {a : Int} {kvs : Ct} (nd : NdZ kvs) (ha : 0 ≤ a) (k : Str) (pos : ∀ e ∈ kvs, 1 ≤ e.2) : gd (takeZ a kvs) k = if a < gd kvs k then gd kvs k - a else 0 := by
  unfold gd
  rw [getZ_take nd]
  cases getZ kvs k with
  | none =>
    show 0 = if a < 0 then _ else 0
    rw [if_neg (by omega)]
  | some v =>
    show (if a < v then some (v - a) else none).getD 0 = if a < v then v - a else 0
    split <;> rfl
theorem tru_pour {r : Int} {x y : Tl} {f g : Str → Int} (hr : 1 ≤ r) (ox : TlOk r x) (oy : TlOk r y) (hf : TruF f x) (hg : TruF g y) : TruF (fun k => f k + g k) (pourT r y x) := by
  obtain ⟨rn, rfl⟩ := Int.eq_ofNat_of_zero_le (show 0 ≤ r by omega)
  intro k
  obtain ⟨a1, a2⟩ := hf k
  obtain ⟨b1, b2⟩ := hg k
  have es := gd_sums (kvs := x.c) oy.nd k
  have pos := sumsZ_pos oy.pos ox.pos
  have nd := sumsZ_nd (more := y.c) ox.nd
  unfold pourT
  dsimp only
  generalize sumsZ y.c x.c = all at es pos nd
  have hp : 0 ≤ gd all k := getZ_pos pos
  split
  · rename_i h
    obtain ⟨f1, _⟩ := fall_spec (kvs := all) (r := rn) (by omega) pos
    dsimp only
    rw [gd_take nd (by omega) k pos]
    split <;> omega
  · dsimp only
    omega
theorem gd_cntZ : ∀ (zs : List Str) (kc : Ct) (k : Str), gd (cntZ zs kc) k = gd kc k + gd (cntZ zs []) k
  | [], kc, k => by show gd kc k = gd kc k + 0; omega
  | z :: zs, kc, k => by
    show gd (cntZ zs (addZ kc z 1)) k = gd kc k + gd (cntZ zs (addZ [] z 1)) k
    rw [gd_cntZ zs (addZ kc z 1) k, gd_cntZ zs (addZ [] z 1) k, gd_add, gd_add]
    show _ = _ + (0 + _ + _)
    omega
theorem tru_stream {r : Int} (hr : 1 ≤ r) : ∀ {zs : List Str} {x : Tl} {kc : Ct}, TlOk r x → Tru kc x → (∀ z ∈ zs, Nm z) → Tru (cntZ zs kc) (feedsT r zs x)
  | [], _, _, _, h, _ => h
  | z :: zs, x, kc, ok, h, hn => tru_stream hr (zs := zs) (feedT_ok ok hr (hn z List.mem_cons_self) (by decide)) (tru_feed ok hr h) fun y hy => hn y (List.mem_cons_of_mem _ hy)
/-- each tally of the pile within its bounds, beside its true counts; together they are those of the tree -/
theorem runL_true {r : Int} (hr : 1 ≤ r) : ∀ {l : List Stp} {st : List Tl} {fs : List (Str → Int)} {kc : Ct} {m : Int}, (∀ zs, .put zs ∈ l → ∀ z ∈ zs, Nm z) → (∀ x ∈ st, TlOk r x ∧ Bd r x) → Paired TruF fs st → (∀ k, (fs.map fun f => f k).sum = gd kc k) → (st.map (·.m)).sum = m →
    ∃ gs, Paired TruF gs (l.foldl (stepL r) st) ∧ (∀ x ∈ l.foldl (stepL r) st, Bd r x) ∧ (∀ k, (gs.map fun f => f k).sum = gd (l.foldl cntS kc) k) ∧ ((l.foldl (stepL r) st).map (·.m)).sum = l.foldl cS m
  | [], st, fs, kc, m, _, h, p, s, e => ⟨fs, p, fun x hx => (h x hx).2, s, e⟩
  | t :: l, st, fs, kc, m, hn, h, p, s, e => by
    have hn' : ∀ zs, .put zs ∈ l → ∀ z ∈ zs, Nm z := fun zs hz => hn zs (List.mem_cons_of_mem _ hz)
    cases t with
    | put zs =>
      have hz := hn zs List.mem_cons_self
      have ok := feedsT_ok hr (tl0_ok hr) hz
      obtain ⟨b1, b2⟩ := bd_stream hr hz
      refine runL_true hr (l := l) (st := feedsT r zs tl0 :: st) (fs := (fun k => gd (cntZ zs []) k) :: fs) (kc := cntZ zs kc) (m := m + (zs.length : Nat)) hn' (fun x hx => ?_) (.cons (tru_stream hr (tl0_ok hr) tru0 hz) p) (fun k => ?_) ?_
      · rcases List.mem_cons.mp hx with rfl | hx
        · exact ⟨ok, b1⟩
        · exact h x hx
      · rw [List.map_cons, List.sum_cons, s k, gd_cntZ zs kc k]
        exact Int.add_comm _ _
      · rw [List.map_cons, List.sum_cons, e, b2]
        omega
    | pour =>
      match st, fs, p, h, s, e with
      | [], fs, p, h, s, e => exact runL_true hr (l := l) hn' h p s e
      | [_], fs, p, h, s, e => exact runL_true hr (l := l) hn' h p s e
      | a :: b :: st, _, .cons pa (.cons pb p), h, s, e =>
        rename_i fa fb fs
        obtain ⟨oa, ba⟩ := h a List.mem_cons_self
        obtain ⟨ob, bb⟩ := h b (List.mem_cons_of_mem _ List.mem_cons_self)
        have em : (pourT r a b).m = b.m + a.m := by
          unfold pourT
          dsimp only
          split <;> rfl
        refine runL_true hr (l := l) (st := pourT r a b :: st) (fs := (fun k => fb k + fa k) :: fs) (kc := kc) (m := m) hn' (fun x hx => ?_) (.cons (tru_pour hr ob oa pb pa) p) (fun k => ?_) ?_
        · rcases List.mem_cons.mp hx with rfl | hx
          · exact ⟨pourT_ok ob oa (by omega), bd_pour hr ob oa bb ba⟩
          · exact h x (List.mem_cons_of_mem _ (List.mem_cons_of_mem _ hx))
        · have := s k
          rw [List.map_cons, List.map_cons, List.sum_cons, List.sum_cons] at this
          rw [List.map_cons, List.sum_cons]
          show fb k + fa k + (fs.map fun f => f k).sum = gd kc k
          omega
        · rw [List.map_cons, List.map_cons, List.sum_cons, List.sum_cons] at e
          rw [List.map_cons, List.sum_cons, em]
          omega
theorem sum_cnt : ∀ (l : List Stp) (kc : Ct) (m : Int), NdZ kc → sumC kc = m → sumC (l.foldl cntS kc) = l.foldl cS m
  | [], _, _, _, e => e
  | .put zs :: l, kc, m, nd, e => by
    have gen : ∀ (zs : List Str) (kc : Ct), NdZ kc → sumC (cntZ zs kc) = sumC kc + (zs.length : Int) := by
      intro zs
      induction zs with
      | nil => exact fun kc _ => by show sumC kc = sumC kc + 0; omega
      | cons z zs ih =>
        intro kc nd
        show sumC (cntZ zs (addZ kc z 1)) = _
        rw [ih _ (addZ_nd nd), sumC_add nd, List.length_cons]
        push_cast
        omega
    exact sum_cnt l (cntZ zs kc) (m + (zs.length : Nat)) (cntZ_nd nd) (by rw [gen zs kc nd, e])
  | .pour :: l, kc, m, nd, e => sum_cnt l kc m nd e
end Kb

namespace Kb
open PySem PySem.Spec PyProof.Rows L2 SrtZ SrtO
abbrev spoured : Stmt := topS 42
abbrev Npoured : List Str := ["_law_room", "_law_one", "_law_other", "_law_counts", "_law_falling", "_law_taken", "_law_left", "_law_name"]
theorem scpoured : FnScope ["_law_room", "_law_one", "_law_other", "_law_counts", "_law_falling", "_law_taken", "_law_left", "_law_name"] ["_law_room", "_law_one", "_law_other"] (defScope spoured) := ⟨rfl, rfl, rfl, by decide +kernel, rfl, by decide +kernel, by decide +kernel⟩
abbrev sled : Stmt := topS 43
theorem scled : FnScope ["_law_room", "_law_tree_here", "_law_pile", "_law_step", "_law_other", "_law_one", "_law_state", "_law_name"] ["_law_room", "_law_tree_here"] (defScope sled) := ⟨rfl, rfl, rfl, by decide +kernel, rfl, by decide +kernel, by decide +kernel⟩
abbrev Dnpoured (K : PySem.W.Frag) (mg : Str → Option Value) := Dn K mg "_law_poured" spoured ["_law_room", "_law_one", "_law_other"]
abbrev Dnled (K : PySem.W.Frag) (mg : Str → Option Value) := Dn K mg "_law_led" sled ["_law_room", "_law_tree_here"]
theorem sumsZ_snoc' {more kvs : Ct} {i : Nat} {e : Str × Int} (h : more[i]? = some e) : sumsZ (more.take (i + 1)) kvs = addZ (sumsZ (more.take i) kvs) e.1 e.2 := sumsZ_snoc h
theorem neg_fall {kvs : Ct} {r : Nat} {ns : List Int} (p : ns.Perm (kvs.map fun e => -e.2)) (so : ns.Pairwise (· ≤ ·)) (h : r < kvs.length) : ∃ v, ns[r]? = some v ∧ -v = fallZ kvs r := by
  have hl : ns.length = kvs.length := by rw [p.length_eq, List.length_map]
  have pm : (ns.map fun c => -c).Perm (kvs.map (·.2)) := by
    have := p.map (fun c : Int => -c)
    rw [List.map_map] at this
    refine this.trans ?_
    rw [show ((fun c : Int => -c) ∘ fun e : Str × Int => -e.2) = (fun e : Str × Int => e.2) from funext fun e => Int.neg_neg e.2]
  have so2 : (ns.map fun c => -c).Pairwise (· ≥ ·) := by
    rw [List.pairwise_map]
    exact so.imp fun h => by show -_ ≤ -_; omega
  have e := fall_uniq pm so2
  have hr : r < ns.length := by omega
  refine ⟨ns[r], List.getElem?_eq_getElem hr, ?_⟩
  unfold fallZ
  rw [Int.toNat_natCast, ← e, List.getD_eq_getElem?_getD, List.getElem?_map, List.getElem?_eq_getElem hr]
  rfl
/-- a state of the law's own on the heap -/
structure Sta (K : PySem.W.Frag) (H : Hp) (s : Addr) (x : Tl) : Prop where
  ex : ∃ d, SqT K H s [.int x.o, .ref d] ∧ H d = some (.dK (x.c.map entZ))
theorem Sta.same {K : PySem.W.Frag} {H H' : Hp} {s : Addr} {x : Tl} (h : Sta K H s x) (y : Same H H') : Sta K H' s x := by
  obtain ⟨d, a, b⟩ := h
  exact ⟨d, seqT a y, y _ _ b⟩
section
variable {P : Program} {w : World} {K : PySem.W.Frag} {mg : Str → Option Value} {base : Heap}
/-! _law_poured -/
def spPouredL (K : PySem.W.Frag) : Sp := fun vs H Q _ => ∃ (r : Int) (s1 s2 : Addr) (x y : Tl), vs = [.int r, .ref s1, .ref s2] ∧ Sta K H s1 x ∧ Sta K H s2 y ∧ TlOk r x ∧ TlOk r y ∧ 1 ≤ r ∧ r ≤ 64 ∧
  ∀ H' st, Same H H' → H st = none → Sta K H' st (pourT r y x) → Q (.ref st) H'
theorem ok_pouredL (T : Blt mg) (d : Dnpoured K mg) : FnOk P w K mg base CX0 1 d.f d.fd ["_law_room", "_law_one", "_law_other"] (spPouredL K) := by
  refine d.F.ok scpoured (fun vs H Q E h => ?_) (fun cdv A outer s H vs Q E hr h => ?_)
  · obtain ⟨r, s1, s2, x, y, rfl, _⟩ := h
    rfl
  · obtain ⟨r, s1, s2, ⟨m, o, kvs⟩, ⟨m2, o2, ks⟩, rfl, ⟨d1, h1, hd1⟩, ⟨d2, h2, hd2⟩, ok1, ok2, hr1, hr2, q⟩ := h
    dsimp only at h1 hd1 h2 hd2
    have hu := hu_of hr
    obtain ⟨rn, rfl⟩ := Int.eq_ofNat_of_zero_le (show 0 ≤ r by omega)
    refine ⟨_, (pss_cons (ps_asg (pe_callTy call_dictD (by rfl) T.n_dict (by decide +kernel) (pa_cons (pe_ix ix_tup (pv 1) pe_int (fun _ _ => rfl)) pa_nil)) (pg_name (i := 3) scpoured.nd rfl (Or.inr rfl)))
    (pss_cons (ps_lock (ps_for PassesOwn.never rfl (pi_keys (pe_ix ix_tup (pv 2) pe_int (fun _ _ => rfl))) (pg_name (i := 7) scpoured.nd rfl (Or.inl rfl))
      (pss_one (ps_dput hu (pv 3) (pv 7) (pe_op op_add (pe_dget2 hu (pv 3) (pv 7) pe_int ⟨rfl, rfl, rfl, rfl⟩) (pe_dget hu (pe_ix ix_tup (pv 2) pe_int (fun _ _ => rfl)) (pv 7) (fun _ _ => rfl))) rfl))))
    (pss_cons (ps_set (i := 4) scpoured.nd rfl (Or.inl rfl) (pe_callB cr_sortedI (by rfl) T.n_sorted (by decide +kernel) (pa_cons (pe_lock (pe_lc (own := [("_law_name", 7)]) (g := gName 7) (tt := tYes) rfl scpoured.nd (pi_keys (pv 3)) (blkOk_by (N := Npoured) (sc := defScope spoured) (by decide +kernel)) (fun _ _ _ _ _ => pg_name (i := 7) scpoured.nd rfl (Or.inl rfl)) (fun _ _ _ _ _ => pts_nil) (fun _ _ _ _ _ => (pe_un un_neg (pe_dget hu (pv 3) (pv 7) (fun _ _ => rfl)))))) pa_nil)))
    (pss_cons (ps_asg (pe_ifExp (pt_cmpR op_gt (pe_callB call_len_seq (by rfl) T.n_len (by decide +kernel) (pa_cons (pv 4) pa_nil)) (pv 0) (nomark _)) (pe_un un_neg (pe_ix ix_list (pv 4) (pv 0) (fun _ _ => rfl))) pe_int) (pg_name (i := 5) scpoured.nd rfl (Or.inr rfl)))
    (pss_cons (ps_set (i := 6) scpoured.nd rfl (Or.inl rfl) (pe_callTy (call_dictP rfl) (by rfl) T.n_dict (by decide +kernel) (pa_cons (pe_lock (pe_lc (own := [("_law_name", 7)]) (g := gName 7) rfl scpoured.nd (pi_keys (pv 3)) (blkOk_by (N := Npoured) (sc := defScope spoured) (by decide +kernel)) (fun _ _ _ _ _ => pg_name (i := 7) scpoured.nd rfl (Or.inl rfl)) (fun _ _ _ _ _ => pts_one (pt_cmpR op_gt (pe_dget hu (pv 3) (pv 7) (fun _ _ => rfl)) (pv 5) (nomark _))) (fun _ _ _ _ _ => (pe_tup (pa_cons (pv 7) (pa_cons (pe_op op_sub (pe_dget hu (pv 3) (pv 7) (fun _ _ => rfl)) (pv 5)) pa_nil)))))) pa_nil)))
    (pss_one (ps_ret (pe_tup (pa_cons (pe_op op_add (pe_op op_add (pe_ix ix_tup (pv 1) pe_int (fun _ _ => rfl)) (pe_ix ix_tup (pv 2) pe_int (fun _ _ => rfl))) (pv 5)) (pa_cons (pv 6) pa_nil)))))))))), ?_⟩
    refine ⟨.ref s1, rfl, s1, _, _, _, rfl, rfl, h1, atI_nat (j := 1) rfl, d1, kvs.map entZ, rfl, .inl hd1, fun p np => ?_⟩
    have hp1 : (upd H p (.dK (kvs.map entZ))) p = some (.dK (kvs.map entZ)) := upd_same
    have s01 : Same H (upd H p (.dK (kvs.map entZ))) := same_upd np
    generalize upd H p (.dK (kvs.map entZ)) = H1 at hp1 s01 ⊢
    have hlen1 : kvs.length ≤ 64 := by
      have : (kvs.length : Int) ≤ rn := ok1.len
      omega
    have hlen2 : ks.length ≤ 64 := by
      have : (ks.length : Int) ≤ rn := ok2.len
      omega
    -- the other's counts
    have hd2' := s01 _ _ hd2
    refine ⟨d2, _, hd2', trivial, fun od => ?_⟩
    have pd2 : p ≠ d2 := (ne_of_none hd2 np).symm
    have h2l : SqT K (upd H1 d2 (.frz od (.dK (ks.map entZ)))) s2 [.int o2, .ref d2] := by
      rcases seqT h2 s01 with (h | ⟨o', h⟩) | h
      · exact .inl (.inl (by rw [upd_ne (ne_of h hd2' (by intro z; cases z))]; exact h))
      · exact .inl (.inr ⟨o', by rw [upd_ne (ne_of h hd2' (by intro z; cases z))]; exact h⟩)
      · exact .inr h
    have hpl : (upd H1 d2 (.frz od (.dK (ks.map entZ)))) p = some (.dK (kvs.map entZ)) := by rw [upd_ne pd2]; exact hp1
    have hdl : (upd H1 d2 (.frz od (.dK (ks.map entZ)))) d2 = some (.frz od (.dK (ks.map entZ))) := upd_same
    refine ⟨.ref s2, rfl, s2, _, _, _, rfl, rfl, h2l, atI_nat (j := 1) rfl, d2, od, rfl, .inl ⟨_, hdl, ?_⟩⟩
    have bk : ∀ {H3 : Hp}, (∀ b u, b ≠ p → (upd H1 d2 (.frz od (.dK (ks.map entZ)))) b = some u → H3 b = some u) → Same H (upd H3 d2 (.dK (ks.map entZ))) := fun {H3} k b u e => by
      by_cases hb : b = d2
      · subst hb
        rw [hd2] at e
        cases e
        exact upd_same
      · rw [upd_ne hb]
        refine k b u (ne_of_none e np) ?_
        rw [upd_ne hb]
        exact s01 b u e
    generalize upd H1 d2 (.frz od (.dK (ks.map entZ))) = Hl at h2l hpl hdl bk ⊢
    refine for_it (walk_keys (kvs := ks.map entZ)) (fun i σ H3 => ∃ y7 : Option V, σ = [some (.int (rn : Int)), some (.ref s1), some (.ref s2), some (.ref p), none, none, none, y7] ∧ (∀ b u, b ≠ p → Hl b = some u → H3 b = some u) ∧ SqT K H3 s2 [.int o2, .ref d2] ∧ H3 p = some (.dK ((sumsZ (ks.take i) kvs).map entZ)))
      ⟨none, rfl, fun _ _ _ e => e, h2l, hpl⟩ (fun i σ H3 _ h3 => by
        obtain ⟨_, _, h, _⟩ := h3
        exact h _ _ pd2.symm hdl) ?_ ?_
    · rintro i x σ H2 H3 hi ⟨y7, rfl, k3, h23, hp3⟩ ⟨rfl, kk, v, hkv, rfl⟩
      obtain ⟨e, he, hkv2⟩ := map_at hkv
      cases hkv2
      have ll := sumsZ_len (more := ks.take i) (kvs := kvs)
      rw [List.length_take] at ll
      have dg : DGet H3 d2 (.str e.1) (some (.int e.2)) := .inl ⟨ks.map entZ, Sum.inr e.1, .inr ⟨od, k3 _ _ pd2.symm hdl⟩, rfl, by
        rw [getZ_val, getZ_self ok2.nd he]
        rfl⟩
      refine ⟨.ref p, rfl, p, rfl, .inl ⟨_, .inl hp3⟩, .str e.1, rfl, _, DGet.k (k := Sum.inr e.1) hp3, ?_⟩
      rw [getZ_val]
      refine ⟨.ref s2, rfl, s2, _, _, _, rfl, rfl, h23, atI_nat (j := 1) rfl, .str e.1, rfl, d2, .int e.2, rfl, dg, (getZ (sumsZ (ks.take i) kvs) e.1).getD 0, e.2, ?_, rfl, ?_⟩
      · cases getZ (sumsZ (ks.take i) kvs) e.1 <;> rfl
      refine ⟨.ref p, rfl, .str e.1, rfl, p, _, rfl, DPut.k (k := Sum.inr e.1) hp3 (by rw [List.length_map, sizeLine_eq]; omega), ?_⟩
      rw [putZ_put]
      refine ⟨_, rfl, fun b u n e' => by rw [upd_ne n]; exact k3 b u n e', ?_, ?_⟩
      · rcases h23 with (h | ⟨o', h⟩) | h
        · exact .inl (.inl (by rw [upd_ne (ne_of h hp3 (by intro z; cases z))]; exact h))
        · exact .inl (.inr ⟨o', by rw [upd_ne (ne_of h hp3 (by intro z; cases z))]; exact h⟩)
        · exact .inr h
      · rw [upd_same, sumsZ_snoc' he]
        rfl
    rintro σ H3 ⟨y7, rfl, k3, h23, hp3⟩
    rw [List.length_map, List.take_length] at hp3
    refine ⟨k3 _ _ pd2.symm hdl, ?_⟩
    have s04 := bk k3
    have hp4 : (upd H3 d2 (.dK (ks.map entZ))) p = some (.dK ((sumsZ ks kvs).map entZ)) := by rw [upd_ne pd2]; exact hp3
    generalize upd H3 d2 (.dK (ks.map entZ)) = H4 at s04 hp4 ⊢
    have nda := sumsZ_nd (more := ks) (kvs := kvs) ok1.nd
    have posa := sumsZ_pos (more := ks) (kvs := kvs) ok2.pos ok1.pos
    have lla := sumsZ_len (more := ks) (kvs := kvs)
    have epour : pourT (rn : Int) ⟨m2, o2, ks⟩ ⟨m, o, kvs⟩ = if (rn : Int) < ((sumsZ ks kvs).length : Int) then ⟨m + m2, o + o2 + fallZ (sumsZ ks kvs) rn, takeZ (fallZ (sumsZ ks kvs) rn) (sumsZ ks kvs)⟩ else ⟨m + m2, o + o2, sumsZ ks kvs⟩ := rfl
    generalize sumsZ ks kvs = all at hp4 nda posa lla epour
    -- falling
    refine ⟨p, _, hp4, trivial, fun oe => ?_⟩
    refine ⟨.ref p, rfl, p, oe, rfl, .inl ⟨_, upd_same, fun D nD => ?_⟩⟩
    generalize hHl : upd H4 p (.frz oe (.dK (all.map entZ))) = Hm at nD ⊢
    have hlm : Hm p = some (.frz oe (.dK (all.map entZ))) := by rw [← hHl]; exact upd_same
    have pD : p ≠ D := ne_of_none hlm nD
    refine lc_it (walk_keys (kvs := all.map entZ)) (fun i H3 => Same Hm H3 ∧ H3 D = some (.lst ((all.take i).map fun e => V.int (-e.2))))
      ⟨same_upd nD, upd_same⟩ (fun i H3 _ h3 => h3.1 _ _ hlm) (fun i x H5 H6 hi h3 y => ?_) (fun H5 h5 => ?_)
    · obtain ⟨rfl, kk, v, hkv, rfl⟩ := y
      obtain ⟨e, he, hkv2⟩ := map_at hkv
      cases hkv2
      obtain ⟨s4, hD⟩ := h3
      refine ⟨rfl, .ref p, rfl, .str e.1, rfl, p, .int e.2, rfl, ?_, e.2, rfl, _, hD, ?_, Same.put s4 nD, ?_⟩
      · refine .inl ⟨all.map entZ, Sum.inr e.1, .inr ⟨oe, s4 _ _ hlm⟩, rfl, ?_⟩
        rw [getZ_val, getZ_self nda he]
        rfl
      · rw [List.length_map, List.length_take, sizeLine_eq]
        omega
      · rw [upd_same, List.take_add_one, he, List.map_append]
        rfl
    obtain ⟨s5, hD5⟩ := h5
    rw [List.length_map, List.take_length] at hD5
    refine ⟨s5 _ _ hlm, ?_⟩
    have s06 : Same H (upd H5 p (.dK (all.map entZ))) := fun b u e => by
      have hb : b ≠ p := ne_of_none e np
      rw [upd_ne hb]
      refine s5 b u ?_
      rw [← hHl, upd_ne hb]
      exact s04 b u e
    have hp6 : (upd H5 p (.dK (all.map entZ))) p = some (.dK (all.map entZ)) := upd_same
    have hD6 : (upd H5 p (.dK (all.map entZ))) D = some (.lst (all.map fun e => V.int (-e.2))) := by rw [upd_ne pD.symm]; exact hD5
    generalize upd H5 p (.dK (all.map entZ)) = H6 at s06 hp6 hD6 ⊢
    refine ⟨D, all.map (fun e => -e.2), rfl, sql (by rw [hD6, List.map_map]; rfl), fun nsr l pm so nl => ?_⟩
    have s67 := same_upd (o := .lst (nsr.map V.int)) nl
    have hp7 := s67 _ _ hp6
    have hl7 : (upd H6 l (.lst (nsr.map V.int))) l = some (.lst (nsr.map V.int)) := upd_same
    have s07 : Same H (upd H6 l (.lst (nsr.map V.int))) := s06.trans s67
    generalize upd H6 l (.lst (nsr.map V.int)) = H7 at hp7 hl7 s07 ⊢
    have hnl : nsr.length = all.length := by rw [pm.length_eq, List.length_map]
    -- taken
    refine ⟨.ref l, rfl, l, _, rfl, .inl (sql hl7), .int (rn : Int), rfl, _, _, rfl, rfl, _, rfl, ?_⟩
    have hall : ∀ tk : Int, (pourT (rn : Int) ⟨m2, o2, ks⟩ ⟨m, o, kvs⟩).o = o + o2 + tk → (pourT (rn : Int) ⟨m2, o2, ks⟩ ⟨m, o, kvs⟩).c = takeZ tk all → ∀ (H8 : Hp) (p2 t : Addr), Same H7 H8 → H8 p2 = none → (upd H8 p2 (.dK ((takeZ tk all).map entZ))) t = none → Q (.ref t) (upd (upd H8 p2 (.dK ((takeZ tk all).map entZ))) t (.tup [.int (o + o2 + tk), .ref p2])) := fun tk e1 e2 H8 p2 t s78 np2 nt => by
      have s08 : Same H H8 := s07.trans s78
      have s09 := Same.new (o := .dK ((takeZ tk all).map entZ)) s08 np2
      refine q _ t (Same.new s09 nt) (Same.gone s09 nt) ⟨p2, ?_, ?_⟩
      · rw [e1]
        exact .inl (.inl upd_same)
      · rw [e2, upd_ne (ne_of_none upd_same nt)]
        exact upd_same
    obtain ⟨tk, htk, e1, e2⟩ : ∃ tk : Int, (if (rn : Int) < (nsr.length : Int) then ∃ v, nsr[rn]? = some v ∧ -v = tk else tk = 0) ∧ (pourT (rn : Int) ⟨m2, o2, ks⟩ ⟨m, o, kvs⟩).o = o + o2 + tk ∧ (pourT (rn : Int) ⟨m2, o2, ks⟩ ⟨m, o, kvs⟩).c = takeZ tk all := by
      by_cases h : (rn : Int) < (all.length : Int)
      · obtain ⟨v, hv, e⟩ := neg_fall pm so (show rn < all.length by omega)
        refine ⟨fallZ all rn, ?_, ?_, ?_⟩
        · rw [if_pos (by omega)]
          exact ⟨v, hv, e⟩
        · rw [epour, if_pos h]
        · rw [epour, if_pos h]
      · refine ⟨0, ?_, ?_, ?_⟩
        · rw [if_neg (by omega)]
        · rw [epour, if_neg h, Int.add_zero]
        · rw [epour, if_neg h, takeZ_zero posa]
    have fin := hall tk e1 e2
    refine ite2 (fun hgt => ?_) fun hgt => ?_
    · have hgt := of_decide_eq_true hgt
      rw [List.length_map] at hgt
      rw [if_pos hgt] at htk
      obtain ⟨v, hv, rfl⟩ := htk
      refine ⟨.ref l, rfl, .int (rn : Int), rfl, l, _, _, .int v, rfl, rfl, sql hl7, atI_nat (by rw [List.getElem?_map, hv]; rfl), v, rfl, ?_⟩
      refine ⟨p, _, hp7, trivial, fun og => ?_⟩
      refine ⟨.ref p, rfl, p, og, rfl, .inl ⟨_, upd_same, fun D2 nD2 => ?_⟩⟩
      generalize hHl2 : upd H7 p (.frz og (.dK (all.map entZ))) = Hn at nD2 ⊢
      have hln : Hn p = some (.frz og (.dK (all.map entZ))) := by rw [← hHl2]; exact upd_same
      have pD2 : p ≠ D2 := ne_of_none hln nD2
      refine lc_it (walk_keys (kvs := all.map entZ)) (fun i H3 => Same Hn H3 ∧ ∃ ts : List Addr, H3 D2 = some (.lst (ts.map V.ref)) ∧ ts.length ≤ i ∧ Paired (PrT H3) ts (takeZ (-v) (all.take i)))
        ⟨same_upd nD2, [], upd_same, Nat.le_refl _, .nil⟩ (fun i H3 _ h3 => h3.1 _ _ hln) (fun i x H8 H9 hi h3 y => ?_) (fun H8 h8 => ?_)
      · obtain ⟨rfl, kk, w8, hkv, rfl⟩ := y
        obtain ⟨e, he, hkv2⟩ := map_at hkv
        cases hkv2
        obtain ⟨s4, ts, hD, htl, hpr⟩ := h3
        have dg : DGet H9 p (.str e.1) (some (.int e.2)) := .inl ⟨all.map entZ, Sum.inr e.1, .inr ⟨og, s4 _ _ hln⟩, rfl, by
          rw [getZ_val, getZ_self nda he]
          rfl⟩
        refine ⟨rfl, .ref p, rfl, .str e.1, rfl, p, .int e.2, rfl, dg, .int (-v), rfl, _, _, rfl, rfl, _, rfl, ite2 (fun hg9 => ?_) fun hg9 => ?_⟩
        · have hg9 := of_decide_eq_true hg9
          refine ⟨.str e.1, rfl, .ref p, rfl, .str e.1, rfl, p, .int e.2, rfl, dg, .int (-v), rfl, _, _, rfl, rfl, (by show 2 ≤ sizeLine; decide), fun t nt => ?_⟩
          have Dp : D2 ≠ t := ne_of_none hD nt
          refine ⟨_, by rw [upd_ne Dp]; exact hD, ?_, Same.put (Same.new s4 nt) nD2, ts ++ [t], by rw [upd_same, List.map_append]; rfl, by rw [List.length_append, List.length_singleton]; omega, ?_⟩
          · rw [List.length_map, sizeLine_eq]
            rw [List.length_map] at hi
            omega
          · rw [List.take_add_one, he]
            show Paired _ _ (takeZ (-v) (all.take i ++ [e]))
            rw [takeZ_snoc, if_pos (show (-v) < e.2 by omega)]
            refine paired_snoc (paired_imp (fun t e' ht => ?_) hpr) ?_
            · show _ = _
              rw [upd_ne (ne_of ht hD (by intro z; cases z)), upd_ne (ne_of_none ht nt)]
              exact ht
            · show _ = _
              rw [upd_ne Dp.symm]
              exact upd_same
        · have hg9 : ¬ (-v) < e.2 := fun z => hg9 (decide_eq_true z)
          refine ⟨s4, ts, hD, by omega, ?_⟩
          rw [List.take_add_one, he]
          show Paired _ _ (takeZ (-v) (all.take i ++ [e]))
          rw [takeZ_snoc, if_neg hg9, List.append_nil]
          exact hpr
      obtain ⟨s8, ts6, hD8, htl6, hpr8⟩ := h8
      rw [List.length_map, List.take_length] at hpr8
      refine ⟨s8 _ _ hln, ?_⟩
      have hpr9 : Paired (PrT (upd H8 p (.dK (all.map entZ)))) ts6 (takeZ (-v) all) := paired_imp (fun t e' ht => by
        show _ = _
        rw [upd_ne (ne_of ht (s8 _ _ hln) (by intro z; cases z))]
        exact ht) hpr8
      have hD9 : (upd H8 p (.dK (all.map entZ))) D2 = some (.lst (ts6.map V.ref)) := by rw [upd_ne pD2.symm]; exact hD8
      have s79 : Same H7 (upd H8 p (.dK (all.map entZ))) := fun b u e => by
        by_cases hb : b = p
        · subst hb
          rw [hp7] at e
          cases e
          exact upd_same
        · rw [upd_ne hb]
          refine s8 b u ?_
          rw [← hHl2, upd_ne hb]
          exact e
      generalize upd H8 p (.dK (all.map entZ)) = H9 at hpr9 hD9 s79 ⊢
      refine ⟨D2, ts6, (takeZ (-v) all).map entZ, rfl, sql hD9, ents_paired (paired_imp (fun t e h => .inl (.inl h)) hpr9), fun p2 np2 => ?_⟩
      have em2 : mergeK [] ((takeZ (-v) all).map entZ) = (takeZ (-v) all).map entZ := mergeZ (takeZ (-v) all) [] (by rw [List.nil_append]; exact takeZ_nd nda)
      rw [em2]
      have s7a := Same.new (o := .dK ((takeZ (-v) all).map entZ)) s79 np2
      have h1a := seqT (seqT h1 s07) s7a
      have h2a := seqT (seqT h2 s07) s7a
      refine ⟨.ref s1, rfl, s1, _, _, _, rfl, rfl, h1a, atI_nat (j := 0) rfl, .ref s2, rfl, s2, _, _, _, rfl, rfl, h2a, atI_nat (j := 0) rfl, _, _, rfl, rfl, .int (-v), rfl, _, _, rfl, rfl, .ref p2, rfl, (by show 2 ≤ sizeLine; decide), fun t nt => ?_⟩
      exact fin H9 p2 t s79 np2 nt
    · have hgt : ¬ (rn : Int) < (nsr.length : Int) := fun z => hgt (decide_eq_true (by rw [List.length_map]; exact z))
      rw [if_neg hgt] at htk
      subst htk
      refine ⟨p, _, hp7, trivial, fun og => ?_⟩
      refine ⟨.ref p, rfl, p, og, rfl, .inl ⟨_, upd_same, fun D2 nD2 => ?_⟩⟩
      generalize hHl2 : upd H7 p (.frz og (.dK (all.map entZ))) = Hn at nD2 ⊢
      have hln : Hn p = some (.frz og (.dK (all.map entZ))) := by rw [← hHl2]; exact upd_same
      have pD2 : p ≠ D2 := ne_of_none hln nD2
      refine lc_it (walk_keys (kvs := all.map entZ)) (fun i H3 => Same Hn H3 ∧ ∃ ts : List Addr, H3 D2 = some (.lst (ts.map V.ref)) ∧ ts.length ≤ i ∧ Paired (PrT H3) ts (takeZ (0 : Int) (all.take i)))
        ⟨same_upd nD2, [], upd_same, Nat.le_refl _, .nil⟩ (fun i H3 _ h3 => h3.1 _ _ hln) (fun i x H8 H9 hi h3 y => ?_) (fun H8 h8 => ?_)
      · obtain ⟨rfl, kk, w8, hkv, rfl⟩ := y
        obtain ⟨e, he, hkv2⟩ := map_at hkv
        cases hkv2
        obtain ⟨s4, ts, hD, htl, hpr⟩ := h3
        have dg : DGet H9 p (.str e.1) (some (.int e.2)) := .inl ⟨all.map entZ, Sum.inr e.1, .inr ⟨og, s4 _ _ hln⟩, rfl, by
          rw [getZ_val, getZ_self nda he]
          rfl⟩
        refine ⟨rfl, .ref p, rfl, .str e.1, rfl, p, .int e.2, rfl, dg, .int (0 : Int), rfl, _, _, rfl, rfl, _, rfl, ite2 (fun hg9 => ?_) fun hg9 => ?_⟩
        · have hg9 := of_decide_eq_true hg9
          refine ⟨.str e.1, rfl, .ref p, rfl, .str e.1, rfl, p, .int e.2, rfl, dg, .int (0 : Int), rfl, _, _, rfl, rfl, (by show 2 ≤ sizeLine; decide), fun t nt => ?_⟩
          have Dp : D2 ≠ t := ne_of_none hD nt
          refine ⟨_, by rw [upd_ne Dp]; exact hD, ?_, Same.put (Same.new s4 nt) nD2, ts ++ [t], by rw [upd_same, List.map_append]; rfl, by rw [List.length_append, List.length_singleton]; omega, ?_⟩
          · rw [List.length_map, sizeLine_eq]
            rw [List.length_map] at hi
            omega
          · rw [List.take_add_one, he]
            show Paired _ _ (takeZ (0 : Int) (all.take i ++ [e]))
            rw [takeZ_snoc, if_pos (show (0 : Int) < e.2 by omega)]
            refine paired_snoc (paired_imp (fun t e' ht => ?_) hpr) ?_
            · show _ = _
              rw [upd_ne (ne_of ht hD (by intro z; cases z)), upd_ne (ne_of_none ht nt)]
              exact ht
            · show _ = _
              rw [upd_ne Dp.symm]
              exact upd_same
        · have hg9 : ¬ (0 : Int) < e.2 := fun z => hg9 (decide_eq_true z)
          refine ⟨s4, ts, hD, by omega, ?_⟩
          rw [List.take_add_one, he]
          show Paired _ _ (takeZ (0 : Int) (all.take i ++ [e]))
          rw [takeZ_snoc, if_neg hg9, List.append_nil]
          exact hpr
      obtain ⟨s8, ts6, hD8, htl6, hpr8⟩ := h8
      rw [List.length_map, List.take_length] at hpr8
      refine ⟨s8 _ _ hln, ?_⟩
      have hpr9 : Paired (PrT (upd H8 p (.dK (all.map entZ)))) ts6 (takeZ (0 : Int) all) := paired_imp (fun t e' ht => by
        show _ = _
        rw [upd_ne (ne_of ht (s8 _ _ hln) (by intro z; cases z))]
        exact ht) hpr8
      have hD9 : (upd H8 p (.dK (all.map entZ))) D2 = some (.lst (ts6.map V.ref)) := by rw [upd_ne pD2.symm]; exact hD8
      have s79 : Same H7 (upd H8 p (.dK (all.map entZ))) := fun b u e => by
        by_cases hb : b = p
        · subst hb
          rw [hp7] at e
          cases e
          exact upd_same
        · rw [upd_ne hb]
          refine s8 b u ?_
          rw [← hHl2, upd_ne hb]
          exact e
      generalize upd H8 p (.dK (all.map entZ)) = H9 at hpr9 hD9 s79 ⊢
      refine ⟨D2, ts6, (takeZ (0 : Int) all).map entZ, rfl, sql hD9, ents_paired (paired_imp (fun t e h => .inl (.inl h)) hpr9), fun p2 np2 => ?_⟩
      have em2 : mergeK [] ((takeZ (0 : Int) all).map entZ) = (takeZ (0 : Int) all).map entZ := mergeZ (takeZ (0 : Int) all) [] (by rw [List.nil_append]; exact takeZ_nd nda)
      rw [em2]
      have s7a := Same.new (o := .dK ((takeZ (0 : Int) all).map entZ)) s79 np2
      have h1a := seqT (seqT h1 s07) s7a
      have h2a := seqT (seqT h2 s07) s7a
      refine ⟨.ref s1, rfl, s1, _, _, _, rfl, rfl, h1a, atI_nat (j := 0) rfl, .ref s2, rfl, s2, _, _, _, rfl, rfl, h2a, atI_nat (j := 0) rfl, _, _, rfl, rfl, .int (0 : Int), rfl, _, _, rfl, rfl, .ref p2, rfl, (by show 2 ≤ sizeLine; decide), fun t nt => ?_⟩
      exact fin H9 p2 t s79 np2 nt
end
end Kb

namespace Kb
open PySem PySem.Spec PyProof.Rows L2 SrtZ SrtO
abbrev sbounds : Stmt := topS 46
abbrev Nbounds : List Str := ["_law_room", "_law_many", "_law_state", "_law_counts", "_law_off", "_law_kept", "_law_lost", "_law_name"]
theorem scbounds : FnScope ["_law_room", "_law_many", "_law_state", "_law_counts", "_law_off", "_law_kept", "_law_lost", "_law_name"] ["_law_room", "_law_many", "_law_state", "_law_counts"] (defScope sbounds) := ⟨rfl, rfl, rfl, by decide +kernel, rfl, by decide +kernel, by decide +kernel⟩
abbrev Dnbounds (K : PySem.W.Frag) (mg : Str → Option Value) := Dn K mg "_law_bounds_right" sbounds ["_law_room", "_law_many", "_law_state", "_law_counts"]
theorem Sta.put {K : PySem.W.Frag} {H : Hp} {s p : Addr} {x : Tl} {ys : List V} {u : HO} (h : Sta K H s x) (hp : H p = some (.lst ys)) : Sta K (upd H p u) s x := by
  obtain ⟨d, a, b⟩ := h
  exact ⟨d, sq_upd a hp, by rw [upd_ne (ne_of b hp (by intro z; cases z))]; exact b⟩
theorem rev_cons (e : Addr) (pl : List Addr) : ((e :: pl).reverse.map V.ref) = pl.reverse.map V.ref ++ [V.ref e] := by
  rw [List.reverse_cons, List.map_append]
  rfl
theorem rd_lock {H : Hp} {a b : Addr} {A B : List (Key × V)} {od : Obj} (ha : H a = some (.dK A)) (hb : H b = some (.dK B)) : Rd (upd H a (.frz od (.dK A))) b (.dK B) := by
  by_cases h : b = a
  · subst h
    rw [ha] at hb
    cases hb
    exact .inr ⟨od, upd_same⟩
  · exact .inl (by rw [upd_ne h]; exact hb)
theorem rd_same {H H' : Hp} {b : Addr} {u : HO} (h : Rd H b u) (s : Same H H') : Rd H' b u := by
  rcases h with h | ⟨o, h⟩
  · exact .inl (s _ _ h)
  · exact .inr ⟨o, s _ _ h⟩
theorem unlock {H Hl H3 : Hp} {a : Addr} {A : List (Key × V)} {od : Obj} (ha : H a = some (.dK A)) (hl : upd H a (.frz od (.dK A)) = Hl) (s : Same Hl H3) : Same H (upd H3 a (.dK A)) := fun b u e => by
  by_cases hb : b = a
  · subst hb
    rw [ha] at e
    cases e
    exact upd_same
  · rw [upd_ne hb]
    refine s b u ?_
    rw [← hl, upd_ne hb]
    exact e
section
variable {P : Program} {w : World} {K : PySem.W.Frag} {mg : Str → Option Value} {base : Heap}
/-! _law_led -/
def spLed (K : PySem.W.Frag) : Sp := fun vs H Q _ => ∃ (r : Int) (a : Addr) (l : List Stp) (x : Tl), vs = [.int r, .ref a] ∧ 1 ≤ r ∧ r ≤ 64 ∧ TreeAt K H a l ∧ Vl 0 l ∧ l.length ≤ 5000 ∧ (∀ zs, .put zs ∈ l → ∀ z ∈ zs, Nm z) ∧ runL r l = [x] ∧
  ∀ H' st, Same H H' → Sta K H' st x → Q (.ref st) H'
theorem ok_led (T : Blt mg) (dfed : Dnfed K mg) (dpoured : Dnpoured K mg) (d : Dnled K mg) : FnOk P w K mg base CX0 2 d.f d.fd ["_law_room", "_law_tree_here"] (spLed K) := by
  have Gfed : FnOk P w K mg base CX0 1 dfed.f dfed.fd ["_law_room", "_law_state", "_law_name"] (spFedL K) := ok_fedL T dfed
  have Gpoured : FnOk P w K mg base CX0 1 dpoured.f dpoured.fd ["_law_room", "_law_one", "_law_other"] (spPouredL K) := ok_pouredL T dpoured
  refine d.F.ok scled (fun vs H Q E h => ?_) (fun cdv A outer s H vs Q E hr h => ?_)
  · obtain ⟨r, a, l, x, rfl, _⟩ := h
    rfl
  · obtain ⟨r, a, l, xe, rfl, hr1, hr2, ht, vl, hlen, hN, hrun, q⟩ := h
    refine ⟨_, (pss_cons (ps_set (i := 2) scled.nd rfl (Or.inl rfl) (pe_lst pa_nil))
    (pss_cons (ps_for PassesOwn.never rfl (pi_tup (pv 1)) (pg_name (i := 3) scled.nd rfl (Or.inl rfl))
      (pss_one (ps_if (pt_cmpR op_eq (pe_callB call_len_seq (by rfl) T.n_len (by decide +kernel) (pa_cons (pv 3) pa_nil)) pe_int (nomark _))
        (pss_cons (ps_set (i := 4) scled.nd rfl (Or.inl rfl) (pe_bm0 PySem.F.plainAttrs_list PySem.F.slot_list_pop PySem.F.type_list_pop mt_pop (pv 2)))
        (pss_cons (ps_set (i := 5) scled.nd rfl (Or.inl rfl) (pe_bm0 PySem.F.plainAttrs_list PySem.F.slot_list_pop PySem.F.type_list_pop mt_pop (pv 2)))
        (pss_one (ps_expr (pe_bm PySem.F.plainAttrs_list PySem.F.slot_list_append PySem.F.type_list_append mt_append (pv 2) (pa_cons (pe_call Gpoured (hr.mono (by omega)) (by rfl) dpoured.g dpoured.F.kp dpoured.b .nil pass0 (pa_cons (pv 0) (pa_cons (pv 5) (pa_cons (pv 4) pa_nil)))) pa_nil))))))
        (pss_cons (ps_set (i := 6) scled.nd rfl (Or.inl rfl) (pe_tup (pa_cons pe_int (pa_cons pe_dnewK pa_nil))))
        (pss_cons (ps_for PassesOwn.never rfl (pi_tup (pe_ix ix_tup (pv 3) pe_int (fun _ _ => rfl))) (pg_name (i := 7) scled.nd rfl (Or.inl rfl))
          (pss_one (ps_set (i := 6) scled.nd rfl (Or.inl rfl) (pe_call Gfed (hr.mono (by omega)) (by rfl) dfed.g dfed.F.kp dfed.b .nil pass0 (pa_cons (pv 0) (pa_cons (pv 6) (pa_cons (pv 7) pa_nil)))))))
        (pss_one (ps_expr (pe_bm PySem.F.plainAttrs_list PySem.F.slot_list_append PySem.F.type_list_append mt_append (pv 2) (pa_cons (pv 6) pa_nil)))))))))
    (pss_one (ps_ret (pe_ix ix_list (pv 2) pe_int (fun _ _ => rfl)))))), ?_⟩
    refine ⟨(by show 0 ≤ sizeLine; decide), fun p np => ?_⟩
    obtain ⟨vs, hS, hp⟩ := ht
    have hl : vs.length = l.length := Paired.length hp
    have s2 : Same H (upd H p (.lst [])) := same_upd np
    refine ⟨.ref a, rfl, a, rfl, ⟨_, seqT hS s2⟩, for_tup (xs := vs) (fun i σ H3 => ∃ (pl : List Addr) (y3 y4 y5 y6 y7 : Option V), σ = [some (.int r), some (.ref a), some (.ref p), y3, y4, y5, y6, y7] ∧ Same H H3 ∧ H3 p = some (.lst (pl.reverse.map V.ref)) ∧ Paired (Sta K H3) pl (runL r (l.take i)))
      ⟨[], none, none, none, none, none, rfl, s2, upd_same, .nil⟩ (fun i σ H3 _ ⟨_, _, _, _, _, _, _, s3, _⟩ => seqT hS s3) ?_ ?_⟩
    · rintro i v σ H3 hi ⟨pl, y3, y4, y5, y6, y7, rfl, s3, hpl, hst⟩
      obtain ⟨st, hsti, hat⟩ := paired_at hp hi
      have hat3 := hat.same s3
      have snoc := runL_snoc (r := r) hsti
      have okL : ∀ x ∈ runL r (l.take i), TlOk r x := runL_ok hr1 (fun zs hz => hN zs (List.mem_of_mem_take hz)) (fun _ h => nomatch h)
      have pll : pl.length = (runL r (l.take i)).length := Paired.length hst
      have hsmall : (runL r (l.take i)).length ≤ 5000 := by
        have gen : ∀ (l : List Stp) (st : List Tl), (l.foldl (stepL r) st).length ≤ st.length + l.length := by
          intro l
          induction l with
          | nil => exact fun st => Nat.le_refl _
          | cons t l ih =>
            intro st
            have h := ih (stepL r st t)
            have h2 : (stepL r st t).length ≤ st.length + 1 := by
              cases t with
              | put zs => exact Nat.le_refl _
              | pour =>
                match st with
                | [] => exact Nat.zero_le _
                | [_] => show 1 ≤ 1 + 1; omega
                | _ :: _ :: st => show st.length + 1 ≤ st.length + 1 + 1 + 1; omega
            show (l.foldl (stepL r) (stepL r st t)).length ≤ st.length + (l.length + 1)
            omega
        have := gen (l.take i) []
        rw [List.length_take] at this
        show ((l.take i).foldl (stepL r) []).length ≤ 5000
        have h0 : ([] : List Tl).length = 0 := rfl
        omega
      cases st with
      | pour =>
        obtain ⟨b, rfl, h1⟩ := hat3
        refine ⟨.ref b, rfl, b, _, rfl, .inr h1, rfl, true, congrArg V.bl (decide_eq_true rfl), iteT ?_⟩
        have h2 := vl_at vl hsti
        have hh := runL_len (r := r) (l := l) (st := []) (h := 0) vl rfl
        have hlen2 : ((runL r (l.take i)).length : Int) = (l.take i).foldl Kb.hS 0 := by
          have gen : ∀ (l : List Stp) (i : Nat) (h : Int), Vl h l → Vl h (l.take i) := by
            intro l
            induction l with
            | nil => intro i h _; simp [Vl]
            | cons t l ih =>
              intro i h v
              cases i with
              | zero => trivial
              | succ i =>
                cases t with
                | put zs => exact ih i (h + 1) v
                | pour => exact ⟨v.1, ih i (h - 1) v.2⟩
          exact runL_len (r := r) (l := l.take i) (st := []) (h := 0) (gen l i 0 vl) rfl
        generalize hgen : runL r (l.take i) = R at hst snoc okL pll hsmall hlen2
        match pl, R, hst, okL, hlen2, hsmall with
        | [], [], _, _, hlen2, _ => exact absurd h2 (by have : ((0 : Nat) : Int) = _ := hlen2; omega)
        | [_], [_], _, _, hlen2, _ => exact absurd h2 (by have : ((1 : Nat) : Int) = _ := hlen2; omega)
        | e1 :: e2 :: pl, x1 :: x2 :: R, .cons hs1 (.cons hs2 hst), okL, _, hsmall =>
          rw [rev_cons] at hpl
          refine ⟨.ref p, rfl, .inl ⟨rfl, _, sql hpl⟩, p, _, .ref e1, rfl, rfl, hpl, by simp, ?_⟩
          rw [List.dropLast_concat, rev_cons]
          have a1 := hs1.put hpl (u := .lst (pl.reverse.map V.ref ++ [V.ref e2]))
          have a2 := hs2.put hpl (u := .lst (pl.reverse.map V.ref ++ [V.ref e2]))
          have aR : Paired (Sta K (upd H3 p (.lst (pl.reverse.map V.ref ++ [V.ref e2])))) pl R := paired_imp (fun s x h => h.put hpl) hst
          have hp4 : (upd H3 p (.lst (pl.reverse.map V.ref ++ [V.ref e2]))) p = some (.lst (pl.reverse.map V.ref ++ [V.ref e2])) := upd_same
          have s4 : Same H (upd H3 p (.lst (pl.reverse.map V.ref ++ [V.ref e2]))) := Same.put s3 np
          generalize upd H3 p (.lst (pl.reverse.map V.ref ++ [V.ref e2])) = H4 at a1 a2 aR hp4 s4 ⊢
          refine ⟨.ref p, rfl, .inl ⟨rfl, _, sql hp4⟩, p, _, .ref e2, rfl, rfl, hp4, by simp, ?_⟩
          rw [List.dropLast_concat]
          have b1 := a1.put hp4 (u := .lst (pl.reverse.map V.ref))
          have b2 := a2.put hp4 (u := .lst (pl.reverse.map V.ref))
          have bR : Paired (Sta K (upd H4 p (.lst (pl.reverse.map V.ref)))) pl R := paired_imp (fun s x h => h.put hp4) aR
          have hp5 : (upd H4 p (.lst (pl.reverse.map V.ref))) p = some (.lst (pl.reverse.map V.ref)) := upd_same
          have s5 : Same H (upd H4 p (.lst (pl.reverse.map V.ref))) := Same.put s4 np
          generalize upd H4 p (.lst (pl.reverse.map V.ref)) = H5 at b1 b2 bR hp5 s5 ⊢
          have o1 := okL x1 List.mem_cons_self
          have o2 := okL x2 (List.mem_cons_of_mem _ List.mem_cons_self)
          refine ⟨.ref p, rfl, .inl ⟨rfl, _, sql hp5⟩, .int r, rfl, .ref e2, rfl, .ref e1, rfl, r, e2, e1, x2, x1, rfl, b2, b1, o2, o1, hr1, hr2, fun H6 e6 s6 ne6 st6 => ?_⟩
          have hp6 := s6 _ _ hp5
          have hs' : R.length + 2 ≤ 5000 := hsmall
          have pl2 := Paired.length hst
          refine ⟨p, _, _, rfl, rfl, hp6, (by rw [List.length_map, List.length_reverse, sizeLine_eq]; omega), ?_⟩
          refine ⟨e6 :: pl, _, _, _, _, _, rfl, Same.put (s5.trans s6) np, by rw [upd_same, rev_cons], ?_⟩
          rw [snoc]
          exact .cons (st6.put hp6) (paired_imp (fun s x h => (h.same s6).put hp6) bR)
      | put zs =>
        have hNz := hN zs (List.mem_of_getElem? hsti)
        obtain ⟨b, t, rfl, h1, h2, _, hzl⟩ := hat3
        refine ⟨.ref b, rfl, b, _, rfl, .inr h1, rfl, false, congrArg V.bl (decide_eq_false (by intro z; cases z)), iteF ?_⟩
        refine fun d0 nd0 => ⟨(by show 2 ≤ sizeLine; decide), fun st0 nst0 => ?_⟩
        have s4 : Same H3 (upd (upd H3 d0 (.dK [])) st0 (.tup [.int 0, .ref d0])) := Same.new (same_upd nd0) nst0
        have sta0 : Sta K (upd (upd H3 d0 (.dK [])) st0 (.tup [.int 0, .ref d0])) st0 tl0 := ⟨d0, .inl (.inl upd_same), by rw [upd_ne (ne_of_none upd_same nst0)]; exact upd_same⟩
        generalize upd (upd H3 d0 (.dK [])) st0 (.tup [.int 0, .ref d0]) = H4 at s4 sta0 ⊢
        refine ⟨.ref b, rfl, b, _, _, _, rfl, rfl, seqT h1 s4, atI_nat (j := 1) rfl, t, rfl, ⟨_, seqT h2 s4⟩, for_tup (xs := zs.map V.str) (fun j σ H6 => ∃ (st6 : Addr) (z7 : Option V), σ = [some (.int r), some (.ref a), some (.ref p), some (.ref b), y4, y5, some (.ref st6), z7] ∧ Same H3 H6 ∧ Sta K H6 st6 (feedsT r (zs.take j) tl0) ∧ TlOk r (feedsT r (zs.take j) tl0)) ⟨st0, y7, rfl, s4, sta0, tl0_ok hr1⟩ (fun j σ H6 _ ⟨_, _, _, s6, _⟩ => seqT h2 s6) ?_ ?_⟩
        · rintro j v σ H6 hj ⟨st6, z7, rfl, s6, ⟨d6, hst6, hd6⟩, ok6⟩
          obtain ⟨z, hz, rfl⟩ := map_at hj
          have hfs := feedsT_snoc (r := r) (x := tl0) hz
          have hok7 := feedT_ok ok6 hr1 (hNz z (List.mem_of_getElem? hz)) (c := 1) (by decide)
          refine ⟨.int r, rfl, .ref st6, rfl, .str z, rfl, r, st6, d6, z, feedsT r (zs.take j) tl0, rfl, hst6, hd6, ok6, hr1, hr2, fun H7 st7 d7 s7 _ _ hst7 hd7 => ?_⟩
          rw [← hfs] at hst7 hd7 hok7
          exact ⟨st7, _, rfl, s6.trans s7, ⟨d7, .inl (.inl hst7), hd7⟩, hok7⟩
        · rintro σ H6 ⟨st6, z7, rfl, s6, sta6, ok6⟩
          rw [List.length_map, List.take_length] at sta6
          have hp6 := s6 _ _ hpl
          refine ⟨.ref p, rfl, .inl ⟨rfl, _, sql hp6⟩, .ref st6, rfl, p, _, _, rfl, rfl, hp6, (by rw [List.length_map, List.length_reverse, sizeLine_eq]; omega), ?_⟩
          refine ⟨st6 :: pl, _, _, _, _, _, rfl, Same.put (s3.trans s6) np, by rw [upd_same, rev_cons], ?_⟩
          rw [snoc]
          exact .cons (sta6.put hp6) (paired_imp (fun s x h => (h.same s6).put hp6) hst)
    · rintro σ H3 ⟨pl, y3, y4, y5, y6, y7, rfl, s3, hpl, hst⟩
      rw [hl, List.take_length, hrun] at hst
      match pl, hst with
      | [e], .cons he .nil => exact ⟨.ref p, rfl, p, _, _, _, rfl, rfl, sql hpl, atI_nat (j := 0) rfl, q H3 e s3 he⟩
/-! _law_bounds_right -/
def spBounds (K : PySem.W.Frag) : Sp := fun vs H Q _ => ∃ (r m : Int) (st c : Addr) (kc : Ct) (x : Tl), vs = [.int r, .int m, .ref st, .ref c] ∧ Sta K H st x ∧ H c = some (.dK (kc.map entZ)) ∧ NdZ kc ∧ kc.length ≤ 100000 ∧ TlOk r x ∧ Bd r x ∧ x.m = m ∧ 1 ≤ r ∧ r ≤ 64 ∧ TruF (gd kc) x ∧
  ∀ H', Same H H' → Q (.bl true) H'
/-- a comprehension over the keys of a dict that is locked: what it leads to -/
theorem ok_bounds (T : Blt mg) (d : Dnbounds K mg) : FnOk P w K mg base CX0 1 d.f d.fd ["_law_room", "_law_many", "_law_state", "_law_counts"] (spBounds K) := by
  refine d.F.ok scbounds (fun vs H Q E h => ?_) (fun cdv A outer s H vs Q E hr h => ?_)
  · obtain ⟨r, m, st, c, kc, x, rfl, _⟩ := h
    rfl
  · obtain ⟨r, m, st, c, kc, ⟨xm, o, kvs⟩, rfl, ⟨dd, hst, hd⟩, hc, ndc, lkc, ok, bd, rfl, hr1, hr2, tru, q⟩ := h
    dsimp only at hst hd
    have hu := hu_of hr
    refine ⟨_, (pss_cons (ps_asg (pv 2) (pg_tup (by rfl) (pgs_cons (pg_name (i := 4) scbounds.nd rfl (Or.inr rfl)) (pgs_cons (pg_name (i := 5) scbounds.nd rfl (Or.inr rfl)) pgs_nil))))
    (pss_cons (ps_set (i := 6) scbounds.nd rfl (Or.inl rfl) (pe_op op_sub (pv 1) (pe_callB (cr_sum rfl) (by rfl) T.n_sum (by decide +kernel) (pa_cons (pe_lock (pe_lc (own := [("_law_name", 7)]) (g := gName 7) (tt := tYes) rfl scbounds.nd (pi_keys (pv 5)) (blkOk_by (N := Nbounds) (sc := defScope sbounds) (by decide +kernel)) (fun _ _ _ _ _ => pg_name (i := 7) scbounds.nd rfl (Or.inl rfl)) (fun _ _ _ _ _ => pts_nil) (fun _ _ _ _ _ => (pe_dget hu (pv 5) (pv 7) (fun _ _ => rfl))))) pa_nil))))
    (pss_cons (ps_if (pt_not (pt_val (pe_callB (cr_all rfl) (by rfl) T.n_all (by decide +kernel) (pa_cons (pe_lock (pe_lc (own := [("_law_name", 7)]) (g := gName 7) (tt := tYes) rfl scbounds.nd (pi_keys (pv 5)) (blkOk_by (N := Nbounds) (sc := defScope sbounds) (by decide +kernel)) (fun _ _ _ _ _ => pg_name (i := 7) scbounds.nd rfl (Or.inl rfl)) (fun _ _ _ _ _ => pts_nil) (fun _ _ _ _ _ => (pe_cmp (pc_din hu (pv 7) (pv 3)) rfl)))) pa_nil))))
      (pss_one (ps_ret pe_bl))
      pss_nil)
    (pss_cons (ps_if (pt_not (pt_val (pe_callB (cr_all rfl) (by rfl) T.n_all (by decide +kernel) (pa_cons (pe_lock (pe_lc (own := [("_law_name", 7)]) (g := gName 7) (tt := tYes) rfl scbounds.nd (pi_keys (pv 3)) (blkOk_by (N := Nbounds) (sc := defScope sbounds) (by decide +kernel)) (fun _ _ _ _ _ => pg_name (i := 7) scbounds.nd rfl (Or.inl rfl)) (fun _ _ _ _ _ => pts_nil) (fun _ _ _ _ _ => (pe_chain op_le op_le pe_int (pe_op op_sub (pe_dget hu (pv 3) (pv 7) (fun _ _ => rfl)) (pe_dget2 hu (pv 5) (pv 7) pe_int ⟨rfl, rfl, rfl, rfl⟩)) (pv 4))))) pa_nil))))
      (pss_one (ps_ret pe_bl))
      pss_nil)
    (pss_one (ps_ret (pe_and (pe_chain op_le op_le (pe_op op_mul (pe_callTy call_int1 (by rfl) T.n_int (by decide +kernel) (pa_cons (pe_op op_add (pv 0) pe_int) pa_nil)) (pv 4)) (pv 6) (pe_op op_mul (pe_op op_mul pe_int (pv 0)) (pv 4))) (pe_and (pe_cmpR op_le (pe_op op_mul (pv 4) (pe_callTy call_int1 (by rfl) T.n_int (by decide +kernel) (pa_cons (pe_op op_add (pv 0) pe_int) pa_nil))) (pv 1) (nomark _)) (pe_one (pe_cmpR op_le (pe_callB call_lenD (by rfl) T.n_len (by decide +kernel) (pa_cons (pv 5) pa_nil)) (pv 0) (nomark _))))))))))), ?_⟩
    have kl : kvs.length ≤ 64 := by
      have : (kvs.length : Int) ≤ r := ok.len
      omega
    refine ⟨.ref st, rfl, st, _, rfl, hst, rfl, _, _, rfl, _, _, rfl, rfl, ?_⟩
    -- lost
    refine ⟨.int xm, rfl, dd, _, hd, trivial, fun od => ?_⟩
    refine ⟨.ref dd, rfl, dd, od, rfl, .inl ⟨_, upd_same, fun D nD => ?_⟩⟩
    generalize hHl : upd H dd (.frz od (.dK (kvs.map entZ))) = Hl at nD ⊢
    have hld : Hl dd = some (.frz od (.dK (kvs.map entZ))) := by rw [← hHl]; exact upd_same
    have dD : dd ≠ D := ne_of_none hld nD
    refine lc_it (walk_keys (kvs := kvs.map entZ)) (fun i H3 => Same Hl H3 ∧ H3 D = some (.lst ((kvs.take i).map fun e => V.int e.2)))
      ⟨same_upd nD, upd_same⟩ (fun i H3 _ h3 => h3.1 _ _ hld) (fun i x H3 H4 hi h3 y => ?_) (fun H2 h2 => ?_)
    · obtain ⟨rfl, kk, v, hkv, rfl⟩ := y
      obtain ⟨e, he, hkv2⟩ := map_at hkv
      cases hkv2
      obtain ⟨s4, hD⟩ := h3
      refine ⟨rfl, .ref dd, rfl, .str e.1, rfl, dd, .int e.2, rfl, ?_, _, hD, ?_, Same.put s4 nD, ?_⟩
      · refine .inl ⟨kvs.map entZ, Sum.inr e.1, .inr ⟨od, s4 _ _ hld⟩, rfl, ?_⟩
        rw [getZ_val, getZ_self ok.nd he]
        rfl
      · rw [List.length_map, List.length_take, sizeLine_eq]
        omega
      · rw [upd_same, List.take_add_one, he, List.map_append]
        rfl
    obtain ⟨s2, hD2⟩ := h2
    rw [List.length_map, List.take_length] at hD2
    refine ⟨s2 _ _ hld, ?_⟩
    have s3 := unlock hd hHl s2
    have hD3 : (upd H2 dd (.dK (kvs.map entZ))) D = some (.lst (kvs.map fun e => V.int e.2)) := by rw [upd_ne dD.symm]; exact hD2
    generalize upd H2 dd (.dK (kvs.map entZ)) = H3 at s3 hD3 ⊢
    refine ⟨D, kvs.map (·.2), rfl, sql (by rw [hD3, List.map_map]; rfl), _, _, rfl, rfl, ?_⟩
    -- no others are kept
    have hd3 := s3 _ _ hd
    have hc3 := s3 _ _ hc
    refine ⟨dd, _, hd3, trivial, fun oe => ?_⟩
    have rc := rd_lock (od := oe) hd3 hc3
    refine ⟨.ref dd, rfl, dd, oe, rfl, .inl ⟨_, upd_same, fun E1 nE1 => ?_⟩⟩
    generalize hHm : upd H3 dd (.frz oe (.dK (kvs.map entZ))) = Hm at nE1 rc ⊢
    have hlm : Hm dd = some (.frz oe (.dK (kvs.map entZ))) := by rw [← hHm]; exact upd_same
    have dE : dd ≠ E1 := ne_of_none hlm nE1
    refine lc_it (walk_keys (kvs := kvs.map entZ)) (fun i H3 => Same Hm H3 ∧ H3 E1 = some (.lst ((kvs.take i).map fun _ => V.bl true)))
      ⟨same_upd nE1, upd_same⟩ (fun i H3 _ h3 => h3.1 _ _ hlm) (fun i x H5 H6 hi h3 y => ?_) (fun H5 h5 => ?_)
    · obtain ⟨rfl, kk, v, hkv, rfl⟩ := y
      obtain ⟨e, he, hkv2⟩ := map_at hkv
      cases hkv2
      obtain ⟨s4, hD⟩ := h3
      have hin : (getZ kc e.1).isSome = true := by
        obtain ⟨t1, _⟩ := tru e.1
        have hge : gd kvs e.1 = e.2 := by
          unfold gd
          rw [getZ_self ok.nd he]
          rfl
        have hpos := ok.pos e (List.mem_of_getElem? he)
        dsimp only at t1
        rw [hge] at t1
        cases hg : getZ kc e.1 with
        | some _ => rfl
        | none =>
          have : gd kc e.1 = 0 := by
            unfold gd
            rw [hg]
            rfl
          omega
      refine ⟨rfl, .str e.1, rfl, .ref c, rfl, c, _, rfl, .inl ⟨kc.map entZ, Sum.inr e.1, rd_same rc s4, rfl, rfl⟩, _, hD, ?_, Same.put s4 nE1, ?_⟩
      · rw [List.length_map, List.length_take, sizeLine_eq]
        omega
      · rw [getZ_val, Option.isSome_map, hin, upd_same, List.take_add_one, he, List.map_append]
        rfl
    obtain ⟨s5, hD5⟩ := h5
    rw [List.length_map, List.take_length] at hD5
    refine ⟨s5 _ _ hlm, ?_⟩
    have s6 := unlock hd3 hHm s5
    have hD6 : (upd H5 dd (.dK (kvs.map entZ))) E1 = some (.lst (kvs.map fun _ => V.bl true)) := by rw [upd_ne dE.symm]; exact hD5
    generalize upd H5 dd (.dK (kvs.map entZ)) = H6 at s6 hD6 ⊢
    refine ⟨E1, kvs.map fun _ => true, rfl, sql (by rw [hD6, List.map_map]; rfl), true, congrArg V.bl (by simp), iteF ?_⟩
    -- the true counts
    have hc6 := s6 _ _ hc3
    have hd6 := s6 _ _ hd3
    refine ⟨c, _, hc6, trivial, fun og => ?_⟩
    have rd := rd_lock (od := og) hc6 hd6
    refine ⟨.ref c, rfl, c, og, rfl, .inl ⟨_, upd_same, fun F1 nF1 => ?_⟩⟩
    generalize hHn : upd H6 c (.frz og (.dK (kc.map entZ))) = Hn at nF1 rd ⊢
    have hln : Hn c = some (.frz og (.dK (kc.map entZ))) := by rw [← hHn]; exact upd_same
    have cF : c ≠ F1 := ne_of_none hln nF1
    refine lc_it (walk_keys (kvs := kc.map entZ)) (fun i H3 => Same Hn H3 ∧ H3 F1 = some (.lst ((kc.take i).map fun _ => V.bl true)))
      ⟨same_upd nF1, upd_same⟩ (fun i H3 _ h3 => h3.1 _ _ hln) (fun i x H7 H8 hi h3 y => ?_) (fun H7 h7 => ?_)
    · obtain ⟨rfl, kk, v, hkv, rfl⟩ := y
      obtain ⟨e, he, hkv2⟩ := map_at hkv
      cases hkv2
      obtain ⟨s4, hD⟩ := h3
      obtain ⟨tr1, tr2⟩ := tru e.1
      have hge : gd kc e.1 = e.2 := by
        unfold gd
        rw [getZ_self ndc he]
        rfl
      dsimp only at tr1 tr2
      rw [hge] at tr1 tr2
      have rd8 := rd_same rd s4
      refine ⟨rfl, .ref c, rfl, .str e.1, rfl, c, .int e.2, rfl, .inl ⟨kc.map entZ, Sum.inr e.1, .inr ⟨og, s4 _ _ hln⟩, rfl, by
        rw [getZ_val, getZ_self ndc he]
        rfl⟩, .ref dd, rfl, dd, rfl, .inl ⟨_, rd8⟩, .str e.1, rfl, _, .inl ⟨kvs.map entZ, Sum.inr e.1, rd8, rfl, rfl⟩, ?_⟩
      rw [getZ_val]
      refine ⟨e.2, gd kvs e.1, rfl, (by unfold gd; cases getZ kvs e.1 <;> rfl), _, _, rfl, rfl, true, congrArg V.bl (decide_eq_true tr1), iteT ⟨.int o, rfl, _, _, rfl, rfl, _, hD, ?_, Same.put s4 nF1, ?_⟩⟩
      · rw [List.length_map, List.length_take, sizeLine_eq]
        omega
      · show (upd _ F1 (.lst (((kc.take i).map fun _ => V.bl true) ++ [V.bl (decide (e.2 - gd kvs e.1 ≤ o))]))) F1 = _
        rw [decide_eq_true tr2, upd_same, List.take_add_one, he, List.map_append]
        rfl
    obtain ⟨s7, hD7⟩ := h7
    rw [List.length_map, List.take_length] at hD7
    refine ⟨s7 _ _ hln, ?_⟩
    have s8 := unlock hc6 hHn s7
    have hD8 : (upd H7 c (.dK (kc.map entZ))) F1 = some (.lst (kc.map fun _ => V.bl true)) := by rw [upd_ne cF.symm]; exact hD7
    generalize upd H7 c (.dK (kc.map entZ)) = H8 at s8 hD8 ⊢
    refine ⟨F1, kc.map fun _ => true, rfl, sql (by rw [hD8, List.map_map]; rfl), true, congrArg V.bl (by simp), iteF ?_⟩
    -- within the bounds
    obtain ⟨b1, b2, b3, b4⟩ := bd
    dsimp only at b1 b2 b3 b4
    have sp : 0 ≤ sumC kvs := by
      have gen : ∀ l : Ct, (∀ e ∈ l, 1 ≤ e.2) → 0 ≤ sumC l := by
        intro l
        induction l with
        | nil => exact fun _ => Int.le_refl _
        | cons e l ih =>
          intro h
          rw [sumC_cons']
          have := h e List.mem_cons_self
          have := ih fun f hf => h f (List.mem_cons_of_mem _ hf)
          omega
      exact gen kvs ok.pos
    have hl : (kvs.length : Int) ≤ r := ok.len
    have hd8 := s8 _ _ hd6
    have s08 : Same H H8 := fun b u e => s8 b u (s6 b u (s3 b u e))
    have b5 : o * (r + 1) ≤ xm := by
      rw [Int.mul_comm]
      omega
    refine ⟨.int r, rfl, _, _, rfl, rfl, .inl ⟨_, rfl, .int o, rfl, _, _, rfl, rfl, cmulL (by omega) (by omega), .int (xm - sumC kvs), rfl, _, _, rfl, rfl, true, congrArg V.bl (decide_eq_true b1), iteT ?_⟩⟩
    refine ⟨.int r, rfl, _, _, rfl, rfl, cmulL (by decide) (by decide), .int o, rfl, _, _, rfl, rfl, cmulL (by omega) (by omega), _, _, rfl, rfl, true, congrArg V.bl (decide_eq_true b2), iteT ?_⟩
    refine ⟨.int o, rfl, .int r, rfl, _, _, rfl, rfl, .inl ⟨_, rfl, _, _, rfl, rfl, cmulR (by omega) (by omega), .int xm, rfl, _, _, rfl, rfl, true, congrArg V.bl (decide_eq_true b5), iteT ?_⟩⟩
    refine ⟨.ref dd, rfl, dd, _, rfl, hd8, .int r, rfl, _, _, rfl, rfl, ?_⟩
    show Q (.bl (decide (((kvs.map entZ).length : Int) ≤ r))) H8
    rw [List.length_map, decide_eq_true hl]
    exact q H8 s08
end
end Kb

namespace Kb
open PySem PySem.Spec PyProof.Rows L2 SrtZ SrtO
theorem eqv_mono {K : PySem.W.Frag} {H : Hp} : ∀ {n : Nat} {x y : V}, Eqv K n H x y → Eqv K (n + 1) H x y
  | 0, _, _, h => .inl h
  | n + 1, x, y, h => by
    rcases h with h | ⟨a, b, xs, ys, e1, e2, h1, h2, h3, h4, h5⟩
    · exact .inl h
    · exact .inr ⟨a, b, xs, ys, e1, e2, h1, h2, h3, h4, fun i u v hu hv => eqv_mono (h5 i u v hu hv)⟩
theorem vl_mono : ∀ {l : List Stp} {h h' : Int}, Vl h l → h ≤ h' → Vl h' l
  | [], _, _, _, _ => trivial
  | .put zs :: l, h, h', v, e => vl_mono (l := l) (h := h + 1) (h' := h' + 1) v (by omega)
  | .pour :: l, h, h', v, e => ⟨by have := v.1; omega, vl_mono (l := l) (h := h - 1) (h' := h' - 1) v.2 (by omega)⟩
theorem hS_add : ∀ (l : List Stp) (h : Int), l.foldl hS h = h + l.foldl hS 0
  | [], h => by show h = h + 0; omega
  | .put zs :: l, h => by
    show l.foldl hS (h + 1) = h + l.foldl hS (0 + 1)
    rw [hS_add l (h + 1), hS_add l (0 + 1)]
    omega
  | .pour :: l, h => by
    show l.foldl hS (h - 1) = h + l.foldl hS (0 - 1)
    rw [hS_add l (h - 1), hS_add l (0 - 1)]
    omega
theorem cS_add : ∀ (l : List Stp) (m : Int), l.foldl cS m = m + l.foldl cS 0
  | [], m => by show m = m + 0; omega
  | .put zs :: l, m => by
    show l.foldl cS (m + (zs.length : Nat)) = m + l.foldl cS (0 + (zs.length : Nat))
    rw [cS_add l (m + (zs.length : Nat)), cS_add l (0 + (zs.length : Nat))]
    omega
  | .pour :: l, m => cS_add l m
/-- a tree that the law asks -/
structure Tq (l : List Stp) : Prop where
  vl : Vl 0 l
  ht : hgt l = 1
  few : mny l ≤ 40000
  len : l.length ≤ 1000
  nm : ∀ zs, .put zs ∈ l → ∀ z ∈ zs, Nm z
theorem Tq.tree {l : List Stp} (h : Tq l) : Tree l := ⟨fun j e => vl_at h.vl e, h.ht, by have := h.few; omega, by have := h.len; omega⟩
theorem tq_gr {i : Nat} {l : List Stp} (g : Gr i 1 l) (hi : i ≤ 40) : mny l ≤ 16000 ∧ l.length ≤ 80 := by
  have := g.few
  have := g.len
  exact ⟨by omega, by omega⟩
theorem tq_one {i : Nat} {l : List Stp} (g : Gr i 1 l) (hi : i ≤ 40) : Tq l := by
  obtain ⟨a, b⟩ := tq_gr g hi
  exact ⟨g.vl, g.ht, by omega, by omega, g.nm⟩
theorem tq_two {i : Nat} {l l' : List Stp} (g : Gr i 1 l) (g' : Gr i 1 l') (hi : i ≤ 40) : Tq (l ++ l' ++ [.pour]) := by
  obtain ⟨a, b⟩ := tq_gr g hi
  obtain ⟨a', b'⟩ := tq_gr g' hi
  have h1 : l.foldl hS 0 = 1 := g.ht
  have h2 : l'.foldl hS 0 = 1 := g'.ht
  have h3 : (l ++ l').foldl hS 0 = 2 := by rw [List.foldl_append, hS_add, h1, h2]; rfl
  refine ⟨vl_app (vl_app g.vl (vl_mono g'.vl (by rw [h1]; decide))) (by rw [h3]; exact ⟨by decide, trivial⟩), ?_, ?_, ?_, fun zs hz => ?_⟩
  · unfold hgt
    rw [List.foldl_append, h3]
    rfl
  · unfold mny at a a' ⊢
    have e : (l ++ l' ++ [Stp.pour]).foldl cS 0 = l.foldl cS 0 + l'.foldl cS 0 := by
      rw [List.foldl_append, List.foldl_append]
      show l'.foldl cS (l.foldl cS 0) = _
      exact cS_add l' _
    rw [e]
    omega
  · rw [List.length_append, List.length_append]
    show _ + 1 ≤ 1000
    omega
  · rcases List.mem_append.mp hz with h | h
    · rcases List.mem_append.mp h with h | h
      · exact g.nm zs h
      · exact g'.nm zs h
    · cases (List.mem_singleton.mp h)
/-- what a tree leads to, in both runs -/
structure Led (r : Int) (l : List Stp) (x : Tl) : Prop where
  run : runL r l = [x]
  prog : ∃ x', runT r l = [x'] ∧ skT x' = skT x
  ok : TlOk r x
  bd : Bd r x
  tru : TruF (gd (cntT l)) x
  many : x.m = sumC (cntT l)
theorem led_of {r : Int} (hr : 1 ≤ r) {l : List Stp} (h : Tq l) : ∃ x, Led r l x := by
  have hlen := runL_len (r := r) (l := l) (st := []) (h := 0) h.vl rfl
  have h1 : l.foldl hS 0 = 1 := h.ht
  rw [h1] at hlen
  have ok := runL_ok hr (l := l) (st := []) h.nm (fun _ h => nomatch h)
  obtain ⟨gs, p, b, s, e⟩ := runL_true hr (l := l) (st := []) (fs := []) (kc := []) (m := 0) h.nm (fun _ h => nomatch h) .nil (fun k => rfl) rfl
  have tl := runTL hr (l := l) (st := []) (st' := []) h.nm (fun _ h => nomatch h) (fun _ h => nomatch h) rfl
  have hsum := sum_cnt l [] 0 List.nodup_nil rfl
  generalize hR : l.foldl (stepL r) [] = R at hlen ok p b e tl
  match R, hlen, p with
  | [x], _, .cons (a := f) pf .nil =>
    refine ⟨x, hR, ?_, ok x List.mem_cons_self, b x List.mem_cons_self, fun k => ?_, ?_⟩
    · have : (runT r l).map skT = [skT x] := tl
      match hq : runT r l, this with
      | [x'], this => exact ⟨x', rfl, by injection this⟩
      | _ :: _ :: _, this => simp at this
    · have := s k
      have e1 : f k = gd (cntT l) k := by
        rw [List.map_cons, List.map_nil, List.sum_cons] at this
        have h0 : ([] : List Int).sum = 0 := rfl
        rw [h0] at this
        show f k = gd (l.foldl cntS []) k
        omega
      rw [← e1]
      exact pf k
    · have e2 : x.m + 0 = l.foldl cS 0 := e
      show x.m = sumC (l.foldl cntS [])
      rw [hsum, ← e2]
      omega
theorem led_two {r : Int} {l l' : List Stp} {x y z : Tl} (v : Vl 0 l) (v' : Vl 0 l') (h : Led r l x) (h' : Led r l' y) (h2 : Led r (l ++ l' ++ [.pour]) z) : z = pourT r y x := by
  have e := h2.run
  unfold runL at e
  have e1 : l.foldl (stepL r) [] = [x] := h.run
  have e2 : l'.foldl (stepL r) [] = [y] := h'.run
  have rb := run_beside (r := r) (l := l') (st := []) (base := [x]) (h := 0) v' rfl
  rw [List.nil_append, e2] at rb
  rw [List.foldl_append, List.foldl_append, e1, rb] at e
  exact (List.cons.inj e).1.symm
abbrev slaw : Stmt := topS 47
abbrev Nlaw : List Str := ["_law_script", "_law_pot_here", "_law_turn", "_law_room", "_law_names_here", "_law_leaves", "_law_trees", "_law_told", "_law_k", "_law_counts", "_law_state", "_law_many", "_law_side", "_law_tree_here", "_law_name"]
theorem sclaw : FnScope ["_law_script", "_law_pot_here", "_law_turn", "_law_room", "_law_names_here", "_law_leaves", "_law_trees", "_law_told", "_law_k", "_law_counts", "_law_state", "_law_many", "_law_side", "_law_tree_here", "_law_name"] ["_law_script"] (defScope slaw) := ⟨rfl, rfl, rfl, by decide +kernel, rfl, by decide +kernel, by decide +kernel⟩
abbrev Dnlaw (K : PySem.W.Frag) (mg : Str → Option Value) := Dn K mg "law" slaw ["_law_script"]
section
variable {P : Program} {w : World} {K : PySem.W.Frag} {mg : Str → Option Value} {base : Heap}
/-- the defs that the law asks -/
structure Prg (K : PySem.W.Frag) (mg : Str → Option Value) where
  T : Blt mg
  nset : mg "set" = none
  cM : Cst mg "MOST_ROOM" (.int 64)
  cL : Cst mg "LONGEST_NAME" (.int 8)
  cS : Cst mg "MOST_STEPS" (.int 5000)
  cI : Cst mg "MOST_ITEMS" (.int 50000)
  L : Tal K mg
  dP_is_int : DnIsInt K mg
  dP_is_number : DnIsNumber K mg
  dP_is_room : DnIsRoom K mg
  dP_is_name : DnIsName K mg
  dP_is_stream : DnIsStream K mg
  dP_is_tree : DnIsTree K mg
  dP_is_put : DnIsPut K mg
  dP_is_pour : DnIsPour K mg
  dP_are_counts : DnAreCounts K mg
  dP_is_counted : DnIsCounted K mg
  dP_counts_of : DnCountsOf K mg
  dP_lost_of : DnLostOf K mg
  dP_is_sketch : DnIsSketch K mg
  dP_bare : DnBare K mg
  dP_need_two : DnNeedTwo K mg
  dP_poured : DnPoured K mg
  dP_sketch_of : DnSketchOf K mg
  dpot : Dnpot K mg
  ddraw : Dndraw K mg
  dany : Dnany K mg
  dnames : Dnnames K mg
  dstream : Dnstream K mg
  dtree : Dntree K mg
  dcounted : Dncounted K mg
  dfed : Dnfed K mg
  dpoured : Dnpoured K mg
  dled : Dnled K mg
  dsketch : Dnsketch K mg
  dis : Dnis K mg
  dbounds : Dnbounds K mg
def spLaw (K : PySem.W.Frag) : Sp := fun vs H Q _ => ∃ (a : Addr) (ns : List Int), vs = [.ref a] ∧ SqL K H a (ns.map V.int) ∧ ns.length ≤ 63 ∧ ∀ H', Q (.bl true) H'
theorem ok_law (D : Prg K mg) (d : Dnlaw K mg) : FnOk P w K mg base CX0 7 d.f d.fd ["_law_script"] (spLaw K) := by
  obtain ⟨T, nset, cM, cL, cS, cI, L, dP_is_int, dP_is_number, dP_is_room, dP_is_name, dP_is_stream, dP_is_tree, dP_is_put, dP_is_pour, dP_are_counts, dP_is_counted, dP_counts_of, dP_lost_of, dP_is_sketch, dP_bare, dP_need_two, dP_poured, dP_sketch_of, dpot, ddraw, dany, dnames, dstream, dtree, dcounted, dfed, dpoured, dled, dsketch, dis, dbounds⟩ := D
  have Gpot : FnOk P w K mg base CX0 1 dpot.f dpot.fd ["_law_script"] (spPot K) := ok_pot T dpot
  have Gany : FnOk P w K mg base CX0 2 dany.f dany.fd ["_law_pot_here", "_law_items"] (spAny K) := ok_any T ddraw dany
  have Gnames : FnOk P w K mg base CX0 3 dnames.f dnames.fd ["_law_pot_here"] spNames := ok_names T nset ddraw dany dnames
  have Gtree : FnOk P w K mg base CX0 4 dtree.f dtree.fd ["_law_pot_here", "_law_names_here", "_law_leaves", "_law_most"] (spTree K) := ok_tree T ddraw dany dstream dtree
  have Gcounted : FnOk P w K mg base CX0 1 dcounted.f dcounted.fd ["_law_tree_here"] (spCounted K) := ok_counted T dcounted
  have Gled : FnOk P w K mg base CX0 2 dled.f dled.fd ["_law_room", "_law_tree_here"] (spLed K) := ok_led T dfed dpoured dled
  have Gsketch : FnOk P w K mg base CX0 1 dsketch.f dsketch.fd ["_law_room", "_law_many", "_law_state"] (spSketch K) := ok_sketch T dsketch
  have Gis : FnOk P w K mg base CX0 5 dis.f dis.fd ["_law_told", "_law_due"] (spIs K 3) := ok_is T dis 4
  have Gbounds : FnOk P w K mg base CX0 1 dbounds.f dbounds.fd ["_law_room", "_law_many", "_law_state", "_law_counts"] (spBounds K) := ok_bounds T dbounds
  have GP_is_sketch : FnOk P w K mg base CX0 4 dP_is_sketch.f dP_is_sketch.fd ["thing"] (spIsSketch K) := ok_is_sketch T cM cL dP_is_int dP_is_number dP_is_room dP_is_name dP_is_counted dP_are_counts dP_lost_of dP_is_sketch
  have GP_counts_of : FnOk P w K mg base CX0 5 dP_counts_of.f dP_counts_of.fd ["tree"] (spCountsOf K) := ok_counts_of T cL cS cI dP_is_name dP_is_stream dP_is_put dP_is_pour dP_is_tree dP_counts_of
  have GP_poured : FnOk P w K mg base CX0 6 dP_poured.f dP_poured.fd ["one", "other"] spPoured := ok_poured T cM cL dP_is_int dP_is_number dP_is_room dP_is_name dP_is_counted dP_are_counts dP_lost_of dP_is_sketch L dP_need_two dP_poured
  have GP_sketch_of : FnOk P w K mg base CX0 5 dP_sketch_of.f dP_sketch_of.fd ["room", "tree"] (spSketchOf K) := ok_sketch_of T cM cL cS cI dP_is_int dP_is_room dP_is_name dP_is_stream dP_is_put dP_is_pour dP_is_tree dP_bare L dP_sketch_of
  refine d.F.ok sclaw (fun vs H Q E h => ?_) (fun cdv A outer s H vs Q E hr h => ?_)
  · obtain ⟨a, ns, rfl, _⟩ := h
    rfl
  · obtain ⟨a, ns, rfl, hS, hlen, q⟩ := h
    have hu := hu_of hr
    refine ⟨_, (pss_cons (ps_asg (pe_call Gpot (hr.mono (by omega)) (by rfl) dpot.g dpot.F.kp dpot.b .nil pass0 (pa_cons (pv 0) pa_nil)) (pg_name (i := 1) sclaw.nd rfl (Or.inr rfl)))
    (pss_cons (ps_for PassesOwn.never rfl (pi_range1 (by rfl) T.n_range (pa_cons pe_int pa_nil)) (pg_name (i := 2) sclaw.nd rfl (Or.inl rfl))
      (pss_cons (ps_asg (pe_call Gany (hr.mono (by omega)) (by rfl) dany.g dany.F.kp dany.b .nil pass0 (pa_cons (pv 1) (pa_cons (pe_lst (pa_cons pe_int (pa_cons pe_int (pa_cons pe_int (pa_cons pe_int (pa_cons pe_int (pa_cons pe_int (pa_cons pe_int pa_nil)))))))) pa_nil))) (pg_name (i := 3) sclaw.nd rfl (Or.inr rfl)))
      (pss_cons (ps_asg (pe_call Gnames (hr.mono (by omega)) (by rfl) dnames.g dnames.F.kp dnames.b .nil pass0 (pa_cons (pv 1) pa_nil)) (pg_name (i := 4) sclaw.nd rfl (Or.inr rfl)))
      (pss_cons (ps_asg (pe_call Gany (hr.mono (by omega)) (by rfl) dany.g dany.F.kp dany.b .nil pass0 (pa_cons (pv 1) (pa_cons (pe_lst (pa_cons pe_int (pa_cons pe_int (pa_cons pe_int (pa_cons pe_int (pa_cons pe_int pa_nil)))))) pa_nil))) (pg_name (i := 5) sclaw.nd rfl (Or.inr rfl)))
      (pss_cons (ps_setLc (i := 6) (own := [("_law_side", 12)]) (g := gName 12) (tt := tYes) rfl sclaw.nd rfl rfl (sw_true rfl rfl rfl (by decide +kernel)) (pi_range1 (by rfl) T.n_range (pa_cons pe_int pa_nil)) (blkOk_by (N := Nlaw) (sc := defScope slaw) (by decide +kernel)) (fun _ _ _ _ _ => pg_name (i := 12) sclaw.nd rfl (Or.inl rfl)) (fun _ _ _ _ _ => pts_nil) (fun _ _ _ _ _ => (pe_call Gtree (hr.mono (by omega)) (by rfl) dtree.g dtree.F.kp dtree.b .nil pass0 (pa_cons (pv 1) (pa_cons (pv 4) (pa_cons (pv 5) (pa_cons (pe_call Gany (hr.mono (by omega)) (by rfl) dany.g dany.F.kp dany.b .nil pass0 (pa_cons (pv 1) (pa_cons (pe_lst (pa_cons pe_int (pa_cons pe_int pa_nil))) pa_nil))) pa_nil)))))))
      (pss_cons (ps_expr (pe_bm PySem.F.plainAttrs_list PySem.F.slot_list_append PySem.F.type_list_append mt_append (pv 6) (pa_cons (pe_op op_catT (pe_op op_catT (pe_ix ix_list (pv 6) pe_int (fun _ _ => rfl)) (pe_ix ix_list (pv 6) pe_int (fun _ _ => rfl))) (pe_tup (pa_cons (pe_tup (pa_cons pe_str pa_nil)) pa_nil))) pa_nil)))
      (pss_cons (ps_setLc (i := 7) (own := [("_law_tree_here", 13)]) (g := gName 13) (tt := tYes) rfl sclaw.nd rfl rfl (sw_true rfl rfl rfl (by decide +kernel)) (pi_list (pv 6)) (blkOk_by (N := Nlaw) (sc := defScope slaw) (by decide +kernel)) (fun _ _ _ _ _ => pg_name (i := 13) sclaw.nd rfl (Or.inl rfl)) (fun _ _ _ _ _ => pts_nil) (fun _ _ _ _ _ => (pe_call GP_sketch_of (hr.mono (by omega)) (by rfl) dP_sketch_of.g dP_sketch_of.F.kp dP_sketch_of.b .nil pass0 (pa_cons (pv 3) (pa_cons (pv 13) pa_nil)))))
      (pss_cons (ps_for PassesOwn.never rfl (pi_range1 (by rfl) T.n_range (pa_cons pe_int pa_nil)) (pg_name (i := 8) sclaw.nd rfl (Or.inl rfl))
        (pss_cons (ps_asg (pe_tup (pa_cons (pe_call Gcounted (hr.mono (by omega)) (by rfl) dcounted.g dcounted.F.kp dcounted.b .nil pass0 (pa_cons (pe_ix ix_list (pv 6) (pv 8) (fun _ _ => rfl)) pa_nil)) (pa_cons (pe_call Gled (hr.mono (by omega)) (by rfl) dled.g dled.F.kp dled.b .nil pass0 (pa_cons (pv 3) (pa_cons (pe_ix ix_list (pv 6) (pv 8) (fun _ _ => rfl)) pa_nil))) pa_nil))) (pg_tup (by rfl) (pgs_cons (pg_name (i := 9) sclaw.nd rfl (Or.inr rfl)) (pgs_cons (pg_name (i := 10) sclaw.nd rfl (Or.inl rfl)) pgs_nil))))
        (pss_cons (ps_set (i := 11) sclaw.nd rfl (Or.inl rfl) (pe_callB (cr_sum rfl) (by rfl) T.n_sum (by decide +kernel) (pa_cons (pe_lock (pe_lc (own := [("_law_name", 14)]) (g := gName 14) (tt := tYes) rfl sclaw.nd (pi_keys (pv 9)) (blkOk_by (N := Nlaw) (sc := defScope slaw) (by decide +kernel)) (fun _ _ _ _ _ => pg_name (i := 14) sclaw.nd rfl (Or.inl rfl)) (fun _ _ _ _ _ => pts_nil) (fun _ _ _ _ _ => (pe_dget hu (pv 9) (pv 14) (fun _ _ => rfl))))) pa_nil)))
        (pss_cons (ps_if (PW.pt (pw_or (pt_not (pt_val (pe_call Gis (hr.mono (by omega)) (by rfl) dis.g dis.F.kp dis.b .nil pass0 (pa_cons (pe_ix ix_list (pv 7) (pv 8) (fun _ _ => rfl)) (pa_cons (pe_call Gsketch (hr.mono (by omega)) (by rfl) dsketch.g dsketch.F.kp dsketch.b .nil pass0 (pa_cons (pv 3) (pa_cons (pv 11) (pa_cons (pv 10) pa_nil)))) pa_nil))))) (pw_or1 (pt_cmpR op_notBl (pe_call GP_is_sketch (hr.mono (by omega)) (by rfl) dP_is_sketch.g dP_is_sketch.F.kp dP_is_sketch.b .nil pass0 (pa_cons (pe_ix ix_list (pv 7) (pv 8) (fun _ _ => rfl)) pa_nil)) pe_bl (nomark _)))))
          (pss_one (ps_ret pe_bl))
          pss_nil)
        (pss_cons (ps_if (pt_not (pt_val (pe_call Gis (hr.mono (by omega)) (by rfl) dis.g dis.F.kp dis.b .nil pass0 (pa_cons (pe_call GP_counts_of (hr.mono (by omega)) (by rfl) dP_counts_of.g dP_counts_of.F.kp dP_counts_of.b .nil pass0 (pa_cons (pe_ix ix_list (pv 6) (pv 8) (fun _ _ => rfl)) pa_nil)) (pa_cons (pe_callTy call_tupleF (by rfl) T.n_tuple (by decide +kernel) (pa_cons (pe_callB cr_sortedPZ (by rfl) T.n_sorted (by decide +kernel) (pa_cons (pe_lock (pe_lc (own := [("_law_name", 14)]) (g := gName 14) (tt := tYes) rfl sclaw.nd (pi_keys (pv 9)) (blkOk_by (N := Nlaw) (sc := defScope slaw) (by decide +kernel)) (fun _ _ _ _ _ => pg_name (i := 14) sclaw.nd rfl (Or.inl rfl)) (fun _ _ _ _ _ => pts_nil) (fun _ _ _ _ _ => (pe_tup (pa_cons (pv 14) (pa_cons (pe_dget hu (pv 9) (pv 14) (fun _ _ => rfl)) pa_nil)))))) pa_nil)) pa_nil)) pa_nil)))))
          (pss_one (ps_ret pe_bl))
          pss_nil)
        (pss_one (ps_if (pt_not (pt_val (pe_call Gbounds (hr.mono (by omega)) (by rfl) dbounds.g dbounds.F.kp dbounds.b .nil pass0 (pa_cons (pv 3) (pa_cons (pv 11) (pa_cons (pv 10) (pa_cons (pv 9) pa_nil)))))))
          (pss_one (ps_ret pe_bl))
          pss_nil)))))))
      (pss_one (ps_if (pt_not (pt_val (pe_call Gis (hr.mono (by omega)) (by rfl) dis.g dis.F.kp dis.b .nil pass0 (pa_cons (pe_call GP_poured (hr.mono (by omega)) (by rfl) dP_poured.g dP_poured.F.kp dP_poured.b .nil pass0 (pa_cons (pe_ix ix_list (pv 7) pe_int (fun _ _ => rfl)) (pa_cons (pe_ix ix_list (pv 7) pe_int (fun _ _ => rfl)) pa_nil))) (pa_cons (pe_ix ix_list (pv 7) pe_int (fun _ _ => rfl)) pa_nil)))))
        (pss_one (ps_ret pe_bl))
        pss_nil))))))))))
    (pss_one (ps_ret pe_bl)))), ?_⟩
    refine ⟨.ref a, rfl, a, ns, rfl, hS, hlen, fun H1 p g s1 sm1 pot1 => ⟨2, rfl, by decide, by decide, ?_⟩⟩
    refine for_range (lo := 0) (n := 2) (fun i σ H3 => ∃ y2 y3 y4 y5 y6 y7 y8 y9 y10 y11 y12 y13 y14 : Option V, σ = [some (.ref a), some (.ref p), y2, y3, y4, y5, y6, y7, y8, y9, y10, y11, y12, y13, y14] ∧ Pot p g s1 H3) ⟨_, _, _, _, _, _, _, _, _, _, _, _, _, rfl, pot1⟩ ?_ ?_
    · rintro i σ H3 hi ⟨y2, y3, y4, y5, y6, y7, y8, y9, y10, y11, y12, y13, y14, rfl, pot3⟩
      refine ⟨.ref p, rfl, (by show 7 ≤ sizeLine; decide), fun b1 nb1 => ?_⟩
      have hb1 := pot3.nea nb1
      refine ⟨p, g, s1, b1, _, rfl, pot3.same (same_upd nb1), hb1.1, hb1.2.1, hb1.2.2, upd_same, (by show 0 < 7; decide), (by show 7 ≤ 1000; decide), fun H4 y x4 pot4 hy => ?_⟩
      obtain ⟨r, rfl, hr1, hr2⟩ : ∃ r : Int, y = .int r ∧ 1 ≤ r ∧ r ≤ 64 := by
        simp only [List.mem_cons, List.not_mem_nil, or_false] at hy
        rcases hy with rfl | rfl | rfl | rfl | rfl | rfl | rfl
        all_goals exact ⟨_, rfl, by decide, by decide⟩
      clear hy
      refine ⟨.ref p, rfl, p, g, s1, rfl, pot4, fun H5 l ns x5 pot5 nl hl5 hnm hpos hlen5 => ?_⟩
      have lot5 : Lot p g s1 H5 l ns := ⟨pot4.nea nl, hl5, hpos, hlen5, hnm⟩
      refine ⟨.ref p, rfl, (by show 5 ≤ sizeLine; decide), fun b2 nb2 => ?_⟩
      have hb2 := pot5.nea nb2
      refine ⟨p, g, s1, b2, _, rfl, pot5.same (same_upd nb2), hb2.1, hb2.2.1, hb2.2.2, upd_same, (by show 0 < 5; decide), (by show 5 ≤ 1000; decide), fun H6 y x6 pot6 hy => ?_⟩
      have lot6 := (lot5.same (same_upd nb2)).ex x6
      obtain ⟨lv, rfl, lv1, lv2⟩ : ∃ m : Nat, y = .int (m : Int) ∧ 1 ≤ m ∧ m ≤ 40 := by
        simp only [List.mem_cons, List.not_mem_nil, or_false] at hy
        rcases hy with rfl | rfl | rfl | rfl | rfl
        · exact ⟨1, rfl, by decide, by decide⟩
        · exact ⟨2, rfl, by decide, by decide⟩
        · exact ⟨5, rfl, by decide, by decide⟩
        · exact ⟨12, rfl, by decide, by decide⟩
        · exact ⟨40, rfl, by decide, by decide⟩
      clear hy
      -- two trees
      refine ⟨2, rfl, by decide, by decide, fun D nD => ?_⟩
      have hD := pot6.nea nD
      refine lc_range (lo := 0) (n := 2) (fun j H7 => Ex p g s1 H6 H7 ∧ Pot p g s1 H7 ∧ ∃ (ts : List Addr) (sts : List (List Stp)), H7 D = some (.lst (ts.map V.ref)) ∧ ts.length = j ∧ Paired (fun t st => TreeAt K H7 t st ∧ Gr lv 1 st) ts sts)
        ⟨(Ex.refl p g s1 H6).put nD, pot6.same (same_upd nD), [], [], upd_same, rfl, .nil⟩ (fun j H7 hj h7 => ?_) (fun H7 h7 => ?_)
      · obtain ⟨x7, p7, ts, sts, hD7, htl, hpr⟩ := h7
        have lot7 := lot6.ex x7
        refine ⟨rfl, .ref p, rfl, .ref l, rfl, .int (lv : Int), rfl, .ref p, rfl, (by show 2 ≤ sizeLine; decide), fun b3 nb3 => ?_⟩
        have hb3 := p7.nea nb3
        refine ⟨p, g, s1, b3, _, rfl, p7.same (same_upd nb3), hb3.1, hb3.2.1, hb3.2.2, upd_same, (by show 0 < 2; decide), (by show 2 ≤ 1000; decide), fun H8 y x8 p8 hy => ?_⟩
        have lot8 := (lot7.same (same_upd nb3)).ex x8
        obtain ⟨mst, rfl, hm0, hm1⟩ : ∃ m : Int, y = .int m ∧ 0 ≤ m ∧ m ≤ 400 := by
          simp only [List.mem_cons, List.not_mem_nil, or_false] at hy
          rcases hy with rfl | rfl
          all_goals exact ⟨_, rfl, by decide, by decide⟩
        refine ⟨p, g, s1, l, ns, lv, mst, rfl, p8, lot8, lv1, lv2, hm0, hm1, fun H9 t vs st x9 p9 nt ht hpr9 gr => ?_⟩
        have x79 : Ex p g s1 H7 H9 := fun b o n1 n2 n3 e => x9 b o n1 n2 n3 (x8 b o n1 n2 n3 (same_upd nb3 b o e))
        have hD9 := x79 D _ hD.1 hD.2.1 hD.2.2 hD7
        refine ⟨_, hD9, ?_, (x7.trans x79).put nD, p9.put hD, ts ++ [t], sts ++ [st], ?_, ?_, ?_⟩
        · rw [List.length_map, htl, sizeLine_eq]
          omega
        · rw [upd_same, List.map_append]
          rfl
        · rw [List.length_append, htl]
          rfl
        · refine paired_app (paired_imp (fun t st h => ?_) hpr) (.cons ⟨⟨vs, sq_upd (.inl (.inl ht)) hD9, paired_imp (fun v s h => h.put hD9) hpr9⟩, gr⟩ .nil)
          obtain ⟨⟨vs, a1, a2⟩, a3⟩ := h
          exact ⟨⟨vs, sq_upd (x79.tup p7 a1) hD9, paired_imp (fun v s h => (h.ex x79 p7).put hD9) a2⟩, a3⟩
      obtain ⟨x7, p7, ts, sts, hD7, htl, hpr⟩ := h7
      match ts, sts, htl, hpr with
      | [t0, t1], [l0, l1], _, .cons ⟨⟨vs0, a0, c0⟩, g0⟩ (.cons ⟨⟨vs1, a1, c1⟩, g1⟩ .nil) =>
        have ne0 : ∀ {vs : List V} {st : List Stp}, Paired (StpAt K H7) vs st → Gr lv 1 st → vs ≠ [] := fun {vs st} h g e => by
          subst e
          cases h
          have := g.ht
          cases this
        have tq0 := tq_one g0 lv2
        have tq1 := tq_one g1 lv2
        have tq2 := tq_two g0 g1 lv2
        have len0 : vs0.length = l0.length := Paired.length c0
        have len1 : vs1.length = l1.length := Paired.length c1
        have lb0 := tq0.len
        have lb1 := tq1.len
        -- both and a pour
        refine ⟨.ref D, rfl, .inl ⟨rfl, _, sql hD7⟩, .ref D, rfl, D, _, _, _, rfl, rfl, sql hD7, atI_nat (j := 0) rfl, .ref D, rfl, D, _, _, _, rfl, rfl, sql hD7, atI_nat (j := 1) rfl, t0, t1, vs0, vs1, rfl, rfl, a0, a1, ne0 c0 g0, (by rw [sizeLine_eq]; omega), (fun e => absurd e (ne0 c1 g1)), fun _ u nu => ?_⟩
        have su := same_upd (o := .tup (vs0 ++ vs1)) nu
        have hu0 : (upd H7 u (.tup (vs0 ++ vs1))) u = some (.tup (vs0 ++ vs1)) := upd_same
        refine ⟨(by show 1 ≤ sizeLine; decide), fun b4 nb4 => ⟨(by show 1 ≤ sizeLine; decide), fun b5 nb5 => ?_⟩⟩
        have sv := Same.new (o := .tup [.ref b4]) (Same.new (o := .tup [.str (Str.ofString "pour")]) su nb4) nb5
        have hb4 : (upd (upd (upd H7 u (.tup (vs0 ++ vs1))) b4 (.tup [.str (Str.ofString "pour")])) b5 (.tup [.ref b4])) b4 = some (.tup [.str (Str.ofString "pour")]) := same_upd nb5 _ _ upd_same
        have hu1 : (upd (upd (upd H7 u (.tup (vs0 ++ vs1))) b4 (.tup [.str (Str.ofString "pour")])) b5 (.tup [.ref b4])) u = some (.tup (vs0 ++ vs1)) := Same.new (same_upd nb4) nb5 _ _ hu0
        have hb5 : (upd (upd (upd H7 u (.tup (vs0 ++ vs1))) b4 (.tup [.str (Str.ofString "pour")])) b5 (.tup [.ref b4])) b5 = some (.tup [.ref b4]) := upd_same
        generalize upd (upd (upd H7 u (.tup (vs0 ++ vs1))) b4 (.tup [.str (Str.ofString "pour")])) b5 (.tup [.ref b4]) = H8 at sv hb4 hu1 hb5 ⊢
        refine ⟨u, b5, vs0 ++ vs1, [.ref b4], rfl, rfl, .inl (.inl hu1), .inl (.inl hb5), (fun e => ne0 c0 g0 (List.append_eq_nil_iff.mp e).1), (by rw [List.length_append, sizeLine_eq]; show _ + 1 ≤ _; omega), (fun e => absurd e (by simp)), fun _ t2 nt2 => ?_⟩
        have sw := Same.new (o := .tup (vs0 ++ vs1 ++ [.ref b4])) sv nt2
        have ht2 : (upd H8 t2 (.tup (vs0 ++ vs1 ++ [.ref b4]))) t2 = some (.tup (vs0 ++ vs1 ++ [.ref b4])) := upd_same
        have hb4' := same_upd (o := .tup (vs0 ++ vs1 ++ [.ref b4])) nt2 _ _ hb4
        generalize upd H8 t2 (.tup (vs0 ++ vs1 ++ [.ref b4])) = H9 at sw ht2 hb4' ⊢
        have hD9 := sw _ _ hD7
        have p9 := p7.same sw
        refine ⟨D, _, _, rfl, rfl, hD9, (by show 2 < sizeLine; decide), ?_⟩
        have T0 : TreeAt K (upd H9 D (.lst ([t0, t1].map V.ref ++ [.ref t2]))) t0 l0 := ⟨vs0, sq_upd (seqT a0 sw) hD9, paired_imp (fun v s h => (h.same sw).put hD9) c0⟩
        have T1 : TreeAt K (upd H9 D (.lst ([t0, t1].map V.ref ++ [.ref t2]))) t1 l1 := ⟨vs1, sq_upd (seqT a1 sw) hD9, paired_imp (fun v s h => (h.same sw).put hD9) c1⟩
        have T2 : TreeAt K (upd H9 D (.lst ([t0, t1].map V.ref ++ [.ref t2]))) t2 (l0 ++ l1 ++ [.pour]) := ⟨_, sq_upd (.inl (.inl ht2)) hD9, paired_imp (fun v s h => h.put hD9) (paired_app (paired_app (paired_imp (fun v s h => h.same sw) c0) (paired_imp (fun v s h => h.same sw) c1)) (.cons ⟨b4, rfl, .inl (.inl hb4')⟩ .nil))⟩
        have hD10 : (upd H9 D (.lst ([t0, t1].map V.ref ++ [.ref t2]))) D = some (.lst ([t0, t1, t2].map V.ref)) := upd_same
        have p10 := p9.put hD (u := .lst ([t0, t1].map V.ref ++ [.ref t2]))
        generalize upd H9 D (.lst ([t0, t1].map V.ref ++ [.ref t2])) = H10 at T0 T1 T2 hD10 p10 ⊢
        obtain ⟨x0, led0⟩ := led_of hr1 tq0
        obtain ⟨x1, led1⟩ := led_of hr1 tq1
        obtain ⟨x2, led2⟩ := led_of hr1 tq2
        have e2 := led_two tq0.vl tq1.vl led0 led1 led2
        have TS : Paired (fun t st => TreeAt K H10 t st ∧ Tq st) [t0, t1, t2] [l0, l1, l0 ++ l1 ++ [.pour]] := .cons ⟨T0, tq0⟩ (.cons ⟨T1, tq1⟩ (.cons ⟨T2, tq2⟩ .nil))
        have LS : Paired (fun st x => Led r st x) [l0, l1, l0 ++ l1 ++ [.pour]] [x0, x1, x2] := .cons led0 (.cons led1 (.cons led2 .nil))
        -- told
        refine ⟨.ref D, rfl, D, rfl, ⟨_, sql hD10⟩, fun E nE => lc_list (xs := [t0, t1, t2].map V.ref) (fun j H11 => Same H10 H11 ∧ ∃ sks : List Addr, H11 E = some (.lst (sks.map V.ref)) ∧ sks.length = j ∧ Paired (fun s x => SkAt H11 s r x) sks ([x0, x1, x2].take j))
          ⟨same_upd nE, [], upd_same, rfl, .nil⟩ (fun j H11 _ h11 => sql (h11.1 _ _ hD10)) (fun j v H11 hv h11 => ?_) (fun H11 h11 => ?_)⟩
        · obtain ⟨s11, sks, hE, hsl, hsk⟩ := h11
          obtain ⟨t, ht, rfl⟩ := map_at hv
          obtain ⟨st, hst, tat, tq⟩ := paired_at TS ht
          obtain ⟨x, hx, led⟩ := paired_at LS hst
          obtain ⟨x', hrun, hsx⟩ := led.prog
          refine ⟨rfl, .int r, rfl, .ref t, rfl, t, r, st, x', rfl, hr1, hr2, tat.same s11, tq.tree, tq.nm, hrun, fun _ H12 s2 k2 ts2 s12 ns2 hs2 hk2 hpr2 => ?_⟩
          have hE12 := s12 _ _ hE
          have ska : SkAt H12 s2 r x := SkAt.congr (x := x') ⟨k2, ts2, hs2, hk2, hpr2⟩ hsx
          have up : ∀ {s : Addr} {y : Tl}, SkAt H12 s r y → SkAt (upd H12 E (.lst (sks.map V.ref ++ [.ref s2]))) s r y := fun {s y} h => by
            obtain ⟨k, ts, h1, ⟨ob, h2, h2'⟩, h3⟩ := h
            exact ⟨k, ts, by rw [upd_ne (ne_of h1 hE12 (by intro z; cases z))]; exact h1, ⟨ob, by rw [upd_ne (ne_of h2 hE12 (by intro z; cases z))]; exact h2, h2'⟩, paired_imp (fun t e h => by show _ = _; rw [upd_ne (ne_of h hE12 (by intro z; cases z))]; exact h) h3⟩
          refine ⟨_, hE12, ?_, Same.put (s11.trans s12) nE, sks ++ [s2], by rw [upd_same, List.map_append]; rfl, by rw [List.length_append, hsl]; rfl, ?_⟩
          · rw [List.length_map, hsl, sizeLine_eq]
            have := (List.getElem?_eq_some_iff.mp ht).1
            have h3 : ([t0, t1, t2] : List Addr).length = 3 := rfl
            omega
          · rw [List.take_add_one, hx]
            exact paired_snoc (paired_imp (fun s y h => up (h.same s12)) hsk) (up ska)
        obtain ⟨s11, sks, hE, hsl, hsk⟩ := h11
        have hsk : Paired (fun s x => SkAt H11 s r x) sks [x0, x1, x2] := hsk
        have hsl : sks.length = 3 := hsl
        have pot11 := p10.same s11
        have hD11 := s11 _ _ hD10
        refine ⟨3, rfl, by decide, by decide, ?_⟩
        refine for_range (lo := 0) (n := 3) (fun j σ H12 => ∃ z8 z9 z10 z11 z12 z13 z14 : Option V, σ = [some (.ref a), some (.ref p), some (.int (0 + (i : Int))), some (.int r), some (.ref l), some (.int (lv : Int)), some (.ref D), some (.ref E), z8, z9, z10, z11, z12, z13, z14] ∧ Same H11 H12) ⟨_, _, _, _, _, _, _, rfl, fun _ _ e => e⟩ ?_ ?_
        · rintro j σ H12 hj ⟨z8, z9, z10, z11, z12, z13, z14, rfl, s12⟩
          obtain ⟨t, ht⟩ : ∃ t, ([t0, t1, t2] : List Addr)[j]? = some t := ⟨_, List.getElem?_eq_getElem hj⟩
          obtain ⟨st, hst, tat, tq⟩ := paired_at TS ht
          obtain ⟨x, hx, led⟩ := paired_at LS hst
          obtain ⟨sk, hskj⟩ : ∃ sk, sks[j]? = some sk := ⟨_, List.getElem?_eq_getElem (by omega)⟩
          obtain ⟨x', hx', ska⟩ := paired_at hsk hskj
          rw [hx] at hx'
          cases hx'
          have tat12 := tat.same (s11.trans s12)
          have hvt : atI ([t0, t1, t2].map V.ref) (0 + (j : Int)) = some (.ref t) := by rw [Int.zero_add]; exact atI_nat (by rw [List.getElem?_map, ht]; rfl)
          have hvs : atI (sks.map V.ref) (0 + (j : Int)) = some (.ref sk) := by rw [Int.zero_add]; exact atI_nat (by rw [List.getElem?_map, hskj]; rfl)
          have hD12 := s12 _ _ hD11
          have hE12 := s12 _ _ hE
          have lenX := led.ok.len
          have cl := cntT_len st
          have few := tq.few
          refine ⟨.ref D, rfl, .int (0 + (j : Int)), rfl, D, _, _, _, rfl, rfl, sql hD12, hvt, t, st, rfl, tat12, (by omega), fun H13 c s13 nc hc => ?_⟩
          refine ⟨.int r, rfl, .ref D, rfl, .int (0 + (j : Int)), rfl, D, _, _, _, rfl, rfl, sql (s13 _ _ hD12), hvt, r, t, st, x, rfl, hr1, hr2, tat12.same s13, tq.vl, (by have := tq.len; omega), tq.nm, led.run, fun H14 sta s14 hsta => ⟨(by show 2 ≤ sizeLine; decide), fun tp ntp => ⟨tp, _, rfl, .inl (.inl upd_same), rfl, _, _, rfl, _, _, rfl, rfl, ?_⟩⟩⟩
          have s15 : Same H12 (upd H14 tp (.tup [.ref c, .ref sta])) := Same.new (s13.trans s14) ntp
          have hc15 := same_upd (o := .tup [.ref c, .ref sta]) ntp _ _ (s14 _ _ hc)
          have hsta15 := hsta.same (same_upd (o := .tup [.ref c, .ref sta]) ntp)
          generalize upd H14 tp (.tup [.ref c, .ref sta]) = H15 at s15 hc15 hsta15 ⊢
          have ndc := cntT_nd st
          -- many
          refine ⟨c, _, hc15, trivial, fun od => ?_⟩
          refine ⟨.ref c, rfl, c, od, rfl, .inl ⟨_, upd_same, fun F nF => ?_⟩⟩
          generalize hHl : upd H15 c (.frz od (.dK ((cntT st).map entZ))) = Hl at nF ⊢
          have hld : Hl c = some (.frz od (.dK ((cntT st).map entZ))) := by rw [← hHl]; exact upd_same
          have cF : c ≠ F := ne_of_none hld nF
          refine lc_it (walk_keys (kvs := (cntT st).map entZ)) (fun i H3 => Same Hl H3 ∧ H3 F = some (.lst (((cntT st).take i).map fun e => V.int e.2)))
            ⟨same_upd nF, upd_same⟩ (fun i H3 _ h3 => h3.1 _ _ hld) (fun i x H3 H4 hi h3 y => ?_) (fun H16 h16 => ?_)
          · obtain ⟨rfl, kk, v, hkv, rfl⟩ := y
            obtain ⟨e, he, hkv2⟩ := map_at hkv
            cases hkv2
            obtain ⟨s4, hF⟩ := h3
            refine ⟨rfl, .ref c, rfl, .str e.1, rfl, c, .int e.2, rfl, ?_, _, hF, ?_, Same.put s4 nF, ?_⟩
            · refine .inl ⟨(cntT st).map entZ, Sum.inr e.1, .inr ⟨od, s4 _ _ hld⟩, rfl, ?_⟩
              rw [getZ_val, getZ_self ndc he]
              rfl
            · rw [List.length_map, List.length_take, sizeLine_eq]
              omega
            · rw [upd_same, List.take_add_one, he, List.map_append]
              rfl
          obtain ⟨s16, hF16⟩ := h16
          rw [List.length_map, List.take_length] at hF16
          refine ⟨s16 _ _ hld, ?_⟩
          have s17 := unlock hc15 hHl s16
          have hF17 : (upd H16 c (.dK ((cntT st).map entZ))) F = some (.lst ((cntT st).map fun e => V.int e.2)) := by rw [upd_ne cF.symm]; exact hF16
          generalize upd H16 c (.dK ((cntT st).map entZ)) = H17 at s17 hF17 ⊢
          refine ⟨F, (cntT st).map (·.2), rfl, sql (by rw [hF17, List.map_map]; rfl), ?_⟩
          have s1217 := s15.trans s17
          have hE17 := s1217 _ _ hE12
          have ska17 := ska.same (s12.trans s1217)
          obtain ⟨dst, hst1, hst2⟩ := hsta15.same s17
          refine ⟨.ref E, rfl, .int (0 + (j : Int)), rfl, E, _, _, _, rfl, rfl, sql hE17, hvs, .int r, rfl, .int (sumC (cntT st)), rfl, .ref sta, rfl, r, sumC (cntT st), x.o, sta, dst, x.c, rfl, hst1, hst2, led.ok.nd, (by omega), fun H18 s7 k7 ts7 sm7 ns7 hs7 hk7 hpr7 => ?_⟩
          have ska7 : SkAt H18 s7 r x := ⟨k7, ts7, by rw [led.many]; exact hs7, hk7, hpr7⟩
          refine ⟨.ref sk, .ref s7, rfl, eqv_sk (ska17.same sm7) ska7 (by omega), fun H19 s19 => ⟨true, rfl, iteF ?_⟩⟩
          have s1719 := sm7.trans s19
          have hE19 := s1719 _ _ hE17
          obtain ⟨kk, tss, q1, q2, q3⟩ := ska17.same s1719
          have hb : skB r x.m x.o (srtZ x.c) = true := by
            have es := sumC_perm' (srtZ_perm x.c)
            obtain ⟨b1, b2, b3, b4⟩ := led.bd
            unfold skB
            rw [es, decide_eq_true hr1, decide_eq_true hr2, decide_eq_true b4, decide_eq_true b3, decide_eq_true (show ((srtZ x.c).length : Int) ≤ r by rw [(srtZ_perm x.c).length_eq]; exact lenX), decide_eq_true b1, decide_eq_true b2]
            rfl
          refine ⟨.ref E, rfl, .int (0 + (j : Int)), rfl, E, _, _, _, rfl, rfl, sql hE19, hvs, sk, kk, r, x.m, x.o, srtZ x.c, rfl, .inl (.inl q1), ⟨tss, q2.seq, paired_imp (fun t e h => .inl (.inl h)) q3⟩, cts_of led.ok, (by rw [(srtZ_perm x.c).length_eq]; omega), fun H20 s20 => ?_⟩
          rw [hb]
          refine ⟨true, true, rfl, rfl, false, rfl, iteF ?_⟩
          -- counts
          have s1220 := s1217.trans (s1719.trans s20)
          have s1520 := s17.trans (s1719.trans s20)
          refine ⟨.ref D, rfl, .int (0 + (j : Int)), rfl, D, _, _, _, rfl, rfl, sql (s1220 _ _ hD12), hvt, t, st, rfl, tat12.same s1220, tq.tree, fun H21 kc tsc s21 hkc hprc => ?_⟩
          have hc21 := s21 _ _ (s1520 _ _ hc15)
          refine ⟨c, _, hc21, trivial, fun oe => ?_⟩
          refine ⟨.ref c, rfl, c, oe, rfl, .inl ⟨_, upd_same, fun F2 nF2 => ?_⟩⟩
          generalize hHm : upd H21 c (.frz oe (.dK ((cntT st).map entZ))) = Hm at nF2 ⊢
          have hlm : Hm c = some (.frz oe (.dK ((cntT st).map entZ))) := by rw [← hHm]; exact upd_same
          have cF2 : c ≠ F2 := ne_of_none hlm nF2
          refine lc_it (walk_keys (kvs := (cntT st).map entZ)) (fun i H3 => Same Hm H3 ∧ ∃ ts : List Addr, H3 F2 = some (.lst (ts.map V.ref)) ∧ Paired (PrT H3) ts ((cntT st).take i))
            ⟨same_upd nF2, [], upd_same, .nil⟩ (fun i H3 _ h3 => h3.1 _ _ hlm) (fun i x H3 H4 hi h3 y => ?_) (fun H22 h22 => ?_)
          · obtain ⟨rfl, kk, v, hkv, rfl⟩ := y
            obtain ⟨e, he, hkv2⟩ := map_at hkv
            cases hkv2
            obtain ⟨s4, ts, hF, hpr⟩ := h3
            refine ⟨rfl, .str e.1, rfl, .ref c, rfl, .str e.1, rfl, c, .int e.2, rfl, ?_, (by show 2 ≤ sizeLine; decide), fun t nt => ?_⟩
            · refine .inl ⟨(cntT st).map entZ, Sum.inr e.1, .inr ⟨oe, s4 _ _ hlm⟩, rfl, ?_⟩
              rw [getZ_val, getZ_self ndc he]
              rfl
            · have Dp : F2 ≠ t := ne_of_none hF nt
              refine ⟨_, by rw [upd_ne Dp]; exact hF, ?_, Same.put (Same.new s4 nt) nF2, ts ++ [t], by rw [upd_same, List.map_append]; rfl, ?_⟩
              · rw [List.length_map, Paired.length hpr, List.length_take, sizeLine_eq]
                omega
              · rw [List.take_add_one, he]
                refine paired_snoc (paired_imp (fun t e' ht => ?_) hpr) ?_
                · show _ = _
                  rw [upd_ne (ne_of ht hF (by intro z; cases z)), upd_ne (ne_of_none ht nt)]
                  exact ht
                · show _ = _
                  rw [upd_ne Dp.symm]
                  exact upd_same
          obtain ⟨s22, ts22, hF22, hpr22⟩ := h22
          rw [List.length_map, List.take_length] at hpr22
          refine ⟨s22 _ _ hlm, ?_⟩
          have s23 := unlock hc21 hHm s22
          have hpr23 : Paired (PrT (upd H22 c (.dK ((cntT st).map entZ)))) ts22 (cntT st) := paired_imp (fun t e' ht => by
            show _ = _
            rw [upd_ne (ne_of ht (s22 _ _ hlm) (by intro z; cases z))]
            exact ht) hpr22
          have hF23 : (upd H22 c (.dK ((cntT st).map entZ))) F2 = some (.lst (ts22.map V.ref)) := by rw [upd_ne cF2.symm]; exact hF22
          generalize upd H22 c (.dK ((cntT st).map entZ)) = H23 at s23 hpr23 hF23 ⊢
          obtain ⟨w1, w2⟩ := paired_rd hpr23
          refine ⟨F2, ts22, rdP H23, rfl, sql hF23, w2, fun us l9 pm so nl9 => ?_⟩
          refine ⟨l9, _, rfl, sql upd_same, fun k9 ob9 nk9 ho9 => ?_⟩
          have s24 := Same.new (o := .frz ob9 (.tup (us.map V.ref))) (same_upd (o := .lst (us.map V.ref)) nl9) nk9
          have pm2 : (us.map (rdP H23)).Perm (cntT st) := by
            have := pm.map (rdP H23)
            rwa [w1] at this
          have eys := srtZ_of (asc_of so pm2 ndc) pm2 ndc
          have pr9 : Paired (PrT (upd (upd H23 l9 (.lst (us.map V.ref))) k9 (.frz ob9 (.tup (us.map V.ref))))) us (srtZ (cntT st)) := by
            rw [← eys]
            exact paired_map fun t ht => s24 _ _ (w2 t (pm.mem_iff.mp ht))
          have pk9 : Ptp (upd (upd H23 l9 (.lst (us.map V.ref))) k9 (.frz ob9 (.tup (us.map V.ref)))) k9 (us.map V.ref) := ⟨ob9, upd_same, ho9⟩
          have s2124 := s23.trans s24
          generalize upd (upd H23 l9 (.lst (us.map V.ref))) k9 (.frz ob9 (.tup (us.map V.ref))) = H24 at s24 pr9 pk9 s2124 ⊢
          have lenC : (srtZ (cntT st)).length ≤ 100000 := by rw [(srtZ_perm (cntT st)).length_eq]; omega
          refine ⟨.ref kc, .ref k9, rfl, ?_, fun H25 s25 => ⟨true, rfl, iteF ?_⟩⟩
          · exact eqv_mono (eqv_counts (hkc.same (s2124.trans (Same.refl _))).seq pk9.seq (paired_imp (fun t e h => s2124 _ _ h) hprc) pr9 lenC)
          have s1525 := s1520.trans (s21.trans (s2124.trans s25))
          refine ⟨.int r, rfl, .int (sumC (cntT st)), rfl, .ref sta, rfl, .ref c, rfl, r, sumC (cntT st), sta, c, cntT st, x, rfl, hsta15.same s1525, s1525 _ _ hc15, ndc, (by omega), led.ok, led.bd, led.many, hr1, hr2, led.tru, fun H26 s26 => ⟨true, rfl, iteF ?_⟩⟩
          exact ⟨_, _, _, _, _, _, _, rfl, s12.trans (s15.trans (s1525.trans s26))⟩
        · rintro σ H12 ⟨z8, z9, z10, z11, z12, z13, z14, rfl, s12⟩
          match sks, hsk with
          | [k0, k1, k2], .cons h0 (.cons h1 (.cons h2 .nil)) =>
            have hE12 := s12 _ _ hE
            have sb : ∀ {l : List Stp} {x : Tl}, Led r l x → skB r x.m x.o (srtZ x.c) = true := fun {l x} led => by
              have es := sumC_perm' (srtZ_perm x.c)
              obtain ⟨b1, b2, b3, b4⟩ := led.bd
              unfold skB
              rw [es, decide_eq_true hr1, decide_eq_true hr2, decide_eq_true b4, decide_eq_true b3, decide_eq_true (show ((srtZ x.c).length : Int) ≤ r by rw [(srtZ_perm x.c).length_eq]; exact led.ok.len), decide_eq_true b1, decide_eq_true b2]
              rfl
            refine ⟨.ref E, rfl, E, _, _, _, rfl, rfl, sql hE12, atI_nat (j := 0) rfl, .ref E, rfl, E, _, _, _, rfl, rfl, sql hE12, atI_nat (j := 1) rfl, k0, k1, r, x0, x1, rfl, h0.same s12, h1.same s12, hr1, hr2, led0.ok, led1.ok, sb led0, sb led1, fun H13 s' s13 ns' hs' => ?_⟩
            have ee : skT (pourT r (skT x1) (skT x0)) = skT x2 := by
              rw [e2]
              exact pour_skT (skT_ok led0.ok).nd (skT_ok led1.ok).nd (skT_skT led0.ok.nd) (skT_skT led1.ok.nd)
            have l2 := led2.ok.len
            refine ⟨.ref E, rfl, E, _, _, _, rfl, rfl, sql (s13 _ _ hE12), atI_nat (j := 2) rfl, .ref s', .ref k2, rfl, eqv_sk (hs'.congr ee) (h2.same (s12.trans s13)) (by omega), fun H14 s14 => ⟨true, rfl, iteF ?_⟩⟩
            exact ⟨_, _, _, _, _, _, _, _, _, _, _, _, _, rfl, pot11.same (s12.trans (s13.trans s14))⟩
    · rintro σ H3 ⟨y2, y3, y4, y5, y6, y7, y8, y9, y10, y11, y12, y13, y14, rfl, pot3⟩
      exact q H3
end
end Kb

namespace Kb
open PySem PySem.Spec PyProof.Rows L2
/-- a def as the top has left it -/
def dn_of {K : PySem.W.Frag} {h : Heap} {mg : Str → Option Value} {nm : Str} {st : Stmt} {ps : List Str} {f : Addr} {oc : Value} {od an : Option Addr} {osl : Array (Option Value)} {kV doc pm cdv ct : Value} (X : K.In h) (G : h.Ns mainGlobals mg)
    (fa : PySem.W.nsIn K mainGlobals nm = some (some (.ref f))) (fl : K.lookup f = some ⟨oc, od, .func (PySem.W.fnOf nm nm (defArgs st) (defBody st) (defScope st) .none kV doc pm an cdv ct), osl⟩) (fc : PySem.W.codeIn K cdv nm = true) (fk : PySem.W.keepIn K (.ref f) = true)
    (fb : ∀ (kV doc pm : Value) (an : Option Addr) (cdv ct : Value) (us : List Value), us.length = ps.length → bindArgs (PySem.W.fnOf nm nm (defArgs st) (defBody st) (defScope st) .none kV doc pm an cdv ct) ⟨us, []⟩ = pure (ps.zip us)) : Dn K mg nm st ps :=
  ⟨f, _, fun_mk fl fc fk, PySem.W.mg_of X G fa, (fun_mk fl fc fk).binds fb⟩
def cst_of {K : PySem.W.Frag} {h : Heap} {mg : Str → Option Value} {nm : Str} {i : Int} {t : Tok} (X : K.In h) (G : h.Ns mainGlobals mg) (fa : PySem.W.nsIn K mainGlobals nm = some (some (.int i t))) : Cst mg nm (.int i) := ⟨_, PySem.W.mg_of X G fa, ⟨_, rfl⟩⟩
/-- the class as the top has left it -/
def tal_of {K : PySem.W.Frag} {h : Heap} {mg : Str → Option Value} {C fI fS fF fP fT : Addr} {odI anI odS anS odF anF odP anP odT anT : Option Addr} {slI slS slF slP slT : Array (Option Value)} {ocI kVI dcI pmI cdI ctI ocS kVS dcS pmS cdS ctS ocF kVF dcF pmF cdF ctF ocP kVP dcP pmP cdP ctP ocT kVT dcT pmT cdT ctT : Value} (X : K.In h) (G : h.Ns mainGlobals mg)
    (aC : PySem.W.nsIn K mainGlobals "Tally" = some (some (.ref C)))
    (aI : PySem.W.findIn K (.ref C) "__init__" = some (some (.ref fI))) (iI : PySem.W.isFn K (.ref fI) = true) (lI : K.lookup fI = some ⟨ocI, odI, .func (PySem.W.fnOf "__init__" "Tally.__init__" (defArgs sTinit) (defBody sTinit) (defScope sTinit) .none kVI dcI pmI anI cdI ctI), slI⟩) (cI : PySem.W.codeIn K cdI "Tally.__init__" = true) (kI : PySem.W.keepIn K (.ref fI) = true)
    (aS : PySem.W.findIn K (.ref C) "sketch" = some (some (.ref fS))) (iS : PySem.W.isFn K (.ref fS) = true) (lS : K.lookup fS = some ⟨ocS, odS, .func (PySem.W.fnOf "sketch" "Tally.sketch" (defArgs sTsketch) (defBody sTsketch) (defScope sTsketch) .none kVS dcS pmS anS cdS ctS), slS⟩) (cS : PySem.W.codeIn K cdS "Tally.sketch" = true) (kS : PySem.W.keepIn K (.ref fS) = true)
    (aF : PySem.W.findIn K (.ref C) "gain" = some (some (.ref fF))) (iF : PySem.W.isFn K (.ref fF) = true) (lF : K.lookup fF = some ⟨ocF, odF, .func (PySem.W.fnOf "gain" "Tally.gain" (defArgs sTfeed) (defBody sTfeed) (defScope sTfeed) .none kVF dcF pmF anF cdF ctF), slF⟩) (cF : PySem.W.codeIn K cdF "Tally.gain" = true) (kF : PySem.W.keepIn K (.ref fF) = true)
    (aP : PySem.W.findIn K (.ref C) "pour" = some (some (.ref fP))) (iP : PySem.W.isFn K (.ref fP) = true) (lP : K.lookup fP = some ⟨ocP, odP, .func (PySem.W.fnOf "pour" "Tally.pour" (defArgs sTpour) (defBody sTpour) (defScope sTpour) .none kVP dcP pmP anP cdP ctP), slP⟩) (cP : PySem.W.codeIn K cdP "Tally.pour" = true) (kP : PySem.W.keepIn K (.ref fP) = true)
    (aT : PySem.W.findIn K (.ref C) "_take" = some (some (.ref fT))) (iT : PySem.W.isFn K (.ref fT) = true) (lT : K.lookup fT = some ⟨ocT, odT, .func (PySem.W.fnOf "_take" "Tally._take" (defArgs sTtake) (defBody sTtake) (defScope sTtake) .none kVT dcT pmT anT cdT ctT), slT⟩) (cT : PySem.W.codeIn K cdT "Tally._take" = true) (kT : PySem.W.keepIn K (.ref fT) = true)
    (pg : PySem.W.plainGet K C Str.empty = true) (hd : PySem.W.hasDictIn K C = true) (po : PySem.W.plainOver K C = true) (sa : PySem.W.findIn K (.ref C) "__setattr__" = some (some (.builtin "object.__setattr__"))) (mk : PySem.W.makesIn K C = true) (kc : PySem.W.keepIn K (.ref C) = true)
    (nR : PySem.W.findIn K (.ref C) "room" = some none) (nM : PySem.W.findIn K (.ref C) "seen" = some none) (nO : PySem.W.findIn K (.ref C) "off" = some none) (nC : PySem.W.findIn K (.ref C) "counts" = some none) : Tal K mg :=
  { C := C, fI := fI, fS := fS, fF := fF, fP := fP, fT := fT, dI := _, dS := _, dF := _, dP := _, dT := _, FI := fun_mk lI cI kI, FS := fun_mk lS cS kS, FF := fun_mk lF cF kF, FP := fun_mk lP cP kP, FT := fun_mk lT cT kT,
    bI := (fun_mk (st := sTinit) lI cI kI).binds fun _ _ _ _ _ _ us hl => match us, hl with | [_, _], _ => rfl, bS := (fun_mk (st := sTsketch) lS cS kS).binds fun _ _ _ _ _ _ us hl => match us, hl with | [_], _ => rfl, bF := (fun_mk (st := sTfeed) lF cF kF).binds fun _ _ _ _ _ _ us hl => match us, hl with | [_, _, _], _ => rfl, bP := (fun_mk (st := sTpour) lP cP kP).binds fun _ _ _ _ _ _ us hl => match us, hl with | [_, _], _ => rfl, bT := (fun_mk (st := sTtake) lT cT kT).binds fun _ _ _ _ _ _ us hl => match us, hl with | [_, _], _ => rfl,
    mI := ⟨mk, aI, iI, kc⟩, mS := ⟨aS, iS, kS⟩, mF := ⟨aF, iF, kF⟩, mP := ⟨aP, iP, kP⟩, mT := ⟨aT, iT, kT⟩, cl := ⟨pg, hd, po, sa⟩, nR := nR, nM := nM, nO := nO, nC := nC, g := PySem.W.mg_of X G aC }
theorem law_end {l : PySem.W.OpenLaw} {w : World} {K : PySem.W.Frag} {h : Heap} {mg : Str → Option Value} {fa f : Addr} (X : K.In h) (G : h.Ns mainGlobals mg) (hfa : mg "law" = some (.ref fa))
    {od an : Option Addr} {osl : Array (Option Value)} {oc kV doc pm cdv ct : Value}
    (a0 : PySem.W.nsIn K mainGlobals "law" = some (some (.ref f))) (l0 : K.lookup f = some ⟨oc, od, .func (PySem.W.fnOf "law" "law" (defArgs slaw) (defBody slaw) (defScope slaw) .none kV doc pm an cdv ct), osl⟩) (c0 : PySem.W.codeIn K cdv "law" = true) (k0 : PySem.W.keepIn K (.ref f) = true)
    (T : Blt mg) (nset : mg "set" = none) (cM : Cst mg "MOST_ROOM" (.int 64)) (cL : Cst mg "LONGEST_NAME" (.int 8)) (cS : Cst mg "MOST_STEPS" (.int 5000)) (cI : Cst mg "MOST_ITEMS" (.int 50000)) (L : Tal K mg) (dP_is_int : DnIsInt K mg) (dP_is_number : DnIsNumber K mg) (dP_is_room : DnIsRoom K mg) (dP_is_name : DnIsName K mg) (dP_is_stream : DnIsStream K mg) (dP_is_tree : DnIsTree K mg) (dP_is_put : DnIsPut K mg) (dP_is_pour : DnIsPour K mg) (dP_are_counts : DnAreCounts K mg) (dP_is_counted : DnIsCounted K mg) (dP_counts_of : DnCountsOf K mg) (dP_lost_of : DnLostOf K mg) (dP_is_sketch : DnIsSketch K mg) (dP_bare : DnBare K mg) (dP_need_two : DnNeedTwo K mg) (dP_poured : DnPoured K mg) (dP_sketch_of : DnSketchOf K mg) (dpot : Dnpot K mg) (ddraw : Dndraw K mg) (dany : Dnany K mg) (dnames : Dnnames K mg) (dstream : Dnstream K mg) (dtree : Dntree K mg) (dcounted : Dncounted K mg) (dfed : Dnfed K mg) (dpoured : Dnpoured K mg) (dled : Dnled K mg) (dsketch : Dnsketch K mg) (dis : Dnis K mg) (dbounds : Dnbounds K mg) :
    ∃ fd : FuncData, (∀ (s : Shared) (v : Value), BindsTo s fd ⟨[v], []⟩ [("_law_script", v)]) ∧ ∀ base : Heap, K.In base → base.Ns mainGlobals mg → FnOk l.prog w K mg base CX0 7 fa fd ["_law_script"] (spLaw K) := by
  have e := hfa.symm.trans (PySem.W.mg_of X G a0)
  cases e
  exact ⟨PySem.W.fnOf "law" "law" (defArgs slaw) (defBody slaw) (defScope slaw) .none kV doc pm an cdv ct, fun s v => .of_eq rfl, fun base _ _ => ok_law ⟨T, nset, cM, cL, cS, cI, L, dP_is_int, dP_is_number, dP_is_room, dP_is_name, dP_is_stream, dP_is_tree, dP_is_put, dP_is_pour, dP_are_counts, dP_is_counted, dP_counts_of, dP_lost_of, dP_is_sketch, dP_bare, dP_need_two, dP_poured, dP_sketch_of, dpot, ddraw, dany, dnames, dstream, dtree, dcounted, dfed, dpoured, dled, dsketch, dis, dbounds⟩
    ⟨_, _, fun_mk l0 c0 k0, PySem.W.mg_of X G a0, (fun_mk l0 c0 k0).binds fun _ _ _ _ _ _ us hl => match us, hl with | [_], _ => rfl⟩⟩
end Kb
open PySem PySem.W PyProof.Rows
theorem PySem.Challenge.cw_knownends_k11_whole_sketches_poured_by_a_holds : PySem.Challenge.rw_knownends_k11_whole_sketches_poured_by_a.Holds := by
  w_on; o_law; k_head; (case hw => w_witness2)
  k_fill
  refine L2.walk_of (l := PySem.Challenge.rw_knownends_k11_whole_sketches_poured_by_a) (n := 63) (k := 7) (x := "_law_script") (CX := fun _ => L2.CX0) (sp := fun w => Kb.spLaw _) rfl (by decide) rfl ⟨rfl, by decide, by decide⟩ (fun w h Y => PySem.W.kIn_of Y) ?F (fun _ _ a ns hl _ hS => ⟨a, ns, rfl, hS, hl, fun _ => rfl⟩) (fun _ _ _ _ _ h => h)
  case F =>
    intro w mg fa h KX G hmg
    refine' Kb.law_end KX G hmg ?a0 ?l0 ?c0 ?k0 ?T ?nset ?cM ?cL ?cS ?cI ?L ?dP_is_int ?dP_is_number ?dP_is_room ?dP_is_name ?dP_is_stream ?dP_is_tree ?dP_is_put ?dP_is_pour ?dP_are_counts ?dP_is_counted ?dP_counts_of ?dP_lost_of ?dP_is_sketch ?dP_bare ?dP_need_two ?dP_poured ?dP_sketch_of ?dpot ?ddraw ?dany ?dnames ?dstream ?dtree ?dcounted ?dfed ?dpoured ?dled ?dsketch ?dis ?dbounds
    (case a0 => k_is); (case l0 => k_is); (case c0 => k_is); (case k0 => k_is)
    (case T => exact ⟨PySem.W.mg_none_of KX G (by k_is), PySem.W.mg_none_of KX G (by k_is), PySem.W.mg_none_of KX G (by k_is), PySem.W.mg_none_of KX G (by k_is), PySem.W.mg_none_of KX G (by k_is), PySem.W.mg_none_of KX G (by k_is), PySem.W.mg_none_of KX G (by k_is), PySem.W.mg_none_of KX G (by k_is), PySem.W.mg_none_of KX G (by k_is), PySem.W.mg_none_of KX G (by k_is), PySem.W.mg_none_of KX G (by k_is), PySem.W.mg_none_of KX G (by k_is), PySem.W.mg_none_of KX G (by k_is), PySem.W.mg_none_of KX G (by k_is)⟩)
    (case nset => exact PySem.W.mg_none_of KX G (by k_is))
    (case cM => refine' Kb.cst_of KX G ?a_cM; (case a_cM => k_is))
    (case cL => refine' Kb.cst_of KX G ?a_cL; (case a_cL => k_is))
    (case cS => refine' Kb.cst_of KX G ?a_cS; (case a_cS => k_is))
    (case cI => refine' Kb.cst_of KX G ?a_cI; (case a_cI => k_is))
    (case L =>
      refine' Kb.tal_of KX G ?t_aC ?t_aI ?t_iI ?t_lI ?t_cI ?t_kI ?t_aS ?t_iS ?t_lS ?t_cS ?t_kS ?t_aF ?t_iF ?t_lF ?t_cF ?t_kF ?t_aP ?t_iP ?t_lP ?t_cP ?t_kP ?t_aT ?t_iT ?t_lT ?t_cT ?t_kT ?t_pg ?t_hd ?t_po ?t_sa ?t_mk ?t_kc ?t_nR ?t_nM ?t_nO ?t_nC
      (case t_aC => k_is); (case t_aI => k_is); (case t_iI => k_is); (case t_lI => k_is); (case t_cI => k_is); (case t_kI => k_is); (case t_aS => k_is); (case t_iS => k_is); (case t_lS => k_is); (case t_cS => k_is); (case t_kS => k_is); (case t_aF => k_is); (case t_iF => k_is); (case t_lF => k_is); (case t_cF => k_is); (case t_kF => k_is); (case t_aP => k_is); (case t_iP => k_is); (case t_lP => k_is); (case t_cP => k_is); (case t_kP => k_is); (case t_aT => k_is); (case t_iT => k_is); (case t_lT => k_is); (case t_cT => k_is); (case t_kT => k_is); (case t_pg => k_is); (case t_hd => k_is); (case t_po => k_is); (case t_sa => k_is); (case t_mk => k_is); (case t_kc => k_is); (case t_nR => k_is); (case t_nM => k_is); (case t_nO => k_is); (case t_nC => k_is))
    (case dP_is_int => refine' Kb.dn_of KX G ?a_dP_is_int ?l_dP_is_int ?c_dP_is_int ?k_dP_is_int ?b_dP_is_int; (case a_dP_is_int => k_is); (case l_dP_is_int => k_is); (case c_dP_is_int => k_is); (case k_dP_is_int => k_is); (case b_dP_is_int => exact fun _ _ _ _ _ _ us hl => match us, hl with | [_], _ => rfl))
    (case dP_is_number => refine' Kb.dn_of KX G ?a_dP_is_number ?l_dP_is_number ?c_dP_is_number ?k_dP_is_number ?b_dP_is_number; (case a_dP_is_number => k_is); (case l_dP_is_number => k_is); (case c_dP_is_number => k_is); (case k_dP_is_number => k_is); (case b_dP_is_number => exact fun _ _ _ _ _ _ us hl => match us, hl with | [_], _ => rfl))
    (case dP_is_room => refine' Kb.dn_of KX G ?a_dP_is_room ?l_dP_is_room ?c_dP_is_room ?k_dP_is_room ?b_dP_is_room; (case a_dP_is_room => k_is); (case l_dP_is_room => k_is); (case c_dP_is_room => k_is); (case k_dP_is_room => k_is); (case b_dP_is_room => exact fun _ _ _ _ _ _ us hl => match us, hl with | [_], _ => rfl))
    (case dP_is_name => refine' Kb.dn_of KX G ?a_dP_is_name ?l_dP_is_name ?c_dP_is_name ?k_dP_is_name ?b_dP_is_name; (case a_dP_is_name => k_is); (case l_dP_is_name => k_is); (case c_dP_is_name => k_is); (case k_dP_is_name => k_is); (case b_dP_is_name => exact fun _ _ _ _ _ _ us hl => match us, hl with | [_], _ => rfl))
    (case dP_is_stream => refine' Kb.dn_of KX G ?a_dP_is_stream ?l_dP_is_stream ?c_dP_is_stream ?k_dP_is_stream ?b_dP_is_stream; (case a_dP_is_stream => k_is); (case l_dP_is_stream => k_is); (case c_dP_is_stream => k_is); (case k_dP_is_stream => k_is); (case b_dP_is_stream => exact fun _ _ _ _ _ _ us hl => match us, hl with | [_], _ => rfl))
    (case dP_is_tree => refine' Kb.dn_of KX G ?a_dP_is_tree ?l_dP_is_tree ?c_dP_is_tree ?k_dP_is_tree ?b_dP_is_tree; (case a_dP_is_tree => k_is); (case l_dP_is_tree => k_is); (case c_dP_is_tree => k_is); (case k_dP_is_tree => k_is); (case b_dP_is_tree => exact fun _ _ _ _ _ _ us hl => match us, hl with | [_], _ => rfl))
    (case dP_is_put => refine' ⟨Kb.dn_of KX G ?a_pp ?l_pp ?c_pp ?k_pp ?b_pp, Kb.dn_of KX G ?a_po ?l_po ?c_po ?k_po ?b_po⟩; (case a_pp => k_is); (case l_pp => k_is); (case c_pp => k_is); (case k_pp => k_is); (case b_pp => exact fun _ _ _ _ _ _ us hl => match us, hl with | [_, _], _ => rfl); (case a_po => k_is); (case l_po => k_is); (case c_po => k_is); (case k_po => k_is); (case b_po => exact fun _ _ _ _ _ _ us hl => match us, hl with | [_, _, _], _ => rfl))
    (case dP_is_pour => refine' Kb.dn_of KX G ?a_dP_is_pour ?l_dP_is_pour ?c_dP_is_pour ?k_dP_is_pour ?b_dP_is_pour; (case a_dP_is_pour => k_is); (case l_dP_is_pour => k_is); (case c_dP_is_pour => k_is); (case k_dP_is_pour => k_is); (case b_dP_is_pour => exact fun _ _ _ _ _ _ us hl => match us, hl with | [_], _ => rfl))
    (case dP_are_counts => refine' Kb.dn_of KX G ?a_dP_are_counts ?l_dP_are_counts ?c_dP_are_counts ?k_dP_are_counts ?b_dP_are_counts; (case a_dP_are_counts => k_is); (case l_dP_are_counts => k_is); (case c_dP_are_counts => k_is); (case k_dP_are_counts => k_is); (case b_dP_are_counts => exact fun _ _ _ _ _ _ us hl => match us, hl with | [_], _ => rfl))
    (case dP_is_counted => refine' Kb.dn_of KX G ?a_dP_is_counted ?l_dP_is_counted ?c_dP_is_counted ?k_dP_is_counted ?b_dP_is_counted; (case a_dP_is_counted => k_is); (case l_dP_is_counted => k_is); (case c_dP_is_counted => k_is); (case k_dP_is_counted => k_is); (case b_dP_is_counted => exact fun _ _ _ _ _ _ us hl => match us, hl with | [_], _ => rfl))
    (case dP_counts_of => refine' Kb.dn_of KX G ?a_dP_counts_of ?l_dP_counts_of ?c_dP_counts_of ?k_dP_counts_of ?b_dP_counts_of; (case a_dP_counts_of => k_is); (case l_dP_counts_of => k_is); (case c_dP_counts_of => k_is); (case k_dP_counts_of => k_is); (case b_dP_counts_of => exact fun _ _ _ _ _ _ us hl => match us, hl with | [_], _ => rfl))
    (case dP_lost_of => refine' Kb.dn_of KX G ?a_dP_lost_of ?l_dP_lost_of ?c_dP_lost_of ?k_dP_lost_of ?b_dP_lost_of; (case a_dP_lost_of => k_is); (case l_dP_lost_of => k_is); (case c_dP_lost_of => k_is); (case k_dP_lost_of => k_is); (case b_dP_lost_of => exact fun _ _ _ _ _ _ us hl => match us, hl with | [_], _ => rfl))
    (case dP_is_sketch => refine' Kb.dn_of KX G ?a_dP_is_sketch ?l_dP_is_sketch ?c_dP_is_sketch ?k_dP_is_sketch ?b_dP_is_sketch; (case a_dP_is_sketch => k_is); (case l_dP_is_sketch => k_is); (case c_dP_is_sketch => k_is); (case k_dP_is_sketch => k_is); (case b_dP_is_sketch => exact fun _ _ _ _ _ _ us hl => match us, hl with | [_], _ => rfl))
    (case dP_bare => refine' Kb.dn_of KX G ?a_dP_bare ?l_dP_bare ?c_dP_bare ?k_dP_bare ?b_dP_bare; (case a_dP_bare => k_is); (case l_dP_bare => k_is); (case c_dP_bare => k_is); (case k_dP_bare => k_is); (case b_dP_bare => exact fun _ _ _ _ _ _ us hl => match us, hl with | [_], _ => rfl))
    (case dP_need_two => refine' Kb.dn_of KX G ?a_dP_need_two ?l_dP_need_two ?c_dP_need_two ?k_dP_need_two ?b_dP_need_two; (case a_dP_need_two => k_is); (case l_dP_need_two => k_is); (case c_dP_need_two => k_is); (case k_dP_need_two => k_is); (case b_dP_need_two => exact fun _ _ _ _ _ _ us hl => match us, hl with | [_, _], _ => rfl))
    (case dP_poured => refine' Kb.dn_of KX G ?a_dP_poured ?l_dP_poured ?c_dP_poured ?k_dP_poured ?b_dP_poured; (case a_dP_poured => k_is); (case l_dP_poured => k_is); (case c_dP_poured => k_is); (case k_dP_poured => k_is); (case b_dP_poured => exact fun _ _ _ _ _ _ us hl => match us, hl with | [_, _], _ => rfl))
    (case dP_sketch_of => refine' Kb.dn_of KX G ?a_dP_sketch_of ?l_dP_sketch_of ?c_dP_sketch_of ?k_dP_sketch_of ?b_dP_sketch_of; (case a_dP_sketch_of => k_is); (case l_dP_sketch_of => k_is); (case c_dP_sketch_of => k_is); (case k_dP_sketch_of => k_is); (case b_dP_sketch_of => exact fun _ _ _ _ _ _ us hl => match us, hl with | [_, _], _ => rfl))
    (case dpot => refine' Kb.dn_of KX G ?a_dpot ?l_dpot ?c_dpot ?k_dpot ?b_dpot; (case a_dpot => k_is); (case l_dpot => k_is); (case c_dpot => k_is); (case k_dpot => k_is); (case b_dpot => exact fun _ _ _ _ _ _ us hl => match us, hl with | [_], _ => rfl))
    (case ddraw => refine' Kb.dn_of KX G ?a_ddraw ?l_ddraw ?c_ddraw ?k_ddraw ?b_ddraw; (case a_ddraw => k_is); (case l_ddraw => k_is); (case c_ddraw => k_is); (case k_ddraw => k_is); (case b_ddraw => exact fun _ _ _ _ _ _ us hl => match us, hl with | [_, _], _ => rfl))
    (case dany => refine' Kb.dn_of KX G ?a_dany ?l_dany ?c_dany ?k_dany ?b_dany; (case a_dany => k_is); (case l_dany => k_is); (case c_dany => k_is); (case k_dany => k_is); (case b_dany => exact fun _ _ _ _ _ _ us hl => match us, hl with | [_, _], _ => rfl))
    (case dnames => refine' Kb.dn_of KX G ?a_dnames ?l_dnames ?c_dnames ?k_dnames ?b_dnames; (case a_dnames => k_is); (case l_dnames => k_is); (case c_dnames => k_is); (case k_dnames => k_is); (case b_dnames => exact fun _ _ _ _ _ _ us hl => match us, hl with | [_], _ => rfl))
    (case dstream => refine' Kb.dn_of KX G ?a_dstream ?l_dstream ?c_dstream ?k_dstream ?b_dstream; (case a_dstream => k_is); (case l_dstream => k_is); (case c_dstream => k_is); (case k_dstream => k_is); (case b_dstream => exact fun _ _ _ _ _ _ us hl => match us, hl with | [_, _, _], _ => rfl))
    (case dtree => refine' Kb.dn_of KX G ?a_dtree ?l_dtree ?c_dtree ?k_dtree ?b_dtree; (case a_dtree => k_is); (case l_dtree => k_is); (case c_dtree => k_is); (case k_dtree => k_is); (case b_dtree => exact fun _ _ _ _ _ _ us hl => match us, hl with | [_, _, _, _], _ => rfl))
    (case dcounted => refine' Kb.dn_of KX G ?a_dcounted ?l_dcounted ?c_dcounted ?k_dcounted ?b_dcounted; (case a_dcounted => k_is); (case l_dcounted => k_is); (case c_dcounted => k_is); (case k_dcounted => k_is); (case b_dcounted => exact fun _ _ _ _ _ _ us hl => match us, hl with | [_], _ => rfl))
    (case dfed => refine' Kb.dn_of KX G ?a_dfed ?l_dfed ?c_dfed ?k_dfed ?b_dfed; (case a_dfed => k_is); (case l_dfed => k_is); (case c_dfed => k_is); (case k_dfed => k_is); (case b_dfed => exact fun _ _ _ _ _ _ us hl => match us, hl with | [_, _, _], _ => rfl))
    (case dpoured => refine' Kb.dn_of KX G ?a_dpoured ?l_dpoured ?c_dpoured ?k_dpoured ?b_dpoured; (case a_dpoured => k_is); (case l_dpoured => k_is); (case c_dpoured => k_is); (case k_dpoured => k_is); (case b_dpoured => exact fun _ _ _ _ _ _ us hl => match us, hl with | [_, _, _], _ => rfl))
    (case dled => refine' Kb.dn_of KX G ?a_dled ?l_dled ?c_dled ?k_dled ?b_dled; (case a_dled => k_is); (case l_dled => k_is); (case c_dled => k_is); (case k_dled => k_is); (case b_dled => exact fun _ _ _ _ _ _ us hl => match us, hl with | [_, _], _ => rfl))
    (case dsketch => refine' Kb.dn_of KX G ?a_dsketch ?l_dsketch ?c_dsketch ?k_dsketch ?b_dsketch; (case a_dsketch => k_is); (case l_dsketch => k_is); (case c_dsketch => k_is); (case k_dsketch => k_is); (case b_dsketch => exact fun _ _ _ _ _ _ us hl => match us, hl with | [_, _, _], _ => rfl))
    (case dis => refine' Kb.dn_of KX G ?a_dis ?l_dis ?c_dis ?k_dis ?b_dis; (case a_dis => k_is); (case l_dis => k_is); (case c_dis => k_is); (case k_dis => k_is); (case b_dis => exact fun _ _ _ _ _ _ us hl => match us, hl with | [_, _], _ => rfl))
    (case dbounds => refine' Kb.dn_of KX G ?a_dbounds ?l_dbounds ?c_dbounds ?k_dbounds ?b_dbounds; (case a_dbounds => k_is); (case l_dbounds => k_is); (case c_dbounds => k_is); (case k_dbounds => k_is); (case b_dbounds => exact fun _ _ _ _ _ _ us hl => match us, hl with | [_, _, _, _], _ => rfl))

