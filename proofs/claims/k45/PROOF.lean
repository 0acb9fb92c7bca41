import PyProof.Rows.All
import HandS.ForMost
import HandS.ForExc
import HandS.SortKw
import HandS.SortRule
import HandS.DictTup
import HandS.DictComp
import HandS.ListItems
import HandS.Conv
import HandS.IsInst
import HandS.Codes
import HandS.Walk
import HandS.Style
import KE.KDictSum
import KE.KSortTupAny
import KE.KDictPairs
import HandS.ExcValue
import PySem.Challenge.RW_knownends_k45_whole_names_that_are_surel
import HandS.CallLocal
import HandS.TupLe
import HandS.TupAny
import HandS.Wide
import HandS.SetFor
import PyProof.Rows.CountFlat
import HandS.Lambda
import HandS.EndTab
import KE.SortKeyHeap
import HandS.NoneIn
import HandS.Zip
import PyProof.Rows.StrMul
import KE.KRevSl
import HandS.Flt
import HandS.Strs
import HandS.TupSets
import HandS.SetKeys
import PyProof.WalkInts
set_option Elab.async false
set_option linter.all false
set_option maxRecDepth 100000
set_option maxHeartbeats 0
/-! own rules: sorted of pairs (text, int), of views -/
namespace SrtZ
open PySem PyProof.Rows Srt SrtO PySem.W
abbrev ltZ (x y : Str) : Bool := decide (x.cps.toList < y.cps.toList)
theorem str_of {x y : Str} (h : x.cps.toList = y.cps.toList) : x = y := by
  cases x; cases y
  simp at h
  rw [h]
theorem ltZ_irr (x : Str) : ltZ x x = false := decide_eq_false (List.lt_irrefl _)
theorem ltZ_asym {x y : Str} (h : ltZ x y = true) : ltZ y x = false := decide_eq_false (List.lt_asymm (of_decide_eq_true h))
theorem ltZ_trans {x y z : Str} (h : ltZ x y = true) (k : ltZ y z = true) : ltZ x z = true := decide_eq_true (List.lt_trans (of_decide_eq_true h) (of_decide_eq_true k))
theorem ltZ_tri {x y : Str} (h : ltZ x y = false) (k : ltZ y x = false) : x = y :=
  str_of (List.le_antisymm (List.not_lt.mp (of_decide_eq_false k)) (List.not_lt.mp (of_decide_eq_false h)))
def lexZ (p q : Str × Int) : Bool := if p.1 = q.1 then decide (p.2 < q.2) else ltZ p.1 q.1
theorem lexZ_eq {p q : Str × Int} (e : p.1 = q.1) : lexZ p q = decide (p.2 < q.2) := if_pos e
theorem lexZ_ne {p q : Str × Int} (e : ¬ p.1 = q.1) : lexZ p q = ltZ p.1 q.1 := if_neg e
theorem swo_Z : Swo lexZ := by
  refine ⟨fun x y h => ?_, fun x y z h1 h2 => ?_⟩
  · by_cases e : x.1 = y.1
    · rw [lexZ_eq e, decide_eq_true_eq] at h
      rw [lexZ_eq e.symm]
      exact decide_eq_false (by omega)
    · rw [lexZ_ne e] at h
      rw [lexZ_ne (fun z => e z.symm)]
      exact ltZ_asym h
  · by_cases e : x.1 = y.1
    · rw [lexZ_eq e.symm, decide_eq_false_iff_not] at h1
      by_cases f : y.1 = z.1
      · rw [lexZ_eq f.symm, decide_eq_false_iff_not] at h2
        rw [lexZ_eq (e.trans f).symm]
        exact decide_eq_false (by omega)
      · rw [lexZ_ne (fun q => f q.symm)] at h2
        rw [lexZ_ne (fun q => f (e.symm.trans q.symm)), e]
        exact h2
    · rw [lexZ_ne (fun q => e q.symm)] at h1
      by_cases f : y.1 = z.1
      · rw [lexZ_ne (fun q => e (q.symm.trans f.symm)), ← f]
        exact h1
      · rw [lexZ_ne (fun q => f q.symm)] at h2
        have g1 : ltZ x.1 y.1 = true := by
          rcases bcase (ltZ x.1 y.1) with q | q
          · exact q
          · exact absurd (ltZ_tri q h1) e
        have g2 : ltZ y.1 z.1 = true := by
          rcases bcase (ltZ y.1 z.1) with q | q
          · exact q
          · exact absurd (ltZ_tri q h2) f
        have g := ltZ_trans g1 g2
        have ne : ¬ z.1 = x.1 := fun q => by
          rw [q, ltZ_irr] at g
          cases g
        rw [lexZ_ne ne]
        exact ltZ_asym g
/-- a tuple (text, int) -/
def IsPZ (h : Heap) (v : Value) (p : Str × Int) : Prop := ∃ a o t u n, v = .ref a ∧ h.get? a = some o ∧ o.cls = .type "tuple" ∧ o.data = .seq #[.str p.1 t, .int p.2 u] n
theorem IsPZ.keeps {h h' : Heap} {v : Value} {p : Str × Int} (x : IsPZ h v p) (k : ∀ b o, h.get? b = some o → o.cls = .type "tuple" → h'.get? b = some o) : IsPZ h' v p := by
  obtain ⟨a, o, t, u, n, e, ho, hc, hd⟩ := x
  exact ⟨a, o, t, u, n, e, k _ _ ho hc, hc, hd⟩
section
variable {prog : Program} {w : World} {A : Around} {E : Value → Shared → Prop} {s : Shared}
theorem firstsZ {h : Heap} : ∀ {vs : List Value}, (∀ v ∈ vs, ∃ p, IsPZ h v p) → ∃ fs : List Value, KatTups h vs fs ∧ fs.length = vs.length ∧ ∀ f ∈ fs, ∃ x t, f = Value.str x t
  | [], _ => ⟨[], KatTups.nil, rfl, fun _ hm => by simp at hm⟩
  | v :: vs, hp => by
    obtain ⟨fs, h1, h2, h3⟩ := firstsZ (vs := vs) fun v' hm => hp v' (List.mem_cons_of_mem _ hm)
    obtain ⟨p, a, o, t, u, n, e, ho, hc, hd⟩ := hp v List.mem_cons_self
    subst e
    refine ⟨.str p.1 t :: fs, KatTups.cons ho hc hd rfl h1, by rw [List.length_cons, List.length_cons, h2], fun f hm => ?_⟩
    rcases List.mem_cons.mp hm with rfl | hm
    · exact ⟨_, t, rfl⟩
    · exact h3 f hm
theorem pairZ_cmp {vs : List Value} {k : Value → Str × Int} (hp : ∀ v ∈ vs, IsPZ s.heap v (k v)) : Cmp prog w A s (tuples' true) (fun p => p.1 ∈ vs) (lt2 fun v u => lexZ (k v) (k u)) := by
  intro p q hm hm'
  have h1 := hp _ hm
  have h2 := hp _ hm'
  show wpAny (model prog w) A (keyLt' (tuples' true) p.1 q.1) (fun r s' => s' = s ∧ r = lexZ (k p.1) (k q.1)) (fun _ _ => False) s
  generalize k p.1 = x at h1 ⊢
  generalize k q.1 = y at h2 ⊢
  obtain ⟨a, o, t, u, n, e, ho, hc, hd⟩ := h1
  obtain ⟨a', o', t', u', n', e', ho', hc', hd'⟩ := h2
  rw [e, e']
  refine kat_lt ho hd ho' hd' ?_
  show KatLex prog w A true (decide (2 < 2)) _ [(.str x.1 t, .str y.1 t'), (.int x.2 u, .int y.2 u')] 0 s
  refine kat_cons (wpAny_eqBool_str ?_)
  refine kat_go (fun e1 => ?_) (fun e1 => ?_)
  · have ex : x.1 = y.1 := of_decide_eq_true e1
    refine kat_yes (kat_cons (wpAny_eqBool_int ?_))
    refine kat_go (fun e2 => ?_) (fun e2 => ?_)
    · have ey : x.2 = y.2 := by simpa using e2
      refine kat_yes (kat_nil ⟨rfl, ?_⟩)
      rw [lexZ_eq ex, ey]
      exact (decide_eq_false (Int.lt_irrefl _)).symm
    · exact kat_no (oneLt_any_int ⟨rfl, (lexZ_eq ex).symm⟩)
  · have ex : ¬ x.1 = y.1 := of_decide_eq_false e1
    exact kat_no (oneLt_any_str ⟨rfl, (lexZ_ne ex).symm⟩)
theorem pairsZ_sortable {a : Addr} {vs : List Value} {k : Value → Str × Int} (h0 : 0 < vs.length) (hp : ∀ v ∈ vs, IsPZ s.heap v (k v)) (ha : ∀ o, s.heap.get? a = some o → o.cls ≠ .type "tuple") : SortableO prog w A s a vs fun v u => lexZ (k v) (k u) := by
  intro h' keep
  have hp' : ∀ v ∈ vs, IsPZ h' v (k v) := fun v hm => (hp v hm).keeps fun b o e c => keep b o (fun z => by subst z; exact ha o e c) e
  obtain ⟨fs, h1, h2, h3⟩ := firstsZ fun v hm => ⟨_, hp' v hm⟩
  refine ⟨tuples' true, fun Q E hq => ?_, pairZ_cmp hp'⟩
  refine kat_kind (T := .type "str") h1 (by omega) (fun f hm => ?_) (by rfl) ?_
  · obtain ⟨x, t, rfl⟩ := h3 f hm
    exact Looks.now
  · have e : (Value.type "str" != Value.type "tuple") = true := by first | decide +kernel | rfl | decide
    rw [e]
    exact hq
theorem plain_rev (a : Addr) : Builtin.«list.sort» ⟨[.ref a], []⟩ = Builtin.«list.sort» ⟨[.ref a], [(Str.ofString "reverse", .bool false)]⟩ := by
  rw [list_sort_rev]
  first | rfl | kernel_rfl
/-- sorted(x, ..) over what is collected of x -/
theorem sorted_col {x : Value} {b : Bool} {kw : List (Str × Value)} {ltv : Heap → Value → Value → Bool} {Q : Value → Shared → Prop} {P : Heap → Nat → List Value → Prop}
    (hk : ∀ a, Builtin.«list.sort» ⟨[.ref a], kw⟩ = Builtin.«list.sort» ⟨[.ref a], [(Str.ofString "reverse", .bool b)]⟩) (ha1 : argsOk "sorted" ⟨[x], kw⟩) (ha2 : ∀ a, argsOk "list.sort" ⟨[a], kw⟩)
    (hcol : ∀ R : List Value → Shared → Prop, (∀ h' tk vs, (∀ b o, s.heap.get? b = some o → h'.get? b = some o) → P h' tk vs → R vs { s with heap := h', toks := tk }) → wpAny (model prog w) A.in1 (collect x) R E s)
    (O : ∀ h' tk vs, P h' tk vs → Swo (ltv h')) (hz : ∀ h' tk vs, P h' tk vs → vs.length ≤ sizeLine)
    (hS : ∀ h' tk vs, P h' tk vs → 2 ≤ vs.length → ∀ (h₁ : Heap) (a : Addr), h₁.get? a = some (seqObj "list" vs.toArray 0) → (∀ b o, h'.get? b = some o → b ≠ a ∧ h₁.get? b = some o) → SortableO prog w A.in1.in1 { s with heap := h₁, toks := tk } a vs (ltv h'))
    (h : ∀ h' tk vs out h2, (∀ b o, s.heap.get? b = some o → h'.get? b = some o) → P h' tk vs → Srtd (ltv h') out → Stb (ltv h') out (if b = true then vs.reverse else vs) → (∀ c o, h'.get? c = some o → h2.get? c = some o) →
      (∃ n, h2.get? h'.objs.size = some (seqObj "list" (if b = true then out.toArray.reverse else out.toArray) n)) → Q (.ref h'.objs.size) { s with heap := h2, toks := tk }) :
    wpAny (model prog w) A (call (.builtin "sorted") [x] kw) Q E s := by
  refine call_function_entry_kw kind_sorted plain_sorted entry_sorted ha1 ?_
  unfold Builtin.«sorted»
  refine wpAny_bind (m := checkCount "sorted" 1 1 _) (wpAny_pure ?_)
  refine wpAny_bind (hcol _ fun h' tk vs hkp hP => ?_)
  refine wpAny_bind (wpAny_newList ?_ (hz _ _ _ hP))
  have hoL : (h'.push (seqObj "list" vs.toArray 0)).get? h'.objs.size = some (seqObj "list" vs.toArray 0) := Heap.get?_push_size _ rfl
  have keep : ∀ b o, h'.get? b = some o → b ≠ h'.objs.size ∧ (h'.push (seqObj "list" vs.toArray 0)).get? b = some o := fun b o q => ⟨Nat.ne_of_lt (Heap.lt_size q), Heap.get?_push_of_some _ q⟩
  show wpAny _ _ _ _ _ { s with heap := h'.push (seqObj "list" vs.toArray 0), toks := tk }
  refine wpAny_bind (wpAny_holding (wpAny_call_entry_kw slot_list_sort ⟨_, hoL, rfl⟩ entry_list_sort ?_ (ha2 _)))
  rw [hk]
  refine SrtR.list_sort_ordR (s := { s with heap := h'.push (seqObj "list" vs.toArray 0), toks := tk }) (O _ _ _ hP) hoL (hz _ _ _ hP) (fun h2 => hS _ _ _ hP h2 _ _ hoL keep) fun out hs hb => ⟨_, rfl, ?_⟩
  refine wpAny_pure ⟨_, rfl, h h' tk vs out _ hkp hP hs hb (fun c o q => ?_) ?_⟩
  · exact (sortedHeap_old (keep c o q).1 (Heap.lt_size (keep c o q).2)).trans (keep c o q).2
  · exact sortedHeap_at hoL
end
end SrtZ

namespace L2
open PySem PySem.Spec PyProof.Rows SrtO SrtZ
/-- counts as a dict's pairs -/
abbrev entZ (e : Str × Int) : Key × V := (Sum.inr e.1, V.int e.2)
section
variable {X : Cx}
/-- d.items() -/
def rItemsK : V → List V → Hp → VK → Prop := fun x xs H Q => ∃ (a : Addr) (kvs : List (Key × V)), x = .ref a ∧ xs = [] ∧ H a = some (.dK kvs) ∧ ∀ p, H p = none → Q (.ref p) (upd H p (DX.itemsO p a))
theorem mt_itemsK : MtR X "dict.items" rItemsK := by
  intro pins s σ H x xs v us Q I rx rxs h
  obtain ⟨a, kvs, rfl, rfl, ha, q⟩ := h
  cases rx
  cases rxs
  obtain ⟨z, hd, vs, kv, o, es, ep, ho, hx, hdat, _⟩ := dk_of I.hok ha
  refine DT.callItems (es := es) (ep := ep) hd ⟨o, ho, hx, hdat⟩ ?_
  have hf : H s.heap.objs.size = none := I.hok.fresh (Nat.le_refl _)
  exact ⟨.ref s.heap.objs.size, upd H s.heap.objs.size (DX.itemsO s.heap.objs.size a), I.laid (t' := s.toks) (fun b u e => Heap.get?_push_of_some _ e) (Nat.le_refl _) (DX.itemsO_ok (Heap.get?_push_size _ rfl)), rfl, q _ hf⟩
/-- d.values() -/
def valuesO (p d : Addr) : HO := .ext fun h => h.IsValuesView p d
theorem valuesO_ok {P : Program} {w : World} {H : Hp} {h : Heap} {p d : Addr} (e : h.get? p = some { cls := .type "dict_values", data := .fields #[.ref d] }) : ObjOk P w H h p (valuesO p d) :=
  ⟨⟨_, e, rfl, rfl⟩, ⟨_, e⟩, fun h1 h2 x k => let ⟨o, ho, r⟩ := x; ⟨o, k o ho, r⟩⟩
def rValuesK : V → List V → Hp → VK → Prop := fun x xs H Q => ∃ (a : Addr) (kvs : List (Key × V)), x = .ref a ∧ xs = [] ∧ H a = some (.dK kvs) ∧ ∀ p, H p = none → Q (.ref p) (upd H p (valuesO p a))
theorem mt_valuesK : MtR X "dict.values" rValuesK := by
  intro pins s σ H x xs v us Q I rx rxs h
  obtain ⟨a, kvs, rfl, rfl, ha, q⟩ := h
  cases rx
  cases rxs
  obtain ⟨z, hd, vs, kv, dd⟩ := dk_of I.hok ha
  have hf : H s.heap.objs.size = none := I.hok.fresh (Nat.le_refl _)
  refine call_meetsIn PySem.F.slot_dict_values dd.typeIs PySem.F.entry_dict_values (PySem.F.args_dict_values_1 _) (meets_dict_values (mixKind X.prog X.w) a hd) ⟨⟨vs, dd⟩, ?_⟩
  exact ⟨.ref s.heap.objs.size, upd H s.heap.objs.size (valuesO s.heap.objs.size a), I.laid (t' := s.toks) (fun b u e => Heap.get?_push_of_some _ e) (Nat.le_refl _) (valuesO_ok (Heap.get?_push_size _ rfl)), rfl, q _ hf⟩
end
end L2

namespace L2
open PySem PySem.Spec PyProof.Rows SrtO SrtZ
theorem ent_paired {xs' : List (Key × Value)} : ∀ {ks : List (Str × Int)}, KV (ks.map entZ) xs' → ∀ {j : Nat} {x : Key × Value}, xs'[j]? = some x → ∃ e t, ks[j]? = some e ∧ x = (Sum.inr e.1, Value.int e.2 t) := fun {ks} h {j x} hx => by
  obtain ⟨y, hy, r1, r2⟩ := DX.pget h hx
  rw [List.getElem?_map] at hy
  cases e : ks[j]? with
  | none => rw [e] at hy; cases hy
  | some p =>
    rw [e] at hy
    have hy' : entZ p = y := Option.some.inj hy
    subst hy'
    obtain ⟨t, et⟩ := (show ∃ t, x.2 = Value.int p.2 t from r2)
    refine ⟨p, t, rfl, ?_⟩
    obtain ⟨x1, x2⟩ := x
    have r1' : Sum.inr p.1 = x1 := r1
    have et' : x2 = Value.int p.2 t := et
    rw [← r1', et']
section
variable {X : Cx}
/-- sorted(d.items()), keys texts, values ints, any number of them -/
def rSortedIZ : List V → Hp → VK → Prop := fun vs H Q => ∃ (p d : Addr) (ks : List (Str × Int)), vs = [V.ref p] ∧ H p = some (DX.itemsO p d) ∧ H d = some (.dK (ks.map entZ)) ∧
  ∀ (H' : Hp) (l : Addr) (ys : List (Str × Int)) (ts : List Addr), Same H H' → H l = none → (∀ t ∈ ts, H t = none) → l ∉ ts → ys.Perm ks → Srtd lexZ ys → H' l = some (.lst (ts.map V.ref)) → Paired (fun (t : Addr) (y : Str × Int) => H' t = some (.tup [.str y.1, .int y.2])) ts ys → Q (.ref l) H'
theorem paired_of {α β : Type} {F : α → β → Prop} {l : List (α × β)} (h : ∀ z ∈ l, F z.1 z.2) : Paired F (l.map (·.1)) (l.map (·.2)) := by
  induction l with
  | nil => exact .nil
  | cons a l ih => exact .cons (h a List.mem_cons_self) (ih fun z hz => h z (List.mem_cons_of_mem _ hz))
/-- a tuple's key, read off the heap -/
def keyZ (h : Heap) : Value → Str × Int
  | .ref a => match h.get? a with
    | some o => match o.data with
      | .seq xs _ => match xs.toList with
        | [.str x _, .int y _] => (x, y)
        | _ => (⟨#[]⟩, 0)
      | _ => (⟨#[]⟩, 0)
    | none => (⟨#[]⟩, 0)
  | _ => (⟨#[]⟩, 0)
theorem keyZ_of {h : Heap} {v : Value} {p : Str × Int} (x : IsPZ h v p) : keyZ h v = p := by
  obtain ⟨a, o, t, u, n, rfl, ho, hc, hd⟩ := x
  simp only [keyZ, ho, hd]
theorem swo_key (h : Heap) : Swo fun v u => lexZ (keyZ h v) (keyZ h u) := ⟨fun x y => swo_Z.asym _ _, fun x y z => swo_Z.tr _ _ _⟩
def adr : Value → Addr
  | .ref a => a
  | _ => 0
theorem adr_refs : ∀ as : List Addr, (as.map Value.ref).map adr = as
  | [] => rfl
  | a :: as => congrArg (List.cons a) (adr_refs as)
theorem refs_adr : ∀ out : List Value, (∀ v ∈ out, ∃ a, v = Value.ref a) → (out.map adr).map Value.ref = out
  | [], _ => rfl
  | v :: out, h => by
    obtain ⟨a, rfl⟩ := h v List.mem_cons_self
    show Value.ref a :: (out.map adr).map Value.ref = Value.ref a :: out
    rw [refs_adr out fun u hu => h u (List.mem_cons_of_mem _ hu)]
/-- pairs that were laid and sorted are tracked: a list of them at l, the tuples at ts -/
theorem sortZ_end {pins : List (Addr × Obj)} {σ : St} {H : Hp} {s : Shared} {h' h2 : Heap} {tk l n : Nat} {as : List Addr} {ks : List (Str × Int)} {out : List Value} {Q : VK} (I : Inv X pins σ H s)
    (hk : ∀ b o, s.heap.get? b = some o → h'.get? b = some o) (hk2 : ∀ b o, h'.get? b = some o → h2.get? b = some o) (hl : s.heap.objs.size ≤ l) (hle : as.length ≤ sizeLine) (hlas : ∀ t ∈ as, t ≠ l) (nd : as.Nodup) (ha : ∀ t ∈ as, s.heap.objs.size ≤ t) (hn : H l = none)
    (hks : as.map (fun t => keyZ h' (.ref t)) = ks) (hp : ∀ t ∈ as, ∃ p, IsPZ h' (.ref t) p) (hat : h2.get? l = some (seqObj "list" out.toArray n)) (h1 : Srtd (fun v u => lexZ (keyZ h' v) (keyZ h' u)) out) (hb : out.Perm (as.map Value.ref))
    (q : ∀ (H' : Hp) (ys : List (Str × Int)) (ts : List Addr), Same H H' → H l = none → (∀ t ∈ ts, H t = none) → l ∉ ts → ys.Perm ks → Srtd lexZ ys → H' l = some (.lst (ts.map V.ref)) → Paired (fun (t : Addr) (y : Str × Int) => H' t = some (.tup [.str y.1, .int y.2])) ts ys → Q (.ref l) H') :
    EP X pins σ Q (.ref l) { s with heap := h2, toks := tk } := by
  have isr : ∀ v ∈ out, ∃ a, v = Value.ref a := fun v hv => by
    obtain ⟨a, _, e⟩ := List.mem_map.mp (hb.mem_iff.mp hv)
    exact ⟨a, e.symm⟩
  have eo := refs_adr out isr
  generalize ets : out.map adr = ts at eo
  have pt : ts.Perm as := by
    have := hb.map adr
    rwa [adr_refs, ets] at this
  have kS : ∀ b o, s.heap.get? b = some o → h2.get? b = some o := fun b o e => hk2 b o (hk b o e)
  have I1 : Inv X pins σ H { s with heap := h2, toks := tk } := I.kept (t' := tk) kS
  have hlen : (ts.map V.ref).length ≤ sizeLine := by rw [List.length_map, pt.length_eq]; exact hle
  have rv : Vals (ts.map V.ref) out := by
    rw [← eo]
    exact LiI.vals_refs ts
  have I2 : Inv X pins σ (upd H l (.lst (ts.map V.ref))) { s with heap := h2, toks := tk } := I1.take (h' := h2) (t' := tk) (fun b ob _ e => e) (I.fpOk hl hn) ⟨hlen, out, n, rv, hat⟩
  obtain ⟨H2, I3, g, qt⟩ := DX.takeT (P := fun b vs => vs = [.str (keyZ h' (.ref b)).1, .int (keyZ h' (.ref b)).2]) I as _ I2 nd fun b hb' => by
    obtain ⟨p, hp'⟩ := hp b hb'
    have ek := keyZ_of hp'
    obtain ⟨a, o, t, u, m, e, ho, hc, hd⟩ := hp'
    cases e
    refine ⟨ha b hb', ?_, [.str (keyZ h' (.ref b)).1, .int (keyZ h' (.ref b)).2], rfl, fun H3 => ⟨(by rw [sizeLine_eq]; show 2 ≤ 16777216; omega), [Value.str p.1 t, Value.int p.2 u], by rw [ek]; exact .cons ⟨_, rfl⟩ (.cons ⟨_, rfl⟩ .nil), ⟨o, hk2 _ _ ho, hc, m, hd⟩⟩⟩
    rw [upd_ne (hlas b hb')]
    exact I.hok.fresh (ha b hb')
  have gr : Same H H2 := fun b o e => g b o (by rw [upd_ne (ne_of_none e hn)]; exact e)
  refine ⟨.ref l, H2, I3, rfl, q H2 (ts.map fun t => keyZ h' (.ref t)) ts gr hn (fun t ht => I.hok.fresh (ha t (pt.mem_iff.mp ht))) (fun z => hlas l (pt.mem_iff.mp z) rfl) ?_ ?_ (g _ _ upd_same) ?_⟩
  · rw [← hks]
    exact pt.map _
  · have e : ts.map (fun t => keyZ h' (.ref t)) = out.map (keyZ h') := by
      rw [← eo, List.map_map]
      rfl
    rw [e]
    exact srtd_map h1
  · have : ∀ L : List Addr, (∀ t ∈ L, t ∈ as) → Paired (fun (t : Addr) (y : Str × Int) => H2 t = some (.tup [.str y.1, .int y.2])) L (L.map fun t => keyZ h' (.ref t)) := by
      intro L
      induction L with
      | nil => exact fun _ => .nil
      | cons t L ih =>
        intro hL
        refine .cons ?_ (ih fun u hu => hL u (List.mem_cons_of_mem _ hu))
        obtain ⟨vs, ev, hv⟩ := qt t (hL t List.mem_cons_self)
        rw [← ev]
        exact hv
    exact this ts fun t ht => pt.mem_iff.mp ht
theorem cr_sortedIZ (hc : X.calm = true) : CallR X (.builtin "sorted") rSortedIZ := by
  intro pins s σ H xs us Q I r h
  obtain ⟨p, a, ks, rfl, hp, ha, q⟩ := h
  obtain rfl := Vals.ref1 r
  have view : s.heap.IsItemsView p a := (show ObjOk X.prog X.w H s.heap p (DX.itemsO p a) from I.hok p _ hp).1
  obtain ⟨z, hd, xs', rel, o, es, ep, ho, hx, hdat, _, hes, _⟩ := dk_of I.hok ha
  have l1 : ks.length = xs'.length := by
    have := Paired.length rel
    rwa [List.length_map] at this
  have l2 : es.size = xs'.length := by rw [← Array.length_toList, hes.length]
  have hh : X.A.handled = none := I.ok.hd hc
  have hz : es.size ≤ sizeLine := by rw [List.length_map] at z; omega
  have ent : ∀ (j : Nat) (en : DictEntry), es[j]? = some en → ∃ e t u, ks[j]? = some e ∧ en.key = Value.str e.1 t ∧ en.val = Value.int e.2 u := by
    intro j en he
    have he' : es.toList[j]? = some en := by rw [Array.getElem?_toList]; exact he
    have pz : ∀ {es : List DictEntry} {kvs : List (Key × Value)}, Pairs (mixKind X.prog X.w) es kvs → ∀ {j : Nat} {en : DictEntry}, es[j]? = some en → ∃ x, kvs[j]? = some x ∧ keyIs x.1 en.key = true ∧ en.val = x.2 := by
      intro es kvs h
      induction h with
      | nil => intro j en h; simp at h
      | cons h1 h2 h3 ih =>
        intro j en h
        cases j with
        | zero => cases (Option.some.inj h); exact ⟨_, rfl, h1, h2⟩
        | succ j => exact ih (by simpa using h)
    obtain ⟨x, ex, k1, k2⟩ := pz hes he'
    obtain ⟨e, t, e1, e2⟩ := ent_paired rel ex
    subst e2
    obtain ⟨u, eu⟩ := relV_key k1
    exact ⟨e, u, t, e1, eu, k2⟩
  refine sorted_col (x := .ref p) (b := false) (kw := []) (ltv := fun h' v u => lexZ (keyZ h' v) (keyZ h' u)) (P := fun h' _ vs => ∃ as, vs = as.map Value.ref ∧ as.length = es.size ∧ DT.Made es s.heap.objs.size h' as ∧ s.heap.objs.size < h'.objs.size)
    plain_rev (args_sorted1 _) (fun _ => args_list_sort _) (fun R hR => ?_) (fun h' _ _ _ => swo_key h') (fun h' _ vs hP => ?_) (fun h' tk vs hP h2 h₁ b hb keep => ?_) (fun h' tk vs out h2 hk hP h1 hb hk2 hat => ?_)
  · exact DT.collectI (A := X.A.in1) hh view ⟨o, ho, hx, hdat⟩ hz fun h' tk as hk hlt hl hM => hR h' tk _ hk ⟨as, rfl, hl, hM, hlt⟩
  · obtain ⟨as, rfl, hl, _⟩ := hP
    rw [List.length_map, hl]
    exact hz
  · obtain ⟨as, rfl, hl, hM, _⟩ := hP
    refine pairsZ_sortable (s := { s with heap := h₁, toks := tk }) (k := keyZ h') (by omega) (fun v hv => ?_) (fun ob e => ?_)
    · obtain ⟨t, ht, rfl⟩ := List.mem_map.mp hv
      obtain ⟨j, hj⟩ := List.mem_iff_getElem?.mp ht
      obtain ⟨en, he, hg⟩ := hM.pairs j t hj
      obtain ⟨e, t1, t2, _, k1, k2⟩ := ent j en he
      have x : IsPZ h' (.ref t) e := ⟨t, _, t1, t2, 0, rfl, hg, rfl, by rw [k1, k2]⟩
      rw [keyZ_of x]
      exact x.keeps fun b o e _ => (keep b o e).2
    · have e' : some ob = some (seqObj "list" (as.map Value.ref).toArray 0) := e.symm.trans hb
      cases e'
      intro c
      exact absurd (Value.type.inj c) (by decide)
  · obtain ⟨as, rfl, hl, hM, hlt⟩ := hP
    obtain ⟨n, hat⟩ := hat
    have pz : ∀ (j : Nat) (t : Addr), as[j]? = some t → ∃ e, ks[j]? = some e ∧ IsPZ h' (.ref t) e := fun j t hj => by
      obtain ⟨en, he, hg⟩ := hM.pairs j t hj
      obtain ⟨e, t1, t2, e1, k1, k2⟩ := ent j en he
      exact ⟨e, e1, t, _, t1, t2, 0, rfl, hg, rfl, by rw [k1, k2]⟩
    refine sortZ_end (as := as) (ks := ks) I hk hk2 (Nat.le_of_lt hlt) (by rw [hl]; exact hz) (fun t ht => Nat.ne_of_lt (hM.there ht)) (List.Pairwise.imp (fun h => Nat.ne_of_lt h) hM.rise) (fun t ht => Nat.le_of_lt (hM.above t ht)) (I.hok.fresh (Nat.le_of_lt hlt)) ?_ (fun t ht => ?_) hat h1 hb.perm fun H' ys ts => q H' _ ys ts
    · refine List.ext_getElem? fun j => ?_
      rw [List.getElem?_map]
      cases hj : as[j]? with
      | none =>
        have : ks[j]? = none := List.getElem?_eq_none (by have := List.getElem?_eq_none_iff.mp hj; omega)
        rw [this]
        rfl
      | some t =>
        obtain ⟨e, e1, x⟩ := pz j t hj
        rw [e1]
        show some (keyZ h' (.ref t)) = some e
        rw [keyZ_of x]
    · obtain ⟨j, hj⟩ := List.mem_iff_getElem?.mp ht
      obtain ⟨e, _, x⟩ := pz j t hj
      exact ⟨e, x⟩
end
end L2

namespace SrtZ
open PySem PyProof.Rows Srt SrtO PySem.W
def ltSv (v u : Value) : Bool := ltZ (strOf v) (strOf u)
theorem swo_str : Swo ltSv := by
  refine ⟨fun x y h => ltZ_asym h, fun x y z h1 h2 => ?_⟩
  rcases bcase (ltZ (strOf z) (strOf x)) with q | q
  · rcases bcase (ltZ (strOf x) (strOf y)) with p | p
    · rcases bcase (ltZ (strOf y) (strOf z)) with r | r
      · have := ltZ_asym (ltZ_trans p r)
        rw [q] at this
        cases this
      · have e := ltZ_tri r h2
        have q' : ltZ (strOf z) (strOf x) = true := q
        rw [← e, ltZ_asym p] at q'
        cases q'
    · have e := ltZ_tri p h1
      have q' : ltZ (strOf z) (strOf x) = true := q
      have h2' : ltZ (strOf z) (strOf y) = false := h2
      rw [e, h2'] at q'
      cases q'
  · exact q
theorem strOf_strs : ∀ {vs : List Value} {ss : List Str}, StrsAre vs ss → vs.map strOf = ss
  | _, _, .nil => rfl
  | _, _, .cons y t h => congrArg (y :: ·) (strOf_strs h)
section
variable {prog : Program} {w : World} {A : Around} {E : Value → Shared → Prop} {s : Shared}
theorem str_cmp {vs : List Value} {ss : List Str} (hI : StrsAre vs ss) : Cmp prog w A s oneType' (fun p => p.1 ∈ vs) (lt2 ltSv) := by
  intro p q hm hm'
  obtain ⟨a, t, e⟩ := StrsAre.all hI _ hm
  obtain ⟨b, u, e'⟩ := StrsAre.all hI _ hm'
  show wpAny (model prog w) A (keyLt' oneType' p.1 q.1) (fun r s' => s' = s ∧ r = ltSv p.1 q.1) (fun _ _ => False) s
  rw [e, e', keyLt'_oneType]
  exact oneLt_any_str ⟨rfl, rfl⟩
theorem strs_sortable {a : Addr} {vs : List Value} {ss : List Str} (hI : StrsAre vs ss) (h2 : 2 ≤ vs.length) : SortableO prog w A s a vs ltSv := by
  intro h' _
  refine ⟨oneType', fun Q E hq => ?_, str_cmp hI⟩
  match vs, hI, h2 with
  | v1 :: v2 :: rest, hI, _ =>
    rw [keyKind_strs hI]
    exact wpAny_pure hq
  | [], _, h => exact absurd h (by decide)
  | [v], _, h => exact absurd h (by simp)
end
end SrtZ
namespace L2
open PySem PySem.Spec PyProof.Rows SrtO SrtZ
section
variable {X : Cx}
/-- sorted(xs), xs a list of tuples (text, int), any number of them -/
def rSortedPZ (K : PySem.W.Frag) : List V → Hp → VK → Prop := fun vs H Q => ∃ (a : Addr) (ts : List Addr) (k : Addr → Str × Int), vs = [V.ref a] ∧ SqL K H a (ts.map V.ref) ∧ (∀ t ∈ ts, H t = some (.tup [.str (k t).1, .int (k t).2])) ∧
  ∀ (us : List Addr) (p : Addr), us.Perm ts → Srtd lexZ (us.map k) → H p = none → Q (.ref p) (upd H p (.lst (us.map V.ref)))
theorem cr_sortedPZ : CallR X (.builtin "sorted") (rSortedPZ X.K) := by
  intro pins s σ H vs us Q I r h
  obtain ⟨a, ts, k, rfl, hs, hx, q⟩ := h
  obtain ⟨its, rv, hl, hz⟩ := I.list hs
  obtain rfl := Vals.ref1 r
  obtain rfl := refs_at rv
  rw [List.length_map] at hz
  have hp : ∀ v ∈ ts.map Value.ref, IsPZ s.heap v (k (adr v)) := fun v hv => by
    obtain ⟨t, ht, rfl⟩ := List.mem_map.mp hv
    obtain ⟨_, its2, r2, o, ho, hc, n, hd⟩ := I.hok _ _ (hx t ht)
    obtain ⟨u1, u2, rfl, ri, rj⟩ := vals2 r2
    obtain ⟨t1, rfl⟩ := ri
    obtain ⟨t2, rfl⟩ := rj
    exact ⟨t, o, t1, t2, n, rfl, ho, hc, hd⟩
  refine SrtO.sorted_ord (ltv := fun v u => lexZ (k (adr v)) (k (adr u))) ⟨fun x y => swo_Z.asym _ _, fun x y z => swo_Z.tr _ _ _⟩ hl.isList (by rw [List.length_map]; exact hz) (fun h2 h₁ b hb kk => ?_) fun out h1 h2 => ?_
  · refine pairsZ_sortable (s := { s with heap := h₁ }) (k := fun v => k (adr v)) (by omega) (fun v hv => (hp v hv).keeps fun b o e _ => (kk b o e).2) fun o e => ?_
    have e' : some o = some (seqObj "list" (ts.map Value.ref).toArray 0) := e.symm.trans hb
    cases e'
    intro c
    exact absurd (Value.type.inj c) (by decide)
  · obtain ⟨ep, he'⟩ := PyProof.Rows.sortedAll_at s.heap (ts.map Value.ref) out.toArray
    have isr : ∀ v ∈ out, ∃ a, v = Value.ref a := fun v hv => by
      obtain ⟨a, _, e⟩ := List.mem_map.mp (h2.perm.mem_iff.mp hv)
      exact ⟨a, e.symm⟩
    have eo := refs_adr out isr
    generalize eus : out.map adr = us at eo
    have pt : us.Perm ts := by
      have := h2.perm.map adr
      rwa [adr_refs, eus] at this
    have hlen : (us.map V.ref).length ≤ sizeLine := by rw [List.length_map, pt.length_eq]; exact hz
    have rv : Vals (us.map V.ref) out := by
      rw [← eo]
      exact LiI.vals_refs us
    refine ⟨.ref _, upd H (s.heap.objs.size + 1) (.lst (us.map V.ref)), I.laid (t' := s.toks) (fun _ _ => PyProof.Rows.sortedAll_old) (Nat.le_succ _) ⟨hlen, out, ep, rv, he'⟩, rfl, q us _ pt ?_ (I.hok.fresh (Nat.le_succ _))⟩
    have e : us.map k = out.map fun v => k (adr v) := by
      rw [← eo, List.map_map]
      rfl
    rw [e]
    exact srtd_map h1
/-- the ints of a dict's values -/
theorem vals_ints' {xs' : List (Key × Value)} : ∀ {ks : List (Str × Int)}, KV (ks.map entZ) xs' → ∀ {vs : List Value}, vs.length = xs'.length → (∀ (j : Nat) (v : Value), vs[j]? = some v → ∃ k, xs'[j]? = some (k, v)) → IntsAre vs (ks.map (·.2)) := fun {ks} rel {vs} hl hv => by
  have e : vs = xs'.map (·.2) := PySem.W.kdl_vals_eq vs hl hv
  subst e
  have : ∀ {ks : List (Str × Int)} {xs : List (Key × Value)}, KV (ks.map entZ) xs → IntsAre (xs.map (·.2)) (ks.map (·.2)) := by
    intro ks
    induction ks with
    | nil =>
      intro xs r
      cases r
      exact .nil
    | cons e ks ih =>
      intro xs r
      cases r with
      | cons h t =>
        obtain ⟨u, eu⟩ := (show ∃ t, _ = Value.int e.2 t from h.2)
        rw [List.map_cons, eu]
        exact .cons _ _ (ih t)
  exact this rel
/-- sorted(d.values(), reverse=b), values ints -/
def rSortedVR (b : Bool) : List V → List V → Hp → VK → Prop := fun vs zs H Q => ∃ (p d : Addr) (ks : List (Str × Int)), vs = [V.ref p] ∧ zs = [.bl b] ∧ H p = some (valuesO p d) ∧ H d = some (.dK (ks.map entZ)) ∧
  ∀ (ns : List Int) (l : Addr), ns.Perm (ks.map (·.2)) → OrdB b ns → H l = none → Q (.ref l) (upd H l (.lst (ns.map V.int)))
theorem cr_sortedVR {b : Bool} (hc : X.calm = true) : CallRK X (.builtin "sorted") [Str.ofString "reverse"] (rSortedVR b) := by
  intro pins s σ H vs zs us ws Q I r rz h
  obtain ⟨p, d, ks, rfl, rfl, hp, ha, q⟩ := h
  obtain rfl := Vals.ref1 r
  obtain ⟨w1, rfl, e1⟩ := vals1 rz
  obtain rfl : w1 = Value.bool b := e1
  have view : s.heap.IsValuesView p d := (show ObjOk X.prog X.w H s.heap p (valuesO p d) from I.hok p _ hp).1
  obtain ⟨z, hd, xs', rel, dd⟩ := dk_of I.hok ha
  obtain ⟨ep, hat⟩ := dd.dictAt
  have l1 : ks.length = xs'.length := by
    have := Paired.length rel
    rwa [List.length_map] at this
  have hz : xs'.length ≤ sizeLine := by rw [List.length_map] at z; omega
  refine sorted_col (x := .ref p) (b := b) (kw := [(Str.ofString "reverse", .bool b)]) (ltv := fun _ => SrtO.ltIv) (P := fun h' _ vs => IntsAre vs (ks.map (·.2)))
    (fun _ => rfl) (args_sorted_rev _ _) (fun _ => args_list_sort_rev _ _) (fun R hR => ?_) (fun _ _ _ _ => SrtO.swo_int) (fun h' _ vs hP => ?_) (fun h' tk vs hP h2 h₁ c hb keep => ?_) (fun h' tk vs out h2 hk hP h1 hb hk2 hat => ?_)
  · refine PySem.W.kdu_collect (A := X.A.in1) (PySem.W.kdl_values (knd := mixKind X.prog X.w) (kvs := xs') (ep := ep) (r := p) (d := d)) (I.ok.hd hc) ⟨view, hat⟩ hz fun h' tk acc hk hacc => hR h' tk _ hk (vals_ints' rel (by rw [Array.length_toList]; exact hacc.1) fun j v e => hacc.2 j v (by rw [← Array.getElem?_toList]; exact e))
  · rw [hP.length, List.length_map, l1]
    exact hz
  · exact SrtO.ints_sortable hP h2
  · obtain ⟨n, hat⟩ := hat
    obtain ⟨ns', k1, k2, k3⟩ := SrtR.ints_outR hP h1 hb
    have hlen : (ns'.map V.int).length ≤ sizeLine := by
      rw [List.length_map, k2.length_eq, List.length_map, l1]
      exact hz
    have e0 : ((if b = true then out.toArray.reverse else out.toArray).toList).toArray = (if b = true then out.toArray.reverse else out.toArray) := by rw [Array.toArray_toList]
    have gone : s.heap.get? h'.objs.size = none := by
      cases e : s.heap.get? h'.objs.size with
      | none => rfl
      | some o => exact absurd (Heap.lt_size (hk _ _ e)) (Nat.lt_irrefl _)
    have hn := I.hok.gone gone
    exact ⟨.ref h'.objs.size, upd H h'.objs.size (.lst (ns'.map V.int)), I.laidN (t' := tk) (fun c o e => hk2 c o (hk c o e)) gone hn ⟨hlen, _, n, vals_of_ints k1, by rw [e0]; exact hat⟩, rfl, q _ _ k2 k3 hn⟩
/-- sorted(d), keys texts, any number of them -/
def rSortedDS : List V → Hp → VK → Prop := fun vs H Q => ∃ (d : Addr) (kvs : List (Key × V)) (ss : List Str), vs = [V.ref d] ∧ H d = some (.dK kvs) ∧ kvs.map (·.1) = ss.map Sum.inr ∧
  ∀ (ys : List Str) (l : Addr), ys.Perm ss → Srtd ltZ ys → H l = none → Q (.ref l) (upd H l (.lst (ys.map V.str)))
theorem keys_strs {P : Program} {w : World} {xs' : List (Key × Value)} : ∀ {kvs : List (Key × V)} {ss : List Str}, KV kvs xs' → kvs.map (·.1) = ss.map Sum.inr → ∀ {vs : List Value}, vs.length = xs'.length → (∀ (j : Nat) (v : Value), vs[j]? = some v → ∃ k x, xs'[j]? = some (k, x) ∧ (mixKind P w).is k v = true) → StrsAre vs ss := fun {kvs ss} rel hk {vs} hl hv => by
  have : ∀ {kvs : List (Key × V)} {ss : List Str} {xs : List (Key × Value)} {vs : List Value}, KV kvs xs → kvs.map (·.1) = ss.map Sum.inr → vs.length = xs.length → (∀ (j : Nat) (v : Value), vs[j]? = some v → ∃ k x, xs[j]? = some (k, x) ∧ (mixKind P w).is k v = true) → StrsAre vs ss := by
    intro kvs
    induction kvs with
    | nil =>
      intro ss xs vs r hk hl hv
      cases r
      cases ss with
      | nil =>
        have : vs = [] := List.eq_nil_of_length_eq_zero hl
        subst this
        exact .nil
      | cons _ _ => cases hk
    | cons kv kvs ih =>
      intro ss xs vs r hk hl hv
      cases r with
      | cons h t =>
        cases ss with
        | nil => cases hk
        | cons z ss =>
          cases vs with
          | nil => simp at hl
          | cons v vs =>
            rw [List.map_cons, List.map_cons] at hk
            obtain ⟨h1, h2⟩ := List.cons.inj hk
            obtain ⟨k, x, e1, e2⟩ := hv 0 v rfl
            have e1' := (Prod.mk.inj (Option.some.inj e1)).1
            have kk : k = Sum.inr z := by rw [← e1', ← h.1, h1]
            subst kk
            obtain ⟨u, eu⟩ := relV_key (show keyIs (Sum.inr z) v = true from e2)
            subst eu
            exact .cons _ _ (ih t h2 (by simpa using hl) fun j v' e => hv (j + 1) v' (by simpa using e))
  exact this rel hk hl hv
theorem cr_sortedDS (hc : X.calm = true) : CallR X (.builtin "sorted") rSortedDS := by
  intro pins s σ H xs us Q I r h
  obtain ⟨d, kvs, ss, rfl, ha, hks, q⟩ := h
  obtain rfl := Vals.ref1 r
  obtain ⟨z, hd, xs', rel, dd⟩ := dk_of I.hok ha
  obtain ⟨ep, hat⟩ := dd.dictAt
  have l1 : kvs.length = xs'.length := Paired.length rel
  have hz : xs'.length ≤ sizeLine := by omega
  refine sorted_col (x := .ref d) (b := false) (kw := []) (ltv := fun _ => ltSv) (P := fun _ _ vs => StrsAre vs ss)
    plain_rev (args_sorted1 _) (fun _ => args_list_sort _) (fun R hR => ?_) (fun _ _ _ _ => swo_str) (fun h' _ vs hP => ?_) (fun h' tk vs hP h2 h₁ c hb keep => strs_sortable hP h2) (fun h' tk vs out h2 hk hP h1 hb hk2 hat => ?_)
  · refine PySem.W.kdu_collect (A := X.A.in1) (PySem.W.kdl_dict (knd := mixKind X.prog X.w) (kvs := xs') (ep := ep) (d := d) hd) (I.ok.hd hc) hat hz fun h' tk acc hk hacc => hR h' tk _ hk (keys_strs rel hks (by rw [Array.length_toList]; exact hacc.1) fun j v e => hacc.2 j v (by rw [← Array.getElem?_toList]; exact e))
  · rw [hP.length, ← List.length_map (f := (Sum.inr : Str → Key)), ← hks, List.length_map]
    omega
  · obtain ⟨n, hat⟩ := hat
    have isS : ∀ v ∈ out, ∃ x t, v = Value.str x t := fun v hv => StrsAre.all hP v (hb.perm.mem_iff.mp hv)
    have kp : (out.map strOf).Perm ss := by
      have := hb.perm.map strOf
      rwa [if_neg (by decide), strOf_strs hP] at this
    have hlen : ((out.map strOf).map V.str).length ≤ sizeLine := by
      rw [List.length_map, kp.length_eq, ← List.length_map (f := (Sum.inr : Str → Key)), ← hks, List.length_map]
      omega
    have gone : s.heap.get? h'.objs.size = none := by
      cases e : s.heap.get? h'.objs.size with
      | none => rfl
      | some o => exact absurd (Heap.lt_size (hk _ _ e)) (Nat.lt_irrefl _)
    have hn := I.hok.gone gone
    exact ⟨.ref h'.objs.size, upd H h'.objs.size (.lst ((out.map strOf).map V.str)), I.laidN (t' := tk) (fun c o e => hk2 c o (hk c o e)) gone hn ⟨hlen, out, n, vals_of_strs (strsAre_map out isS), hat⟩, rfl, q _ _ kp (srtd_map h1) hn⟩
/-! plain tuples: such of which no attributes are held -/
def Ptp (H : Hp) (a : Addr) (xs : List V) : Prop := ∃ o : Obj, H a = some (.frz o (.tup xs)) ∧ o.dict = none
theorem Ptp.seq {K : PySem.W.Frag} {H : Hp} {a : Addr} {xs : List V} (h : Ptp H a xs) : SqT K H a xs := let ⟨o, e, _⟩ := h; .inl (.inr ⟨o, e⟩)
theorem Ptp.same {H H' : Hp} {a : Addr} {xs : List V} (h : Ptp H a xs) (s : Same H H') : Ptp H' a xs := let ⟨o, e, d⟩ := h; ⟨o, s _ _ e, d⟩
theorem Ptp.ne {H : Hp} {a p : Addr} {xs : List V} (h : Ptp H a xs) (hp : H p = none) : a ≠ p := let ⟨o, e, _⟩ := h; ne_of_none e hp
theorem Ptp.upd {H : Hp} {a p : Addr} {xs : List V} {u : HO} (h : Ptp H a xs) (n : a ≠ p) : Ptp (L2.upd H p u) a xs := let ⟨o, e, d⟩ := h; ⟨o, by rw [upd_ne n]; exact e, d⟩
/-- (a, b, ..), a plain tuple -/
def tTupF (t : TA) : TE := fun σ H Q => t σ H fun xs H1 => xs.length ≤ sizeLine ∧ ∀ p o, H1 p = none → o.dict = none → Q (.ref p) (upd H1 p (.frz o (.tup xs)))
theorem pe_tupF {x1} {es : List Expr} {t : TA} {pos : Pos} (h : PA X es t) : PE X (.Tuple es x1 pos) (tTupF t) := by
  refine ⟨fun pins s σ H Q I hq => ?_⟩
  refine wpAny_Tuple_spliced (thn (h.run pos pins s σ H _ I hq) fun us s1 ⟨xs, H1, I1, r, z, q⟩ => ⟨by rw [← r.length]; exact z, ?_⟩)
  have hf : H1 s1.heap.objs.size = none := I1.hok.fresh (Nat.le_refl _)
  refine ⟨.ref s1.heap.objs.size, _, I1.laid (t' := s1.toks) (fun b u e => Heap.get?_push_of_some _ e) (Nat.le_refl _) ?_, rfl, q _ { cls := .type "tuple", data := .seq us.toArray } hf rfl⟩
  exact ⟨Heap.get?_push_size _ rfl, z, us, r, ⟨_, Heap.get?_push_size _ rfl, rfl, _, rfl⟩⟩
/-- tuple(xs) of a list, a plain tuple -/
theorem call_tupleF : CallR X (.type "tuple") (fun xs H Q => ∃ p ys, xs = [.ref p] ∧ SqL X.K H p ys ∧ ∀ l o, H l = none → o.dict = none → Q (.ref l) (upd H l (.frz o (.tup ys)))) := by
  intro pins s σ H xs us Q I r h
  obtain ⟨p, ys, rfl, hq, q⟩ := h
  obtain ⟨u, rfl, rx⟩ := vals1 r
  cases rx
  obtain ⟨its, r', pl, hz⟩ := I.list hq
  have hlen := r'.length
  refine call_tuple_list pl.isList (fun h' kp => ?_) (by simp only [List.size_toArray] <;> omega)
  have I1 : Inv X pins σ H { s with heap := h' } := I.kept (t' := s.toks) kp
  have I2 : Inv X pins σ (upd H h'.objs.size (.frz _ (.tup ys))) { s with heap := h'.push { cls := .type "tuple", data := .seq its.toArray } } :=
    I1.laid (t' := s.toks) (fun b o e => Heap.get?_push_of_some _ e) (Nat.le_refl _) (show ObjOk X.prog X.w _ _ _ (.frz _ (.tup ys)) from ⟨Heap.get?_push_size _ rfl, hz, its, r', IsTup.new _ _⟩)
  exact ⟨.ref h'.objs.size, _, I2, rfl, q _ _ (I1.hok.fresh (Nat.le_refl _)) rfl⟩
theorem pairs_of2 {pins : List (Addr × Obj)} {σ : St} {H : Hp} {s : Shared} (I : Inv X pins σ H s) : ∀ {ps : List Addr} {kvs : List (Key × V)}, Paired (fun p kv => SqT X.K H p [kV kv.1, kv.2]) ps kvs →
    ∃ (prs : List (Key × Value)) (vps : List (Value × Value)), KV kvs prs ∧ prs.length = ps.length ∧ vps.length = prs.length ∧
      ∀ (j : Nat) (k v : Value), vps[j]? = some (k, v) → ∃ (b : Addr) (q : Key × Value), ps[j]? = some b ∧ prs[j]? = some q ∧ v = q.2 ∧ IsTup s.heap b #[k, v] ∧ keyIs q.1 k = true
  | _, _, .nil => ⟨[], [], .nil, rfl, rfl, fun j k v e => by simp at e⟩
  | _, _, .cons (a := p) (b := kv) h t => by
    obtain ⟨prs, vps, r, hl, hl2, hp⟩ := pairs_of2 I t
    obtain ⟨its, rv, ht, _⟩ := I.tuple h
    obtain ⟨u, y, ei, ru, ry⟩ := vals2 rv
    subst ei
    refine ⟨(kv.1, y) :: prs, (u, y) :: vps, .cons ⟨rfl, ry⟩ r, by rw [List.length_cons, List.length_cons, hl], by rw [List.length_cons, List.length_cons, hl2], fun j k v e => ?_⟩
    cases j with
    | zero =>
      have e' : (u, y) = (k, v) := Option.some.inj e
      cases e'
      exact ⟨p, _, rfl, rfl, rfl, ht, kV_is (P := X.prog) (w := X.w) ru⟩
    | succ j =>
      obtain ⟨b, q, e1, e2, e3⟩ := hp j k v (by simpa using e)
      exact ⟨b, q, by simpa using e1, by simpa using e2, e3⟩
/-- dict(t), t a plain tuple of pairs -/
theorem call_dictPT (hcalm : X.calm = true) : CallR X (.type "dict") (fun xs H Q => ∃ (a : Addr) (ps : List Addr) (kvs : List (Key × V)), xs = [.ref a] ∧ Ptp H a (ps.map V.ref) ∧ Paired (fun p kv => SqT X.K H p [kV kv.1, kv.2]) ps kvs ∧
    ∀ p, H p = none → Q (.ref p) (upd H p (.dK (mergeK [] kvs)))) := by
  intro pins s σ H xs us Q I r q
  obtain ⟨a, ps, kvs, ex, hq, hp, q⟩ := q
  subst ex
  obtain ⟨u, eu, rx⟩ := vals1 r
  subst eu
  cases rx
  obtain ⟨o, ha, hdn⟩ := hq
  obtain ⟨hao, hz, its, rv, o', hao', hc, n, hdat⟩ := (show ObjOk X.prog X.w H s.heap a (.frz o (.tup (ps.map V.ref))) from I.hok a _ ha)
  rw [hao] at hao'
  cases hao'
  have ei := refs_at rv
  subst ei
  rw [List.length_map] at hz
  obtain ⟨prs, vps, rel, hl, hvl, hvp⟩ := pairs_of2 I hp
  have hTs : ∀ j b, ps[j]? = some b → ps.getD j 0 = b := fun j b e => by simp [List.getD, e]
  refine PySem.call_dict_pairs (knd := mixKind X.prog X.w) (kvs := prs) (PairArg.tuple (prog := X.prog) (w := X.w) a (ps.map Value.ref).toArray (fun j => ps.getD j 0) vps) (I.ok.hd hcalm) ⟨⟨o, n, hao, hc, hdn, hdat⟩, ?_, fun j k v e => ?_⟩ ⟨hvl.symm, fun i key v h => ?_⟩ (by rw [hvl, hl]; exact hz) fun h' tk hd' k => ?_
  · simp [hvl, hl]
  · obtain ⟨b, q, e1, e2, e3, e4, e5⟩ := hvp j k v e
    show _ ∧ PairAt s.heap (ps.getD j 0) k v
    rw [hTs j b e1]
    have ed : (List.map Value.ref ps).toArray[j]? = some (Value.ref b) := by simp [e1]
    refine ⟨?_, .inl e4⟩
    show _ = some (Value.ref (ps.getD j 0))
    rw [hTs j b e1]
    exact ed
  · obtain ⟨b, q', e1, e2, e3, e4, e5⟩ := hvp i key v h
    exact ⟨q'.1, by rw [e2, e3], e5⟩
  · have hm : (s.heap.objs.size == sysModules) = false := beq_eq_false_iff_ne.mpr (Nat.ne_of_gt I.big)
    have hlen : (mergeK [] kvs).length ≤ sizeLine := by
      refine Nat.le_trans (length_mergeK kvs []) ?_
      rw [List.length_nil, Nat.zero_add, rel.length, hl]
      exact hz
    exact ⟨.ref s.heap.objs.size, upd H s.heap.objs.size (.dK (mergeK [] kvs)), I.laid (t' := tk) (fun b u e => k b u (by simp) e) (Nat.le_refl _) (show ObjOk X.prog X.w _ _ _ (.dK (mergeK [] kvs)) from ⟨hlen, hm, merged [] prs, KV.merge rel .nil, hd'⟩), rfl, q _ (I.hok.fresh (Nat.le_refl _))⟩
/-- o.f as a target -/
def gFld (K : PySem.W.Frag) (ta : TE) (f : Str) : TG := fun y σ H Q => ta σ H fun x H2 => ∃ a C dx fs, x = .ref a ∧ H2 a = some (.ins C dx fs) ∧ Cls K C ∧ NoAttr K C f ∧ fs.length < 1000 ∧ Q σ (upd H2 a (.ins C dx (putF f y fs)))
theorem pg_fld {o : Expr} {f : Str} {pos : Pos} {ta : TE} (ha : PE X o ta) : PG X (.Attribute o f pos) (gFld X.K ta f) := by
  refine ⟨fun pins s σ H v u Q I r h => ?_⟩
  rw [assign_Attribute]
  refine wpAny_bind (wpAny_holding (thn (ha.run pins s σ H _ I h) fun ov s2 ⟨x, H2, I2, rx, a, C, dx, fs, ex, ea, c, n, l, q2⟩ => ?_))
  subst ex
  obtain rfl : ov = Value.ref a := rx
  refine wpAny_bind (wpAny_standAt (wpAny_bind (wpAny_holding (setattr_ok I2 ea c n l r fun s3 I3 => ?_))))
  exact wpAny_release ⟨σ, _, I3, q2⟩
end
end L2

namespace Kb
open PySem PySem.Spec PyProof.Rows L2
/-! the text -/
def topS (i : Nat) : Stmt := PySem.Challenge.pw_knownends_k45_whole_names_that_are_surel.main.body.getD i (.Pass ⟨0, 0, 0, 0⟩)
/-! facts -/
structure Dn (K : PySem.W.Frag) (mg : Str → Option Value) (nm : Str) (st : Stmt) (ps : List Str) where
  f : Addr
  fd : FuncData
  F : Fun K nm nm st f fd
  g : mg nm = some (.ref f)
  b : Binds K fd ps []
structure Cst (mg : Str → Option Value) (nm : Str) (v : V) where
  u : Value
  g : mg nm = some u
  r : RelV v u
structure Blt (mg : Str → Option Value) : Prop where
  n_len : mg "len" = none
  n_int : mg "int" = none
  n_abs : mg "abs" = none
  n_range : mg "range" = none
  n_isinstance : mg "isinstance" = none
  n_str : mg "str" = none
  n_all : mg "all" = none
  n_tuple : mg "tuple" = none
  n_bool : mg "bool" = none
  n_list : mg "list" = none
  n_dict : mg "dict" = none
  n_sum : mg "sum" = none
  n_min : mg "min" = none
  n_sorted : mg "sorted" = none
  n_max : mg "max" = none
  n_set : mg "set" = none
/-! heaps -/
theorem same_upd {H : Hp} {p : Addr} {o : HO} (h : H p = none) : Same H (upd H p o) := fun b x e => by
  rw [upd_ne (ne_of_none e h)]
  exact e
theorem Same.new {H H1 : Hp} {p : Addr} {o : HO} (x : Same H H1) (h : H1 p = none) : Same H (upd H1 p o) := fun b u e => same_upd h b u (x b u e)
theorem Same.gone {H H1 : Hp} {p : Addr} (x : Same H H1) (h : H1 p = none) : H p = none := by
  cases e : H p with
  | none => rfl
  | some o =>
    have := x _ _ e
    rw [h] at this
    cases this
/-- an object that was new is stored anew -/
theorem Same.put {H H1 : Hp} {p : Addr} {o : HO} (x : Same H H1) (h : H p = none) : Same H (upd H1 p o) := fun b u e => by
  rw [upd_ne (ne_of_none e h)]
  exact x b u e
theorem sql {K : PySem.W.Frag} {H : Hp} {a : Addr} {xs : List V} (h : H a = some (.lst xs)) : SqL K H a xs := .inl (.inl h)
theorem seqT {K : PySem.W.Frag} {H H' : Hp} {a : Addr} {xs : List V} (h : SqT K H a xs) (s : Same H H') : SqT K H' a xs := by
  rcases h with (h | ⟨o, h⟩) | h
  · exact .inl (.inl (s _ _ h))
  · exact .inl (.inr ⟨o, s _ _ h⟩)
  · exact .inr h
theorem tyT {K : PySem.W.Frag} {H : Hp} {a : Addr} {xs : List V} (h : SqT K H a xs) : TyX K H (.ref a) (.type "tuple") := by
  rcases h with (h | ⟨o, h⟩) | ⟨o, its, n, h, c, _⟩
  · exact .base (.tup h)
  · exact .fTuple h
  · exact .kTuple h c
/-- %, the rest as a letter -/
def rModB : R2 := fun x y H Q => ∃ i j, x = .int i ∧ y = .int j ∧ 0 < j ∧ ∀ m : Int, 0 ≤ m → m < j → m = i % j → Q (.int m) H
theorem op_modB {X : Cx} : OpR X (binaryOp .Mod) rModB := fun pins s σ H x y v u Q I rx ry h => by
  obtain ⟨i, j, e1, e2, hj, q⟩ := h
  exact op_mod pins s σ H x y v u Q I rx ry ⟨i, j, e1, e2, hj, q _ (Int.emod_nonneg _ (by omega)) (Int.emod_lt_of_pos _ hj) rfl⟩
theorem cmulR {i j : Int} (h1 : 0 ≤ j) (h2 : j < 10000000000) : CMul i j := .inr ⟨by omega, by omega⟩
theorem cmulL {i j : Int} (h1 : 0 ≤ i) (h2 : i < 10000000000) : CMul i j := .inl ⟨by omega, by omega⟩
/-! names -/
def cs (z : Str) : List Nat := z.cps.toList
theorem cs_len (z : Str) : (cs z).length = z.length := by simp [cs, Str.length]
theorem cs_inj {a b : Str} (h : cs a = cs b) : a = b := by
  cases a; cases b
  simp [cs] at h
  rw [h]
def nmC (c : Nat) : Bool := !decide (c < 97) && !decide (122 < c)
/-- a name -/
structure Nm (z : Str) : Prop where
  pos : 1 ≤ z.length
  len : z.length ≤ 8
  abc : ∀ c ∈ cs z, nmC c = true
theorem lt_one (a b : Nat) : decide ([a] < [b]) = decide (a < b) := by
  have : ([a] < [b]) ↔ a < b := by simp [List.cons_lt_cons_iff]
  by_cases h : a < b
  · rw [decide_eq_true h, decide_eq_true (this.mpr h)]
  · rw [decide_eq_false h, decide_eq_false (fun z => h (this.mp z))]
abbrev sP_is_int : Stmt := topS 6
abbrev NP_is_int : List Str := ["thing"]
theorem scP_is_int : FnScope ["thing"] ["thing"] (defScope sP_is_int) := ⟨rfl, rfl, rfl, by decide +kernel, rfl, by decide +kernel, by decide +kernel⟩
abbrev sP_is_number : Stmt := topS 7
abbrev NP_is_number : List Str := ["thing"]
theorem scP_is_number : FnScope ["thing"] ["thing"] (defScope sP_is_number) := ⟨rfl, rfl, rfl, by decide +kernel, rfl, by decide +kernel, by decide +kernel⟩
abbrev sP_is_room : Stmt := topS 8
abbrev NP_is_room : List Str := ["thing"]
theorem scP_is_room : FnScope ["thing"] ["thing"] (defScope sP_is_room) := ⟨rfl, rfl, rfl, by decide +kernel, rfl, by decide +kernel, by decide +kernel⟩
abbrev sP_is_name : Stmt := topS 11
abbrev NP_is_name : List Str := ["thing", "letter"]
theorem scP_is_name : FnScope ["thing", "letter"] ["thing"] (defScope sP_is_name) := ⟨rfl, rfl, rfl, by decide +kernel, rfl, by decide +kernel, by decide +kernel⟩
abbrev NP_is_stream : List Str := ["thing", "item"]
abbrev DnIsInt (K : PySem.W.Frag) (mg : Str → Option Value) := Dn K mg "is_int" sP_is_int ["thing"]
abbrev DnIsNumber (K : PySem.W.Frag) (mg : Str → Option Value) := Dn K mg "is_number" sP_is_number ["thing"]
abbrev DnIsRoom (K : PySem.W.Frag) (mg : Str → Option Value) := Dn K mg "is_room" sP_is_room ["thing"]
abbrev DnIsName (K : PySem.W.Frag) (mg : Str → Option Value) := Dn K mg "is_name" sP_is_name ["thing"]
section
variable {P : Program} {w : World} {K : PySem.W.Frag} {mg : Str → Option Value} {base : Heap}
/-! is_int, of ints -/
def spIsInt : Sp := fun vs H Q _ => ∃ i : Int, vs = [.int i] ∧ Q (.bl true) H
theorem ok_is_int (T : Blt mg) (d : DnIsInt K mg) : FnOk P w K mg base CX0 1 d.f d.fd ["thing"] spIsInt := by
  refine d.F.ok scP_is_int (fun vs H Q E h => ?_) (fun cdv A outer s H vs Q E hr h => ?_)
  · obtain ⟨i, rfl, _⟩ := h
    rfl
  · obtain ⟨i, rfl, q⟩ := h
    refine ⟨_, (pss_one (ps_ret (pe_and (pe_callB call_isi (by rfl) T.n_isinstance (by decide +kernel) (pa_cons (pv 0) (pa_cons (pe_bltn (v := .ty "int") (by rfl) T.n_int (by decide +kernel) rfl) pa_nil))) (pe_one (pe_not (pe_callB call_isi (by rfl) T.n_isinstance (by decide +kernel) (pa_cons (pv 0) (pa_cons (pe_bltn (v := .ty "bool") (by rfl) T.n_bool (by decide +kernel) rfl) pa_nil)))))))), ?_⟩
    refine ⟨.int i, rfl, .int i, _, _, _, true, rfl, .ty "int", .base (.int i), kit_ty (by decide +kernel), true, rfl, iteT ?_⟩
    exact ⟨.int i, rfl, .int i, _, _, _, false, rfl, .ty "bool", .base (.int i), kit_ty (by decide +kernel), false, rfl, q⟩
/-! is_number, of ints -/
def spIsNumber : Sp := fun vs H Q _ => ∃ i : Int, vs = [.int i] ∧ Q (.bl (decide (0 ≤ i))) H
theorem ok_is_number (T : Blt mg) (dP_is_int : DnIsInt K mg) (d : DnIsNumber K mg) : FnOk P w K mg base CX0 2 d.f d.fd ["thing"] spIsNumber := by
  have GP_is_int : FnOk P w K mg base CX0 1 dP_is_int.f dP_is_int.fd ["thing"] spIsInt := ok_is_int T dP_is_int
  refine d.F.ok scP_is_number (fun vs H Q E h => ?_) (fun cdv A outer s H vs Q E hr h => ?_)
  · obtain ⟨i, rfl, _⟩ := h
    rfl
  · obtain ⟨i, rfl, q⟩ := h
    refine ⟨_, (pss_one (ps_ret (pe_and (pe_call GP_is_int (hr.mono (by omega)) (by rfl) dP_is_int.g dP_is_int.F.kp dP_is_int.b .nil pass0 (pa_cons (pv 0) pa_nil)) (pe_one (pe_cmpR op_ge (pv 0) pe_int (nomark _)))))), ?_⟩
    exact ⟨.int i, rfl, i, rfl, true, rfl, iteT ⟨.int i, rfl, _, _, rfl, rfl, q⟩⟩
/-! is_room, of ints -/
def spIsRoom : Sp := fun vs H Q _ => ∃ i : Int, vs = [.int i] ∧ Q (.bl (decide (1 ≤ i) && decide (i ≤ 64))) H
theorem ok_is_room (T : Blt mg) (cM : Cst mg "MOST_ROOM" (.int 64)) (dP_is_int : DnIsInt K mg) (d : DnIsRoom K mg) : FnOk P w K mg base CX0 2 d.f d.fd ["thing"] spIsRoom := by
  have GP_is_int : FnOk P w K mg base CX0 1 dP_is_int.f dP_is_int.fd ["thing"] spIsInt := ok_is_int T dP_is_int
  refine d.F.ok scP_is_room (fun vs H Q E h => ?_) (fun cdv A outer s H vs Q E hr h => ?_)
  · obtain ⟨i, rfl, _⟩ := h
    rfl
  · obtain ⟨i, rfl, q⟩ := h
    refine ⟨_, (pss_one (ps_ret (pe_and (pe_call GP_is_int (hr.mono (by omega)) (by rfl) dP_is_int.g dP_is_int.F.kp dP_is_int.b .nil pass0 (pa_cons (pv 0) pa_nil)) (pe_one (pe_chain op_le op_le pe_int (pv 0) (pe_glob rfl cM.g cM.r)))))), ?_⟩
    refine ⟨.int i, rfl, i, rfl, true, rfl, iteT ⟨.int i, rfl, _, _, rfl, rfl, decide (1 ≤ i), rfl, ite2 (fun e => ⟨_, _, rfl, rfl, ?_⟩) (fun e => ?_)⟩⟩
    · rw [e, Bool.true_and] at q
      exact q
    · rw [show decide (1 ≤ i) = false from by simpa using e, Bool.false_and] at q
      exact q
/-! is_name, of names -/
def spIsName : Sp := fun vs H Q _ => ∃ z : Str, vs = [.str z] ∧ Nm z ∧ ∀ H', Same H H' → Q (.bl true) H'
theorem ok_is_name (T : Blt mg) (cL : Cst mg "LONGEST_NAME" (.int 8)) (d : DnIsName K mg) : FnOk P w K mg base CX0 1 d.f d.fd ["thing"] spIsName := by
  refine d.F.ok scP_is_name (fun vs H Q E h => ?_) (fun cdv A outer s H vs Q E hr h => ?_)
  · obtain ⟨z, rfl, _⟩ := h
    rfl
  · obtain ⟨z, rfl, nm, q⟩ := h
    refine ⟨_, (pss_cons (ps_if (PW.pt (pw_or (pt_not (pt_val (pe_callB call_isi (by rfl) T.n_isinstance (by decide +kernel) (pa_cons (pv 0) (pa_cons (pe_bltn (v := .ty "str") (by rfl) T.n_str (by decide +kernel) rfl) pa_nil))))) (pw_or1 (pt_not (pt_chain op_le op_le pe_int (pe_callB call_len_str (by rfl) T.n_len (by decide +kernel) (pa_cons (pv 0) pa_nil)) (pe_glob rfl cL.g cL.r))))))
      (pss_one (ps_ret pe_bl))
      pss_nil)
    (pss_one (ps_ret (pe_callB (cr_all rfl) (by rfl) T.n_all (by decide +kernel) (pa_cons (pe_lc (own := [("letter", 1)]) (g := gName 1) (tt := tYes) rfl scP_is_name.nd (pi_str (pv 0)) (blkOk_by (N := NP_is_name) (sc := defScope sP_is_name) (by decide +kernel)) (fun _ _ _ _ _ => pg_name (i := 1) scP_is_name.nd rfl (Or.inl rfl)) (fun _ _ _ _ _ => pts_nil) (fun _ _ _ _ _ => (pe_chain op_le_str op_le_str pe_str (pv 1) pe_str))) pa_nil))))), ?_⟩
    have h1 : decide ((1 : Int) ≤ (z.length : Int)) = true := decide_eq_true (by have := nm.pos; omega)
    have h8 : decide ((z.length : Int) ≤ 8) = true := decide_eq_true (by have := nm.len; omega)
    refine ⟨.str z, rfl, .str z, _, _, _, true, rfl, .ty "str", .base (.str z), kit_ty (by decide +kernel), true, rfl, iteF ?_⟩
    refine ⟨.str z, rfl, z, rfl, (by rw [sizeLine_eq]; have := nm.len; omega), _, _, rfl, rfl, true, congrArg V.bl h1, iteT ⟨_, _, rfl, rfl, true, congrArg V.bl h8, iteF ?_⟩⟩
    refine ⟨.str z, rfl, z, rfl, fun D nD => ?_⟩
    refine lc_it walk_str (fun i H3 => Same H H3 ∧ H3 D = some (.lst (((cs z).take i).map fun c => V.bl true))) ⟨same_upd nD, upd_same⟩ (fun _ _ _ _ => trivial) (fun i x H3 H4 hi h3 y => ?_) (fun H3 h3 => ?_)
    · obtain ⟨rfl, c, hc, rfl⟩ := y
      have hc2 : (cs z)[i]? = some c := by
        rw [← hc]
        simp [cs]
      have hcn := nm.abc c (List.mem_of_getElem? hc2)
      unfold nmC at hcn
      have ha : (!decide (c < 97)) = true := by cases h : (!decide (c < 97)) <;> simp_all
      have hz : (!decide (122 < c)) = true := by rw [ha, Bool.true_and] at hcn; exact hcn
      refine ⟨rfl, .str ⟨#[c]⟩, rfl, _, _, rfl, rfl, true, ?_, iteT ⟨_, _, rfl, rfl, ?_⟩⟩
      · show V.bl (!decide ([c] < (Str.ofString "a").cps.toList)) = _
        rw [show (Str.ofString "a").cps.toList = [97] by decide +kernel, lt_one, ha]
      · rw [show (!decide ((Str.ofString "z").cps.toList < [c])) = true by
          rw [show (Str.ofString "z").cps.toList = [122] by decide +kernel, lt_one, hz]]
        refine ⟨_, h3.2, ?_, fun b o e => ?_, ?_⟩
        · rw [List.length_map, List.length_take, sizeLine_eq]
          have := cs_len z
          have := nm.len
          omega
        · rw [upd_ne (ne_of_none e nD)]
          exact h3.1 b o e
        · rw [upd_same, List.take_add_one, hc2, List.map_append]
          rfl
    · refine ⟨D, (cs z).map fun _ => true, rfl, sql ?_, ?_⟩
      · rw [h3.2, List.map_map]
        rw [List.take_of_length_le (by
          show (cs z).length ≤ z.cps.size
          simp [cs])]
        rfl
      · rw [show (((cs z).map fun _ => true).all id) = true by simp]
        exact q H3 h3.1
/-! is_stream, of tuples of names -/
def spIsStream (K : PySem.W.Frag) : Sp := fun vs H Q _ => ∃ (a : Addr) (zs : List Str), vs = [.ref a] ∧ SqT K H a (zs.map V.str) ∧ (∀ z ∈ zs, Nm z) ∧ zs.length ≤ 100000 ∧ ∀ H', Same H H' → Q (.bl true) H'
end
end Kb

namespace Kb
open PySem PySem.Spec PyProof.Rows L2
abbrev NP_is_tree : List Str := ["thing"]
abbrev NP_is_tree_of : List Str := ["thing", "word", "is_right", "many", "height", "step"]
abbrev NP_is_put : List Str := ["step", "word"]
abbrev NP_is_pour : List Str := ["step"]
/-! trees -/
inductive Stp
  | put (zs : List Str)
  | pour
def StpAt (K : PySem.W.Frag) (H : Hp) (v : V) : Stp → Prop
  | .put zs => ∃ a b, v = .ref a ∧ SqT K H a [.str (Str.ofString "stream"), .ref b] ∧ SqT K H b (zs.map V.str) ∧ (∀ z ∈ zs, Nm z) ∧ zs.length ≤ 100000
  | .pour => ∃ a, v = .ref a ∧ SqT K H a [.str (Str.ofString "pour")]
theorem StpAt.same {K : PySem.W.Frag} {H H' : Hp} {v : V} {t : Stp} (h : StpAt K H v t) (s : Same H H') : StpAt K H' v t := by
  cases t with
  | put zs =>
    obtain ⟨a, b, e, h1, h2, r⟩ := h
    exact ⟨a, b, e, seqT h1 s, seqT h2 s, r⟩
  | pour =>
    obtain ⟨a, e, h1⟩ := h
    exact ⟨a, e, seqT h1 s⟩
def hS (h : Int) : Stp → Int
  | .put _ => h + 1
  | .pour => h - 1
def cS (m : Int) : Stp → Int
  | .put zs => m + (zs.length : Nat)
  | .pour => m
def hgt (l : List Stp) : Int := l.foldl hS 0
def mny (l : List Stp) : Int := l.foldl cS 0
structure Tree (l : List Stp) : Prop where
  two : ∀ i, l[i]? = some .pour → 2 ≤ hgt (l.take i)
  one : hgt l = 1
  few : mny l ≤ 50000
  len : l.length ≤ 5000
theorem hgt_snoc {l : List Stp} {i : Nat} {t : Stp} (h : l[i]? = some t) : hgt (l.take (i + 1)) = hS (hgt (l.take i)) t := by
  unfold hgt
  rw [List.take_add_one, h, List.foldl_append]
  rfl
theorem mny_snoc {l : List Stp} {i : Nat} {t : Stp} (h : l[i]? = some t) : mny (l.take (i + 1)) = cS (mny (l.take i)) t := by
  unfold mny
  rw [List.take_add_one, h, List.foldl_append]
  rfl
def TreeAt (K : PySem.W.Frag) (H : Hp) (a : Addr) (l : List Stp) : Prop := ∃ vs, SqT K H a vs ∧ Paired (StpAt K H) vs l
theorem paired_same {K : PySem.W.Frag} {H H' : Hp} (s : Same H H') : ∀ {vs : List V} {l : List Stp}, Paired (StpAt K H) vs l → Paired (StpAt K H') vs l
  | _, _, .nil => .nil
  | _, _, .cons h t => .cons (h.same s) (paired_same s t)
theorem TreeAt.same {K : PySem.W.Frag} {H H' : Hp} {a : Addr} {l : List Stp} (h : TreeAt K H a l) (s : Same H H') : TreeAt K H' a l := by
  obtain ⟨vs, h1, h2⟩ := h
  exact ⟨vs, seqT h1 s, paired_same s h2⟩
theorem stream_ne : ¬ (V.str (Str.ofString "pour") = V.str (Str.ofString "stream")) := by decide +kernel
section
variable {P : Program} {w : World} {K : PySem.W.Frag} {mg : Str → Option Value} {base : Heap}
/-! _is_put -/
def isPut : Stp → Bool
  | .put _ => true
  | .pour => false
def spIsPut (K : PySem.W.Frag) : Sp := fun vs H Q _ => ∃ (v : V) (t : Stp), vs = [v, .str (Str.ofString "stream")] ∧ StpAt K H v t ∧ Q (.bl (isPut t)) H
/-! _is_pour -/
def spIsPour (K : PySem.W.Frag) : Sp := fun vs H Q _ => ∃ v : V, vs = [v] ∧ StpAt K H v .pour ∧ Q (.bl true) H
/-! is_tree_of, is_tree -/
theorem paired_at {α β : Type} {F : α → β → Prop} : ∀ {xs : List α} {ys : List β}, Paired F xs ys → ∀ {i : Nat} {x : α}, xs[i]? = some x → ∃ y, ys[i]? = some y ∧ F x y := LiI.paired_get
def spIsTreeOf (K : PySem.W.Frag) (g : Addr) : Sp := fun vs H Q _ => ∃ (a : Addr) (l : List Stp), vs = [.ref a, .str (Str.ofString "stream"), .ref g] ∧ TreeAt K H a l ∧ Tree l ∧ ∀ H', Same H H' → Q (.bl true) H'
def spIsTree (K : PySem.W.Frag) : Sp := fun vs H Q _ => ∃ (a : Addr) (l : List Stp), vs = [.ref a] ∧ TreeAt K H a l ∧ Tree l ∧ ∀ H', Same H H' → Q (.bl true) H'
end
end Kb

namespace Kb
open PySem PySem.Spec PyProof.Rows L2 SrtZ
abbrev sP_are_counts : Stmt := topS 12
abbrev NP_are_counts : List Str := ["thing", "last", "pair"]
theorem scP_are_counts : FnScope ["thing", "last", "pair"] ["thing"] (defScope sP_are_counts) := ⟨rfl, rfl, rfl, by decide +kernel, rfl, by decide +kernel, by decide +kernel⟩
abbrev sP_is_counted : Stmt := topS 13
abbrev NP_is_counted : List Str := ["pair"]
theorem scP_is_counted : FnScope ["pair"] ["pair"] (defScope sP_is_counted) := ⟨rfl, rfl, rfl, by decide +kernel, rfl, by decide +kernel, by decide +kernel⟩
abbrev sP_lost_of : Stmt := topS 15
abbrev NP_lost_of : List Str := ["sketch", "_", "count"]
theorem scP_lost_of : FnScope ["sketch", "_", "count"] ["sketch"] (defScope sP_lost_of) := ⟨rfl, rfl, rfl, by decide +kernel, rfl, by decide +kernel, by decide +kernel⟩
abbrev sP_is_sketch : Stmt := topS 16
abbrev NP_is_sketch : List Str := ["thing", "room", "many", "off", "kept"]
theorem scP_is_sketch : FnScope ["thing", "room", "many", "off", "kept"] ["thing"] (defScope sP_is_sketch) := ⟨rfl, rfl, rfl, by decide +kernel, rfl, by decide +kernel, by decide +kernel⟩
abbrev NP_bare : List Str := ["room"]
abbrev DnAreCounts (K : PySem.W.Frag) (mg : Str → Option Value) := Dn K mg "are_counts" sP_are_counts ["thing"]
abbrev DnIsCounted (K : PySem.W.Frag) (mg : Str → Option Value) := Dn K mg "_is_counted" sP_is_counted ["pair"]
abbrev DnLostOf (K : PySem.W.Frag) (mg : Str → Option Value) := Dn K mg "lost_of" sP_lost_of ["sketch"]
abbrev DnIsSketch (K : PySem.W.Frag) (mg : Str → Option Value) := Dn K mg "is_sketch" sP_is_sketch ["thing"]
/-! counts -/
abbrev Ct := List (Str × Int)
def PrAt (K : PySem.W.Frag) (H : Hp) (t : Addr) (e : Str × Int) : Prop := SqT K H t [.str e.1, .int e.2]
/-- the tuple at k holds these pairs -/
def CtAt (K : PySem.W.Frag) (H : Hp) (k : Addr) (kvs : Ct) : Prop := ∃ ts : List Addr, SqT K H k (ts.map V.ref) ∧ Paired (PrAt K H) ts kvs
theorem prs_same {K : PySem.W.Frag} {H H' : Hp} (s : Same H H') : ∀ {ts : List Addr} {kvs : Ct}, Paired (PrAt K H) ts kvs → Paired (PrAt K H') ts kvs
  | _, _, .nil => .nil
  | _, _, .cons h t => .cons (seqT h s) (prs_same s t)
theorem CtAt.same {K : PySem.W.Frag} {H H' : Hp} {k : Addr} {kvs : Ct} (h : CtAt K H k kvs) (s : Same H H') : CtAt K H' k kvs := by
  obtain ⟨ts, h1, h2⟩ := h
  exact ⟨ts, seqT h1 s, prs_same s h2⟩
structure Cts (kvs : Ct) : Prop where
  nm : ∀ e ∈ kvs, Nm e.1
  pos : ∀ e ∈ kvs, 1 ≤ e.2
  asc : kvs.Pairwise fun a b => ltZ a.1 b.1 = true
def sumC (kvs : Ct) : Int := (kvs.map (·.2)).sum
theorem map_at {α β : Type} {f : α → β} {xs : List α} {i : Nat} {y : β} (h : (xs.map f)[i]? = some y) : ∃ x, xs[i]? = some x ∧ y = f x := by
  rw [List.getElem?_map] at h
  cases e : xs[i]? with
  | none => rw [e] at h; cases h
  | some x => rw [e] at h; exact ⟨x, rfl, (Option.some.inj h).symm⟩
section
variable {P : Program} {w : World} {K : PySem.W.Frag} {mg : Str → Option Value} {base : Heap}
/-! _is_counted -/
def spIsCounted (K : PySem.W.Frag) : Sp := fun vs H Q _ => ∃ (t : Addr) (e : Str × Int), vs = [.ref t] ∧ PrAt K H t e ∧ Nm e.1 ∧ 1 ≤ e.2 ∧ ∀ H', Same H H' → Q (.bl true) H'
theorem ok_is_counted (T : Blt mg) (cL : Cst mg "LONGEST_NAME" (.int 8)) (dP_is_int : DnIsInt K mg) (dP_is_name : DnIsName K mg) (d : DnIsCounted K mg) : FnOk P w K mg base CX0 2 d.f d.fd ["pair"] (spIsCounted K) := by
  have GP_is_int : FnOk P w K mg base CX0 1 dP_is_int.f dP_is_int.fd ["thing"] spIsInt := ok_is_int T dP_is_int
  have GP_is_name : FnOk P w K mg base CX0 1 dP_is_name.f dP_is_name.fd ["thing"] spIsName := ok_is_name T cL dP_is_name
  refine d.F.ok scP_is_counted (fun vs H Q E h => ?_) (fun cdv A outer s H vs Q E hr h => ?_)
  · obtain ⟨t, e, rfl, _⟩ := h
    rfl
  · obtain ⟨t, e, rfl, hp, hn, h1, q⟩ := h
    refine ⟨_, (pss_cons (ps_if (PW.pt (pw_or (pt_not (pt_val (pe_callB call_isi (by rfl) T.n_isinstance (by decide +kernel) (pa_cons (pv 0) (pa_cons (pe_bltn (v := .ty "tuple") (by rfl) T.n_tuple (by decide +kernel) rfl) pa_nil))))) (pw_or1 (pt_cmpR op_ne (pe_callB call_len_seq (by rfl) T.n_len (by decide +kernel) (pa_cons (pv 0) pa_nil)) pe_int (nomark _)))))
      (pss_one (ps_ret pe_bl))
      pss_nil)
    (pss_one (ps_ret (pe_and (pe_call GP_is_name (hr.mono (by omega)) (by rfl) dP_is_name.g dP_is_name.F.kp dP_is_name.b .nil pass0 (pa_cons (pe_ix ix_tup (pv 0) pe_int (fun _ _ => rfl)) pa_nil)) (pe_and (pe_call GP_is_int (hr.mono (by omega)) (by rfl) dP_is_int.g dP_is_int.F.kp dP_is_int.b .nil pass0 (pa_cons (pe_ix ix_tup (pv 0) pe_int (fun _ _ => rfl)) pa_nil)) (pe_one (pe_cmpR op_ge (pe_ix ix_tup (pv 0) pe_int (fun _ _ => rfl)) pe_int (nomark _)))))))), ?_⟩
    refine ⟨.ref t, rfl, .ref t, _, _, _, true, rfl, .ty "tuple", tyT hp, kit_ty (by decide +kernel), true, rfl, iteF ?_⟩
    refine ⟨.ref t, rfl, t, _, rfl, .inr hp, rfl, false, rfl, iteF ?_⟩
    refine ⟨.ref t, rfl, t, _, _, _, rfl, rfl, hp, atI_nat (j := 0) rfl, e.1, rfl, hn, fun H1 s1 => ⟨true, rfl, iteT ?_⟩⟩
    have hp1 : PrAt K H1 t e := seqT hp s1
    refine ⟨.ref t, rfl, t, _, _, _, rfl, rfl, hp1, atI_nat (j := 1) rfl, e.2, rfl, true, rfl, iteT ?_⟩
    refine ⟨.ref t, rfl, t, _, _, _, rfl, rfl, hp1, atI_nat (j := 1) rfl, _, _, rfl, rfl, ?_⟩
    show Q (.bl (decide (1 ≤ e.2))) H1
    rw [decide_eq_true h1]
    exact q H1 s1
/-! are_counts -/
def spAreCounts (K : PySem.W.Frag) : Sp := fun vs H Q _ => ∃ (k : Addr) (kvs : Ct), vs = [.ref k] ∧ CtAt K H k kvs ∧ Cts kvs ∧ ∀ H', Same H H' → Q (.bl true) H'
theorem ok_are_counts (T : Blt mg) (cL : Cst mg "LONGEST_NAME" (.int 8)) (dP_is_int : DnIsInt K mg) (dP_is_name : DnIsName K mg) (dP_is_counted : DnIsCounted K mg) (d : DnAreCounts K mg) : FnOk P w K mg base CX0 3 d.f d.fd ["thing"] (spAreCounts K) := by
  have GP_is_counted : FnOk P w K mg base CX0 2 dP_is_counted.f dP_is_counted.fd ["pair"] (spIsCounted K) := ok_is_counted T cL dP_is_int dP_is_name dP_is_counted
  refine d.F.ok scP_are_counts (fun vs H Q E h => ?_) (fun cdv A outer s H vs Q E hr h => ?_)
  · obtain ⟨k, kvs, rfl, _⟩ := h
    rfl
  · obtain ⟨k, kvs, rfl, ⟨ts, hS, hp⟩, hc, q⟩ := h
    refine ⟨_, (pss_cons (ps_if (pt_not (pt_val (pe_callB call_isi (by rfl) T.n_isinstance (by decide +kernel) (pa_cons (pv 0) (pa_cons (pe_bltn (v := .ty "tuple") (by rfl) T.n_tuple (by decide +kernel) rfl) pa_nil)))))
      (pss_one (ps_ret pe_bl))
      pss_nil)
    (pss_cons (ps_set (i := 1) scP_are_counts.nd rfl (Or.inl rfl) pe_str)
    (pss_cons (ps_for PassesOwn.never rfl (pi_tup (pv 0)) (pg_name (i := 2) scP_are_counts.nd rfl (Or.inl rfl))
      (pss_cons (ps_if (PW.pt (pw_or (pt_not (pt_val (pe_call GP_is_counted (hr.mono (by omega)) (by rfl) dP_is_counted.g dP_is_counted.F.kp dP_is_counted.b .nil pass0 (pa_cons (pv 2) pa_nil)))) (pw_or1 (pt_cmpR op_le_str (pe_ix ix_tup (pv 2) pe_int (fun _ _ => rfl)) (pv 1) (nomark _)))))
        (pss_one (ps_ret pe_bl))
        pss_nil)
      (pss_one (ps_set (i := 1) scP_are_counts.nd rfl (Or.inl rfl) (pe_ix ix_tup (pv 2) pe_int (fun _ _ => rfl))))))
    (pss_one (ps_ret pe_bl))))), ?_⟩
    refine ⟨.ref k, rfl, .ref k, _, _, _, true, rfl, .ty "tuple", tyT hS, kit_ty (by decide +kernel), true, rfl, iteF ?_⟩
    refine ⟨.ref k, rfl, k, rfl, ⟨_, hS⟩, for_tup (xs := ts.map V.ref) (fun i σ H3 => ∃ (la : Str) (x : Option V), σ = [some (.ref k), some (.str la), x] ∧ Same H H3 ∧ (i = 0 → la = Str.ofString "") ∧ ∀ j e, i = j + 1 → kvs[j]? = some e → la = e.1)
      ⟨Str.ofString "", none, rfl, Same.refl H, fun _ => rfl, fun j e h => by omega⟩ (fun i σ H3 _ ⟨_, _, _, s3, _⟩ => seqT hS s3) ?_ ?_⟩
    · rintro i v σ H3 hi ⟨la, x, rfl, s3, e0, e1⟩
      obtain ⟨t, ht, rfl⟩ := map_at hi
      obtain ⟨e, he, hat⟩ := paired_at hp ht
      have hm := List.mem_of_getElem? he
      refine ⟨.ref t, rfl, t, e, rfl, seqT hat s3, hc.nm e hm, hc.pos e hm, fun H4 s4 => ⟨true, rfl, iteF ?_⟩⟩
      have hat4 : PrAt K H4 t e := seqT hat fun b o z => s4 b o (s3 b o z)
      have hlt : decide (la.cps.toList < e.1.cps.toList) = true := by
        cases i with
        | zero =>
          rw [e0 rfl]
          have h1 := (hc.nm e hm).pos
          have : (Str.ofString "").cps.toList = [] := by decide +kernel
          rw [this]
          refine decide_eq_true ?_
          cases hz : e.1.cps.toList with
          | nil =>
            have : e.1.length = 0 := by rw [← cs_len]; unfold cs; rw [hz]; rfl
            omega
          | cons c r => exact List.nil_lt_cons c r
        | succ j =>
          obtain ⟨e', he'⟩ : ∃ e', kvs[j]? = some e' := ⟨kvs[j]'(by have := (List.getElem?_eq_some_iff.mp he).1; omega), by simp⟩
          rw [e1 j e' rfl he']
          exact (List.pairwise_iff_getElem.mp hc.asc) j (j + 1) (List.getElem?_eq_some_iff.mp he').1 (List.getElem?_eq_some_iff.mp he).1 (by omega) |> fun h => by
            rw [(List.getElem?_eq_some_iff.mp he').2, (List.getElem?_eq_some_iff.mp he).2] at h
            exact h
      refine ⟨.ref t, rfl, t, _, _, _, rfl, rfl, hat4, atI_nat (j := 0) rfl, .str la, rfl, _, _, rfl, rfl, false, ?_, iteF ?_⟩
      · show V.bl (!decide (la.cps.toList < e.1.cps.toList)) = _
        rw [hlt]
        rfl
      refine ⟨.ref t, rfl, t, _, _, _, rfl, rfl, hat4, atI_nat (j := 0) rfl, e.1, some (.ref t), rfl, fun b o z => s4 b o (s3 b o z), fun h => by omega, fun j e' h1 h2 => ?_⟩
      have : j = i := by omega
      subst this
      rw [he] at h2
      cases h2
      rfl
    · rintro σ H3 ⟨la, x, rfl, s3, _⟩
      exact q H3 s3
/-! lost_of -/
def spLostOf (K : PySem.W.Frag) : Sp := fun vs H Q _ => ∃ (s k : Addr) (room many off : Int) (kvs : Ct), vs = [.ref s] ∧ SqT K H s [.int room, .int many, .int off, .ref k] ∧ CtAt K H k kvs ∧ kvs.length ≤ 1000 ∧ ∀ H', Same H H' → Q (.int (many - sumC kvs)) H'
theorem ok_lost_of (T : Blt mg) (d : DnLostOf K mg) : FnOk P w K mg base CX0 1 d.f d.fd ["sketch"] (spLostOf K) := by
  refine d.F.ok scP_lost_of (fun vs H Q E h => ?_) (fun cdv A outer s H vs Q E hr h => ?_)
  · obtain ⟨s, k, _, _, _, _, rfl, _⟩ := h
    rfl
  · obtain ⟨s, k, room, many, off, kvs, rfl, hs, ⟨ts, hS, hp⟩, hl, q⟩ := h
    refine ⟨_, (pss_one (ps_ret (pe_op op_sub (pe_ix ix_tup (pv 0) pe_int (fun _ _ => rfl)) (pe_callB (cr_sum rfl) (by rfl) T.n_sum (by decide +kernel) (pa_cons (pe_lc (own := [("_", 1), ("count", 2)]) (g := gTup K 2 (gCons (gName 1) (gCons (gName 2) gNil))) (tt := tYes) rfl scP_lost_of.nd (pi_tup (pe_ix ix_tup (pv 0) pe_int (fun _ _ => rfl))) (blkOk_by (N := NP_lost_of) (sc := defScope sP_lost_of) (by decide +kernel)) (fun _ _ _ _ _ => pg_tup (by rfl) (pgs_cons (pg_name (i := 1) scP_lost_of.nd rfl (Or.inl rfl)) (pgs_cons (pg_name (i := 2) scP_lost_of.nd rfl (Or.inl rfl)) pgs_nil))) (fun _ _ _ _ _ => pts_nil) (fun _ _ _ _ _ => (pv 2))) pa_nil))))), ?_⟩
    refine ⟨.ref s, rfl, s, _, _, _, rfl, rfl, hs, atI_nat (j := 1) rfl, .ref s, rfl, s, _, _, _, rfl, rfl, hs, atI_nat (j := 3) rfl, k, rfl, ⟨_, hS⟩, fun D nD => lc_tup (xs := ts.map V.ref) (fun i H3 => Same H H3 ∧ H3 D = some (.lst ((kvs.take i).map fun e => V.int e.2))) ⟨same_upd nD, upd_same⟩ (fun i H3 _ h3 => seqT hS h3.1) (fun i x H3 hx h3 => ?_) (fun H3 h3 => ?_)⟩
    · obtain ⟨t, ht, rfl⟩ := map_at hx
      obtain ⟨e, he, hat⟩ := paired_at hp ht
      refine ⟨t, _, rfl, seqT hat h3.1, rfl, _, _, rfl, _, _, rfl, rfl, rfl, .int e.2, rfl, _, h3.2, ?_, fun b o z => ?_, ?_⟩
      · rw [List.length_map, List.length_take, sizeLine_eq]
        omega
      · rw [upd_ne (ne_of_none z nD)]
        exact h3.1 b o z
      · rw [upd_same, List.take_add_one, he, List.map_append]
        rfl
    · refine ⟨D, kvs.map (fun e : Str × Int => e.2), rfl, sql ?_, _, _, rfl, rfl, q H3 h3.1⟩
      rw [h3.2, List.length_map, Paired.length hp, List.take_length, List.map_map]
      rfl
/-! is_sketch -/
def skB (room many off : Int) (kvs : Ct) : Bool :=
  (decide (1 ≤ room) && decide (room ≤ 64)) && (decide (0 ≤ many) && (decide (0 ≤ off) && (decide ((kvs.length : Int) ≤ room) && (decide ((room + 1) * off ≤ many - sumC kvs) && decide (many - sumC kvs ≤ 2 * room * off)))))
def spIsSketch (K : PySem.W.Frag) : Sp := fun vs H Q _ => ∃ (s k : Addr) (room many off : Int) (kvs : Ct), vs = [.ref s] ∧ SqT K H s [.int room, .int many, .int off, .ref k] ∧ CtAt K H k kvs ∧ Cts kvs ∧ kvs.length ≤ 1000 ∧ ∀ H', Same H H' → Q (.bl (skB room many off kvs)) H'
theorem ok_is_sketch (T : Blt mg) (cM : Cst mg "MOST_ROOM" (.int 64)) (cL : Cst mg "LONGEST_NAME" (.int 8)) (dP_is_int : DnIsInt K mg) (dP_is_number : DnIsNumber K mg) (dP_is_room : DnIsRoom K mg) (dP_is_name : DnIsName K mg) (dP_is_counted : DnIsCounted K mg) (dP_are_counts : DnAreCounts K mg)
    (dP_lost_of : DnLostOf K mg) (d : DnIsSketch K mg) : FnOk P w K mg base CX0 4 d.f d.fd ["thing"] (spIsSketch K) := by
  have GP_is_room : FnOk P w K mg base CX0 2 dP_is_room.f dP_is_room.fd ["thing"] spIsRoom := ok_is_room T cM dP_is_int dP_is_room
  have GP_is_number : FnOk P w K mg base CX0 2 dP_is_number.f dP_is_number.fd ["thing"] spIsNumber := ok_is_number T dP_is_int dP_is_number
  have GP_are_counts : FnOk P w K mg base CX0 3 dP_are_counts.f dP_are_counts.fd ["thing"] (spAreCounts K) := ok_are_counts T cL dP_is_int dP_is_name dP_is_counted dP_are_counts
  have GP_lost_of : FnOk P w K mg base CX0 1 dP_lost_of.f dP_lost_of.fd ["sketch"] (spLostOf K) := ok_lost_of T dP_lost_of
  refine d.F.ok scP_is_sketch (fun vs H Q E h => ?_) (fun cdv A outer s H vs Q E hr h => ?_)
  · obtain ⟨s, k, _, _, _, _, rfl, _⟩ := h
    rfl
  · obtain ⟨s, k, room, many, off, kvs, rfl, hs, hk, hc, hl, q⟩ := h
    refine ⟨_, (pss_cons (ps_if (PW.pt (pw_or (pt_not (pt_val (pe_callB call_isi (by rfl) T.n_isinstance (by decide +kernel) (pa_cons (pv 0) (pa_cons (pe_bltn (v := .ty "tuple") (by rfl) T.n_tuple (by decide +kernel) rfl) pa_nil))))) (pw_or1 (pt_cmpR op_ne (pe_callB call_len_seq (by rfl) T.n_len (by decide +kernel) (pa_cons (pv 0) pa_nil)) pe_int (nomark _)))))
      (pss_one (ps_ret pe_bl))
      pss_nil)
    (pss_cons (ps_asg (pv 0) (pg_tup (by rfl) (pgs_cons (pg_name (i := 1) scP_is_sketch.nd rfl (Or.inl rfl)) (pgs_cons (pg_name (i := 2) scP_is_sketch.nd rfl (Or.inl rfl)) (pgs_cons (pg_name (i := 3) scP_is_sketch.nd rfl (Or.inl rfl)) (pgs_cons (pg_name (i := 4) scP_is_sketch.nd rfl (Or.inl rfl)) pgs_nil))))))
    (pss_cons (ps_if (PW.pt (pw_or (pt_not (pt_val (pe_call GP_is_room (hr.mono (by omega)) (by rfl) dP_is_room.g dP_is_room.F.kp dP_is_room.b .nil pass0 (pa_cons (pv 1) pa_nil)))) (pw_or (pt_not (pt_val (pe_call GP_is_number (hr.mono (by omega)) (by rfl) dP_is_number.g dP_is_number.F.kp dP_is_number.b .nil pass0 (pa_cons (pv 2) pa_nil)))) (pw_or1 (pt_not (pt_val (pe_call GP_is_number (hr.mono (by omega)) (by rfl) dP_is_number.g dP_is_number.F.kp dP_is_number.b .nil pass0 (pa_cons (pv 3) pa_nil))))))))
      (pss_one (ps_ret pe_bl))
      pss_nil)
    (pss_cons (ps_if (PW.pt (pw_or (pt_not (pt_val (pe_call GP_are_counts (hr.mono (by omega)) (by rfl) dP_are_counts.g dP_are_counts.F.kp dP_are_counts.b .nil pass0 (pa_cons (pv 4) pa_nil)))) (pw_or1 (pt_cmpR op_gt (pe_callB call_len_seq (by rfl) T.n_len (by decide +kernel) (pa_cons (pv 4) pa_nil)) (pv 1) (nomark _)))))
      (pss_one (ps_ret pe_bl))
      pss_nil)
    (pss_one (ps_ret (pe_chain op_le op_le (pe_op op_mul (pe_op op_add (pv 1) pe_int) (pv 3)) (pe_call GP_lost_of (hr.mono (by omega)) (by rfl) dP_lost_of.g dP_lost_of.F.kp dP_lost_of.b .nil pass0 (pa_cons (pv 0) pa_nil)) (pe_op op_mul (pe_op op_mul pe_int (pv 1)) (pv 3))))))))), ?_⟩
    refine ⟨.ref s, rfl, .ref s, _, _, _, true, rfl, .ty "tuple", tyT hs, kit_ty (by decide +kernel), true, rfl, iteF ?_⟩
    refine ⟨.ref s, rfl, s, _, rfl, .inr hs, rfl, false, rfl, iteF ?_⟩
    refine ⟨.ref s, rfl, s, _, rfl, hs, rfl, _, _, rfl, _, _, rfl, _, _, rfl, _, _, rfl, rfl, ?_⟩
    unfold skB at q
    refine ⟨.int room, rfl, room, rfl, _, rfl, ?_⟩
    cases eR : (decide (1 ≤ room) && decide (room ≤ 64)) with
    | false =>
      rw [eR, Bool.false_and] at q
      exact iteT (iteT (q H (Same.refl H)))
    | true =>
      rw [eR, Bool.true_and] at q
      refine iteF ⟨.int many, rfl, many, rfl, _, rfl, ?_⟩
      cases eM : decide (0 ≤ many) with
      | false =>
        rw [eM, Bool.false_and] at q
        exact iteT (iteT (q H (Same.refl H)))
      | true =>
        rw [eM, Bool.true_and] at q
        refine iteF ⟨.int off, rfl, off, rfl, _, rfl, ?_⟩
        cases eO : decide (0 ≤ off) with
        | false =>
          rw [eO, Bool.false_and] at q
          exact iteT (q H (Same.refl H))
        | true =>
          rw [eO, Bool.true_and] at q
          refine iteF ⟨.ref k, rfl, k, kvs, rfl, hk, hc, fun H1 s1 => ⟨true, rfl, iteF ?_⟩⟩
          have hr1 : 1 ≤ room ∧ room ≤ 64 := by
            rw [Bool.and_eq_true, decide_eq_true_eq, decide_eq_true_eq] at eR
            exact eR
          obtain ⟨ts, hS, hp⟩ := hk.same s1
          have el : (ts.map V.ref).length = kvs.length := by rw [List.length_map, Paired.length hp]
          refine ⟨.ref k, rfl, k, _, rfl, .inr hS, .int room, rfl, _, _, rfl, rfl, _, rfl, ?_⟩
          rw [el]
          by_cases eL : (kvs.length : Int) ≤ room
          · rw [show decide ((kvs.length : Int) > room) = false from decide_eq_false (by omega)]
            rw [decide_eq_true eL, Bool.true_and] at q
            refine iteF ?_
            refine ⟨.int room, rfl, _, _, rfl, rfl, .int off, rfl, _, _, rfl, rfl, cmulL (by omega) (by omega), .ref s, rfl, s, k, room, many, off, kvs, rfl, seqT hs s1, ⟨ts, hS, hp⟩, hl, fun H2 s2 => ⟨_, _, rfl, rfl, _, rfl, ?_⟩⟩
            by_cases e1 : (room + 1) * off ≤ many - sumC kvs
            · rw [decide_eq_true e1] at q ⊢
              rw [Bool.true_and] at q
              refine iteT ⟨.int room, rfl, _, _, rfl, rfl, cmulL (by decide) (by decide), .int off, rfl, _, _, rfl, rfl, cmulL (by omega) (by omega), _, _, rfl, rfl, ?_⟩
              exact q H2 fun b o z => s2 b o (s1 b o z)
            · rw [decide_eq_false e1] at q ⊢
              rw [Bool.false_and] at q
              exact iteF (q H2 fun b o z => s2 b o (s1 b o z))
          · rw [show decide ((kvs.length : Int) > room) = true from decide_eq_true (by omega)]
            rw [decide_eq_false eL, Bool.false_and] at q
            exact iteT (q H1 s1)
/-! bare -/
def spBare : Sp := fun vs H Q _ => ∃ room : Int, vs = [.int room] ∧ 1 ≤ room ∧ room ≤ 64 ∧ ∀ H' s k, Same H H' → H s = none → H' s = some (.tup [.int room, .int 0, .int 0, .ref k]) → Ptp H' k [] → Q (.ref s) H'
end
end Kb

namespace L2
open PySem PySem.Spec PyProof.Rows SrtO SrtZ
section
variable {X : Cx}
/-- min(d.values()), values ints -/
def rMinV : List V → Hp → VK → Prop := fun vs H Q => ∃ (p d : Addr) (ks : List (Str × Int)), vs = [V.ref p] ∧ H p = some (valuesO p d) ∧ H d = some (.dK (ks.map entZ)) ∧ 0 < ks.length ∧
  ∀ m, m ∈ ks.map (·.2) → (∀ y ∈ ks.map (·.2), m ≤ y) → Q (.int m) H
theorem cr_minV (hc : X.calm = true) : CallR X (.builtin "min") rMinV := by
  intro pins s σ H vs us Q I r h
  obtain ⟨p, d, ks, rfl, hp, ha, hne, q⟩ := h
  obtain rfl := Vals.ref1 r
  have view : s.heap.IsValuesView p d := (show ObjOk X.prog X.w H s.heap p (valuesO p d) from I.hok p _ hp).1
  obtain ⟨z, hd, xs', rel, dd⟩ := dk_of I.hok ha
  obtain ⟨ep, hat⟩ := dd.dictAt
  have l1 : ks.length = xs'.length := by
    have := Paired.length rel
    rwa [List.length_map] at this
  have K := PySem.W.kdl_values (prog := X.prog) (w := X.w) (knd := mixKind X.prog X.w) (kvs := xs') (ep := ep) (r := p) (d := d)
  have hok : s.heap.IsValuesView p d ∧ s.heap.DictAt (mixKind X.prog X.w) d xs' ep := ⟨view, hat⟩
  have hval : ∀ (i : Nat) (v : Value), (∃ k, xs'[i]? = some (k, v)) → ∃ t : Tok, v = Value.int ((ks.map (·.2)).getD i 0) t := fun i v ⟨k, e⟩ => by
    obtain ⟨e', t, e1, e2⟩ := ent_paired rel e
    refine ⟨t, ?_⟩
    have : (ks.map (·.2)).getD i 0 = e'.2 := by simp [List.getD, e1]
    rw [this]
    exact (Prod.mk.inj e2).2
  refine PySem.call_min_walkS ?_
  obtain ⟨oI, St, hit, W, st⟩ := K.iter X.A.in1 s (I.ok.hd hc) hok
  refine hit _ _ ⟨s.heap.objs.size, _, _, _, xs'.length, _, _, fun i j => decide ((ks.map (·.2)).getD i 0 < (ks.map (·.2)).getD j 0), rfl, W.toS, st, fun b hb => ?_, by omega, PySem.CmpOf.ints_lt _ hval, fun v s' hP hm => ?_⟩
  · show b < (s.heap.push oI).objs.size
    rw [size_push']
    rcases List.mem_cons.mp hb with e | hb
    · rw [e]; exact Nat.lt_succ_self _
    · rw [List.mem_singleton.mp hb]; exact Nat.lt_succ_of_lt (K.there _ hok).2
  · have hk : ∀ b o, s.heap.get? b = some o → s'.heap.get? b = some o := fun b o e =>
      hm.heap b o (fun hI => absurd (Heap.lt_size e) (by rw [List.mem_singleton.mp hI]; exact Nat.lt_irrefl _)) (Heap.get?_push_of_some _ e)
    obtain ⟨t, rfl⟩ := hval _ v hP
    obtain ⟨h1, h2⟩ := argBest_lt (fun i => (ks.map (·.2)).getD i 0) (xs'.length - 1)
    have hI : Inv X pins σ H s' := by
      rw [Moved.eq_with hm]
      exact I.kept (t' := s'.toks) hk
    refine ⟨.int _, H, hI, ⟨t, rfl⟩, q _ ?_ fun a ha => ?_⟩
    · exact PySem.getD_mem (by rw [List.length_map]; omega)
    · obtain ⟨j, hj, rfl⟩ := mem_getD ha
      rw [List.length_map] at hj
      exact h2 j (by omega)
end
end L2

namespace Kb
open PySem PySem.Spec PyProof.Rows L2 SrtZ
abbrev NTinit : List Str := ["self", "sketch", "kept"]
abbrev NTsketch : List Str := ["self"]
abbrev NTfeed : List Str := ["self", "name", "times", "amount"]
abbrev NTpour : List Str := ["self", "sketch", "_", "many", "off", "kept", "name", "count", "falling"]
abbrev NTtake : List Str := ["self", "amount", "name", "count"]
/-! the fields -/
theorem k_mr : ¬ (("room" : Str) = "seen") := by decide +kernel
theorem k_or : ¬ (("room" : Str) = "off") := by decide +kernel
theorem k_om : ¬ (("seen" : Str) = "off") := by decide +kernel
theorem k_cr : ¬ (("room" : Str) = "counts") := by decide +kernel
theorem k_cm : ¬ (("seen" : Str) = "counts") := by decide +kernel
theorem k_co : ¬ (("off" : Str) = "counts") := by decide +kernel
def fl (r m o : Int) (d : Addr) : List (Str × V) := [(("room" : Str), V.int r), (("seen" : Str), V.int m), (("off" : Str), V.int o), (("counts" : Str), V.ref d)]
theorem fl_mk (r m o : Int) (d : Addr) : putF "counts" (.ref d) (putF "off" (.int o) (putF "seen" (.int m) (putF "room" (.int r) []))) = fl r m o d := by
  show putF "counts" (.ref d) (putF "off" (.int o) (if ("room" : Str) = "seen" then _ else (("room" : Str), V.int r) :: [(("seen" : Str), V.int m)])) = _
  rw [if_neg k_mr]
  show putF "counts" (.ref d) (if ("room" : Str) = "off" then _ else (("room" : Str), V.int r) :: (if ("seen" : Str) = "off" then _ else (("seen" : Str), V.int m) :: [(("off" : Str), V.int o)])) = _
  rw [if_neg k_or, if_neg k_om]
  show (if ("room" : Str) = "counts" then _ else (("room" : Str), V.int r) :: (if ("seen" : Str) = "counts" then _ else (("seen" : Str), V.int m) :: (if ("off" : Str) = "counts" then _ else (("off" : Str), V.int o) :: [(("counts" : Str), V.ref d)]))) = _
  rw [if_neg k_cr, if_neg k_cm, if_neg k_co]
  rfl
theorem fl_many (r m o x : Int) (d : Addr) : putF "seen" (.int x) (fl r m o d) = fl r x o d := by
  show (if ("room" : Str) = "seen" then _ else (("room" : Str), V.int r) :: (if ("seen" : Str) = "seen" then _ else _)) = _
  rw [if_neg k_mr, if_pos rfl]
  rfl
theorem fl_off (r m o x : Int) (d : Addr) : putF "off" (.int x) (fl r m o d) = fl r m x d := by
  show (if ("room" : Str) = "off" then _ else (("room" : Str), V.int r) :: (if ("seen" : Str) = "off" then _ else (("seen" : Str), V.int m) :: (if ("off" : Str) = "off" then _ else _))) = _
  rw [if_neg k_or, if_neg k_om, if_pos rfl]
  rfl
theorem fl_counts (r m o : Int) (d x : Addr) : putF "counts" (.ref x) (fl r m o d) = fl r m o x := by
  show (if ("room" : Str) = "counts" then _ else (("room" : Str), V.int r) :: (if ("seen" : Str) = "counts" then _ else (("seen" : Str), V.int m) :: (if ("off" : Str) = "counts" then _ else (("off" : Str), V.int o) :: (if ("counts" : Str) = "counts" then _ else _)))) = _
  rw [if_neg k_cr, if_neg k_cm, if_neg k_co, if_pos rfl]
  rfl
theorem g_room (r m o : Int) (d : Addr) : (fl r m o d).lookup ("room" : Str) = some (.int r) := by
  rw [← fl_mk, lookup_putF, if_neg k_cr, lookup_putF, if_neg k_or, lookup_putF, if_neg k_mr, lookup_putF, if_pos rfl]
theorem g_many (r m o : Int) (d : Addr) : (fl r m o d).lookup ("seen" : Str) = some (.int m) := by
  rw [← fl_mk, lookup_putF, if_neg k_cm, lookup_putF, if_neg k_om, lookup_putF, if_pos rfl]
theorem g_off (r m o : Int) (d : Addr) : (fl r m o d).lookup ("off" : Str) = some (.int o) := by
  rw [← fl_mk, lookup_putF, if_neg k_co, lookup_putF, if_pos rfl]
theorem g_counts (r m o : Int) (d : Addr) : (fl r m o d).lookup ("counts" : Str) = some (.ref d) := by
  rw [← fl_mk, lookup_putF, if_pos rfl]
theorem g_no (r m o : Int) (d : Addr) {f : Str} (h1 : ¬ f = "counts") (h2 : ¬ f = "off") (h3 : ¬ f = "seen") (h4 : ¬ f = "room") : (fl r m o d).lookup f = none := by
  rw [← fl_mk, lookup_putF, if_neg h1, lookup_putF, if_neg h2, lookup_putF, if_neg h3, lookup_putF, if_neg h4]
  rfl
/-! counts in a dict -/
def getZ (kvs : Ct) (n : Str) : Option Int := (kvs.find? fun e => decide (e.1 = n)).map (·.2)
def putZ (kvs : Ct) (n : Str) (v : Int) : Ct := if (kvs.any fun e => decide (e.1 = n)) = true then kvs.map (fun e => if e.1 = n then (e.1, v) else e) else kvs ++ [(n, v)]
def addZ (kvs : Ct) (n : Str) (c : Int) : Ct := putZ kvs n ((getZ kvs n).getD 0 + c)
def takeZ (a : Int) (kvs : Ct) : Ct := (kvs.filter fun e => decide (a < e.2)).map fun e => (e.1, e.2 - a)
theorem ent_dec (e : Str × Int) (n : Str) : decide ((entZ e).1 = (Sum.inr n : Key)) = decide (e.1 = n) := key_rr _ _
theorem getZ_val (n : Str) : ∀ kvs : Ct, valV (kvs.map entZ) (Sum.inr n : Key) = (getZ kvs n).map V.int
  | [] => rfl
  | e :: r => by
    have ih := getZ_val n r
    unfold getZ at ih ⊢
    rw [List.map_cons]
    by_cases h : e.1 = n
    · rw [valV_pos (show (entZ e).1 = Sum.inr n by rw [← h])]
      simp [h]
    · rw [valV_neg (show ¬ (entZ e).1 = Sum.inr n from fun z => h (Sum.inr.inj z)), ih]
      simp [h]
theorem putZ_put (kvs : Ct) (n : Str) (v : Int) : putK (kvs.map entZ) (Sum.inr n : Key) (.int v) = (putZ kvs n v).map entZ := by
  unfold putK putZ
  have e : ((kvs.map entZ).any fun kv => decide (kv.1 = (Sum.inr n : Key))) = kvs.any fun e => decide (e.1 = n) := by
    rw [List.any_map]
    congr 1
    funext e
    exact ent_dec e n
  rw [e]
  by_cases h : (kvs.any fun e => decide (e.1 = n)) = true
  · rw [if_pos h, if_pos h, List.map_map, List.map_map]
    refine List.map_congr_left fun e _ => ?_
    show (if (Sum.inr e.1 : Key) = Sum.inr n then _ else _) = entZ (if e.1 = n then _ else _)
    by_cases h2 : e.1 = n
    · rw [if_pos h2, if_pos (by rw [h2])]
    · rw [if_neg h2, if_neg (fun z => h2 (Sum.inr.inj z))]
  · rw [if_neg h, if_neg h, List.map_append]
    rfl
abbrev NdZ (kvs : Ct) : Prop := (kvs.map (·.1)).Nodup
theorem getZ_none {kvs : Ct} {n : Str} : getZ kvs n = none ↔ n ∉ kvs.map (·.1) := by
  unfold getZ
  rw [Option.map_eq_none_iff, List.find?_eq_none]
  constructor
  · intro h z
    obtain ⟨e, he, rfl⟩ := List.mem_map.mp z
    have := h e he
    simp at this
  · intro h e he z
    exact h (List.mem_map.mpr ⟨e, he, of_decide_eq_true z⟩)
theorem any_getZ (n : Str) (kvs : Ct) : (kvs.any fun e => decide (e.1 = n)) = (getZ kvs n).isSome := by
  cases h : getZ kvs n with
  | none =>
    rw [getZ_none] at h
    show _ = false
    rw [List.any_eq_false]
    intro e he z
    exact h (List.mem_map.mpr ⟨e, he, of_decide_eq_true z⟩)
  | some v =>
    show _ = true
    rw [List.any_eq_true]
    unfold getZ at h
    cases hf : kvs.find? fun e => decide (e.1 = n) with
    | none => rw [hf] at h; cases h
    | some e =>
      have h2 := List.find?_some (p := fun e : Str × Int => decide (e.1 = n)) hf
      exact ⟨e, List.mem_of_find?_eq_some hf, h2⟩
theorem putZ_new {kvs : Ct} {n : Str} {v : Int} (h : getZ kvs n = none) : putZ kvs n v = kvs ++ [(n, v)] := by
  unfold putZ
  rw [any_getZ, h]
  exact if_neg (by decide)
theorem putZ_keys_old {kvs : Ct} {n : Str} {v : Int} (h : (getZ kvs n).isSome = true) : (putZ kvs n v).map (·.1) = kvs.map (·.1) := by
  unfold putZ
  rw [any_getZ, if_pos h, List.map_map]
  refine List.map_congr_left fun e _ => ?_
  show (if e.1 = n then _ else _ : Str × Int).1 = e.1
  split <;> rfl
theorem putZ_nd {kvs : Ct} {n : Str} {v : Int} (nd : NdZ kvs) : NdZ (putZ kvs n v) := by
  unfold NdZ
  cases h : getZ kvs n with
  | none =>
    rw [putZ_new h, List.map_append, List.nodup_append]
    refine ⟨nd, by simp, fun a ha b hb => ?_⟩
    rw [List.map_cons, List.map_nil, List.mem_singleton] at hb
    rw [hb]
    intro e
    have e' : a = n := e
    exact getZ_none.mp h (by rw [← e']; exact ha)
  | some x =>
    rw [putZ_keys_old (by rw [h]; rfl)]
    exact nd
theorem putZ_len {kvs : Ct} {n : Str} {v : Int} : (putZ kvs n v).length ≤ kvs.length + 1 := by
  cases h : getZ kvs n with
  | none => rw [putZ_new h, List.length_append]; exact Nat.le_refl _
  | some x =>
    have := congrArg List.length (putZ_keys_old (v := v) (show (getZ kvs n).isSome = true by rw [h]; rfl))
    rw [List.length_map, List.length_map] at this
    omega
theorem takeZ_nd {a : Int} {kvs : Ct} (nd : NdZ kvs) : NdZ (takeZ a kvs) := by
  unfold NdZ takeZ
  rw [List.map_map]
  exact List.Nodup.sublist (List.Sublist.map _ List.filter_sublist) nd
theorem takeZ_len {a : Int} {kvs : Ct} : (takeZ a kvs).length ≤ kvs.length := by
  unfold takeZ
  rw [List.length_map]
  exact List.length_filter_le _ _
theorem mergeZ : ∀ (more kvs : Ct), NdZ (kvs ++ more) → mergeK (kvs.map entZ) (more.map entZ) = (kvs ++ more).map entZ
  | [], kvs, _ => by
    rw [List.append_nil]
    rfl
  | e :: r, kvs, nd => by
    have nm : getZ kvs e.1 = none := getZ_none.mpr fun z => by
      unfold NdZ at nd
      rw [List.map_append, List.nodup_append] at nd
      exact nd.2.2 _ z _ (List.mem_map.mpr ⟨e, List.mem_cons_self, rfl⟩) rfl
    show mergeK (putK (kvs.map entZ) (Sum.inr e.1) (.int e.2)) (r.map entZ) = _
    rw [putZ_put, putZ_new nm, mergeZ r (kvs ++ [e]) (by rw [List.append_assoc]; exact nd), List.append_assoc]
    rfl
/-! a Tally -/
structure TalAt (C : Addr) (H : Hp) (t d : Addr) (r m o : Int) (kvs : Ct) : Prop where
  ob : ∃ dx, H t = some (.ins C dx (fl r m o d))
  dc : H d = some (.dK (kvs.map entZ))
theorem TalAt.ne {C : Addr} {H : Hp} {t d : Addr} {r m o : Int} {kvs : Ct} (h : TalAt C H t d r m o kvs) : t ≠ d := by
  obtain ⟨dx, e⟩ := h.ob
  exact ne_of e h.dc (by intro z; cases z)
theorem TalAt.same {C : Addr} {H H' : Hp} {t d : Addr} {r m o : Int} {kvs : Ct} (h : TalAt C H t d r m o kvs) (s : Same H H') : TalAt C H' t d r m o kvs := by
  obtain ⟨⟨dx, e⟩, e2⟩ := h
  exact ⟨⟨dx, s _ _ e⟩, s _ _ e2⟩
/-- all but the tally stays -/
def But (t d : Addr) (H H' : Hp) : Prop := ∀ b u, b ≠ t → b ≠ d → H b = some u → H' b = some u
theorem But.refl (t d : Addr) (H : Hp) : But t d H H := fun _ _ _ _ e => e
theorem But.trans {t d : Addr} {H H1 H2 : Hp} (x : But t d H H1) (y : But t d H1 H2) : But t d H H2 := fun b u n1 n2 e => y b u n1 n2 (x b u n1 n2 e)
theorem But.same {t d : Addr} {H H1 H2 : Hp} (x : But t d H H1) (y : Same H1 H2) : But t d H H2 := fun b u n1 n2 e => y b u (x b u n1 n2 e)
theorem But.upT {t d : Addr} {H H1 : Hp} {u : HO} (x : But t d H H1) : But t d H (upd H1 t u) := fun b v n1 n2 e => by
  rw [upd_ne n1]
  exact x b v n1 n2 e
theorem But.upD {t d : Addr} {H H1 : Hp} {u : HO} (x : But t d H H1) : But t d H (upd H1 d u) := fun b v n1 n2 e => by
  rw [upd_ne n2]
  exact x b v n1 n2 e
theorem But.new {t d p : Addr} {H H1 : Hp} {u : HO} (x : But t d H H1) (h : H1 p = none) : But t d H (upd H1 p u) := x.same (same_upd h)
theorem ents_paired {K : PySem.W.Frag} {H : Hp} : ∀ {ts : List Addr} {kvs : Ct}, Paired (PrAt K H) ts kvs → Paired (fun p kv => SqT K H p [kV kv.1, kv.2]) ts (kvs.map entZ)
  | _, _, .nil => .nil
  | _, _, .cons h t => .cons h (ents_paired t)
theorem seq_upd {K : PySem.W.Frag} {H : Hp} {a t : Addr} {xs : List V} {C dx : Addr} {fs : List (Str × V)} {u : HO} (h : SqT K H a xs) (ht : H t = some (.ins C dx fs)) : SqT K (upd H t u) a xs := by
  rcases h with (h | ⟨o, h⟩) | h
  · exact .inl (.inl (by rw [upd_ne (ne_of h ht (by intro z; cases z))]; exact h))
  · exact .inl (.inr ⟨o, by rw [upd_ne (ne_of h ht (by intro z; cases z))]; exact h⟩)
  · exact .inr h
theorem prs_upd {K : PySem.W.Frag} {H : Hp} {t : Addr} {C dx : Addr} {fs : List (Str × V)} {u : HO} (ht : H t = some (.ins C dx fs)) : ∀ {ts : List Addr} {kvs : Ct}, Paired (PrAt K H) ts kvs → Paired (PrAt K (upd H t u)) ts kvs
  | _, _, .nil => .nil
  | _, _, .cons h q => .cons (seq_upd h ht) (prs_upd ht q)
section
variable {P : Program} {w : World} {K : PySem.W.Frag} {mg : Str → Option Value} {base : Heap}
/-! Tally.__init__ -/
def spTinit (K : PySem.W.Frag) (C : Addr) : Sp := fun vs H Q _ => ∃ (t dx s k : Addr) (r m o : Int) (ts : List Addr) (kvs : Ct), vs = [.ref t, .ref s] ∧ H t = some (.ins C dx []) ∧ SqT K H s [.int r, .int m, .int o, .ref k] ∧ Ptp H k (ts.map V.ref) ∧ Paired (PrAt K H) ts kvs ∧ NdZ kvs ∧
  ∀ H' d, (∀ b u, b ≠ t → H b = some u → H' b = some u) → H d = none → TalAt C H' t d r m o kvs → Q .non H'
end
end Kb

namespace L2
section
variable {J : It} {n : Nat} {G : Hp → Prop} {Y : Nat → Hp → V → Hp → Prop}
/-- a dict comprehension over a walk -/
theorem dc_it (w : Walk J n G Y) {g : TG} {tt : TT} {tk tv : TE} {vs : List Nat} {σ : St} {H1 : Hp} {D : PySem.Addr} {Qd : Hp → Prop} (Pv : Nat → Hp → Prop) (h0 : Pv 0 (upd H1 D (.dK []))) (hG : ∀ i H, i ≤ n → Pv i H → G H)
    (hs : ∀ i x H H', i < n → Pv i H → Y i H x H' → g x (wipe σ vs) H' fun σ2 H2 => wipe σ2 vs = wipe σ vs ∧ tt σ2 H2 fun b H3 =>
      if b = true then tk σ2 H3 fun y H4 => tv σ2 H4 fun z H5 => ∃ kvs k, y = kV k ∧ H5 D = some (.dK kvs) ∧ kvs.length < PySem.sizeLine ∧ Pv (i + 1) (upd H5 D (.dK (putK kvs k z))) else Pv (i + 1) H3) (hd : ∀ H, Pv n H → Qd H) :
    ∃ W : Nat → Nat → Hp → Prop, (∃ m, W 0 m (upd H1 D (.dK []))) ∧ ∀ i m H, W i m H →
      (J.stop i H ∧ Qd H) ∨ (J.go i H ∧ ∃ Nx : Hp → Prop, (∀ H', Nx H' → ∃ m', m' < m ∧ W (i + 1) m' H') ∧ ∀ x H', J.yld i H x H' → g x (wipe σ vs) H' fun σ2 H2 => wipe σ2 vs = wipe σ vs ∧ tt σ2 H2 fun b H3 =>
        if b = true then tk σ2 H3 fun y H4 => tv σ2 H4 fun z H5 => ∃ kvs k, y = kV k ∧ H5 D = some (.dK kvs) ∧ kvs.length < PySem.sizeLine ∧ Nx (upd H5 D (.dK (putK kvs k z))) else Nx H3) := by
  refine ⟨fun i m H => m = n - i ∧ i ≤ n ∧ Pv i H, ⟨n, by simp, Nat.zero_le _, h0⟩, ?_⟩
  rintro i m H ⟨rfl, hi, p⟩
  have q := hG i H hi p
  by_cases hlt : i < n
  · refine .inr ⟨w.goes i H hlt q, Pv (i + 1), fun H' p' => ⟨n - (i + 1), by omega, rfl, hlt, p'⟩, fun x H' y => hs i x H H' hlt p (w.yields i H x H' hlt q y)⟩
  · have e : i = n := by omega
    subst e
    exact .inl ⟨w.stops H q, hd H p⟩
end
end L2
namespace Kb
open PySem PySem.Spec PyProof.Rows L2 SrtZ SrtO
def Asc (kvs : Ct) : Prop := kvs.Pairwise fun a b => ltZ a.1 b.1 = true
/-- sorted, names unlike: ascending -/
theorem asc_of {ys kvs : Ct} (h : Srtd lexZ ys) (p : ys.Perm kvs) (nd : NdZ kvs) : Asc ys := by
  have nd2 : (ys.map (·.1)).Nodup := (p.map (·.1)).nodup_iff.mpr nd
  rw [List.Nodup, List.pairwise_map] at nd2
  refine List.Pairwise.imp₂ (fun {a b} h1 h2 => ?_) h nd2
  rw [lexZ_ne (fun e => h2 e.symm)] at h1
  rcases bcase (ltZ a.1 b.1) with q | q
  · exact q
  · exact absurd (ltZ_tri q h1) h2
theorem asc_uniq {xs ys : Ct} (hx : Asc xs) (hy : Asc ys) (p : xs.Perm ys) : xs = ys :=
  List.Perm.eq_of_pairwise (le := fun (a b : Str × Int) => ltZ a.1 b.1 = true) (fun a b _ _ h1 h2 => by
    have := ltZ_asym h1
    rw [h2] at this
    cases this) hx hy p
theorem putZ_snoc {kvs : Ct} {n : Str} {v : Int} (h : n ∉ kvs.map (·.1)) : putZ kvs n v = kvs ++ [(n, v)] := putZ_new (getZ_none.mpr h)
theorem takeZ_snoc (a : Int) (kvs : Ct) (e : Str × Int) : takeZ a (kvs ++ [e]) = takeZ a kvs ++ (if a < e.2 then [(e.1, e.2 - a)] else []) := by
  unfold takeZ
  rw [List.filter_append, List.map_append]
  by_cases h : a < e.2
  · rw [if_pos h, List.filter_cons_of_pos (by simpa using h)]
    rfl
  · rw [if_neg h, List.filter_cons_of_neg (by simpa using h)]
    rfl
theorem takeZ_keys {a : Int} {kvs : Ct} {n : Str} (h : n ∈ (takeZ a kvs).map (·.1)) : n ∈ kvs.map (·.1) := by
  unfold takeZ at h
  rw [List.map_map] at h
  obtain ⟨e, he, rfl⟩ := List.mem_map.mp h
  exact List.mem_map.mpr ⟨e, (List.mem_filter.mp he).1, rfl⟩
section
variable {P : Program} {w : World} {K : PySem.W.Frag} {mg : Str → Option Value} {base : Heap}
/-! Tally.sketch -/
def spTsketch (C : Addr) : Sp := fun vs H Q _ => ∃ (t d : Addr) (r m o : Int) (kvs : Ct), vs = [.ref t] ∧ TalAt C H t d r m o kvs ∧ NdZ kvs ∧ kvs.length ≤ 1000 ∧
  ∀ H' s k (ys : Ct) (ts : List Addr), Same H H' → H s = none → H' s = some (.tup [.int r, .int m, .int o, .ref k]) → Ptp H' k (ts.map V.ref) → Paired (fun (t : Addr) (y : Str × Int) => H' t = some (.tup [.str y.1, .int y.2])) ts ys → ys.Perm kvs → Asc ys → Q (.ref s) H'
/-! Tally._take -/
def spTtake (C : Addr) : Sp := fun vs H Q _ => ∃ (t d : Addr) (r m o a : Int) (kvs : Ct), vs = [.ref t, .int a] ∧ TalAt C H t d r m o kvs ∧ NdZ kvs ∧ kvs.length ≤ 1000 ∧
  ∀ H' d', But t d H H' → H d' = none → TalAt C H' t d' r m (o + a) (takeZ a kvs) → Q .non H'
end
end Kb

namespace Kb
open PySem PySem.Spec PyProof.Rows L2 SrtZ SrtO
/-- the least count -/
def mnC : Ct → Int
  | [] => 0
  | [e] => e.2
  | e :: r => if e.2 ≤ mnC r then e.2 else mnC r
theorem mnC_spec : ∀ {kvs : Ct}, kvs ≠ [] → mnC kvs ∈ kvs.map (·.2) ∧ ∀ y ∈ kvs.map (·.2), mnC kvs ≤ y
  | [], h => absurd rfl h
  | [e], _ => ⟨by simp [mnC], fun y hy => by
    have : y = e.2 := by simpa using hy
    rw [this]
    exact Int.le_refl _⟩
  | e :: f :: r, _ => by
    obtain ⟨h1, h2⟩ := mnC_spec (kvs := f :: r) (by simp)
    show (if e.2 ≤ mnC (f :: r) then e.2 else mnC (f :: r)) ∈ _ ∧ ∀ y ∈ _, (if e.2 ≤ mnC (f :: r) then e.2 else mnC (f :: r)) ≤ y
    by_cases h : e.2 ≤ mnC (f :: r)
    · rw [if_pos h]
      refine ⟨by simp, fun y hy => ?_⟩
      rw [List.map_cons] at hy
      rcases List.mem_cons.mp hy with rfl | hy
      · exact Int.le_refl _
      · exact Int.le_trans h (h2 y hy)
    · rw [if_neg h]
      refine ⟨by rw [List.map_cons]; exact List.mem_cons_of_mem _ h1, fun y hy => ?_⟩
      rw [List.map_cons] at hy
      rcases List.mem_cons.mp hy with rfl | hy
      · omega
      · exact h2 y hy
theorem mnC_uniq {kvs : Ct} {m : Int} (h : m ∈ kvs.map (·.2)) (hm : ∀ y ∈ kvs.map (·.2), m ≤ y) : m = mnC kvs := by
  have ne : kvs ≠ [] := by
    rintro rfl
    simp at h
  obtain ⟨h1, h2⟩ := mnC_spec ne
  have a := h2 _ h
  have b := hm _ h1
  omega
/-- what a tally holds: many, off, counts -/
structure Tl where
  m : Int
  o : Int
  c : Ct
def full (r : Int) (n : Str) (kvs : Ct) : Bool := !(getZ kvs n).isSome && decide ((kvs.length : Int) = r)
def feedT (r : Int) (n : Str) (c : Int) (x : Tl) : Tl :=
  if full r n x.c = true then
    let a := if mnC x.c < c then mnC x.c else c
    ⟨x.m + c, x.o + a, if 0 < c - a then addZ (takeZ a x.c) n (c - a) else takeZ a x.c⟩
  else ⟨x.m + c, x.o, if 0 < c then addZ x.c n c else x.c⟩
def sumsZ (more kvs : Ct) : Ct := more.foldl (fun a e => addZ a e.1 e.2) kvs
def fallZ (kvs : Ct) (r : Int) : Int := ((kvs.map (·.2)).mergeSort (fun a b => decide (b ≤ a))).getD r.toNat 0
def pourT (r : Int) (y x : Tl) : Tl :=
  let all := sumsZ y.c x.c
  if r < (all.length : Int) then ⟨x.m + y.m, x.o + y.o + fallZ all r, takeZ (fallZ all r) all⟩ else ⟨x.m + y.m, x.o + y.o, all⟩
theorem fall_uniq {kvs : Ct} {ns : List Int} (p : ns.Perm (kvs.map (·.2))) (h : ns.Pairwise (· ≥ ·)) : ns = (kvs.map (·.2)).mergeSort (fun a b => decide (b ≤ a)) := by
  refine List.Perm.eq_of_pairwise (le := fun (a b : Int) => b ≤ a) (fun a b _ _ h1 h2 => Int.le_antisymm h2 h1) h ?_ (p.trans (List.mergeSort_perm _ _).symm)
  have := List.pairwise_mergeSort (le := fun (a b : Int) => decide (b ≤ a)) (fun a b c h1 h2 => by simp at *; omega) (fun a b => by simp; omega) (kvs.map (·.2))
  exact this.imp fun h => of_decide_eq_true h
theorem addZ_nd {kvs : Ct} {n : Str} {c : Int} (nd : NdZ kvs) : NdZ (addZ kvs n c) := putZ_nd nd
theorem addZ_len {kvs : Ct} {n : Str} {c : Int} : (addZ kvs n c).length ≤ kvs.length + 1 := putZ_len
theorem sumsZ_nd : ∀ {more kvs : Ct}, NdZ kvs → NdZ (sumsZ more kvs)
  | [], _, h => h
  | e :: r, kvs, h => sumsZ_nd (more := r) (addZ_nd (n := e.1) (c := e.2) h)
theorem sumsZ_len : ∀ {more kvs : Ct}, (sumsZ more kvs).length ≤ kvs.length + more.length
  | [], kvs => Nat.le_refl _
  | e :: r, kvs => by
    have h := sumsZ_len (more := r) (kvs := addZ kvs e.1 e.2)
    have h2 := addZ_len (kvs := kvs) (n := e.1) (c := e.2)
    show (sumsZ r (addZ kvs e.1 e.2)).length ≤ kvs.length + (r.length + 1)
    omega
theorem sumsZ_snoc {more kvs : Ct} {i : Nat} {e : Str × Int} (h : more[i]? = some e) : sumsZ (more.take (i + 1)) kvs = addZ (sumsZ (more.take i) kvs) e.1 e.2 := by
  unfold sumsZ
  rw [List.take_add_one, h, List.foldl_append]
  rfl
section
variable {P : Program} {w : World} {K : PySem.W.Frag} {mg : Str → Option Value} {base : Heap}
/-! Tally.feed -/
def spTfeed (C : Addr) : Sp := fun vs H Q _ => ∃ (t d : Addr) (r c : Int) (n : Str) (x : Tl), vs = [.ref t, .str n, .int c] ∧ TalAt C H t d r x.m x.o x.c ∧ NdZ x.c ∧ x.c.length ≤ 500 ∧ 1 ≤ r ∧
  ∀ H' d', But t d H H' → (d' = d ∨ H d' = none) → TalAt C H' t d' r (feedT r n c x).m (feedT r n c x).o (feedT r n c x).c → Q .non H'
end
end Kb

namespace Kb
open PySem PySem.Spec PyProof.Rows L2 SrtZ SrtO
theorem seqT_but {K : PySem.W.Frag} {C : Addr} {H H' : Hp} {t d a : Addr} {r m o : Int} {kvs : Ct} {xs : List V} (h : SqT K H a xs) (ta : TalAt C H t d r m o kvs) (b : But t d H H') : SqT K H' a xs := by
  obtain ⟨⟨dx, ht⟩, hd⟩ := ta
  rcases h with (h | ⟨o, h⟩) | h
  · exact .inl (.inl (b a _ (ne_of h ht (by intro z; cases z)) (ne_of h hd (by intro z; cases z)) h))
  · exact .inl (.inr ⟨o, b a _ (ne_of h ht (by intro z; cases z)) (ne_of h hd (by intro z; cases z)) h⟩)
  · exact .inr h
theorem prs_but {K : PySem.W.Frag} {C : Addr} {H H' : Hp} {t d : Addr} {r m o : Int} {kvs : Ct} (ta : TalAt C H t d r m o kvs) (b : But t d H H') : ∀ {ts : List Addr} {ks : Ct}, Paired (PrAt K H) ts ks → Paired (PrAt K H') ts ks
  | _, _, .nil => .nil
  | _, _, .cons h q => .cons (seqT_but h ta b) (prs_but ta b q)
section
variable {P : Program} {w : World} {K : PySem.W.Frag} {mg : Str → Option Value} {base : Heap}
/-! Tally.pour -/
def spTpour (K : PySem.W.Frag) (C : Addr) : Sp := fun vs H Q _ => ∃ (t d s k : Addr) (r r2 : Int) (x y : Tl), vs = [.ref t, .ref s] ∧ TalAt C H t d r x.m x.o x.c ∧ NdZ x.c ∧ x.c.length ≤ 200 ∧ SqT K H s [.int r2, .int y.m, .int y.o, .ref k] ∧ CtAt K H k y.c ∧ y.c.length ≤ 200 ∧ 0 ≤ r ∧
  ∀ H' d', But t d H H' → (d' = d ∨ H d' = none) → TalAt C H' t d' r (pourT r y x).m (pourT r y x).o (pourT r y x).c → Q .non H'
end
end Kb

namespace Kb
open PySem PySem.Spec PyProof.Rows L2 SrtZ SrtO
/-! what stays true of a tally -/
structure TlOk (r : Int) (x : Tl) : Prop where
  nd : NdZ x.c
  len : (x.c.length : Int) ≤ r
  pos : ∀ e ∈ x.c, 1 ≤ e.2
  nm : ∀ e ∈ x.c, Nm e.1
theorem getZ_pos {kvs : Ct} {n : Str} (pos : ∀ e ∈ kvs, 1 ≤ e.2) : 0 ≤ (getZ kvs n).getD 0 := by
  unfold getZ
  cases h : kvs.find? fun e => decide (e.1 = n) with
  | none => exact Int.le_refl _
  | some e =>
    have := pos e (List.mem_of_find?_eq_some h)
    show 0 ≤ e.2
    omega
theorem putZ_mem {kvs : Ct} {n : Str} {v : Int} {e : Str × Int} (h : e ∈ putZ kvs n v) : e ∈ kvs ∨ e = (n, v) := by
  unfold putZ at h
  split at h
  · obtain ⟨f, hf, rfl⟩ := List.mem_map.mp h
    by_cases hn : f.1 = n
    · rw [if_pos hn]
      exact .inr (by rw [hn])
    · rw [if_neg hn]
      exact .inl hf
  · rcases List.mem_append.mp h with h | h
    · exact .inl h
    · exact .inr (List.mem_singleton.mp h)
theorem addZ_pos {kvs : Ct} {n : Str} {c : Int} (pos : ∀ e ∈ kvs, 1 ≤ e.2) (hc : 1 ≤ c) : ∀ e ∈ addZ kvs n c, 1 ≤ e.2 := fun e he => by
  rcases putZ_mem he with h | h
  · exact pos e h
  · have := getZ_pos (n := n) pos
    rw [h]
    show 1 ≤ _ + c
    omega
theorem addZ_nm {kvs : Ct} {n : Str} {c : Int} (nm : ∀ e ∈ kvs, Nm e.1) (hn : Nm n) : ∀ e ∈ addZ kvs n c, Nm e.1 := fun e he => by
  rcases putZ_mem he with h | h
  · exact nm e h
  · rw [h]
    exact hn
theorem addZ_len_old {kvs : Ct} {n : Str} {c : Int} (h : (getZ kvs n).isSome = true) : (addZ kvs n c).length = kvs.length := by
  have := congrArg List.length (putZ_keys_old (v := (getZ kvs n).getD 0 + c) h)
  rwa [List.length_map, List.length_map] at this
theorem takeZ_mem {a : Int} {kvs : Ct} {e : Str × Int} (h : e ∈ takeZ a kvs) : ∃ f ∈ kvs, a < f.2 ∧ e = (f.1, f.2 - a) := by
  unfold takeZ at h
  obtain ⟨f, hf, rfl⟩ := List.mem_map.mp h
  obtain ⟨h1, h2⟩ := List.mem_filter.mp hf
  exact ⟨f, h1, of_decide_eq_true h2, rfl⟩
theorem takeZ_pos {a : Int} {kvs : Ct} : ∀ e ∈ takeZ a kvs, 1 ≤ e.2 := fun e he => by
  obtain ⟨f, _, h, rfl⟩ := takeZ_mem he
  show 1 ≤ f.2 - a
  omega
theorem takeZ_nm {a : Int} {kvs : Ct} (nm : ∀ e ∈ kvs, Nm e.1) : ∀ e ∈ takeZ a kvs, Nm e.1 := fun e he => by
  obtain ⟨f, hf, _, rfl⟩ := takeZ_mem he
  exact nm f hf
/-- the least one goes when it is taken off -/
theorem takeZ_less {kvs : Ct} (ne : kvs ≠ []) : (takeZ (mnC kvs) kvs).length < kvs.length := by
  obtain ⟨h1, _⟩ := mnC_spec ne
  obtain ⟨e, he, h⟩ := List.mem_map.mp h1
  unfold takeZ
  rw [List.length_map]
  have h2 : (kvs.filter fun e => decide (mnC kvs < e.2)).length ≤ kvs.length := List.length_filter_le _ _
  rcases Nat.lt_or_ge (kvs.filter fun e => decide (mnC kvs < e.2)).length kvs.length with h3 | h3
  · exact h3
  · have h4 : (kvs.filter fun e => decide (mnC kvs < e.2)) = kvs := List.filter_sublist.eq_of_length (by omega)
    rw [← h4] at he
    have := of_decide_eq_true (List.mem_filter.mp he).2
    omega
theorem feedT_ok {r c : Int} {n : Str} {x : Tl} (h : TlOk r x) (hr : 1 ≤ r) (hn : Nm n) (hc : 0 ≤ c) : TlOk r (feedT r n c x) := by
  obtain ⟨nd, len, pos, nm⟩ := h
  unfold feedT
  cases hf : full r n x.c with
  | true =>
    have hfull : (x.c.length : Int) = r := by
      unfold full at hf
      rw [Bool.and_eq_true] at hf
      exact of_decide_eq_true hf.2
    have ne : x.c ≠ [] := by
      intro e
      rw [e] at hfull
      have : (0 : Int) = r := hfull
      omega
    rw [if_pos rfl]
    dsimp only
    generalize ha : (if mnC x.c < c then mnC x.c else c) = a
    by_cases hp : 0 < c - a
    · have ea : a = mnC x.c := by
        by_cases hm : mnC x.c < c
        · rw [if_pos hm] at ha
          exact ha.symm
        · rw [if_neg hm] at ha
          omega
      have hl := takeZ_less ne
      have hl2 := addZ_len (kvs := takeZ a x.c) (n := n) (c := c - a)
      refine ⟨?_, ?_, ?_, ?_⟩ <;> dsimp only <;> rw [if_pos hp]
      · exact addZ_nd (takeZ_nd nd)
      · rw [ea] at hl2 ⊢
        omega
      · exact addZ_pos takeZ_pos (by omega)
      · exact addZ_nm (takeZ_nm nm) hn
    · refine ⟨?_, ?_, ?_, ?_⟩ <;> dsimp only <;> rw [if_neg hp]
      · exact takeZ_nd nd
      · have := takeZ_len (a := a) (kvs := x.c)
        omega
      · exact takeZ_pos
      · exact takeZ_nm nm
  | false =>
    rw [if_neg (by decide)]
    by_cases hp : 0 < c
    · refine ⟨?_, ?_, ?_, ?_⟩ <;> dsimp only <;> rw [if_pos hp]
      · exact addZ_nd nd
      · cases hg : getZ x.c n with
        | some v =>
          rw [addZ_len_old (by rw [hg]; rfl)]
          exact len
        | none =>
          have h1 := addZ_len (kvs := x.c) (n := n) (c := c)
          unfold full at hf
          rw [hg] at hf
          have h2 : ¬ (x.c.length : Int) = r := by
            intro e
            rw [decide_eq_true e] at hf
            cases hf
          omega
      · exact addZ_pos pos (by omega)
      · exact addZ_nm nm hn
    · refine ⟨?_, ?_, ?_, ?_⟩ <;> dsimp only <;> rw [if_neg hp]
      · exact nd
      · exact len
      · exact pos
      · exact nm
def feedsT (r : Int) (zs : List Str) (x : Tl) : Tl := zs.foldl (fun x n => feedT r n 1 x) x
theorem feedsT_snoc {r : Int} {zs : List Str} {x : Tl} {i : Nat} {n : Str} (h : zs[i]? = some n) : feedsT r (zs.take (i + 1)) x = feedT r n 1 (feedsT r (zs.take i) x) := by
  unfold feedsT
  rw [List.take_add_one, h, List.foldl_append]
  rfl
theorem feedsT_ok {r : Int} (hr : 1 ≤ r) : ∀ {zs : List Str} {x : Tl}, TlOk r x → (∀ z ∈ zs, Nm z) → TlOk r (feedsT r zs x)
  | [], _, h, _ => h
  | z :: zs, x, h, hn => feedsT_ok (zs := zs) hr (feedT_ok h hr (hn z List.mem_cons_self) (by decide)) fun y hy => hn y (List.mem_cons_of_mem _ hy)
def tl0 : Tl := ⟨0, 0, []⟩
theorem tl0_ok {r : Int} (hr : 1 ≤ r) : TlOk r tl0 := ⟨List.nodup_nil, (by show (0 : Int) ≤ r; omega), (fun _ h => nomatch h), (fun _ h => nomatch h)⟩
theorem sumsZ_pos : ∀ {more kvs : Ct}, (∀ e ∈ more, 1 ≤ e.2) → (∀ e ∈ kvs, 1 ≤ e.2) → ∀ e ∈ sumsZ more kvs, 1 ≤ e.2
  | [], _, _, h => h
  | f :: r, kvs, hm, h => sumsZ_pos (more := r) (fun e he => hm e (List.mem_cons_of_mem _ he)) (addZ_pos h (hm f List.mem_cons_self))
theorem sumsZ_nm : ∀ {more kvs : Ct}, (∀ e ∈ more, Nm e.1) → (∀ e ∈ kvs, Nm e.1) → ∀ e ∈ sumsZ more kvs, Nm e.1
  | [], _, _, h => h
  | f :: r, kvs, hm, h => sumsZ_nm (more := r) (fun e he => hm e (List.mem_cons_of_mem _ he)) (addZ_nm h (hm f List.mem_cons_self))
/-- what is above the count at place r is at most r names -/
theorem fall_len {kvs : Ct} {r : Nat} (h : r < kvs.length) : (takeZ (fallZ kvs r) kvs).length ≤ r := by
  unfold takeZ
  rw [List.length_map]
  have hp := List.mergeSort_perm (kvs.map (·.2)) (fun a b => decide (b ≤ a))
  have hs := List.pairwise_mergeSort (le := fun (a b : Int) => decide (b ≤ a)) (fun a b c h1 h2 => by simp at *; omega) (fun a b => by simp; omega) (kvs.map (·.2))
  have e1 : (kvs.filter fun e => decide (fallZ kvs r < e.2)).length = ((kvs.map (·.2)).filter fun c => decide (fallZ kvs r < c)).length := by
    rw [List.filter_map, List.length_map]
    rfl
  rw [e1, ← (hp.filter _).length_eq]
  unfold fallZ
  rw [Int.toNat_natCast]
  generalize (kvs.map (·.2)).mergeSort (fun a b => decide (b ≤ a)) = s at hp hs
  have hl : r < s.length := by rw [hp.length_eq, List.length_map]; exact h
  have eg : s.getD r 0 = s[r] := by simp [List.getD, hl]
  rw [eg]
  generalize hv : s[r] = v
  have h1 : ((s.take r).filter fun c => decide (v < c)).length ≤ r := by
    have := List.length_filter_le (fun c => decide (v < c)) (s.take r)
    rw [List.length_take] at this
    omega
  have h2 : ((s.drop r).filter fun c => decide (v < c)) = [] := by
    rw [List.filter_eq_nil_iff]
    intro c hc z
    have z := of_decide_eq_true z
    have hd : (s.drop r).Pairwise fun a b => decide (b ≤ a) = true := hs.sublist (List.drop_sublist _ _)
    rw [List.drop_eq_getElem_cons hl] at hc hd
    rcases List.mem_cons.mp hc with e | hc
    · omega
    · have := of_decide_eq_true ((List.pairwise_cons.mp hd).1 c hc)
      omega
  have e3 : (s.filter fun c => decide (v < c)) = ((s.take r).filter fun c => decide (v < c)) ++ ((s.drop r).filter fun c => decide (v < c)) := by
    rw [← List.filter_append, List.take_append_drop]
  rw [e3, h2, List.append_nil]
  exact h1
theorem pourT_ok {r : Int} {x y : Tl} (hx : TlOk r x) (hy : TlOk r y) (hr : 0 ≤ r) : TlOk r (pourT r y x) := by
  obtain ⟨rn, rfl⟩ := Int.eq_ofNat_of_zero_le hr
  unfold pourT
  dsimp only
  have nd := sumsZ_nd (more := y.c) hx.nd
  have pos := sumsZ_pos hy.pos hx.pos
  have nm := sumsZ_nm hy.nm hx.nm
  generalize sumsZ y.c x.c = all at nd pos nm
  by_cases h : (rn : Int) < (all.length : Int)
  · rw [if_pos h]
    refine ⟨takeZ_nd nd, ?_, takeZ_pos, takeZ_nm nm⟩
    have := fall_len (kvs := all) (r := rn) (by omega)
    dsimp only
    omega
  · rw [if_neg h]
    exact ⟨nd, (by dsimp only; omega), pos, nm⟩
/-! the order of names -/
def srtZ (kvs : Ct) : Ct := kvs.mergeSort fun a b => !ltZ b.1 a.1
theorem srtZ_perm (kvs : Ct) : (srtZ kvs).Perm kvs := List.mergeSort_perm _ _
theorem srtZ_asc {kvs : Ct} (nd : NdZ kvs) : Asc (srtZ kvs) := by
  have hs := List.pairwise_mergeSort (le := fun (a b : Str × Int) => !ltZ b.1 a.1) (fun a b c h1 h2 => ?_) (fun a b => ?_) kvs
  · have nd2 : ((srtZ kvs).map (·.1)).Nodup := ((srtZ_perm kvs).map (·.1)).nodup_iff.mpr nd
    rw [List.Nodup, List.pairwise_map] at nd2
    refine List.Pairwise.imp₂ (fun {a b} h1 h2 => ?_) hs nd2
    rcases bcase (ltZ a.1 b.1) with q | q
    · exact q
    · have h3 : ltZ b.1 a.1 = false := by simpa using h1
      exact absurd (ltZ_tri q h3) h2
  · have h1 : ltZ b.1 a.1 = false := by simpa using h1
    have h2 : ltZ c.1 b.1 = false := by simpa using h2
    show (!ltZ c.1 a.1) = true
    rcases bcase (ltZ c.1 a.1) with q | q
    · rcases bcase (ltZ a.1 b.1) with p | p
      · have := ltZ_trans q p
        rw [h2] at this
        cases this
      · have e := ltZ_tri p h1
        rw [e, h2] at q
        cases q
    · rw [q]
      rfl
  · show ((!ltZ b.1 a.1) || (!ltZ a.1 b.1)) = true
    rcases bcase (ltZ b.1 a.1) with q | q
    · rw [ltZ_asym q]
      simp
    · rw [q]
      rfl
theorem srtZ_of {ys kvs : Ct} (h : Asc ys) (p : ys.Perm kvs) (nd : NdZ kvs) : ys = srtZ kvs := asc_uniq h (srtZ_asc nd) (p.trans (srtZ_perm kvs).symm)
def skT (x : Tl) : Tl := ⟨x.m, x.o, srtZ x.c⟩
theorem skT_ok {r : Int} {x : Tl} (h : TlOk r x) : TlOk r (skT x) := by
  have p := srtZ_perm x.c
  refine ⟨(p.map (·.1)).nodup_iff.mpr h.nd, ?_, fun e he => h.pos e (p.mem_iff.mp he), fun e he => h.nm e (p.mem_iff.mp he)⟩
  show ((srtZ x.c).length : Int) ≤ r
  rw [p.length_eq]
  exact h.len
/-! a tree's pile, the uppermost first -/
def stepT (r : Int) (st : List Tl) : Stp → List Tl
  | .put zs => feedsT r zs tl0 :: st
  | .pour => match st with
    | x :: y :: st => pourT r (skT x) y :: st
    | st => st
def runT (r : Int) (l : List Stp) : List Tl := l.foldl (stepT r) []
theorem runT_snoc {r : Int} {l : List Stp} {i : Nat} {t : Stp} (h : l[i]? = some t) : runT r (l.take (i + 1)) = stepT r (runT r (l.take i)) t := by
  unfold runT
  rw [List.take_add_one, h, List.foldl_append]
  rfl
end Kb

namespace Kb
open PySem PySem.Spec PyProof.Rows L2 SrtZ SrtO
abbrev NP_sketch_of : List Str := ["room", "tree", "pile", "step", "tally", "name", "above"]
/-- a tally on the pile: its instance, its dict, what it holds -/
structure Pe where
  t : Addr
  d : Addr
  x : Tl
structure PileAt (C : Addr) (r : Int) (H : Hp) (l : List Pe) : Prop where
  at_ : ∀ e ∈ l, TalAt C H e.t e.d r e.x.m e.x.o e.x.c
  ok : ∀ e ∈ l, TlOk r e.x
  nt : (l.map (·.t)).Nodup
  nd : (l.map (·.d)).Nodup
theorem PileAt.same {C : Addr} {r : Int} {H H' : Hp} {l : List Pe} (h : PileAt C r H l) (s : Same H H') : PileAt C r H' l := ⟨fun e he => (h.at_ e he).same s, h.ok, h.nt, h.nd⟩
theorem TalAt.keep {C : Addr} {H H' : Hp} {t d : Addr} {r m o : Int} {kvs : Ct} (h : TalAt C H t d r m o kvs) (k : ∀ b u, (b = t ∨ b = d) → H b = some u → H' b = some u) : TalAt C H' t d r m o kvs := by
  obtain ⟨⟨dx, e⟩, e2⟩ := h
  exact ⟨⟨dx, k _ _ (.inl rfl) e⟩, k _ _ (.inr rfl) e2⟩
theorem run_len {r : Int} {l : List Stp} (two : ∀ i, l[i]? = some .pour → 2 ≤ hgt (l.take i)) : ∀ i, i ≤ l.length → ((runT r (l.take i)).length : Int) = hgt (l.take i)
  | 0, _ => rfl
  | i + 1, h => by
    have ih := run_len (r := r) two i (by omega)
    obtain ⟨t, ht⟩ : ∃ t, l[i]? = some t := ⟨l[i], List.getElem?_eq_getElem (by omega)⟩
    rw [runT_snoc ht, hgt_snoc ht]
    cases t with
    | put zs =>
      show (((feedsT r zs tl0 :: runT r (l.take i)).length : Nat) : Int) = _ + 1
      rw [List.length_cons]
      omega
    | pour =>
      have h2 := two i ht
      match hr : runT r (l.take i) with
      | [] => rw [hr] at ih; simp at ih; omega
      | [x] => rw [hr] at ih; simp at ih; omega
      | x :: y :: st =>
        rw [hr] at ih
        show (((pourT r (skT x) y :: st).length : Nat) : Int) = _ - 1
        rw [List.length_cons] at ih ⊢
        rw [List.length_cons] at ih
        omega
theorem run_short {r : Int} (l : List Stp) : (runT r l).length ≤ l.length := by
  have gen : ∀ (l : List Stp) (st : List Tl), (l.foldl (stepT r) st).length ≤ st.length + l.length := by
    intro l
    induction l with
    | nil => exact fun st => Nat.le_refl _
    | cons t l ih =>
      intro st
      have h := ih (stepT r st t)
      have h2 : (stepT r st t).length ≤ st.length + 1 := by
        cases t with
        | put zs => exact Nat.le_refl _
        | pour =>
          match st with
          | [] => exact Nat.zero_le _
          | [_] => show 1 ≤ 1 + 1; omega
          | _ :: _ :: st => show st.length + 1 ≤ st.length + 1 + 1 + 1; omega
      show (l.foldl (stepT r) (stepT r st t)).length ≤ st.length + (l.length + 1)
      omega
  have := gen l []
  simpa [runT] using this
theorem refs_rev (l : List Pe) (e : Pe) : ((e :: l).reverse.map fun e => V.ref e.t) = (l.reverse.map fun e => V.ref e.t) ++ [V.ref e.t] := by
  rw [List.reverse_cons, List.map_append]
  rfl
section
variable {P : Program} {w : World} {K : PySem.W.Frag} {mg : Str → Option Value} {base : Heap}
def spSketchOf (K : PySem.W.Frag) : Sp := fun vs H Q _ => ∃ (a : Addr) (r : Int) (l : List Stp) (x : Tl), vs = [.int r, .ref a] ∧ 1 ≤ r ∧ r ≤ 64 ∧ TreeAt K H a l ∧ Tree l ∧ (∀ zs, .put zs ∈ l → ∀ z ∈ zs, Nm z) ∧ runT r l = [x] ∧
  (TlOk r x → ∀ H' s k (ts : List Addr), Same H H' → H s = none → H' s = some (.tup [.int r, .int x.m, .int x.o, .ref k]) → Ptp H' k (ts.map V.ref) → Paired (fun (t : Addr) (y : Str × Int) => H' t = some (.tup [.str y.1, .int y.2])) ts (srtZ x.c) → Q (.ref s) H')
end
end Kb

namespace Kb
open PySem PySem.Spec PyProof.Rows L2 SrtZ SrtO
/-- the pair that a tuple of the heap holds -/
def rdP (H : Hp) (t : Addr) : Str × Int := match H t with
  | some (.tup [.str x, .int y]) => (x, y)
  | _ => (⟨#[]⟩, 0)
theorem rdP_of {H : Hp} {t : Addr} {e : Str × Int} (h : H t = some (.tup [.str e.1, .int e.2])) : rdP H t = e := by
  unfold rdP
  rw [h]
theorem paired_snoc {α β : Type} {F : α → β → Prop} : ∀ {xs : List α} {ys : List β} {x : α} {y : β}, Paired F xs ys → F x y → Paired F (xs ++ [x]) (ys ++ [y])
  | _, _, _, _, .nil, h => .cons h .nil
  | _, _, _, _, .cons h t, k => .cons h (paired_snoc t k)
theorem paired_imp {α β : Type} {F G : α → β → Prop} (h : ∀ a b, F a b → G a b) : ∀ {xs : List α} {ys : List β}, Paired F xs ys → Paired G xs ys
  | _, _, .nil => .nil
  | _, _, .cons a t => .cons (h _ _ a) (paired_imp h t)
theorem paired_rd {H : Hp} : ∀ {ts : List Addr} {kvs : Ct}, Paired (fun (t : Addr) (e : Str × Int) => H t = some (.tup [.str e.1, .int e.2])) ts kvs → ts.map (rdP H) = kvs ∧ ∀ t ∈ ts, H t = some (.tup [.str (rdP H t).1, .int (rdP H t).2])
  | _, _, .nil => ⟨rfl, fun _ h => nomatch h⟩
  | _, _, .cons h t => by
    obtain ⟨h1, h2⟩ := paired_rd t
    have e := rdP_of h
    refine ⟨by rw [List.map_cons, h1, e], fun u hu => ?_⟩
    rcases List.mem_cons.mp hu with rfl | hu
    · rw [e]
      exact h
    · exact h2 u hu
theorem paired_map {H : Hp} {k : Addr → Str × Int} : ∀ {ts : List Addr}, (∀ t ∈ ts, H t = some (.tup [.str (k t).1, .int (k t).2])) → Paired (fun (t : Addr) (e : Str × Int) => H t = some (.tup [.str e.1, .int e.2])) ts (ts.map k)
  | [], _ => .nil
  | t :: ts, h => .cons (h t List.mem_cons_self) (paired_map fun u hu => h u (List.mem_cons_of_mem _ hu))
theorem getZ_self {kvs : Ct} {i : Nat} {e : Str × Int} (nd : NdZ kvs) (h : kvs[i]? = some e) : getZ kvs e.1 = some e.2 := by
  have hm := List.mem_of_getElem? h
  clear h
  unfold getZ
  induction kvs with
  | nil => cases hm
  | cons f r ih =>
    unfold NdZ at nd
    rw [List.map_cons, List.nodup_cons] at nd
    rcases List.mem_cons.mp hm with rfl | hm
    · simp
    · have : ¬ f.1 = e.1 := fun z => nd.1 (List.mem_map.mpr ⟨e, hm, z.symm⟩)
      rw [List.find?_cons_of_neg (by simpa using this)]
      exact ih nd.2 hm
theorem getZ_mem {kvs : Ct} {e : Str × Int} (nd : NdZ kvs) (h : e ∈ kvs) : getZ kvs e.1 = some e.2 := by
  obtain ⟨i, hi⟩ := List.mem_iff_getElem?.mp h
  exact getZ_self nd hi
theorem getZ_in {kvs : Ct} {n : Str} {v : Int} (h : getZ kvs n = some v) : (n, v) ∈ kvs := by
  unfold getZ at h
  cases e : kvs.find? fun e => decide (e.1 = n) with
  | none => rw [e] at h; cases h
  | some x =>
    rw [e] at h
    have h1 := List.mem_of_find?_eq_some e
    have h2 : x.1 = n := of_decide_eq_true (List.find?_some (p := fun e : Str × Int => decide (e.1 = n)) e)
    have h3 : x.2 = v := Option.some.inj h
    rw [← h2, ← h3]
    exact h1
/-- what was locked is free again -/
theorem unlock_same {H H3 : Hp} {d : Addr} {u : HO} {od : Obj} (hd : H d = some u) (s : Same (upd H d (.frz od u)) H3) : Same H (upd H3 d u) := fun b o e => by
  by_cases h : b = d
  · subst h
    rw [hd] at e
    cases e
    exact upd_same
  · rw [upd_ne h]
    exact s b o (by rw [upd_ne h]; exact e)
theorem asc_nd {kvs : Ct} (h : Asc kvs) : NdZ kvs := by
  unfold NdZ
  rw [List.Nodup, List.pairwise_map]
  refine List.Pairwise.imp (fun {a b} hab e => ?_) h
  rw [e, ltZ_irr] at hab
  cases hab
end Kb



namespace Kb
open PySem PySem.Spec PyProof.Rows L2 SrtZ SrtO
/-! sketches on the heap -/
abbrev PrT (H : Hp) (t : Addr) (y : Str × Int) : Prop := H t = some (.tup [.str y.1, .int y.2])
def SkAt (H : Hp) (s : Addr) (r : Int) (x : Tl) : Prop := ∃ (k : Addr) (ts : List Addr), H s = some (.tup [.int r, .int x.m, .int x.o, .ref k]) ∧ Ptp H k (ts.map V.ref) ∧ Paired (PrT H) ts (srtZ x.c)
theorem SkAt.same {H H' : Hp} {s : Addr} {r : Int} {x : Tl} (h : SkAt H s r x) (y : Same H H') : SkAt H' s r x := by
  obtain ⟨k, ts, h1, h2, h3⟩ := h
  exact ⟨k, ts, y _ _ h1, h2.same y, paired_imp (fun t e h => y _ _ h) h3⟩
theorem SkAt.congr {H : Hp} {s : Addr} {r : Int} {x y : Tl} (h : SkAt H s r x) (e : skT x = skT y) : SkAt H s r y := by
  obtain ⟨m, o, c⟩ := x
  obtain ⟨m2, o2, c2⟩ := y
  unfold skT at e
  injection e with e1 e2 e3
  dsimp only at e1 e2 e3
  subst e1 e2
  obtain ⟨k, ts, h1, h2, h3⟩ := h
  exact ⟨k, ts, h1, h2, by dsimp only at h3 ⊢; rw [← e3]; exact h3⟩
/-! the order in which counts stand means nothing -/
theorem getZ_perm {a b : Ct} (p : a.Perm b) (nd : NdZ a) (n : Str) : getZ a n = getZ b n := by
  have ndb : NdZ b := by
    unfold NdZ
    exact (p.map (·.1)).nodup_iff.mp nd
  cases ha : getZ a n with
  | none =>
    have := getZ_none.mp ha
    exact (getZ_none.mpr fun h => this ((p.map (·.1)).mem_iff.mpr h)).symm
  | some v =>
    have : ∃ e ∈ a, e.1 = n ∧ e.2 = v := by
      unfold getZ at ha
      cases h : a.find? fun e => decide (e.1 = n) with
      | none => rw [h] at ha; cases ha
      | some e =>
        rw [h] at ha
        exact ⟨e, List.mem_of_find?_eq_some h, of_decide_eq_true (List.find?_some (p := fun e : Str × Int => decide (e.1 = n)) h), Option.some.inj ha⟩
    obtain ⟨e, he, rfl, rfl⟩ := this
    obtain ⟨i, hi⟩ := List.mem_iff_getElem?.mp (p.mem_iff.mp he)
    exact (getZ_self ndb hi).symm
theorem putZ_perm {a b : Ct} (p : a.Perm b) (n : Str) (v : Int) : (putZ a n v).Perm (putZ b n v) := by
  have e : (a.any fun e => decide (e.1 = n)) = (b.any fun e => decide (e.1 = n)) := by
    rw [Bool.eq_iff_iff, List.any_eq_true, List.any_eq_true]
    exact ⟨fun ⟨x, h, k⟩ => ⟨x, p.mem_iff.mp h, k⟩, fun ⟨x, h, k⟩ => ⟨x, p.mem_iff.mpr h, k⟩⟩
  unfold putZ
  rw [e]
  split
  · exact p.map _
  · exact p.append_right _
theorem addZ_perm {a b : Ct} (p : a.Perm b) (nd : NdZ a) (n : Str) (c : Int) : (addZ a n c).Perm (addZ b n c) := by
  unfold addZ
  rw [getZ_perm p nd]
  exact putZ_perm p _ _
theorem takeZ_perm {a b : Ct} (p : a.Perm b) (k : Int) : (takeZ k a).Perm (takeZ k b) := (p.filter _).map _
theorem mnC_perm {a b : Ct} (p : a.Perm b) : mnC a = mnC b := by
  by_cases h : a = []
  · subst h
    have := p.symm.eq_nil
    subst this
    rfl
  · obtain ⟨h1, h2⟩ := mnC_spec h
    have q := p.map (·.2)
    exact mnC_uniq (q.mem_iff.mp h1) fun y hy => h2 y (q.mem_iff.mpr hy)
theorem full_perm {a b : Ct} (p : a.Perm b) (nd : NdZ a) (r : Int) (n : Str) : full r n a = full r n b := by
  unfold full
  rw [getZ_perm p nd, p.length_eq]
theorem srtZ_eq {a b : Ct} (p : a.Perm b) (nd : NdZ a) : srtZ a = srtZ b := by
  have ndb : NdZ b := by
    unfold NdZ
    exact (p.map (·.1)).nodup_iff.mp nd
  exact srtZ_of (srtZ_asc nd) ((srtZ_perm a).trans p) ndb
theorem feed_skT {r c : Int} {n : Str} {x : Tl} (nd : NdZ x.c) : skT (feedT r n c (skT x)) = skT (feedT r n c x) := by
  obtain ⟨m, o, kvs⟩ := x
  have p := srtZ_perm kvs
  have nds : NdZ (srtZ kvs) := (p.map (·.1)).nodup_iff.mpr nd
  unfold feedT skT
  dsimp only
  rw [full_perm p nds, mnC_perm p]
  by_cases hf : full r n kvs = true
  · rw [if_pos hf, if_pos hf]
    dsimp only
    generalize (if mnC kvs < c then mnC kvs else c) = a
    have e : srtZ (if 0 < c - a then addZ (takeZ a (srtZ kvs)) n (c - a) else takeZ a (srtZ kvs)) = srtZ (if 0 < c - a then addZ (takeZ a kvs) n (c - a) else takeZ a kvs) := by
      have pt := takeZ_perm p a
      have ndt : NdZ (takeZ a (srtZ kvs)) := takeZ_nd nds
      split
      · exact srtZ_eq (addZ_perm pt ndt _ _) (addZ_nd ndt)
      · exact srtZ_eq pt ndt
    rw [e]
  · rw [if_neg hf, if_neg hf]
    dsimp only
    have e : srtZ (if 0 < c then addZ (srtZ kvs) n c else srtZ kvs) = srtZ (if 0 < c then addZ kvs n c else kvs) := by
      split
      · exact srtZ_eq (addZ_perm p nds _ _) (addZ_nd nds)
      · exact srtZ_eq p nds
    rw [e]
theorem skT_skT {x : Tl} (nd : NdZ x.c) : skT (skT x) = skT x := by
  obtain ⟨m, o, kvs⟩ := x
  unfold skT
  dsimp only
  rw [srtZ_eq (srtZ_perm kvs) ((srtZ_perm kvs).map (·.1) |>.nodup_iff.mpr nd)]
end Kb


namespace Kb
open PySem PySem.Spec PyProof.Rows L2 SrtZ SrtO
/-! counts, read behind a change -/
theorem getZ_cons (e : Str × Int) (kvs : Ct) (k : Str) : getZ (e :: kvs) k = if e.1 = k then some e.2 else getZ kvs k := by
  unfold getZ
  by_cases h : e.1 = k
  · rw [List.find?_cons_of_pos (by simpa using h), if_pos h]
    rfl
  · rw [List.find?_cons_of_neg (by simpa using h), if_neg h]
theorem getZ_app (a b : Ct) (k : Str) : getZ (a ++ b) k = (getZ a k).or (getZ b k) := by
  induction a with
  | nil => simp [getZ]
  | cons e a ih =>
    rw [List.cons_append, getZ_cons, getZ_cons, ih]
    split <;> rfl
theorem getZ_repl (kvs : Ct) (n : Str) (v : Int) (k : Str) : getZ (kvs.map fun e => if e.1 = n then (e.1, v) else e) k = if k = n then (getZ kvs n).map fun _ => v else getZ kvs k := by
  induction kvs with
  | nil => simp [getZ]
  | cons e r ih =>
    rw [List.map_cons, getZ_cons, getZ_cons, ih, getZ_cons]
    by_cases h1 : e.1 = n
    · rw [if_pos h1]
      dsimp only
      by_cases h2 : e.1 = k
      · rw [if_pos h2, if_pos (h2.symm.trans h1), if_pos h1]
        rfl
      · rw [if_neg h2, if_neg h2]
        by_cases h3 : k = n
        · exact absurd (h1.trans h3.symm) h2
        · rw [if_neg h3, if_neg h3]
    · rw [if_neg h1]
      by_cases h2 : e.1 = k
      · rw [if_pos h2, if_neg (fun z => h1 (h2.trans z)), if_pos h2]
      · rw [if_neg h2, if_neg h2, if_neg h1]
theorem getZ_put (kvs : Ct) (n : Str) (v : Int) (k : Str) : getZ (putZ kvs n v) k = if k = n then some v else getZ kvs k := by
  unfold putZ
  rw [any_getZ]
  cases h : getZ kvs n with
  | some u =>
    rw [if_pos (show (some u).isSome = true from rfl), getZ_repl, h]
    rfl
  | none =>
    rw [if_neg (show ¬ (none : Option Int).isSome = true by decide), getZ_app]
    by_cases e : k = n
    · subst e
      rw [h, if_pos rfl, getZ_cons, if_pos rfl]
      rfl
    · rw [if_neg e, getZ_cons, if_neg (Ne.symm e)]
      cases getZ kvs k <;> rfl
theorem getZ_take {a : Int} : ∀ {kvs : Ct}, NdZ kvs → ∀ k, getZ (takeZ a kvs) k = (getZ kvs k).bind fun v => if a < v then some (v - a) else none
  | [], _, k => rfl
  | e :: r, nd, k => by
    unfold NdZ at nd
    rw [List.map_cons, List.nodup_cons] at nd
    have ih := getZ_take (a := a) (kvs := r) nd.2 k
    have hno : e.1 = k → getZ r k = none := fun h => getZ_none.mpr (h ▸ nd.1)
    unfold takeZ at ih ⊢
    by_cases h : a < e.2
    · rw [List.filter_cons_of_pos (by simpa using h), List.map_cons, getZ_cons, getZ_cons]
      by_cases h2 : e.1 = k
      · rw [if_pos h2, if_pos h2]
        show some (e.2 - a) = if a < e.2 then _ else _
        rw [if_pos h]
      · rw [if_neg h2, if_neg h2]
        exact ih
    · rw [List.filter_cons_of_neg (by simpa using h), ih, getZ_cons]
      by_cases h2 : e.1 = k
      · rw [if_pos h2, hno h2]
        show none = if a < e.2 then _ else _
        rw [if_neg h]
      · rw [if_neg h2]
theorem putZ_putZ (kvs : Ct) (n : Str) (u v : Int) : putZ (putZ kvs n u) n v = putZ kvs n v := by
  cases h : getZ kvs n with
  | some g =>
    have e : ∀ w : Int, putZ kvs n w = kvs.map fun e => if e.1 = n then (e.1, w) else e := fun w => by
      unfold putZ
      rw [any_getZ, h, if_pos (show (some g).isSome = true from rfl)]
    rw [e u, e v]
    unfold putZ
    rw [any_getZ, getZ_repl, if_pos rfl, h, if_pos (show ((some g).map fun _ => u).isSome = true from rfl), List.map_map]
    refine List.map_congr_left fun e _ => ?_
    show (if (if e.1 = n then (e.1, u) else e).1 = n then ((if e.1 = n then (e.1, u) else e).1, v) else (if e.1 = n then (e.1, u) else e)) = _
    by_cases h1 : e.1 = n
    · rw [if_pos h1, if_pos h1, if_pos h1]
    · rw [if_neg h1, if_neg h1]
  | none =>
    rw [putZ_new h, putZ_new h]
    have hz := getZ_none.mp h
    unfold putZ
    rw [any_getZ, getZ_app, h, getZ_cons, if_pos rfl, if_pos (show ((none : Option Int).or (some u)).isSome = true from rfl), List.map_append]
    congr 1
    · have : ∀ e ∈ kvs, (if e.1 = n then (e.1, v) else e) = e := fun e he => by
        rw [if_neg (fun q => hz (List.mem_map.mpr ⟨e, he, q⟩))]
      rw [List.map_congr_left this, List.map_id']
    · show [if n = n then (n, v) else (n, u)] = _
      rw [if_pos rfl]
theorem addZ_addZ (kvs : Ct) (n : Str) (c e : Int) : addZ (addZ kvs n c) n e = addZ kvs n (c + e) := by
  unfold addZ
  rw [getZ_put, if_pos rfl, putZ_putZ]
  show putZ kvs n ((getZ kvs n).getD 0 + c + e) = _
  rw [Int.add_assoc]
theorem takeZ_takeZ {a b : Int} (hb : 0 ≤ b) : ∀ kvs : Ct, takeZ b (takeZ a kvs) = takeZ (a + b) kvs
  | [] => rfl
  | e :: r => by
    have ih := takeZ_takeZ hb (a := a) r
    unfold takeZ at ih ⊢
    by_cases h : a < e.2
    · rw [List.filter_cons_of_pos (by simpa using h), List.map_cons]
      by_cases h2 : a + b < e.2
      · rw [List.filter_cons_of_pos (by simp; omega), List.map_cons, ih, List.filter_cons_of_pos (by simpa using h2), List.map_cons]
        congr 2
        show e.2 - a - b = e.2 - (a + b)
        omega
      · rw [List.filter_cons_of_neg (by simp; omega), ih, List.filter_cons_of_neg (by simpa using h2)]
    · rw [List.filter_cons_of_neg (by simpa using h), ih, List.filter_cons_of_neg (by simp; omega)]
theorem takeZ_zero : ∀ {kvs : Ct}, (∀ e ∈ kvs, 1 ≤ e.2) → takeZ 0 kvs = kvs
  | [], _ => rfl
  | e :: r, h => by
    have ih := takeZ_zero (kvs := r) fun f hf => h f (List.mem_cons_of_mem _ hf)
    have h1 := h e List.mem_cons_self
    unfold takeZ at ih ⊢
    rw [List.filter_cons_of_pos (by simp; omega), List.map_cons, ih]
    congr 1
    show (e.1, e.2 - 0) = e
    rw [Int.sub_zero]
/-- less than the least is taken off: all stay -/
theorem takeZ_all : ∀ {kvs : Ct} {c : Int}, (∀ e ∈ kvs, c < e.2) → takeZ c kvs = kvs.map fun e => (e.1, e.2 - c)
  | [], _, _ => rfl
  | e :: r, c, h => by
    have ih := takeZ_all (kvs := r) (c := c) fun f hf => h f (List.mem_cons_of_mem _ hf)
    unfold takeZ at ih ⊢
    rw [List.filter_cons_of_pos (by simpa using h e List.mem_cons_self), List.map_cons, ih]
    rfl
theorem sumC_cons' (e : Str × Int) (kvs : Ct) : sumC (e :: kvs) = e.2 + sumC kvs := by
  unfold sumC
  rw [List.map_cons, List.sum_cons]
theorem sumC_perm' {a b : Ct} (p : a.Perm b) : sumC a = sumC b := by
  induction p with
  | nil => rfl
  | cons x _ ih => rw [sumC_cons', sumC_cons', ih]
  | swap x y l =>
    rw [sumC_cons', sumC_cons', sumC_cons', sumC_cons']
    omega
  | trans _ _ ih1 ih2 => rw [ih1, ih2]
theorem sumC_app : ∀ a b : Ct, sumC (a ++ b) = sumC a + sumC b
  | [], b => by show sumC b = 0 + sumC b; omega
  | e :: a, b => by
    rw [List.cons_append, sumC_cons', sumC_cons', sumC_app a b]
    omega
theorem sumC_repl {n : Str} {v : Int} : ∀ {kvs : Ct} {g : Int}, NdZ kvs → getZ kvs n = some g → sumC (kvs.map fun e => if e.1 = n then (e.1, v) else e) = sumC kvs + (v - g)
  | [], _, _, h => by cases h
  | e :: r, g, nd, h => by
    unfold NdZ at nd
    rw [List.map_cons, List.nodup_cons] at nd
    rw [getZ_cons] at h
    rw [List.map_cons, sumC_cons', sumC_cons']
    by_cases h1 : e.1 = n
    · rw [if_pos h1] at h ⊢
      have : ∀ f ∈ r, (if f.1 = n then (f.1, v) else f) = f := fun f hf => by
        rw [if_neg (fun q => nd.1 (List.mem_map.mpr ⟨f, hf, q.trans h1.symm⟩))]
      rw [List.map_congr_left this, List.map_id']
      have := Option.some.inj h
      show v + _ = _
      omega
    · rw [if_neg h1] at h ⊢
      rw [sumC_repl nd.2 h]
      omega
theorem sumC_add {kvs : Ct} {n : Str} {c : Int} (nd : NdZ kvs) : sumC (addZ kvs n c) = sumC kvs + c := by
  unfold addZ putZ
  rw [any_getZ]
  cases h : getZ kvs n with
  | some g =>
    rw [if_pos (show (some g).isSome = true from rfl), sumC_repl nd h]
    show _ + (g + c - g) = _
    omega
  | none =>
    rw [if_neg (show ¬ (none : Option Int).isSome = true by decide), sumC_app]
    show sumC kvs + (0 + c + 0) = _
    omega
theorem sumC_take1 : ∀ {kvs : Ct}, (∀ e ∈ kvs, 1 ≤ e.2) → sumC (takeZ 1 kvs) = sumC kvs - (kvs.length : Int)
  | [], _ => rfl
  | e :: r, h => by
    have ih := sumC_take1 (kvs := r) fun f hf => h f (List.mem_cons_of_mem _ hf)
    have h1 := h e List.mem_cons_self
    rw [sumC_cons', List.length_cons]
    unfold takeZ at ih ⊢
    by_cases h2 : 1 < e.2
    · rw [List.filter_cons_of_pos (by simpa using h2), List.map_cons, sumC_cons', ih]
      show e.2 - 1 + _ = _
      omega
    · rw [List.filter_cons_of_neg (by simpa using h2), ih]
      omega
theorem full_of {r : Int} {n : Str} {kvs : Ct} (h : full r n kvs = true) : getZ kvs n = none ∧ (kvs.length : Int) = r := by
  unfold full at h
  rw [Bool.and_eq_true] at h
  refine ⟨?_, of_decide_eq_true h.2⟩
  cases e : getZ kvs n with
  | none => rfl
  | some _ =>
    rw [e] at h
    exact absurd h.1 (by intro z; cases z)
theorem full_yes {r : Int} {n : Str} {kvs : Ct} (h : getZ kvs n = none) (h2 : (kvs.length : Int) = r) : full r n kvs = true := by
  unfold full
  rw [h, decide_eq_true h2]
  rfl
theorem full_no' {r : Int} {n : Str} {kvs : Ct} (h : (getZ kvs n).isSome = true ∨ ¬ (kvs.length : Int) = r) : full r n kvs = false := by
  unfold full
  rcases h with h | h
  · rw [h]
    rfl
  · rw [decide_eq_false h, Bool.and_false]
theorem mn_pos {kvs : Ct} (ne : kvs ≠ []) (pos : ∀ e ∈ kvs, 1 ≤ e.2) : 1 ≤ mnC kvs := by
  obtain ⟨h, _⟩ := mnC_spec ne
  obtain ⟨e, he, h⟩ := List.mem_map.mp h
  rw [← h]
  exact pos e he
theorem ne_of_full {r : Int} {kvs : Ct} (hr : 1 ≤ r) (h : (kvs.length : Int) = r) : kvs ≠ [] := by
  rintro rfl
  have : (0 : Int) = r := h
  omega
theorem feed_lt {r c m o : Int} {n : Str} {kvs : Ct} (hf : full r n kvs = true) (hc : c ≤ mnC kvs) : feedT r n c ⟨m, o, kvs⟩ = ⟨m + c, o + c, takeZ c kvs⟩ := by
  unfold feedT
  dsimp only
  rw [hf, if_pos rfl, if_neg (show ¬ mnC kvs < c by omega), if_neg (show ¬ 0 < c - c by omega)]
theorem feed_gt {r c m o : Int} {n : Str} {kvs : Ct} (hf : full r n kvs = true) (hc : mnC kvs < c) : feedT r n c ⟨m, o, kvs⟩ = ⟨m + c, o + mnC kvs, addZ (takeZ (mnC kvs) kvs) n (c - mnC kvs)⟩ := by
  unfold feedT
  dsimp only
  rw [hf, if_pos rfl, if_pos hc, if_pos (show 0 < c - mnC kvs by omega)]
theorem feed_add {r c m o : Int} {n : Str} {kvs : Ct} (hf : full r n kvs = false) (hc : 0 < c) : feedT r n c ⟨m, o, kvs⟩ = ⟨m + c, o, addZ kvs n c⟩ := by
  unfold feedT
  dsimp only
  rw [hf, if_neg (by decide), if_pos hc]
theorem feed_zero {r : Int} {n : Str} {x : Tl} (ok : TlOk r x) (hr : 1 ≤ r) : feedT r n 0 x = x := by
  obtain ⟨m, o, kvs⟩ := x
  cases hf : full r n kvs with
  | true =>
    obtain ⟨_, hl⟩ := full_of hf
    have h1 := mn_pos (ne_of_full hr hl) ok.pos
    rw [feed_lt hf (by omega), takeZ_zero ok.pos, Int.add_zero, Int.add_zero]
  | false =>
    unfold feedT
    dsimp only
    rw [hf, if_neg (by decide), if_neg (by decide), Int.add_zero]
theorem full_added {r c : Int} {n : Str} {kvs : Ct} : full r n (addZ kvs n c) = false := full_no' (.inl (by unfold addZ; rw [getZ_put, if_pos rfl]; rfl))
theorem full_less {r : Int} {n : Str} {kvs : Ct} (hr : 1 ≤ r) (hl : (kvs.length : Int) = r) : full r n (takeZ (mnC kvs) kvs) = false := full_no' (.inr (by have := takeZ_less (ne_of_full hr hl); omega))
theorem feed_iter {r c : Int} {n : Str} {x : Tl} (ok : TlOk r x) (hr : 1 ≤ r) (hc : 0 ≤ c) : feedT r n (c + 1) x = feedT r n 1 (feedT r n c x) := by
  obtain ⟨m, o, kvs⟩ := x
  have ok0 := ok
  obtain ⟨nd, len, pos, nm⟩ := ok
  dsimp only at nd len pos nm
  have e0 : m + (c + 1) = m + c + 1 := by omega
  by_cases h0 : 0 < c
  · cases hf : full r n kvs with
    | false => rw [feed_add hf (by omega), feed_add hf h0, feed_add full_added (by decide), addZ_addZ, e0]
    | true =>
      obtain ⟨hg, hl⟩ := full_of hf
      have ne := ne_of_full hr hl
      obtain ⟨hm, hle⟩ := mnC_spec ne
      by_cases hcm : c < mnC kvs
      · have hall : ∀ e ∈ kvs, c < e.2 := fun e he => by
          have := hle e.2 (List.mem_map.mpr ⟨e, he, rfl⟩)
          omega
        have ht := takeZ_all hall
        have hy : full r n (takeZ c kvs) = true := full_yes (by rw [getZ_take nd, hg]; rfl) (by rw [ht, List.length_map]; exact hl)
        have hmn : mnC (takeZ c kvs) = mnC kvs - c := by
          refine (mnC_uniq ?_ fun y hy => ?_).symm
          · rw [ht, List.map_map]
            obtain ⟨e, he, h⟩ := List.mem_map.mp hm
            exact List.mem_map.mpr ⟨e, he, by show e.2 - c = _; rw [h]⟩
          · rw [ht, List.map_map] at hy
            obtain ⟨e, he, rfl⟩ := List.mem_map.mp hy
            have := hle e.2 (List.mem_map.mpr ⟨e, he, rfl⟩)
            show mnC kvs - c ≤ e.2 - c
            omega
        rw [feed_lt hf (by omega), feed_lt hf (by omega), feed_lt hy (by omega), takeZ_takeZ (by decide), e0, Int.add_assoc o c 1]
      · by_cases hcm2 : c = mnC kvs
        · rw [feed_gt hf (by omega), feed_lt hf (by omega), hcm2, feed_add (full_less hr hl) (by decide), ← hcm2, e0]
          congr 2
          omega
        · rw [feed_gt hf (by omega), feed_gt hf (by omega), feed_add full_added (by decide), addZ_addZ, e0]
          congr 2
          omega
  · have : c = 0 := by omega
    subst this
    rw [feed_zero ok0 hr]
    rfl
/-! what feeding leaves true -/
/-- of an exact stream: so much was taken off -/
structure Fd (r : Int) (x : Tl) : Prop where
  lost : x.m - sumC x.c = (r + 1) * x.o
  off : 0 ≤ x.o
theorem fd0 (r : Int) : Fd r tl0 := ⟨by show (0 : Int) - 0 = (r + 1) * 0; rw [Int.mul_zero]; rfl, Int.le_refl _⟩
theorem fd_feed {r : Int} {n : Str} {x : Tl} (ok : TlOk r x) (hr : 1 ≤ r) (h : Fd r x) : Fd r (feedT r n 1 x) := by
  obtain ⟨m, o, kvs⟩ := x
  obtain ⟨hl, ho⟩ := h
  dsimp only at hl ho
  cases hf : full r n kvs with
  | false =>
    rw [feed_add hf (by decide)]
    refine ⟨?_, ho⟩
    show m + 1 - sumC (addZ kvs n 1) = _
    rw [sumC_add (show NdZ kvs from ok.nd)]
    show _ = (r + 1) * o
    omega
  | true =>
    obtain ⟨hg, hlen⟩ := full_of hf
    have m1 := mn_pos (ne_of_full hr hlen) ok.pos
    rw [feed_lt hf (by omega)]
    refine ⟨?_, by dsimp only; omega⟩
    show m + 1 - sumC (takeZ 1 kvs) = (r + 1) * (o + 1)
    rw [sumC_take1 (show ∀ e ∈ kvs, 1 ≤ e.2 from ok.pos), Int.mul_add, ← hl, hlen]
    omega
theorem fd_sk {r : Int} {x : Tl} (ok : TlOk r x) (hr1 : 1 ≤ r) (hr2 : r ≤ 64) (h : Fd r x) (hm : 0 ≤ x.m) : skB r x.m x.o (srtZ x.c) = true := by
  have p := srtZ_perm x.c
  have es : sumC (srtZ x.c) = sumC x.c := sumC_perm' p
  have hl := h.lost
  have ho := h.off
  have h2 : (r + 1) * x.o ≤ 2 * r * x.o := Int.mul_le_mul_of_nonneg_right (by omega) ho
  have hlen : ((srtZ x.c).length : Int) ≤ r := by rw [p.length_eq]; exact ok.len
  unfold skB
  rw [es, hl, decide_eq_true hr1, decide_eq_true hr2, decide_eq_true hm, decide_eq_true ho, decide_eq_true hlen, decide_eq_true (Int.le_refl _), decide_eq_true h2]
  rfl
def gd (kvs : Ct) (k : Str) : Int := (getZ kvs k).getD 0
theorem gd_add (kvs : Ct) (n : Str) (c : Int) (k : Str) : gd (addZ kvs n c) k = gd kvs k + if k = n then c else 0 := by
  unfold gd addZ
  rw [getZ_put]
  by_cases h : k = n
  · subst h
    rw [if_pos rfl, if_pos rfl]
    rfl
  · rw [if_neg h, if_neg h, Int.add_zero]
theorem gd_take1 {kvs : Ct} (nd : NdZ kvs) (pos : ∀ e ∈ kvs, 1 ≤ e.2) (k : Str) : gd (takeZ 1 kvs) k = if 0 < gd kvs k then gd kvs k - 1 else 0 := by
  unfold gd
  rw [getZ_take nd]
  cases h : getZ kvs k with
  | none => rfl
  | some v =>
    have hv : 1 ≤ v := by
      have := getZ_pos (n := k) pos
      unfold getZ at h
      cases hh : kvs.find? fun e => decide (e.1 = k) with
      | none => rw [hh] at h; cases h
      | some e =>
        rw [hh] at h
        have h1 := pos e (List.mem_of_find?_eq_some hh)
        have h2 := Option.some.inj h
        have h3 : e.2 = v := h2
        omega
    show (if 1 < v then some (v - 1) else none).getD 0 = if 0 < v then v - 1 else 0
    rw [if_pos (show 0 < v by omega)]
    by_cases h1 : 1 < v
    · rw [if_pos h1]
      rfl
    · rw [if_neg h1]
      show (0 : Int) = v - 1
      omega
/-- the true counts lie from the kept ones to off above -/
def Tru (kc : Ct) (x : Tl) : Prop := ∀ k, 0 ≤ gd kc k - gd x.c k ∧ gd kc k - gd x.c k ≤ x.o
theorem tru0 : Tru [] tl0 := fun k => ⟨Int.le_refl _, Int.le_refl _⟩
theorem tru_feed {r : Int} {n : Str} {x : Tl} {kc : Ct} (ok : TlOk r x) (hr : 1 ≤ r) (h : Tru kc x) : Tru (addZ kc n 1) (feedT r n 1 x) := by
  obtain ⟨m, o, kvs⟩ := x
  intro k
  obtain ⟨a, b⟩ := h k
  dsimp only at a b
  rw [gd_add]
  cases hf : full r n kvs with
  | false =>
    rw [feed_add hf (by decide)]
    dsimp only
    rw [gd_add]
    omega
  | true =>
    obtain ⟨hg, hlen⟩ := full_of hf
    have m1 := mn_pos (ne_of_full hr hlen) ok.pos
    rw [feed_lt hf (by omega)]
    dsimp only
    rw [gd_take1 (show NdZ kvs from ok.nd) (show ∀ e ∈ kvs, 1 ≤ e.2 from ok.pos)]
    have hp : 0 ≤ gd kvs k := getZ_pos ok.pos
    by_cases hk : k = n
    · subst hk
      have : gd kvs k = 0 := by
        unfold gd
        rw [hg]
        rfl
      rw [if_pos rfl, this, if_neg (by decide)]
      omega
    · rw [if_neg hk]
      split <;> omega
end Kb

namespace L2
open PySem PySem.Spec PyProof.Rows SrtO SrtZ
/-! own rules: (int, text) < (int, text); sorted of a list of texts of any length -/
def ltNZ (i j : Int) (x y : Str) : Bool := if i = j then ltZ x y else decide (i < j)
section
variable {X : Cx}
def rLtNZ (K : PySem.W.Frag) : R2 := fun x y H Q => ∃ (a b : Addr) (i j : Int) (z w : Str), x = .ref a ∧ y = .ref b ∧ SqT K H a [.int i, .str z] ∧ SqT K H b [.int j, .str w] ∧ Q (.bl (ltNZ i j z w)) H
theorem op_ltNZ (hu : X.A.units < cLine) : OpR X (compareOp .Lt) (rLtNZ X.K) := by
  intro pins s σ H x y v u Q I rx ry h
  obtain ⟨a, b, i, j, z, w, rfl, rfl, ha, hb, q⟩ := h
  cases rx
  cases ry
  obtain ⟨its, r1, p1, _⟩ := I.tuple ha
  obtain ⟨its2, r2, p2, _⟩ := I.tuple hb
  obtain ⟨u1, u2, rfl, ri, rj⟩ := vals2 r1
  obtain ⟨w1, w2, rfl, si, sj⟩ := vals2 r2
  obtain ⟨t1, rfl⟩ := ri
  obtain ⟨t2, rfl⟩ := rj
  obtain ⟨t3, rfl⟩ := si
  obtain ⟨t4, rfl⟩ := sj
  have R := Ob.RcOp.tuples_lt (A := X.A) (s := s) (e := fun k => match k with | 0 => (i == j) | _ => (z == w)) (r := fun k => match k with | 0 => decide (i < j) | _ => ltZ z w) p1 p2 hu (fun k h1 h2 => by
    match k, h1, h2 with
    | 0, _, _ => exact SeqAt.EqAt.int_int _ _ _ _
    | 1, _, _ => exact SeqAt.EqAt.str_str _ _ _ _
    | k + 2, h1, _ => exact absurd h1 (by simp)) (fun k h1 h2 _ => by
    match k, h1, h2 with
    | 0, _, _ => exact Ob.RcOp.lt_int _ _ _ _
    | 1, _, _ => exact fun _ _ _ _ h => PyProof.Rows.lt_str h
    | k + 2, h1, _ => exact absurd h1 (by simp))
  have e : Ob.lexAt (fun k => match k with | 0 => (i == j) | _ => (z == w)) (fun k => match k with | 0 => decide (i < j) | _ => ltZ z w) (decide (2 < 2)) 0 2 = ltNZ i j z w := by
    unfold ltNZ
    rw [Ob.lexAt_succ, Ob.lexAt_succ, Ob.lexAt_zero]
    show (if (i == j) = true then (if (z == w) = true then decide (2 < 2) else ltZ z w) else decide (i < j)) = _
    by_cases h1 : i = j
    · rw [if_pos (beq_iff_eq.mpr h1), if_pos h1]
      by_cases h2 : z = w
      · rw [if_pos (by rw [h2]; exact beq_self_eq_true w), h2, ltZ_irr]
        rfl
      · rw [if_neg (fun q => h2 (eq_of_beq q))]
    · rw [if_neg (fun q => h1 (eq_of_beq q)), if_neg h1]
  have R' : Ob.RcOp .Lt X.A s (.ref a) (.ref b) (ltNZ i j z w) := by
    rw [← e]
    exact R
  exact R' X.prog X.w X.xe (EP X pins σ Q) ⟨.bl _, H, I, rfl, q⟩
/-- sorted(xs), xs a list of texts of any length -/
def rSortedSL (K : PySem.W.Frag) : List V → Hp → VK → Prop := fun vs H Q => ∃ (a : Addr) (xs : List Str), vs = [V.ref a] ∧ SqL K H a (xs.map V.str) ∧ ∀ (ys : List Str) (p : Addr), ys.Perm xs → Srtd ltZ ys → H p = none → Q (.ref p) (upd H p (.lst (ys.map V.str)))
theorem cr_sortedSL : CallR X (.builtin "sorted") (rSortedSL X.K) := by
  intro pins s σ H vs us Q I r h
  obtain ⟨a, xs, rfl, hs, q⟩ := h
  obtain ⟨its, rv, hl, hz⟩ := I.list hs
  obtain rfl := Vals.ref1 r
  have hI : StrsAre its xs := strs_of_vals rv
  rw [List.length_map] at hz
  have il : its.length = xs.length := hI.length
  refine SrtO.sorted_ord (ltv := ltSv) ⟨fun x y => swo_str.asym _ _, fun x y z => swo_str.tr _ _ _⟩ hl.isList (by rw [il]; exact hz) (fun h2 h₁ b hb kk => strs_sortable (s := { s with heap := h₁ }) hI h2) fun out h1 h2 => ?_
  obtain ⟨ep, he'⟩ := PyProof.Rows.sortedAll_at s.heap its out.toArray
  have isO : ∀ v ∈ out, ∃ x t, v = Value.str x t := fun v hv => hI.all v (h2.perm.mem_iff.mp hv)
  have hO := strsAre_map out isO
  have pt : (out.map strOf).Perm xs := by
    have := h2.perm.map strOf
    rwa [show its.map strOf = xs from hI.strs] at this
  have hlen : ((out.map strOf).map V.str).length ≤ sizeLine := by rw [List.length_map, pt.length_eq]; exact hz
  refine ⟨.ref _, upd H (s.heap.objs.size + 1) (.lst ((out.map strOf).map V.str)), I.laid (t' := s.toks) (fun _ _ => PyProof.Rows.sortedAll_old) (Nat.le_succ _) ⟨hlen, out, ep, vals_of_strs hO, he'⟩, rfl, q _ _ pt (srtd_map h1) (I.hok.fresh (Nat.le_succ _))⟩
end
end L2

namespace L2
open PySem PySem.Spec PyProof.Rows
section
variable {X : Cx}
/-- name = {.. for ..} on one line, the name a local -/
theorem ps_setDc {i : Nat} {y : Str} {py : Pos} {kx vx tg iter : Expr} {ifs : List Expr} {scope : Scope} {own : List (Str × Nat)} {pos spos : Pos} {wi : TI} {g : TG} {tt : TT} {tk tv : TE} (hc : X.calm = true) (hN : X.N.Nodup) (hy : X.N[i]? = some y) (hyl : X.env.scope.names.lookup y = some .local)
    (hsw : swapsWith (.DictComp kx vx [⟨tg, iter, ifs, 0⟩] scope pos) (some (.Name y py)) spos.line X.env = pure true) (hi : PI X tg iter wi) (ok : BlkOk X.N X.env.scope scope own)
    (hg : ∀ (s : Shared) (H : Hp) (C : Addr) (cl : List (Str × Addr)) (fp : List Addr), PG (X.blk s H scope (compEnvC scope cl C X.env) fp) tg g) (ht : ∀ (s : Shared) (H : Hp) (C : Addr) (cl : List (Str × Addr)) (fp : List Addr), PTs (X.blk s H scope (compEnvC scope cl C X.env) fp) ifs tt)
    (hk : ∀ (s : Shared) (H : Hp) (C : Addr) (cl : List (Str × Addr)) (fp : List Addr), PE (X.blk s H scope (compEnvC scope cl C X.env) fp) kx tk)
    (he : ∀ (s : Shared) (H : Hp) (C : Addr) (cl : List (Str × Addr)) (fp : List Addr), PE (X.blk s H scope (compEnvC scope cl C X.env) fp) vx tv) (hs : ∀ x, foldedSetIterable iter X.env x = pure x := by intro _; rfl) :
    PS X (.Assign [.Name y py] (.DictComp kx vx [⟨tg, iter, ifs, 0⟩] scope pos) spos) (tAsg (tDc wi g tt tk tv (own.map (·.2))) (gName i)) := by
  refine ⟨fun pins s σ H D I h => ?_⟩
  rw [exec_Assign_Name_used _ _ _ _ hsw]
  refine wpAny_bind (wpAny_standAt (wpAny_bind ?_))
  show wpAny _ X.A (do let _ ← comprehension (.DictComp kx vx [⟨tg, iter, ifs, 0⟩] scope pos) scope X.env (firstIterPos [⟨tg, iter, ifs, 0⟩] pos) newDict false (eval iter X.env) (some (assign (.Name y py) X.env))) _ _ s
  have h : tDc wi g tt tk tv (own.map (·.2)) σ H (fun x H1 => gName i x σ H1 D.nx) := h
  refine wpAny_bind (thn (dc_core (Qf := fun _ s' => SP X pins D .next s') hc hN I hi ok hg ht hk he hs h fun L C s' m H' I' q hn f => ?_) fun _ s' hq => wpAny_pure (wpAny_pure hq))
  show wpAny _ _ (assign (.Name y py) X.env (.ref L)) _ _ _
  refine wpAny_assign_Name (store_ok2 (v := V.ref L) I' hN hy (.inl hyl) rfl (fun s2 I2 ⟨a, sb, ha⟩ => ?_) (.inr hyl))
  obtain ⟨f0, f1, f2, f3, f4, f5⟩ := f
  have haC : C ≠ a := by
    rcases ha with z | z
    · rw [z]; exact f1
    · exact fun e => f4 y a z e.symm
  refine ⟨m, hn.sameBut sb haC, fun h3 sb3 => ?_⟩
  exact ⟨_, H', I2.turned (t' := s2.toks) (fun b o hb e => (sb3.2 b hb).trans e) f0 f1 f3 f4 f5, q⟩
theorem sw_trueD {kx vx : Expr} {gs : List Comprehension} {scope : Scope} {pos py : Pos} {y : Str} {l : Nat} {env : Env} (hk : env.scope.kind = .function) (hy : env.scope.names.lookup y = some .local) (hl : (py.line == pos.line) = true)
    (ha : (scope.names.any fun (n, k) => n == y && (k == .local || k == .cell)) = false) : swapsWith (.DictComp kx vx gs scope pos) (some (.Name y py)) l env = pure true := by
  have ky : env.kindOf y = some .local := hy
  have hb : env.blockKind = .function := by unfold Env.blockKind; rw [hk]; rfl
  unfold swapsWith
  simp only [hb, ky, ha, Expr.pos, hl]
  rfl
/-- list.count of a text among texts -/
def rCntS (K : PySem.W.Frag) : V → List V → Hp → VK → Prop := fun x xs H Q => ∃ (p : Addr) (ns : List Str) (k : Str), x = .ref p ∧ xs = [.str k] ∧ SqL K H p (ns.map V.str) ∧ Q (.int (ns.count k : Nat)) H
theorem countS_in (k : Str) : ∀ ns : List Str, PySem.Spec.countIn (.str k) (ns.map PyData.str) = (ns.count k : Nat)
  | [] => rfl
  | n :: r => by
    rw [List.map_cons, PySem.Spec.countIn, countS_in k r, List.count_cons]
    simp only [PySem.Spec.same]
    rcases Bool.eq_false_or_eq_true (n == k) with hb | hb <;> simp only [hb, Bool.false_eq_true, if_true, if_false] <;> push_cast <;> omega
theorem mt_lcountS : MtR X "list.count" (rCntS X.K) := by
  intro pins s σ H x xs v us Q I rx rxs h
  obtain ⟨p, ns, k, rfl, rfl, hs, q⟩ := h
  cases rx
  obtain ⟨u, rfl, ru⟩ := rxs.one
  obtain ⟨t, rfl⟩ := ru
  obtain ⟨its, rv, pl, hlen⟩ := I.list hs
  refine count_list_strs (vs := its) pl.isList (strs_of_vals rv) ?_
  rw [countS_in]
  exact ⟨.int (ns.count k : Nat), H, I.tok _, ⟨s.toks, rfl⟩, q⟩
/-- a method within a comprehension: the written part by name -/
theorem pe_bmK {K : PySem.W.Frag} {o e : Expr} {es : List Expr} {to : TE} {t : TA} {name : Str} {apos cpos : Pos} {T id : String} {r : V → List V → Hp → VK → Prop} (pa : PlainAttrs T) (slot : Slot T name id) (hty : typeOf (.builtin id) = pure (.type "method_descriptor")) (hm : MtR X id r) (ho : PE X o to) (ha : PA X (e :: es) t) (hK : X.K = K := by rfl)
    (hbase : attributeBase o name X.env (eval o X.env) = eval o X.env := by rfl)
    (hfew : ((backTo cpos (starEach (e :: es) X.env)).all (fun x => !x.1) && (backToKw cpos (keywordEach [] X.env)).all (fun x => x.1.isSome)
      && decide ((e :: es).length + ([] : List Keyword).length + (if ([] : List Keyword).isEmpty then 0 else 1) < 30)) = true := by rfl)
    (hline : (apos.endLine == cpos.line) = true := by rfl) (hs : starEach (e :: es) X.env = (false, eval e X.env) :: starEach es X.env := by rfl) (hplain : (backTo cpos (starEach es X.env)).any (·.1) = false := by rfl) :
    PE X (.Call (.Attribute o name apos) (e :: es) [] cpos) (tBM K T r to t) := by
  subst hK
  exact pe_bm pa slot hty hm ho ha hbase hfew hline hs hplain
end
end L2

/-! own rules: a lambda handed to sorted as its key -/
namespace FlX
open PySem PySem.Spec PyProof.Rows PySem.W L2 LamX SrtZ
/-- a lambda that stands at f -/
def LamO (f : Addr) (qual : Str) (params : Arguments) (body : Expr) (scope : Scope) (c' : Addr) : HO := .ext fun h => ∃ pm ctv, h.get? f = some (kla_obj "<lambda>" qual params body scope [] pm c' ctv)
theorem LamO.mk {P : Program} {w : World} {H : Hp} {h : Heap} {f c' : Addr} {qual : Str} {params : Arguments} {body : Expr} {scope : Scope} {pm ctv : Value} (e : h.get? f = some (kla_obj "<lambda>" qual params body scope [] pm c' ctv)) :
    ObjOk P w H h f (LamO f qual params body scope c') :=
  ⟨⟨pm, ctv, e⟩, ⟨_, e⟩, fun h1 h2 ⟨b, c, q⟩ k => ⟨b, c, k _ q⟩⟩
/-- what the key does: less the second -/
structure NegSnd (params : Arguments) (bd : Expr) (scope : Scope) : Prop where
  kind : scope.kind = .function
  co : scope.isCoroutine = false
  gen : scope.isGenerator = false
  loc : scope.names.lookup ("pair" : Str) = some NameKind.local
  cell : ∀ y ∈ scope.names, y.2 ≠ NameKind.cell
  bdy : ∃ p1 p2 p3 p4 j, bd = .UnaryOp .USub (.Subscript (.Name "pair" p1) (.Constant (.int 1) j p2) p3) p4
  bind : ∀ (q : Str) (cl : List (Str × Addr)) (pm cv ctv u : Value), bindArgs (kla_fn "<lambda>" q params bd scope cl pm cv ctv) ⟨[u], []⟩ = pure [(("pair" : Str), u)]
/-- the greatest second first, alike ones in their turns -/
def fallBy {α : Type} (k : α → Int) (l : List α) : List α := l.mergeSort fun a b => decide (-(k a) ≤ -(k b))
section
variable {prog : Program} {w : World} {A : Around} {E : Value → Shared → Prop} {s : Shared}
theorem neg_snd {A' : Around} {env : Env} {t : Addr} {x : Str} {n : Int} {tx tn : Tok} {m : Str → Option Value} {p1 p2 p3 p4 : Pos} {j : Nat} {Q : Value → Shared → Prop} (hk : env.scope.kind = .function) (hl : env.kindOf "pair" = some .local)
    (hn : s.heap.Ns env.locals m) (hm : m "pair" = some (.ref t)) (ht : IsTup s.heap t #[.str x tx, .int n tn]) (q : ∀ tk tk2, Q (.int (-n) tk) { s with toks := tk2 }) :
    wpAny (model prog w) A' (eval (.UnaryOp .USub (.Subscript (.Name "pair" p1) (.Constant (.int 1) j p2) p3) p4) env) Q E s := by
  refine UnaryOp_ (Subscript_ (wpAny_Name (wpAny_loadName_local hk hl hn hm ?_)))
  refine wpAny_Constant_int ?_
  have ht' : IsTup ({ s with toks := s.toks + 1 } : Shared).heap t #[.str x tx, .int n tn] := ht
  refine subscriptTail_builtinR (x := .int n tn) (s := { s with toks := s.toks + 1 }) ht'.typeIs slot_tuple_getitem.lookup
    (getItem_tuple (j := 1) ht' (by decide) (by decide) rfl rfl ⟨rfl, ?_⟩)
  exact neg_int (q _ _)
/-- f(t) for the key f and a tuple t -/
theorem lam_call {A : Around} {f c' t : Addr} {qual x : Str} {n : Int} {tx tn : Tok} {params : Arguments} {body : Expr} {scope : Scope} {pm ctv : Value} {E : Value → Shared → Prop} (N : NegSnd params body scope) (hd : A.depth < recursionLimit) (hlim : s.heap.NoLimit)
    (ho : s.heap.get? f = some (kla_obj "<lambda>" qual params body scope [] pm c' ctv)) (hc : s.heap.CodeRec (.ref c') qual) (ht : IsTup s.heap t #[.str x tx, .int n tn]) :
    wpAny (model prog w) A (call (.ref f) [.ref t]) (KeyPure (.int (-n)) s) E s := by
  obtain ⟨p1, p2, p3, p4, j, hb⟩ := N.bdy
  refine wpAny_call (kla_callFunE hd ho rfl N.co N.gen rfl hc ?_)
  rw [N.bind]
  refine wpAny_pure (wpAny_newFunctionEnv N.cell (fun y hy => ?_) (fun h₁ hns hsb => ⟨hlim.fresh _ hsb, ?_⟩) N.kind)
  · rw [List.mem_singleton.mp hy]
    exact N.loc
  show codeAny _ _ (.expr body (envX qual scope s.heap.objs.size f (.ref c') [])) _ _
  have kp : ∀ b o, s.heap.get? b = some o → h₁.get? b = some o := fun b o e => hsb.extBut b o (Nat.ne_of_lt (Heap.lt_size e)) (Heap.get?_push_of_some _ e)
  have ht1 : IsTup h₁ t #[.str x tx, .int n tn] := by
    obtain ⟨o, e, c⟩ := ht
    exact ⟨o, kp _ _ e, c⟩
  refine kla_codeExpr ?_
  rw [hb]
  refine neg_snd (s := { s with heap := h₁, toks := s.toks + ([(("pair" : Str), Value.ref t)]).length }) N.kind N.loc hns (by simp) ht1 fun tk tk2 => ?_
  exact ⟨h₁, tk2, rfl, kp, .int _ _⟩
end
end FlX

namespace FlX
open PySem PySem.Spec PyProof.Rows PySem.W L2 LamX SrtZ
section
variable {prog : Program} {w : World} {A : Around} {E : Value → Shared → Prop} {s : Shared}
/-- what is collected of a tuple -/
theorem gather_tup {l : Addr} {vs : List Value} {Q : List Value → Shared → Prop} (hl : IsTup s.heap l vs.toArray)
    (h : Q vs { s with heap := (s.heap.push (seqObj "list" #[] 0)).update s.heap.objs.size (Obj.mapSeq (· ++ vs.toArray)) }) (hsz : vs.length ≤ sizeLine) :
    wpAny (model prog w) A (collect (.ref l)) Q E s := by
  obtain ⟨o, ho, hc, n, hd⟩ := id hl
  unfold collect
  refine wpAny_bind (wpAny_runValue (codeAny_builtin entry_proto_collect' ?_))
  refine wpAny_bind (m := newList []) (wpAny_newList (wpAny_pure ⟨Code.quiet_builtin _ (by decide +kernel), codeAny_builtin entry_list_iadd' ?_⟩))
  have hT : ({ s with heap := s.heap.push (seqObj "list" #[] 0) } : Shared).heap.get? l = some o := Heap.get?_push_of_some _ ho
  have hL : ({ s with heap := s.heap.push (seqObj "list" #[] 0) } : Shared).heap.get? s.heap.objs.size = some (seqObj "list" #[] 0) := Heap.get?_push_size _ rfl
  show wpAny (model prog w) _ (Builtin.List.listExtendWith (.ref s.heap.objs.size) (.ref l) (.ref s.heap.objs.size)) _ _ { s with heap := s.heap.push (seqObj "list" #[] 0) }
  unfold Builtin.List.listExtendWith
  refine wpAny_bind (wpAny_typeOf (T := "tuple") (v := .ref l) ⟨o, hT, hc⟩ ?_)
  rw [if_pos (by simp)]
  refine wpAny_bind (listItems_at hT hd ?_)
  refine wpAny_bind (listItems_at hL rfl ?_)
  rw [if_neg (by simp)]
  refine wpAny_bind (listUpdate_at hL rfl ?_ (Nat.zero_le _) (by simp only [Array.size_append, List.size_toArray]; show 0 + vs.length ≤ _; omega))
  refine wpAny_pure ?_
  refine wpAny_bind (m := load s.heap.objs.size) (wpAny_load (get?_update_seq (Heap.get?_push_size _ rfl) _) ?_)
  have e : ((#[] : Array Value) ++ vs.toArray).toList = vs := by simp
  show wpAny _ _ (pure ((#[] : Array Value) ++ vs.toArray).toList) Q E _
  rw [e]
  exact wpAny_pure h
/-- sorted(t, key=f) of a tuple is a sort by the key of a new list -/
theorem sorted_tup {l q : Addr} {vs : List Value} {Q : Value → Shared → Prop} (hl : IsTup s.heap l vs.toArray) (hL : vs.length ≤ sizeLine)
    (body : ∀ E' : Value → Shared → Prop, wpAny (model prog w) A.in1.in1 (Builtin.«list.sort» ⟨[.ref (s.heap.objs.size + 1)], [(Str.ofString "key", .ref q)]⟩) (fun f s' => f = .done (.ret .none) ∧ Q (.ref (s.heap.objs.size + 1)) s') E' { s with heap := copyHeap s.heap vs }) :
    wpAny (model prog w) A (call (.builtin "sorted") [.ref l] [(Str.ofString "key", .ref q)]) Q E s := by
  refine call_function_entry_kw kind_sorted plain_sorted entry_sorted (ksk_s1 _ _) ?_
  unfold Builtin.«sorted»
  refine wpAny_bind (m := checkCount "sorted" 1 1 _) (wpAny_pure ?_)
  refine wpAny_bind (gather_tup hl ?_ hL)
  refine wpAny_bind (wpAny_newList ?_ hL)
  have hsz : ((s.heap.push (seqObj "list" #[] 0)).update s.heap.objs.size (Obj.mapSeq (· ++ vs.toArray))).objs.size = s.heap.objs.size + 1 := by
    rw [Heap.size_update, size_push']
  rw [show (({ s with heap := (s.heap.push (seqObj "list" #[] 0)).update s.heap.objs.size (Obj.mapSeq (· ++ vs.toArray)) } : Shared).heap.objs.size) = s.heap.objs.size + 1 from hsz]
  refine wpAny_bind (wpAny_holding (wpAny_call_entry_kw slot_list_sort ⟨_, copyHeap_at s.heap vs, rfl⟩ entry_list_sort ?_ (ksk_l1 _ _)))
  refine wpAny_mono (body _) (fun f s' hf => ?_) fun _ _ e => e
  obtain ⟨rfl, hq⟩ := hf
  exact ⟨_, rfl, wpAny_pure ⟨_, rfl, hq⟩⟩
end
end FlX

namespace FlX
open PySem PySem.Spec PyProof.Rows PySem.W L2 LamX SrtZ
section
variable {prog : Program} {w : World} {A : Around} {E : Value → Shared → Prop} {s : Shared} {β : Type} {vs : List Value} {bs : List β} {R : Value → β → Prop}
/-- sorted(t, key=f) of a tuple -/
theorem sorted_key_tup {l q : Addr} {Q : Value → Shared → Prop} (k : β → PyData) (hl : IsTup s.heap l vs.toArray) (e : EachIs R vs bs) (hal : AllAlike (bs.map k)) (hk : Sortable (bs.map k)) (hL : bs.length ≤ sizeLine)
    (hu : ∀ x, x ∈ bs → A.units + 2 + (k x).depth < cLine)
    (turn : ∀ (v : Value) (x : β), R v x → x ∈ bs → ∀ (h : Heap) (tk : Nat), (∀ b o, s.heap.get? b = some o → h.get? b = some o) →
      wpAny (model prog w) A.in1.in1 (call (.ref q) [v]) (KeyPure (k x) { s with heap := h, toks := tk }) (fun _ _ => False) { s with heap := h, toks := tk })
    (h : ∀ out c h' tk, (∀ b o, s.heap.get? b = some o → h'.get? b = some o) → h'.get? (s.heap.objs.size + 1) = some (seqObj "list" (List.toArray out) c) → out.length = bs.length → EachIs R out (bs.mergeSort (dataLe false k)) →
      Q (.ref (s.heap.objs.size + 1)) { s with heap := h', toks := tk }) :
    wpAny (model prog w) A (call (.builtin "sorted") [.ref l] [(Str.ofString "key", .ref q)]) Q E s := by
  have up : ∀ {g : Heap}, KeepsBut (s.heap.objs.size + 1) (copyHeap s.heap vs) g → ∀ b o, s.heap.get? b = some o → g.get? b = some o := fun {g} kp b o z =>
    kp b o (Nat.ne_of_lt (Nat.lt_succ_of_lt (Heap.lt_size z))) (copyHeap_old z)
  have el := e.length
  refine sorted_tup hl (by omega) fun E' => ?_
  rw [ksk_t1]
  refine keyH_tree (kz := bs.map k) (s := { s with heap := copyHeap s.heap vs }) (copyHeap_at s.heap vs) (by rw [List.length_map]; exact el.symm) (by omega) hal hk (bound_map (A := A.in1.in1) hu)
    (keyH_turns (s := { s with heap := copyHeap s.heap vs }) e fun v x hR hx g tk kp => turn v x hR hx g tk (up kp)) fun h' tk out c kp hD ko => ⟨rfl, ?_⟩
  exact h out c h' tk (up kp) hD ((ko.length (by rw [List.length_map]; exact el.symm)).trans el) (keyedOut_each k ko e)
end
theorem refs_of : ∀ {ts : List Addr} {its : List Value}, Vals (ts.map V.ref) its → its = ts.map Value.ref
  | [], _, .nil => rfl
  | t :: ts, _, .cons h r => by
    have h : _ = Value.ref t := h
    rw [h, refs_of r]
    rfl
theorem eachRefs : ∀ {ts : List Addr} {kvs : List (Str × Int)}, ts.length = kvs.length → EachIs (fun (v : Value) (x : Addr × (Str × Int)) => v = .ref x.1) (ts.map Value.ref) (ts.zip kvs)
  | [], [], _ => .nil
  | t :: ts, e :: kvs, h => .cons rfl (eachRefs (by simpa using h))
theorem refs_each : ∀ {out : List Value} {xs : List (Addr × (Str × Int))}, EachIs (fun (v : Value) (x : Addr × (Str × Int)) => v = .ref x.1) out xs → out = (xs.map (·.1)).map Value.ref
  | _, _, .nil => rfl
  | _, _, .cons h t => by rw [h, refs_each t]; rfl
theorem zip_in {F : Addr → Str × Int → Prop} : ∀ {ts : List Addr} {kvs : List (Str × Int)}, Paired F ts kvs → ∀ x ∈ ts.zip kvs, F x.1 x.2
  | _, _, .nil, _, h => nomatch h
  | _, _, .cons h t, x, hx => by
    rcases List.mem_cons.mp hx with rfl | hx
    · exact h
    · exact zip_in t x hx
theorem paired_maps {F : Addr → Str × Int → Prop} : ∀ {xs : List (Addr × (Str × Int))}, (∀ x ∈ xs, F x.1 x.2) → Paired F (xs.map (·.1)) (xs.map (·.2))
  | [], _ => .nil
  | x :: xs, h => .cons (h x List.mem_cons_self) (paired_maps fun y hy => h y (List.mem_cons_of_mem _ hy))
theorem zip_snd {α β : Type} : ∀ {ts : List α} {kvs : List β}, ts.length = kvs.length → (ts.zip kvs).map (·.2) = kvs
  | [], [], _ => rfl
  | t :: ts, e :: kvs, h => congrArg (List.cons e) (zip_snd (by simpa using h))
section
variable {X : Cx}
/-- sorted(t, key=lambda pair: -pair[1]), t a tuple of pairs (text, int) -/
def rSortFall (K : PySem.W.Frag) (qual : Str) (params : Arguments) (body : Expr) (scope : Scope) : List V → List V → Hp → VK → Prop := fun vs zs H Q => ∃ (t f c' : Addr) (ts : List Addr) (kvs : List (Str × Int)), vs = [V.ref t] ∧ zs = [V.ref f] ∧ SqT K H t (ts.map V.ref) ∧
  Paired (fun (t : Addr) (e : Str × Int) => SqT K H t [.str e.1, .int e.2]) ts kvs ∧ H f = some (LamO f qual params body scope c') ∧ H c' = some (CodeO c' qual) ∧
  ∀ (p : Addr) (us : List Addr), H p = none → Paired (fun (t : Addr) (e : Str × Int) => SqT K H t [.str e.1, .int e.2]) us (fallBy (·.2) kvs) → Q (.ref p) (upd H p (.lst (us.map V.ref)))
theorem cr_sortFall {qual : Str} {params : Arguments} {body : Expr} {scope : Scope} {k : Nat} (N : NegSnd params body scope) (hr : Room k X.A) : CallRK X (.builtin "sorted") [Str.ofString "key"] (rSortFall X.K qual params body scope) := by
  intro pins s σ H vs zs us ws Q I r rz h
  obtain ⟨t, f, c', ts, kvs, rfl, rfl, ht, hp, hf, hc, q⟩ := h
  obtain rfl := Vals.ref1 r
  obtain rfl := Vals.ref1 rz
  obtain ⟨its, rv, hT, hz⟩ := I.tuple ht
  obtain rfl := refs_of rv
  have hl := Paired.length hp
  rw [List.length_map] at hz
  have hbl : (ts.zip kvs).length = ts.length := by rw [List.length_zip]; omega
  have hlim := I.nolimit
  have en : dataLe false (fun x : Addr × (Str × Int) => PyData.int (-x.2.2)) = fun a b => decide (-(a.2.2) ≤ -(b.2.2)) := dataLe_int (fun x : Addr × (Str × Int) => -x.2.2)
  refine sorted_key_tup (R := fun (v : Value) (x : Addr × (Str × Int)) => v = .ref x.1) (bs := ts.zip kvs) (fun x => PyData.int (-x.2.2)) hT (eachRefs hl) ?_ ?_ (by omega) (fun x hx => ?_) (fun v x hv hx g tk kp => ?_) fun out c h' tk kp hD hlen ho => ?_
  · intro d hd d' hd'
    obtain ⟨_, _, rfl⟩ := List.mem_map.mp hd
    obtain ⟨_, _, rfl⟩ := List.mem_map.mp hd'
    rfl
  · refine .inr fun d hd => ?_
    obtain ⟨_, _, rfl⟩ := List.mem_map.mp hd
    exact ⟨(fun z => nomatch z), fun xs z => nomatch z⟩
  · have h1 := hr.un
    show X.A.units + 2 + 0 < cLine
    omega
  · subst hv
    obtain ⟨i2, r2, T2, _⟩ := I.tuple (zip_in hp x hx)
    obtain ⟨u1, u2, rfl, ri, rj⟩ := vals2 r2
    obtain ⟨t1, rfl⟩ := ri
    obtain ⟨t2, rfl⟩ := rj
    obtain ⟨⟨pm, ctv, hfo⟩, _, _⟩ := I.hok f _ hf
    obtain ⟨⟨oc, vs, tq, h1, h2, h3⟩, _, _⟩ := I.hok c' _ hc
    obtain ⟨o, e1, e2⟩ := T2
    have hd : X.A.in1.in1.depth < recursionLimit := hr.depth
    exact lam_call (s := { s with heap := g, toks := tk }) N hd (hlim.keeps kp) (kp _ _ hfo) ⟨c', oc, vs, tq, rfl, kp _ _ h1, h2, h3⟩ (t := x.1) ⟨o, kp _ _ e1, e2⟩
  · rw [en] at ho
    obtain rfl := refs_each ho
    have hn : H (s.heap.objs.size + 1) = none := I.hok.fresh (Nat.le_succ _)
    generalize hbs : (ts.zip kvs).mergeSort (fun a b => decide (-(a.2.2) ≤ -(b.2.2))) = sx at hD hlen
    have pm : sx.Perm (ts.zip kvs) := by rw [← hbs]; exact List.mergeSort_perm _ _
    have hsn : sx.map (·.2) = fallBy (·.2) kvs := by
      rw [← hbs, sort_maps (s := fun a b : Str × Int => decide (-(a.2) ≤ -(b.2))) Prod.snd (fun _ _ _ _ => rfl), zip_snd hl]
      rfl
    refine ⟨.ref _, upd H (s.heap.objs.size + 1) (.lst ((sx.map (·.1)).map V.ref)), I.laid (t' := tk) kp (Nat.le_succ _) ⟨?_, _, c, LiI.vals_refs _, hD⟩, rfl, q _ _ hn ?_⟩
    · rw [List.length_map, List.length_map, pm.length_eq]
      omega
    · rw [← hsn]
      exact paired_maps fun x hx => zip_in hp x (pm.mem_iff.mp hx)
end
end FlX

namespace FlX
open PySem PySem.Spec PyProof.Rows PySem.W L2 LamX SrtZ
theorem tabS_new {H : Hp} {P p : Addr} {q : Str} {o : HO} (h : TabS H P q) (n : H p = none) : TabS (upd H p o) P q := h.ext fun b u e => by rw [upd_ne (ne_of_none e n)]; exact e
/-- all but the table stays, and the table is well -/
structure ExT (P : Addr) (q : Str) (H H' : Hp) : Prop where
  tab : TabS H' P q
  keep : ∀ b o, b ≠ P → H b = some o → H' b = some o
section
variable {P : Addr} {q : Str} {H H1 H2 : Hp}
theorem tab_no {b : Addr} {o : HO} (T : TabS H P q) (e : H b = some o) (n : ∀ ps, o ≠ .tbl ps) : b ≠ P := fun z => by
  obtain ⟨ps, h, _⟩ := T
  rw [z, h] at e
  exact n ps (Option.some.inj e).symm
theorem ExT.refl (T : TabS H P q) : ExT P q H H := ⟨T, fun _ _ _ e => e⟩
theorem ExT.trans (a : ExT P q H H1) (b : ExT P q H1 H2) : ExT P q H H2 := ⟨b.tab, fun c o n e => b.keep c o n (a.keep c o n e)⟩
theorem tabS_same (T : TabS H P q) (s : Same H H1) : TabS H1 P q := T.ext s
theorem Same.exT (s : Same H H1) (T : TabS H P q) : ExT P q H H1 := ⟨tabS_same T s, fun b o _ e => s b o e⟩
theorem ExT.same (a : ExT P q H H1) (s : Same H1 H2) : ExT P q H H2 := ⟨tabS_same a.tab s, fun b o n e => s b o (a.keep b o n e)⟩
theorem ExT.new {p : Addr} {o : HO} (a : ExT P q H H1) (n : H1 p = none) : ExT P q H (upd H1 p o) := a.same fun b u e => by rw [upd_ne (ne_of_none e n)]; exact e
theorem ExT.at {b : Addr} {o : HO} (a : ExT P q H H1) (T : TabS H P q) (e : H b = some o) (n : ∀ ps, o ≠ .tbl ps) : H1 b = some o := a.keep b o (tab_no T e n) e
theorem ExT.ne {p : Addr} (a : ExT P q H H1) (n : H1 p = none) : p ≠ P := fun z => by
  obtain ⟨ps, h, _⟩ := a.tab
  rw [z, h] at n
  cases n
theorem ExT.gone {p : Addr} (a : ExT P q H H1) (n : H1 p = none) : H p = none := by
  cases h : H p with
  | none => rfl
  | some o =>
    rw [a.keep p o (a.ne n) h] at n
    cases n
/-- what was new is stored anew -/
theorem ExT.put {p : Addr} {o : HO} (a : ExT P q H H1) (n : H p = none) (np : p ≠ P) (nc : ∀ cq, H1 p ≠ some (CodeO p cq)) : ExT P q H (upd H1 p o) := by
  refine ⟨?_, fun b u nb e => ?_⟩
  · obtain ⟨ps, h1, h2, h3⟩ := a.tab
    refine ⟨ps, by rw [upd_ne np.symm]; exact h1, h2, fun pos cv hc => ?_⟩
    obtain ⟨c, e1, e2⟩ := h3 pos cv hc
    refine ⟨c, e1, ?_⟩
    have : c ≠ p := fun z => by
      subst z
      exact nc q e2
    rw [upd_ne this]
    exact e2
  · rw [upd_ne (ne_of_none e n)]
    exact a.keep b u nb e
theorem ExT.tup {K : PySem.W.Frag} {b : Addr} {xs : List V} (a : ExT P q H H1) (T : TabS H P q) (h : SqT K H b xs) : SqT K H1 b xs := by
  rcases h with (h | ⟨o, h⟩) | h
  · exact .inl (.inl (a.at T h (fun ps z => nomatch z)))
  · exact .inl (.inr ⟨o, a.at T h (fun ps z => nomatch z)⟩)
  · exact .inr h
theorem ExT.tups {K : PySem.W.Frag} {ts : List Addr} {kvs : List (Str × Int)} (a : ExT P q H H1) (T : TabS H P q) (h : Paired (fun (t : Addr) (e : Str × Int) => SqT K H t [.str e.1, .int e.2]) ts kvs) : Paired (fun (t : Addr) (e : Str × Int) => SqT K H1 t [.str e.1, .int e.2]) ts kvs :=
  L2.Paired.mapP h fun _ _ k => a.tup T k
end
section
variable {X : Cx} {pins : List (Addr × Obj)} {σ : L2.St} {H : Hp} {s : Shared}
theorem exT_of {H : Hp} {P c : Addr} {o : HO} {ps qs : Array Value} (nc : H c = none) : ∀ b u, b ≠ P → H b = some u → (upd (upd H P (.tbl qs)) c o) b = some u := fun b u n e => by
  rw [upd_ne (ne_of_none e nc), upd_ne n]
  exact e
/-- a lambda is made, and tracked -/
theorem lam_new {c P : Addr} {params : Arguments} {body : Expr} {scope : Scope} {pos : Pos} {q : Str} {E : Value → Shared → Prop} {Q : VK} (I : Inv X pins σ H s) (TB : TabB X.base X.mg c P) (hcode : X.env.code = .ref c) (hT : TabS H P q) (hq : X.env.qual ++ "<lambda>" = q)
    (hdef : defaultsOf params X.env = ([], [])) (hfree : ∀ y ∈ scope.names, y.2 = .free → ∃ c, X.env.cells.lookup y.1 = some c) (hclo : cloFrom X.env.cells scope.names [] = [])
    (h : ∀ (f c' : Addr) (H1 : Hp), ExT P q H H1 → H f = none → H1 f = some (LamO f q params body scope c') → H1 c' = some (CodeO c' q) → Q (.ref f) H1) :
    wpAny (model X.prog X.w) X.A (eval (.Lambda params body scope pos) X.env) (EP X pins σ Q) E s := by
  subst hq
  have T0 := hT
  obtain ⟨ps, hP, ht, ha⟩ := hT
  have hP0 : s.heap.get? P = some { cls := .none, data := .fields ps } := I.hok P _ hP
  have hb0 : s.heap.BuiltinsAt X.mg P := TB.bm.keeps I.bk
  refine kla_eval hdef ?_
  -- what follows once the function stands at the heap's end
  have fin : ∀ (h' : Heap) (tk : Nat) (c' : Addr) (ctv : Value) (H1 : Hp), Inv X pins σ H1 { s with heap := h', toks := tk } → s.heap.objs.size ≤ h'.objs.size → ExT P (X.env.qual ++ "<lambda>") H H1 → H1 c' = some (CodeO c' (X.env.qual ++ "<lambda>")) →
      EP X pins σ Q (.ref h'.objs.size) { s with heap := h'.push (kla_obj "<lambda>" (X.env.qual ++ "<lambda>") params body scope (cloFrom X.env.cells scope.names []) ((X.mg "__name__").getD .none) c' ctv), toks := tk } := by
    intro h' tk c' ctv H1 I1 hsz eN hc'
    rw [hclo]
    have hn : H1 h'.objs.size = none := I1.hok.fresh (Nat.le_refl _)
    have ne : c' ≠ h'.objs.size := ne_of_none hc' hn
    refine ⟨.ref h'.objs.size, upd H1 h'.objs.size (LamO h'.objs.size (X.env.qual ++ "<lambda>") params body scope c'), ?_, rfl, h _ c' _ (eN.new hn) (I.hok.fresh hsz) upd_same (by rw [upd_ne ne]; exact hc')⟩
    exact I1.laid (t' := tk) (fun b o e => Heap.get?_push_of_some _ e) (Nat.le_refl _) (LamO.mk (Heap.get?_push_size _ rfl))
  cases hc : codeAmong pos ps.toList with
  | some cv =>
    obtain ⟨c', rfl, hco⟩ := ha pos cv hc
    refine kla_makeFunctionHit (closure_ok hfree) I.ok.glob (I.mod.glob.keeps I.bk) hcode (TB.code.keeps I.bk) hP0 ht hc hb0 fun ctv h' tk hx hsz => ?_
    exact fin h' tk c' ctv H (I.kept hx) hsz (.refl T0) hco
  | none =>
    refine kla_makeFunction (closure_ok hfree) I.ok.glob (I.mod.glob.keeps I.bk) hcode (TB.code.keeps I.bk) hP0 ht hc TB.gP hb0 fun c' ctv h' tk hx hge hlt hrec htb => ?_
    obtain ⟨c2, oc, vs, t, e2, hoc, hd, hv⟩ := hrec
    cases e2
    have nc : H c' = none := I.hok.fresh hge
    have I1 := inv_table (t' := tk) (more := #[rawInt pos.line, rawInt pos.col, .ref c']) I hP hx htb hge ⟨oc, vs, t, hoc, hd, hv⟩
    have eN : ∀ b u, b ≠ P → H b = some u → (upd (upd H P (.tbl (ps ++ #[rawInt pos.line, rawInt pos.col, .ref c']))) c' (CodeO c' (X.env.qual ++ "<lambda>"))) b = some u := exT_of (ps := ps) nc
    refine fin h' tk c' ctv _ I1 (Nat.le_trans hge (Nat.le_of_lt hlt)) ⟨⟨_, by rw [upd_ne (ne_of_none hP nc), upd_same], ?_, fun p' cv hcv => ?_⟩, eN⟩ upd_same
    · simp only [Array.toList_append]
      exact PySem.TriplesOk_snoc _ _ _ _ ht
    · simp only [Array.toList_append] at hcv
      rcases among_app _ ht hcv with z | z
      · obtain ⟨c0, e1, e2⟩ := ha p' cv z
        exact ⟨c0, e1, eN _ _ (tab_no T0 e2 codeO_ne) e2⟩
      · exact ⟨c', z, upd_same⟩
/-- what the making of a lambda asks of the maker -/
structure LamOk (X : Cx) (c P : Addr) (q : Str) (params : Arguments) (scope : Scope) : Prop where
  tb : TabB X.base X.mg c P
  code : X.env.code = .ref c
  qual : X.env.qual ++ "<lambda>" = q
  dflt : defaultsOf params X.env = ([], [])
  free : ∀ y ∈ scope.names, y.2 ≠ .free
  clo : cloFrom X.env.cells scope.names [] = []
def tLamV (P : Addr) (q : Str) (params : Arguments) (body : Expr) (scope : Scope) : TE := fun _ H Q => TabS H P q ∧ ∀ (f c' : Addr) (H1 : Hp), ExT P q H H1 → H f = none → H1 f = some (LamO f q params body scope c') → H1 c' = some (CodeO c' q) → Q (.ref f) H1
theorem pe_lam {c P : Addr} {q : Str} {params : Arguments} {body : Expr} {scope : Scope} {pos : Pos} (L : LamOk X c P q params scope) : PE X (.Lambda params body scope pos) (tLamV P q params body scope) :=
  ⟨fun pins s σ H Q I h => lam_new I L.tb L.code h.1 L.qual L.dflt (fun y hy e => absurd e (L.free y hy)) L.clo fun f c' H1 => h.2 f c' H1⟩
/-- sorted(t, key=lambda pair: -pair[1]) -/
def tFall (K : PySem.W.Frag) (P : Addr) (q : Str) (params : Arguments) (body : Expr) (scope : Scope) (t : TA) : TE := tCKw (rSortFall K q params body scope) t (tCons (tLamV P q params body scope) tNil)
theorem pe_fall {c P : Addr} {q : Str} {params : Arguments} {body : Expr} {scope : Scope} {k : Nat} {e : Expr} {t : TA} {p lpos kpos pos : Pos} (N : NegSnd params body scope) (L : LamOk X c P q params scope) (hr : Room k X.A) (hg : Gl X "sorted") (hm : X.mg "sorted" = none) (ha : PA X [e] t)
    (h1 : backTo pos (starEach [e] X.env) = (false, eval e X.env) :: backTo pos (starEach [] X.env) := by rfl) (h2 : (backTo pos (starEach [e] X.env)).any (·.1) = false := by rfl) :
    PE X (.Call (.Name "sorted" p) [e] [⟨some "key", .Lambda params body scope lpos, kpos⟩] pos) (tFall X.K P q params body scope t) :=
  pe_callBK (p := p) (pos := pos) (cr_sortFall (X := X) (qual := q) N hr) hg hm (by decide +kernel) ha (pk_cons (nm := some "key") (kpos := kpos) (pe_lam (body := body) (pos := lpos) L) pk_nil) (he := h1) (hpl := h2)
theorem sqT_new {K : PySem.W.Frag} {H : Hp} {t p : Addr} {xs : List V} {o : HO} (h : SqT K H t xs) (n : H p = none) : SqT K (upd H p o) t xs := by
  rcases h with (h | ⟨u, h⟩) | h
  · exact .inl (.inl (by rw [upd_ne (ne_of_none h n)]; exact h))
  · exact .inl (.inr ⟨u, by rw [upd_ne (ne_of_none h n)]; exact h⟩)
  · exact .inr h
/-- its reading -/
theorem rd_fall {K : PySem.W.Frag} {P : Addr} {q : Str} {params : Arguments} {body : Expr} {scope : Scope} {σ : L2.St} {H : Hp} {i : Nat} {a : Addr} {ts : List Addr} {kvs : List (Str × Int)} {Q : VK} (h0 : σ[i]? = some (some (.ref a))) (ht : SqT K H a (ts.map V.ref))
    (hp : Paired (fun (t : Addr) (e : Str × Int) => SqT K H t [.str e.1, .int e.2]) ts kvs) (T : TabS H P q)
    (k : ∀ (H2 : Hp) (p : Addr) (us : List Addr), ExT P q H H2 → H p = none → H2 p = some (.lst (us.map V.ref)) → Paired (fun (t : Addr) (e : Str × Int) => SqT K H2 t [.str e.1, .int e.2]) us (fallBy (·.2) kvs) → Q (.ref p) H2) :
    tFall K P q params body scope (tCons (tVar i) tNil) σ H Q := by
  refine ⟨.ref a, h0, T, fun f c' H2 eN nf hf hc => ⟨a, f, c', ts, kvs, rfl, rfl, eN.tup T ht, eN.tups T hp, hf, hc, fun p us np hus => ?_⟩⟩
  exact k _ p us (eN.new np) (eN.gone np) upd_same (L2.Paired.mapP hus fun _ _ h => sqT_new h np)
end
end FlX

namespace Kb
/-! the mathematics of ends: lists of kept counts, the greatest first, what was taken of each, and fresh counts -/
def mnI (off S : Int) : Int := if S < off then S else off
theorem mnI_le {off S : Int} : mnI off S ≤ off ∧ mnI off S ≤ S := by unfold mnI; split <;> omega
theorem mnI_nn {off S : Int} (h : 0 ≤ off) (k : 0 ≤ S) : 0 ≤ mnI off S := by unfold mnI; split <;> omega
/-- falling -/
def Fall (L : List Int) : Prop := L.Pairwise (· ≥ ·)
/-- each is at most so much -/
def Most (a : Int) (L : List Int) : Prop := ∀ b ∈ L, b ≤ a
def Nn (L : List Int) : Prop := ∀ b ∈ L, 0 ≤ b
theorem Nn.cons {a : Int} {L : List Int} (h : Nn (a :: L)) : 0 ≤ a ∧ Nn L := ⟨h a List.mem_cons_self, fun b hb => h b (List.mem_cons_of_mem _ hb)⟩
theorem Fall.cons {a : Int} {L : List Int} (h : Fall (a :: L)) : Most a L ∧ Fall L := by
  unfold Fall at h
  rw [List.pairwise_cons] at h
  exact ⟨fun b hb => h.1 b hb, h.2⟩
theorem sum_nn : ∀ {l : List Int}, Nn l → 0 ≤ l.sum
  | [], _ => Int.le_refl _
  | a :: l, h => by
    rw [List.sum_cons]
    have := h.cons
    have := sum_nn this.2
    omega
/-! squares -/
def sqs (l : List Int) : Int := (l.map fun x => x * x).sum
theorem sqs_cons (a : Int) (l : List Int) : sqs (a :: l) = a * a + sqs l := by unfold sqs; rw [List.map_cons, List.sum_cons]
def sqP (off S : Int) : Int := S / off * (off * off) + S % off * (S % off)
def sqG (off : Int) : List Int → Int → Int
  | [], S => sqP off S
  | b :: L, S => (b + mnI off S) * (b + mnI off S) + sqG off L (S - mnI off S)
theorem div_add {S off : Int} (h : 0 < off) : (S + off) / off = S / off + 1 ∧ (S + off) % off = S % off := by
  constructor
  · have := Int.add_mul_ediv_right S 1 (show off ≠ 0 by omega)
    rw [Int.one_mul] at this
    exact this
  · exact Int.add_emod_right S off
theorem sqP_small {off S : Int} (h0 : 0 ≤ S) (h : S < off) : sqP off S = S * S := by
  unfold sqP
  rw [Int.ediv_eq_zero_of_lt h0 h, Int.emod_eq_of_lt h0 h]
  omega
theorem sqP_more {off S : Int} (h : 0 < off) : sqP off (S + off) = sqP off S + off * off := by
  unfold sqP
  rw [(div_add h).1, (div_add h).2]
  grind
theorem sqP_incr {off S d : Int} (h : 0 < off) (h0 : 0 ≤ S) (d0 : 0 ≤ d) (d1 : d ≤ off) : sqP off (S + d) - sqP off S ≤ d * (2 * off - d) := by
  have e := Int.emod_add_mul_ediv S off
  have r0 := Int.emod_nonneg S (show off ≠ 0 by omega)
  have r1 := Int.emod_lt_of_pos S h
  have q0 : 0 ≤ S / off := Int.ediv_nonneg h0 (by omega)
  generalize S / off = q at *
  generalize S % off = r at *
  subst e
  have gen : ∀ x : Int, sqP off (x + off * q) = sqP off x + q * (off * off) := fun x => by
    unfold sqP
    rw [Int.add_mul_ediv_left x q (show off ≠ 0 by omega), Int.add_mul_emod_self_left]
    grind
  rw [show r + off * q + d = (r + d) + off * q by omega, gen, gen, sqP_small r0 r1]
  by_cases c : r + d < off
  · rw [sqP_small (by omega) c]
    have := Int.mul_le_mul_of_nonneg_left (show r + d ≤ off by omega) d0
    grind
  · have e2 : sqP off (r + d) = sqP off (r + d - off) + off * off := by
      have := sqP_more (S := r + d - off) h
      rw [show r + d - off + off = r + d by omega] at this
      exact this
    rw [e2, sqP_small (by omega) (by omega)]
    have := Int.mul_nonneg (show 0 ≤ off - d by omega) (show 0 ≤ r + d - off by omega)
    clear gen e2
    grind
theorem sqG_zero {off : Int} (h : 0 < off) : ∀ {L : List Int}, sqG off L 0 = sqs L
  | [] => by
    show sqP off 0 = 0
    rw [sqP_small (Int.le_refl _) h]
    rfl
  | b :: L => by
    show (b + mnI off 0) * (b + mnI off 0) + sqG off L (0 - mnI off 0) = _
    rw [show mnI off 0 = 0 from if_pos h, Int.sub_zero, sqG_zero h, sqs_cons, Int.add_zero]
theorem sqG_incr0 {off a d : Int} (h : 0 < off) (a0 : 0 ≤ a) (d0 : 0 ≤ d) (d1 : d ≤ off) : ∀ {L : List Int}, Most a L → Nn L → sqG off L d - sqG off L 0 ≤ d * (2 * a + d)
  | [], _, _ => by
    show sqP off d - sqP off 0 ≤ _
    rw [sqP_small (Int.le_refl _) h]
    have := Int.mul_nonneg d0 a0
    by_cases c : d < off
    · rw [sqP_small d0 c]
      grind
    · obtain rfl : d = off := by omega
      have := sqP_more (S := 0) h
      rw [Int.zero_add, sqP_small (Int.le_refl _) h] at this
      grind
  | b :: L, m, n => by
    show (b + mnI off d) * (b + mnI off d) + sqG off L (d - mnI off d) - ((b + mnI off 0) * (b + mnI off 0) + sqG off L (0 - mnI off 0)) ≤ _
    have e : mnI off d = d := by unfold mnI; split <;> omega
    rw [e, show mnI off 0 = 0 from if_pos h, show d - d = 0 by omega, Int.sub_zero]
    have := Int.mul_le_mul_of_nonneg_left (m b List.mem_cons_self) d0
    grind
theorem sqG_incr {off a d : Int} (h : 0 < off) (a0 : 0 ≤ a) (d0 : 0 ≤ d) (d1 : d ≤ off) : ∀ {L : List Int} {S : Int}, 0 ≤ S → Most a L → Nn L → Fall L → sqG off L (S + d) - sqG off L S ≤ d * (2 * a + 2 * off - d)
  | [], S, s0, _, _, _ => by
    have := sqP_incr (S := S) (d := d) h s0 d0 d1
    have := Int.mul_nonneg d0 a0
    show sqP off (S + d) - sqP off S ≤ _
    grind
  | b :: L, S, s0, m, n, f => by
    show (b + mnI off (S + d)) * (b + mnI off (S + d)) + sqG off L (S + d - mnI off (S + d)) - ((b + mnI off S) * (b + mnI off S) + sqG off L (S - mnI off S)) ≤ _
    have hb := m b List.mem_cons_self
    have b0 := n.cons.1
    have k1 := Int.mul_le_mul_of_nonneg_left hb d0
    by_cases c1 : off ≤ S
    · rw [show mnI off (S + d) = off from if_neg (by omega), show mnI off S = off from if_neg (by omega)]
      have ih := sqG_incr (L := L) (S := S - off) h a0 d0 d1 (by omega) (fun x hx => m x (List.mem_cons_of_mem _ hx)) n.cons.2 f.cons.2
      rw [show S - off + d = S + d - off by omega] at ih
      omega
    · have e1 : mnI off S = S := if_pos (by omega)
      by_cases c2 : S + d ≤ off
      · have e2 : mnI off (S + d) = S + d := by unfold mnI; split <;> omega
        rw [e1, e2, show S + d - (S + d) = 0 by omega, show S - S = 0 by omega]
        have := Int.mul_le_mul_of_nonneg_left (show S + d ≤ off by omega) d0
        grind
      · rw [e1, show mnI off (S + d) = off from if_neg (by omega), show S - S = 0 by omega]
        have ih := sqG_incr0 (L := L) (a := b) (d := S + d - off) h b0 (by omega) (by omega) f.cons.1 n.cons.2
        generalize hd2 : S + d - off = d2 at *
        have k2 := Int.mul_nonneg (show 0 ≤ d2 by omega) (show 0 ≤ S - d2 by omega)
        have hd : d = d2 + off - S := by omega
        subst hd
        grind
/-- no truth has more squares than where the greatest get the most -/
theorem sqG_best {off : Int} (h : 0 < off) : ∀ {L t f : List Int} {S : Int}, Fall L → Nn L → t.length = L.length → (∀ x ∈ t, 0 ≤ x ∧ x ≤ off) → (∀ x ∈ f, 0 ≤ x ∧ x ≤ off) → t.sum + f.sum = S →
    sqs (List.zipWith (· + ·) L t) + sqs f ≤ sqG off L S
  | [], t, f, S, _, _, hl, ht, hf, e => by
    obtain rfl : t = [] := List.length_eq_zero_iff.mp hl
    rw [List.sum_nil, Int.zero_add] at e
    subst e
    show sqs [] + sqs f ≤ sqP off f.sum
    have : ∀ {f : List Int}, (∀ x ∈ f, 0 ≤ x ∧ x ≤ off) → sqs f ≤ sqP off f.sum := by
      intro f
      induction f with
      | nil =>
        intro _
        show (0 : Int) ≤ sqP off 0
        rw [sqP_small (Int.le_refl _) h]
        omega
      | cons x f ih =>
        intro hf
        have h1 := hf x List.mem_cons_self
        have ih := ih fun y hy => hf y (List.mem_cons_of_mem _ hy)
        have s0 : 0 ≤ f.sum := sum_nn fun y hy => (hf y (List.mem_cons_of_mem _ hy)).1
        rw [sqs_cons, List.sum_cons]
        have e := Int.emod_add_mul_ediv f.sum off
        have r0 := Int.emod_nonneg f.sum (show off ≠ 0 by omega)
        have r1 := Int.emod_lt_of_pos f.sum h
        generalize f.sum / off = q at *
        generalize f.sum % off = r at *
        have gen : ∀ x : Int, sqP off (x + off * q) = sqP off x + q * (off * off) := fun x => by
          unfold sqP
          rw [Int.add_mul_ediv_left x q (show off ≠ 0 by omega), Int.add_mul_emod_self_left]
          grind
        rw [← e] at ih ⊢
        rw [show x + (r + off * q) = (r + x) + off * q by omega, gen]
        rw [gen, sqP_small r0 r1] at ih
        by_cases c : r + x < off
        · rw [sqP_small (by omega) c]
          have := Int.mul_nonneg r0 h1.1
          grind
        · have e2 : sqP off (r + x) = sqP off (r + x - off) + off * off := by
            have := sqP_more (S := r + x - off) h
            rw [show r + x - off + off = r + x by omega] at this
            exact this
          rw [e2, sqP_small (by omega) (by omega)]
          have := Int.mul_nonneg (show 0 ≤ off - r by omega) (show 0 ≤ off - x by omega)
          grind
    have := this hf
    show (0 : Int) + sqs f ≤ _
    omega
  | b :: L, t, f, S, fl, n, hl, ht, hf, e => by
    match t, hl with
    | t0 :: t, hl =>
      have h0 := ht t0 List.mem_cons_self
      have hl' : t.length = L.length := by simpa using hl
      rw [List.sum_cons] at e
      have st : 0 ≤ t.sum := sum_nn fun x hx => (ht x (List.mem_cons_of_mem _ hx)).1
      have sf : 0 ≤ f.sum := sum_nn fun x hx => (hf x hx).1
      have ih := sqG_best (L := L) (t := t) (f := f) (S := S - t0) h fl.cons.2 n.cons.2 hl' (fun x hx => ht x (List.mem_cons_of_mem _ hx)) hf (by omega)
      show sqs ((b + t0) :: List.zipWith (· + ·) L t) + sqs f ≤ (b + mnI off S) * (b + mnI off S) + sqG off L (S - mnI off S)
      rw [sqs_cons]
      have b0 := n.cons.1
      have g := mnI_le (off := off) (S := S)
      have gt : t0 ≤ mnI off S := by unfold mnI; split <;> omega
      by_cases c : S < off
      · have eg : mnI off S = S := if_pos c
        rw [eg, Int.sub_self]
        have i0 := sqG_incr0 (L := L) (a := b) (d := S - t0) h b0 (by omega) (by omega) fl.cons.1 n.cons.2
        have k := Int.mul_nonneg (show 0 ≤ S - t0 by omega) h0.1
        grind
      · have eg : mnI off S = off := if_neg c
        rw [eg]
        have i1 := sqG_incr (L := L) (a := b) (d := off - t0) (S := S - off) h b0 (by omega) (by omega) (by omega) fl.cons.1 n.cons.2 fl.cons.2
        rw [show S - off + (off - t0) = S - t0 by omega] at i1
        grind
/-- nor fewer than where all is new, one by one -/
theorem sqs_least : ∀ {L t f : List Int}, Nn L → t.length = L.length → (∀ x ∈ t, 0 ≤ x) → (∀ x ∈ f, 0 ≤ x) → sqs L + (t.sum + f.sum) ≤ sqs (List.zipWith (· + ·) L t) + sqs f
  | [], t, f, _, hl, _, hf => by
    obtain rfl : t = [] := List.length_eq_zero_iff.mp hl
    show (0 : Int) + (0 + f.sum) ≤ 0 + sqs f
    have : ∀ {f : List Int}, (∀ x ∈ f, 0 ≤ x) → f.sum ≤ sqs f := by
      intro f
      induction f with
      | nil => intro _; exact Int.le_refl _
      | cons x f ih =>
        intro h
        have h1 := h x List.mem_cons_self
        have := ih fun y hy => h y (List.mem_cons_of_mem _ hy)
        rw [sqs_cons, List.sum_cons]
        have : x ≤ x * x := by
          by_cases c : x = 0
          · rw [c]; decide
          · have := Int.mul_le_mul_of_nonneg_left (show 1 ≤ x by omega) h1
            omega
        omega
    have := this hf
    omega
  | b :: L, t, f, n, hl, ht, hf => by
    match t, hl with
    | t0 :: t, hl =>
      have h0 := ht t0 List.mem_cons_self
      have ih := sqs_least (L := L) (t := t) (f := f) n.cons.2 (by simpa using hl) (fun x hx => ht x (List.mem_cons_of_mem _ hx)) hf
      show sqs (b :: L) + ((t0 :: t).sum + f.sum) ≤ sqs ((b + t0) :: List.zipWith (· + ·) L t) + sqs f
      rw [sqs_cons, sqs_cons, List.sum_cons]
      have b0 := n.cons.1
      have k := Int.mul_nonneg b0 h0
      have : t0 ≤ t0 * t0 := by
        by_cases c : t0 = 0
        · rw [c]; decide
        · have := Int.mul_le_mul_of_nonneg_left (show 1 ≤ t0 by omega) h0
          omega
      grind
end Kb

namespace Kb
/-! the sum of the greatest -/
theorem fall_nn_take : ∀ {l : List Int} (j : Nat), Nn l → 0 ≤ (l.take j).sum
  | l, j, h => sum_nn fun b hb => h b (List.mem_of_mem_take hb)
theorem perm_sum {l m : List Int} (p : l.Perm m) : l.sum = m.sum := by
  induction p with
  | nil => rfl
  | cons a _ ih => rw [List.sum_cons, List.sum_cons, ih]
  | swap a b l => rw [List.sum_cons, List.sum_cons, List.sum_cons, List.sum_cons]; omega
  | trans _ _ h1 h2 => exact h1.trans h2
theorem top_ge : ∀ {l m rest : List Int} {j : Nat}, Fall l → Nn l → (m ++ rest).Perm l → m.length ≤ j → m.sum ≤ (l.take j).sum
  | [], m, rest, j, _, _, p, _ => by
    have := p.length_eq
    rw [List.length_append] at this
    obtain rfl : m = [] := List.length_eq_zero_iff.mp (by rw [List.length_nil] at this; omega)
    rw [List.take_nil]
    exact Int.le_refl _
  | a :: l, m, rest, j, fl, n, p, hj => by
    match j with
    | 0 =>
      obtain rfl : m = [] := List.length_eq_zero_iff.mp (Nat.le_zero.mp hj)
      exact Int.le_refl _
    | j + 1 =>
      rw [List.take_succ_cons, List.sum_cons]
      by_cases ha : a ∈ m
      · have pm := List.perm_cons_erase ha
        have p2 : (m.erase a ++ rest).Perm l := by
          have h1 : (a :: (m.erase a ++ rest)).Perm (a :: l) := (List.Perm.append_right rest pm.symm).trans p
          exact h1.cons_inv
        have hl := pm.length_eq
        rw [List.length_cons] at hl
        have ih := top_ge (l := l) (m := m.erase a) (rest := rest) (j := j) fl.cons.2 n.cons.2 p2 (by omega)
        have := perm_sum pm
        rw [List.sum_cons] at this
        omega
      · match m, ha with
        | [], _ =>
          have := fall_nn_take j n.cons.2
          have := n.cons.1
          show (0 : Int) ≤ _
          omega
        | b :: m, ha =>
          have hb : b ∈ a :: l := p.mem_iff.mp (List.mem_append_left _ List.mem_cons_self)
          have hab : b ≤ a := by
            rcases List.mem_cons.mp hb with h | h
            · omega
            · exact fl.cons.1 b h
          have har : a ∈ rest := by
            have : a ∈ b :: m ++ rest := p.mem_iff.mpr List.mem_cons_self
            rcases List.mem_append.mp this with h | h
            · exact absurd h ha
            · exact h
          have pr := List.perm_cons_erase har
          have p2 : (m ++ (b :: rest.erase a)).Perm l := by
            have h1 : (a :: (m ++ (b :: rest.erase a))).Perm (a :: l) := by
              refine List.Perm.trans ?_ p
              have h2 : (m ++ (b :: rest.erase a)).Perm (b :: (m ++ rest.erase a)) := List.perm_middle
              have h3 : (a :: (b :: (m ++ rest.erase a))).Perm (b :: (a :: (m ++ rest.erase a))) := List.Perm.swap _ _ _
              have h4 : (a :: (m ++ rest.erase a)).Perm (m ++ (a :: rest.erase a)) := List.perm_middle.symm
              have h5 : (m ++ (a :: rest.erase a)).Perm (m ++ rest) := List.Perm.append_left m pr.symm
              exact ((h2.cons a).trans h3).trans ((h4.trans h5).cons b)
            exact h1.cons_inv
          have ih := top_ge (l := l) (m := m) (rest := b :: rest.erase a) (j := j) fl.cons.2 n.cons.2 p2 (by simpa using hj)
          rw [List.sum_cons]
          omega
/-- a falling list is told by what it holds -/
theorem fall_eq : ∀ {l m : List Int}, Fall l → Fall m → l.Perm m → l = m
  | [], m, _, _, p => (List.nil_perm.mp p).symm
  | a :: l, m, fl, fm, p => by
    match m, p with
    | [], p => exact absurd p.length_eq (by simp)
    | b :: m, p =>
      have h1 : b ≤ a := by
        rcases List.mem_cons.mp (p.mem_iff.mpr (List.mem_cons_self (a := b) (l := m))) with h | h
        · omega
        · exact fl.cons.1 b h
      have h2 : a ≤ b := by
        rcases List.mem_cons.mp (p.mem_iff.mp (List.mem_cons_self (a := a) (l := l))) with h | h
        · omega
        · exact fm.cons.1 a h
      obtain rfl : a = b := by omega
      rw [fall_eq fl.cons.2 fm.cons.2 p.cons_inv]
/-- groups (count, many): the sum of the j greatest -/
def grtZ : List (Int × Int) → Int → Int
  | [], _ => 0
  | e :: g, j => e.1 * mnI e.2 j + grtZ g (j - mnI e.2 j)
def exZ (g : List (Int × Int)) : List Int := g.flatMap fun e => List.replicate e.2.toNat e.1
theorem sum_rep (n : Nat) (c : Int) : (List.replicate n c).sum = c * n := by
  induction n with
  | zero => rw [List.replicate_zero]; show (0 : Int) = c * ((0 : Nat) : Int); simp
  | succ n ih => rw [List.replicate_succ, List.sum_cons, ih]; push_cast; grind
theorem grtZ_ex : ∀ {g : List (Int × Int)} {j : Int}, (∀ e ∈ g, 0 ≤ e.2) → 0 ≤ j → grtZ g j = ((exZ g).take j.toNat).sum
  | [], j, _, _ => by
    show (0 : Int) = (([] : List Int).take j.toNat).sum
    rw [List.take_nil]
    rfl
  | e :: g, j, h, hj => by
    have h0 := h e List.mem_cons_self
    have m1 := mnI_le (off := e.2) (S := j)
    have ih := grtZ_ex (g := g) (j := j - mnI e.2 j) (fun x hx => h x (List.mem_cons_of_mem _ hx)) (by omega)
    show e.1 * mnI e.2 j + grtZ g (j - mnI e.2 j) = ((List.replicate e.2.toNat e.1 ++ exZ g).take j.toNat).sum
    rw [ih, List.take_append, List.sum_append, List.take_replicate, sum_rep, List.length_replicate]
    have e1 : ((min j.toNat e.2.toNat : Nat) : Int) = mnI e.2 j := by
      unfold mnI
      split <;> omega
    have e2 : (j - mnI e.2 j).toNat = j.toNat - e.2.toNat := by
      unfold mnI
      split <;> omega
    rw [e1, e2]
/-! what the greatest j can come to -/
theorem sum_bound {off : Int} : ∀ {l : List Int}, (∀ x ∈ l, x ≤ off) → l.sum ≤ l.length * off
  | [], _ => by show (0 : Int) ≤ ((0 : Nat) : Int) * off; simp
  | a :: l, h => by
    have := h a List.mem_cons_self
    have := sum_bound (l := l) fun x hx => h x (List.mem_cons_of_mem _ hx)
    rw [List.sum_cons, List.length_cons]
    push_cast
    grind
def bndZ (off : Int) (L : List Int) (S : Int) (j : Nat) : Int := (L.take j).sum + mnI (j * off) S
theorem sum_split : ∀ m : List (Int × Int), (m.map fun p => p.1 + p.2).sum = (m.map (·.1)).sum + (m.map (·.2)).sum
  | [] => rfl
  | a :: m => by
    rw [List.map_cons, List.map_cons, List.map_cons, List.sum_cons, List.sum_cons, List.sum_cons, sum_split m]
    omega
theorem take_zeros {L : List Int} {n j : Nat} : ((L ++ List.replicate n (0 : Int)).take j).sum = (L.take j).sum := by
  rw [List.take_append, List.sum_append, List.take_replicate, sum_rep]
  omega
theorem fall_zeros {L : List Int} {n : Nat} (fl : Fall L) (nn : Nn L) : Fall (L ++ List.replicate n (0 : Int)) := by
  unfold Fall
  rw [List.pairwise_append]
  refine ⟨fl, ?_, fun a ha b hb => ?_⟩
  · rw [List.pairwise_replicate]
    exact .inr (Int.le_refl _)
  · rw [(List.mem_replicate.mp hb).2]
    exact nn a ha
/-- any j of a truth's counts -/
theorem some_le {off S : Int} {L : List Int} {n j : Nat} {D m rest : List (Int × Int)} (o0 : 0 ≤ off) (fl : Fall L) (nn : Nn L) (hD : D.map (·.1) = L ++ List.replicate n 0) (ht : ∀ p ∈ D, 0 ≤ p.2 ∧ p.2 ≤ off) (hS : (D.map (·.2)).sum = S) (p : (m ++ rest).Perm D) (hj : m.length ≤ j) :
    (m.map fun p => p.1 + p.2).sum ≤ bndZ off L S j := by
  rw [sum_split]
  have h1 : (m.map (·.1)).sum ≤ (L.take j).sum := by
    have q := p.map (·.1)
    rw [hD, List.map_append] at q
    have := top_ge (j := j) (fall_zeros fl nn) (fun b hb => by
      rcases List.mem_append.mp hb with h | h
      · exact nn b h
      · rw [(List.mem_replicate.mp h).2]
        exact Int.le_refl _) q (by rw [List.length_map]; exact hj)
    rw [take_zeros] at this
    exact this
  have hm : ∀ x ∈ m.map (·.2), 0 ≤ x ∧ x ≤ off := fun x hx => by
    obtain ⟨e, he, rfl⟩ := List.mem_map.mp hx
    exact ht e (p.mem_iff.mp (List.mem_append_left _ he))
  have h2 : (m.map (·.2)).sum ≤ j * off := by
    have := sum_bound fun x hx => (hm x hx).2
    rw [List.length_map] at this
    have := Int.mul_le_mul_of_nonneg_right (show (m.length : Int) ≤ j by omega) o0
    omega
  have h3 : (m.map (·.2)).sum ≤ S := by
    have q := perm_sum (p.map (·.2))
    rw [List.map_append, List.sum_append, hS] at q
    have : 0 ≤ (rest.map (·.2)).sum := sum_nn fun x hx => by
      obtain ⟨e, he, rfl⟩ := List.mem_map.mp hx
      exact (ht e (p.mem_iff.mp (List.mem_append_right _ he))).1
    omega
  unfold bndZ mnI
  split <;> omega
/-- kept and taken where the greatest get the most, one behind another -/
def lumpZ (off : Int) : List Int → Int → List Int
  | [], _ => []
  | b :: L, S => (b + mnI off S) :: lumpZ off L (S - mnI off S)
def lumpR (off : Int) : List Int → Int → Int
  | [], S => S
  | _ :: L, S => lumpR off L (S - mnI off S)
theorem lumpR_nn {off : Int} : ∀ {L : List Int} {S : Int}, 0 ≤ S → 0 ≤ lumpR off L S
  | [], _, h => h
  | _ :: L, S, h => lumpR_nn (L := L) (by have := mnI_le (off := off) (S := S); omega)
def partE (off R : Int) : List Int := List.replicate (R / off).toNat off ++ (if R % off = 0 then [] else [R % off])
theorem partE_take {off R : Int} (h : 0 < off) (r0 : 0 ≤ R) (j : Nat) : ((partE off R).take j).sum = mnI (j * off) R := by
  unfold partE
  have e := Int.emod_add_mul_ediv R off
  have m0 := Int.emod_nonneg R (show off ≠ 0 by omega)
  have m1 := Int.emod_lt_of_pos R h
  have q0 : 0 ≤ R / off := Int.ediv_nonneg r0 (by omega)
  generalize R / off = q at *
  generalize R % off = r at *
  rw [List.take_append, List.sum_append, List.take_replicate, sum_rep, List.length_replicate]
  obtain ⟨n, rfl⟩ := Int.eq_ofNat_of_zero_le q0
  rw [Int.toNat_natCast]
  by_cases c : j ≤ n
  · rw [Nat.min_eq_left c, Nat.sub_eq_zero_of_le c, List.take_zero]
    have := Int.mul_le_mul_of_nonneg_left (show (j : Int) ≤ n by omega) (show 0 ≤ off by omega)
    unfold mnI
    rw [Int.mul_comm (j : Int) off]
    show off * (j : Int) + 0 = _
    split <;> omega
  · rw [Nat.min_eq_right (by omega)]
    have h1 : R ≤ j * off := by
      have := Int.mul_le_mul_of_nonneg_left (show (n : Int) + 1 ≤ j by omega) (show 0 ≤ off by omega)
      rw [Int.mul_comm (j : Int) off]
      grind
    have h2 : ((if r = 0 then [] else [r]).take (j - n)).sum = r := by
      by_cases c2 : r = 0
      · rw [if_pos c2, List.take_nil, c2]
        rfl
      · rw [if_neg c2, List.take_of_length_le (by simp; omega)]
        show r + 0 = r
        omega
    rw [h2]
    unfold mnI
    split <;> omega
theorem lump_take {off : Int} (h : 0 < off) : ∀ {L : List Int} {S : Int} (j : Nat), 0 ≤ S → ((lumpZ off L S ++ partE off (lumpR off L S)).take j).sum = bndZ off L S j
  | [], S, j, h0 => by
    unfold bndZ
    rw [List.take_nil]
    show ((partE off S).take j).sum = 0 + _
    rw [partE_take h h0]
    omega
  | b :: L, S, 0, h0 => by
    unfold bndZ
    rw [List.take_zero, List.take_zero]
    show (0 : Int) = 0 + mnI (((0 : Nat) : Int) * off) S
    unfold mnI
    simp
    omega
  | b :: L, S, j + 1, h0 => by
    have m1 := mnI_le (off := off) (S := S)
    have ih := lump_take (L := L) (S := S - mnI off S) h j (by omega)
    show (((b + mnI off S) :: (lumpZ off L (S - mnI off S) ++ partE off (lumpR off L (S - mnI off S)))).take (j + 1)).sum = _
    rw [List.take_succ_cons, List.sum_cons, ih]
    unfold bndZ
    rw [List.take_succ_cons, List.sum_cons]
    have : mnI off S + mnI (j * off) (S - mnI off S) = mnI (((j + 1 : Nat) : Int) * off) S := by
      have jo := Int.mul_nonneg (show 0 ≤ (j : Int) by omega) (show 0 ≤ off by omega)
      have e : ((j + 1 : Nat) : Int) * off = j * off + off := by push_cast; grind
      rw [e]
      generalize (j : Int) * off = x at *
      unfold mnI
      split <;> split <;> split <;> omega
    omega
/-! how many there are -/
theorem lumpR_mono {off : Int} : ∀ {L : List Int} {S S' : Int}, S ≤ S' → lumpR off L S ≤ lumpR off L S'
  | [], _, _, h => h
  | _ :: L, S, S', h => lumpR_mono (L := L) (by unfold mnI; split <;> split <;> omega)
theorem lumpR_le {off : Int} (o0 : 0 ≤ off) : ∀ {L t : List Int} {S F : Int}, t.length = L.length → (∀ x ∈ t, 0 ≤ x ∧ x ≤ off) → t.sum + F = S → 0 ≤ F → lumpR off L S ≤ F
  | [], t, S, F, hl, _, e, _ => by
    obtain rfl : t = [] := List.length_eq_zero_iff.mp hl
    show S ≤ F
    rw [List.sum_nil] at e
    omega
  | b :: L, t, S, F, hl, ht, e, f0 => by
    match t, hl with
    | t0 :: t, hl =>
      have h0 := ht t0 List.mem_cons_self
      have st : 0 ≤ t.sum := sum_nn fun x hx => (ht x (List.mem_cons_of_mem _ hx)).1
      rw [List.sum_cons] at e
      show lumpR off L (S - mnI off S) ≤ F
      have ih := lumpR_le (L := L) (t := t) (S := S - t0) (F := F) o0 (by simpa using hl) (fun x hx => ht x (List.mem_cons_of_mem _ hx)) (by omega) f0
      exact Int.le_trans (lumpR_mono (by unfold mnI; split <;> omega)) ih
theorem partE_len {off R : Int} {f : List Int} (h : 0 < off) (r0 : 0 ≤ R) (hf : ∀ x ∈ f, x ≤ off) (hs : R ≤ f.sum) : (partE off R).length ≤ f.length := by
  have := sum_bound hf
  unfold partE
  have e := Int.emod_add_mul_ediv R off
  have m0 := Int.emod_nonneg R (show off ≠ 0 by omega)
  have m1 := Int.emod_lt_of_pos R h
  have q0 : 0 ≤ R / off := Int.ediv_nonneg r0 (by omega)
  generalize R / off = q at *
  generalize R % off = r at *
  obtain ⟨n, rfl⟩ := Int.eq_ofNat_of_zero_le q0
  rw [List.length_append, List.length_replicate, Int.toNat_natCast]
  by_cases c : r = 0
  · rw [if_pos c, List.length_nil]
    by_cases c2 : n ≤ f.length
    · omega
    · have h3 := Int.mul_le_mul_of_nonneg_right (show (f.length : Int) + 1 ≤ n by omega) (show 0 ≤ off by omega)
      exfalso
      grind
  · rw [if_neg c]
    show n + 1 ≤ _
    by_cases c2 : n + 1 ≤ f.length
    · exact c2
    · have h3 := Int.mul_le_mul_of_nonneg_right (show (f.length : Int) ≤ n by omega) (show 0 ≤ off by omega)
      exfalso
      grind
theorem ones_le : ∀ {f : List Int}, (∀ x ∈ f, 1 ≤ x) → (f.length : Int) ≤ f.sum
  | [], _ => Int.le_refl _
  | a :: f, h => by
    have := h a List.mem_cons_self
    have := ones_le (f := f) fun x hx => h x (List.mem_cons_of_mem _ hx)
    rw [List.sum_cons, List.length_cons]
    push_cast
    omega
end Kb

namespace Kb
open PySem PySem.Spec PyProof.Rows L2 SrtZ SrtO FlX LamX
abbrev NP_asked : List Str := ["question", "part"]
abbrev sP_falling : Stmt := topS 18
abbrev NP_falling : List Str := ["kept", "name", "_"]
theorem scP_falling : FnScope ["kept", "name", "_"] ["kept"] (defScope sP_falling) := ⟨rfl, rfl, rfl, by decide +kernel, rfl, by decide +kernel, by decide +kernel⟩
abbrev NP_parted : List Str := ["amount", "size", "groups", "part", "many"]
abbrev DnFalling (K : PySem.W.Frag) (mg : Str → Option Value) := Dn K mg "falling" sP_falling ["kept"]
/-- falling, and where its lambda's code is held -/
structure Flr (K : PySem.W.Frag) (mg : Str → Option Value) (base : Heap) where
  d : DnFalling K mg
  c : Addr
  P : Addr
  code : d.fd.code = .ref c
  tb : TabB base mg c P
abbrev qFall : Str := (("falling" : Str) ++ ".<locals>.") ++ "<lambda>"
/-- a question -/
inductive Qn where
  | count (z : Str) | lot (zs : List Str) | apart (y z : Str) | place (z : Str) | first (j : Int) | unlike | squares
def Qn.word : Qn → Str
  | .count _ => "count"
  | .lot _ => "lot"
  | .apart _ _ => "apart"
  | .place _ => "place"
  | .first _ => "first"
  | .unlike => "unlike"
  | .squares => "squares"
def Qn.names : Qn → List Str
  | .count z => [z]
  | .lot zs => zs
  | .apart y z => [y, z]
  | .place z => [z]
  | _ => []
/-- the parts of a question that is no lot -/
def Qn.parts : Qn → List V
  | .count z => [.str z]
  | .lot _ => []
  | .apart y z => [.str y, .str z]
  | .place z => [.str z]
  | .first j => [.int j]
  | _ => []
def QnAt (K : PySem.W.Frag) (H : Hp) (q : Addr) : Qn → Prop
  | .lot zs => ∃ t, SqT K H q [.str "lot", .ref t] ∧ SqT K H t (zs.map V.str)
  | x => SqT K H q (.str x.word :: x.parts)
structure QnOk (x : Qn) : Prop where
  nm : ∀ z ∈ x.names, Nm z
  len : x.names.length ≤ 40
  asc : ∀ zs, x = .lot zs → zs.Pairwise fun a b => ltZ a b = true
  ne : ∀ y z, x = .apart y z → y ≠ z
  j : ∀ j, x = .first j → 1 ≤ j ∧ j ≤ 40
theorem QnAt.same {K : PySem.W.Frag} {H H' : Hp} {q : Addr} {x : Qn} (h : QnAt K H q x) (s : Same H H') : QnAt K H' q x := by
  cases x with
  | lot zs =>
    obtain ⟨t, h1, h2⟩ := h
    exact ⟨t, seqT h1 s, seqT h2 s⟩
  | _ => exact seqT h s
theorem QnAt.ext {K : PySem.W.Frag} {H H' : Hp} {q P : Addr} {x : Qn} {c : Str} (h : QnAt K H q x) (T : TabS H P c) (s : ExT P c H H') : QnAt K H' q x := by
  cases x with
  | lot zs =>
    obtain ⟨t, h1, h2⟩ := h
    exact ⟨t, s.tup T h1, s.tup T h2⟩
  | _ => exact s.tup T h
/-- its word is read -/
theorem QnAt.word {K : PySem.W.Frag} {H : Hp} {q : Addr} {x : Qn} (h : QnAt K H q x) : ∃ xs, SqT K H q (.str x.word :: xs) := by
  cases x with
  | lot zs =>
    obtain ⟨t, h1, h2⟩ := h
    exact ⟨_, h1⟩
  | _ => exact ⟨_, h⟩
/-! plans as mathematics -/
/-- pairs of ints on the heap -/
abbrev PrI (H : Hp) (t : Addr) (e : Int × Int) : Prop := H t = some (.tup [.int e.1, .int e.2])
def groupsZ (a sz : Int) : List (Int × Int) := [(sz, a / sz), (a % sz, 1)]
def okG (e : Int × Int) : Bool := decide (0 < e.1) && decide (0 < e.2)
def partedZ (a sz : Int) : List (Int × Int) := if a = 0 then [] else (groupsZ a sz).filter okG
theorem partedZ_len (a sz : Int) : (partedZ a sz).length ≤ 2 := by
  unfold partedZ
  split
  · exact Nat.zero_le _
  · exact Nat.le_trans (List.length_filter_le _ _) (Nat.le_refl 2)
/-- what is taken from these names, one behind another, and what is left -/
def fillZ (off : Int) : List Str → Ct × Int → Ct × Int
  | [], x => x
  | n :: r, x => fillZ off r (putZ x.1 n (if x.2 < off then x.2 else off), x.2 - (if x.2 < off then x.2 else off))
def nullZ : List Str → Ct → Ct
  | [], d => d
  | n :: r, d => nullZ r (putZ d n 0)
theorem nullZ_snoc (n : Str) : ∀ (zs : List Str) (d : Ct), nullZ (zs ++ [n]) d = putZ (nullZ zs d) n 0
  | [], _ => rfl
  | z :: r, d => nullZ_snoc n r (putZ d z 0)
theorem fillZ_snoc (off : Int) (n : Str) : ∀ (zs : List Str) (x : Ct × Int), fillZ off (zs ++ [n]) x = fillZ off [n] (fillZ off zs x)
  | [], _ => rfl
  | z :: r, x => fillZ_snoc off n r _
theorem nullZ_len : ∀ (zs : List Str) (d : Ct), (nullZ zs d).length ≤ d.length + zs.length
  | [], _ => Nat.le_refl _
  | z :: r, d => by
    have := nullZ_len r (putZ d z 0)
    have := putZ_len (kvs := d) (n := z) (v := 0)
    show (nullZ r (putZ d z 0)).length ≤ d.length + (r.length + 1)
    omega
theorem fillZ_len (off : Int) : ∀ (zs : List Str) (x : Ct × Int), (fillZ off zs x).1.length ≤ x.1.length + zs.length
  | [], _ => Nat.le_refl _
  | z :: r, x => by
    have := fillZ_len off r (putZ x.1 z (if x.2 < off then x.2 else off), x.2 - (if x.2 < off then x.2 else off))
    have := putZ_len (kvs := x.1) (n := z) (v := if x.2 < off then x.2 else off)
    dsimp only at *
    show (fillZ off r _).1.length ≤ x.1.length + (r.length + 1)
    omega
theorem fillZ_left {off : Int} (h0 : 0 ≤ off) : ∀ (zs : List Str) (x : Ct × Int), 0 ≤ x.2 → 0 ≤ (fillZ off zs x).2 ∧ (fillZ off zs x).2 ≤ x.2
  | [], x, h => ⟨h, Int.le_refl _⟩
  | z :: r, x, h => by
    have := fillZ_left h0 r (putZ x.1 z (if x.2 < off then x.2 else off), x.2 - (if x.2 < off then x.2 else off)) (by dsimp only; split <;> omega)
    dsimp only at this
    show 0 ≤ (fillZ off r _).2 ∧ (fillZ off r _).2 ≤ x.2
    refine ⟨this.1, ?_⟩
    have h2 := this.2
    split at h2 <;> omega
/-- a sketch on the heap, anywhere -/
structure SkC (K : PySem.W.Frag) (H : Hp) (s : Addr) (r m o : Int) (kvs : Ct) : Prop where
  ob : ∃ (k : Addr) (ts : List Addr), SqT K H s [.int r, .int m, .int o, .ref k] ∧ Ptp H k (ts.map V.ref) ∧ Paired (PrAt K H) ts kvs
theorem SkC.same {K : PySem.W.Frag} {H H' : Hp} {s : Addr} {r m o : Int} {kvs : Ct} (h : SkC K H s r m o kvs) (y : Same H H') : SkC K H' s r m o kvs := by
  obtain ⟨k, ts, h1, h2, h3⟩ := h.ob
  exact ⟨k, ts, seqT h1 y, h2.same y, paired_imp (fun t e h => seqT h y) h3⟩
/-- it is a sketch -/
structure SkG (r m o : Int) (kvs : Ct) : Prop where
  r1 : 1 ≤ r
  r64 : r ≤ 64
  m0 : 0 ≤ m
  o0 : 0 ≤ o
  cts : Cts kvs
  len : (kvs.length : Int) ≤ r
  lo : (r + 1) * o ≤ m - sumC kvs
  hi : m - sumC kvs ≤ 2 * r * o
  big : m < 2 ^ 100
theorem SkC.of {K : PySem.W.Frag} {H : Hp} {s : Addr} {r : Int} {x : Tl} (h : SkAt H s r x) : SkC K H s r x.m x.o (srtZ x.c) := by
  obtain ⟨k, ts, h1, h2, h3⟩ := h
  exact ⟨k, ts, .inl (.inl h1), h2, paired_imp (fun t e h => .inl (.inl h)) h3⟩
section
variable {P : Program} {w : World} {K : PySem.W.Frag} {mg : Str → Option Value} {base : Heap}
/-- THE RULE for a def, its code told -/
theorem okC {x qual : Str} {st : Stmt} {f : Addr} {fd : FuncData} {N ps : List Str} {k : Nat} {sp : Sp} (F : Fun K x qual st f fd) (S : FnScope N ps (defScope st)) (len : ∀ vs H Q E, sp vs H Q E → vs.length = ps.length)
    (hbody : ∀ (cdv : Value) (A : Around) (outer : List Env) (s : Shared) (H : Hp) (vs : List V) (Q : VK) (E : XK), cdv = fd.code → Room k (A.deeper (envOfC qual (defScope st) s.heap.objs.size f cdv)) → sp vs H Q E →
      ∃ t, PSs (cxOf CX0 P w K mg base N qual (defScope st) f cdv A outer s H E).nox (defBody st) t ∧ t { nx := fun _ H' => Q .non H', rt := Q } (L2.start N vs) H) : FnOk P w K mg base CX0 (k + 1) f fd ps sp := by
  obtain ⟨oc, od, kV, doc, pm, an, cdv, ct, osl, rfl, lk, hcd⟩ := F.ex
  refine fn_of lk hcd S len fun A outer s H vs Q E hr hsp => ?_
  obtain ⟨t, h, q⟩ := hbody cdv A outer s H vs Q E rfl hr hsp
  exact ⟨t, h.nox, q⟩
/-! falling -/
def spFalling (K : PySem.W.Frag) (P : Addr) : Sp := fun vs H Q _ => ∃ (a : Addr) (ts : List Addr) (kvs : Ct), vs = [.ref a] ∧ SqT K H a (ts.map V.ref) ∧ Paired (PrAt K H) ts kvs ∧ kvs.length ≤ 1000 ∧ TabS H P qFall ∧
  ∀ H' p, ExT P qFall H H' → H p = none → H' p = some (.lst (((fallBy (·.2) kvs).map (·.1)).map V.str)) → Q (.ref p) H'
theorem ok_falling (T : Blt mg) (F : Flr K mg base) : FnOk P w K mg base CX0 1 F.d.f F.d.fd ["kept"] (spFalling K F.P) := by
  refine okC F.d.F scP_falling (fun vs H Q E h => ?_) (fun cdv A outer s H vs Q E hcdv hr h => ?_)
  · obtain ⟨a, ts, kvs, rfl, _⟩ := h
    rfl
  · obtain ⟨a, ts, kvs, rfl, ha, hp, hl, hT, q⟩ := h
    refine ⟨_, (pss_one (ps_ret (pe_lc (own := [("name", 1), ("_", 2)]) (g := gTup K 2 (gCons (gName 1) (gCons (gName 2) gNil))) (tt := tYes) rfl scP_falling.nd (pi_list (pe_fall (P := F.P) (c := F.c) (q := qFall) (by exact ⟨rfl, rfl, rfl, rfl, by decide, ⟨_, _, _, _, _, rfl⟩, fun _ _ _ _ _ _ => rfl⟩) (by exact ⟨F.tb, by show cdv = _; rw [hcdv]; exact F.code, rfl, rfl, by decide, rfl⟩) hr (by rfl) T.n_sorted (pa_cons (pv 0) pa_nil))) (blkOk_by (N := NP_falling) (sc := defScope sP_falling) (by decide +kernel)) (fun _ _ _ _ _ => pg_tup (by rfl) (pgs_cons (pg_name (i := 1) scP_falling.nd rfl (Or.inl rfl)) (pgs_cons (pg_name (i := 2) scP_falling.nd rfl (Or.inl rfl)) pgs_nil))) (fun _ _ _ _ _ => pts_nil) (fun _ _ _ _ _ => (pv 1))))), ?_⟩
    refine rd_fall rfl ha hp hT fun H1 p us x1 np hl1 hus => ⟨p, rfl, ⟨_, sql hl1⟩, fun D nD => ?_⟩
    have hpl : us.length = (fallBy (·.2) kvs).length := Paired.length hus
    have fl : (fallBy (·.2) kvs).length = kvs.length := (List.mergeSort_perm _ _).length_eq
    have tk : ∀ i e, (fallBy (·.2) kvs)[i]? = some e → (fallBy (·.2) kvs).take (i + 1) = (fallBy (·.2) kvs).take i ++ [e] := fun i e h => by rw [List.take_add_one, h]; rfl
    generalize fallBy (·.2) kvs = zs at hus hpl fl tk q
    refine lc_list (xs := us.map V.ref) (fun i H3 => Same H1 H3 ∧ H3 D = some (.lst (((zs.take i).map (·.1)).map V.str))) ⟨same_upd nD, upd_same⟩ (fun i H3 _ h3 => sql (h3.1 _ _ hl1)) (fun i x H3 hx h3 => ?_) (fun H3 h3 => ?_)
    · obtain ⟨u, hu, rfl⟩ := map_at hx
      obtain ⟨e, he, hat⟩ := paired_at hus hu
      have hi := (List.getElem?_eq_some_iff.mp hu).1
      refine ⟨u, _, rfl, seqT hat h3.1, rfl, _, _, rfl, _, _, rfl, rfl, rfl, .str e.1, rfl, _, h3.2, ?_, Same.put h3.1 nD, ?_⟩
      · rw [List.length_map, List.length_map, List.length_take, sizeLine_eq]
        omega
      · rw [upd_same, tk i e he, List.map_append, List.map_append]
        rfl
    · obtain ⟨s3, hD⟩ := h3
      rw [show zs.take (us.map V.ref).length = zs by rw [List.length_map, hpl, List.take_length]] at hD
      exact q H3 D (x1.same s3) (x1.gone nD) hD
/-! asked -/
def spAsked (K : PySem.W.Frag) : Sp := fun vs H Q _ => ∃ (q : Addr) (x : Qn), vs = [.ref q] ∧ QnAt K H q x ∧ ∀ H' p, Same H H' → SqT K H' p (x.names.map V.str) → Q (.ref p) H'
theorem word_ne {a b : Str} (h : decide (V.str a = V.str b) = false) {x : Qn} (e : x.word = a) : decide (V.str x.word = V.str b) = false := by rw [e]; exact h
theorem lot_ne : ∀ {x : Qn}, (∀ zs, x ≠ .lot zs) → decide (V.str x.word = V.str (Str.ofString "lot")) = false
  | .count _, _ => word_ne (a := "count") (by decide +kernel) rfl
  | .lot zs, h => absurd rfl (h zs)
  | .apart _ _, _ => word_ne (a := "apart") (by decide +kernel) rfl
  | .place _, _ => word_ne (a := "place") (by decide +kernel) rfl
  | .first _, _ => word_ne (a := "first") (by decide +kernel) rfl
  | .unlike, _ => word_ne (a := "unlike") (by decide +kernel) rfl
  | .squares, _ => word_ne (a := "squares") (by decide +kernel) rfl
def strsV : List V → List V := List.filter fun v => match v with | .str _ => true | _ => false
theorem parts_strs : ∀ {x : Qn}, (∀ zs, x ≠ .lot zs) → strsV x.parts = x.names.map V.str
  | .lot zs, h => absurd rfl (h zs)
  | .count _, _ => rfl
  | .apart _ _, _ => rfl
  | .place _, _ => rfl
  | .first _, _ => rfl
  | .unlike, _ => rfl
  | .squares, _ => rfl
theorem parts_flat : ∀ {x : Qn}, ∀ v ∈ x.parts, (∃ z, v = .str z) ∨ ∃ i, v = .int i
  | .count z, v, h => .inl ⟨z, List.mem_singleton.mp h⟩
  | .lot _, v, h => nomatch h
  | .apart y z, v, h => by
    rcases List.mem_cons.mp h with h | h
    · exact .inl ⟨y, h⟩
    · exact .inl ⟨z, List.mem_singleton.mp h⟩
  | .place z, v, h => .inl ⟨z, List.mem_singleton.mp h⟩
  | .first j, v, h => .inr ⟨j, List.mem_singleton.mp h⟩
  | .unlike, v, h => nomatch h
  | .squares, v, h => nomatch h
theorem parts_len (x : Qn) : x.parts.length ≤ 2 := by
  cases x <;> simp [Qn.parts]
/-! parted -/
def spParted : Sp := fun vs H Q _ => ∃ (a sz : Int), vs = [.int a, .int sz] ∧ 0 ≤ a ∧ (a = 0 ∨ (0 < sz ∧ sz < 2 ^ 100)) ∧ ∀ H' p (ts : List Addr), Same H H' → H p = none → H' p = some (.lst (ts.map V.ref)) → Paired (PrI H') ts (partedZ a sz) → Q (.ref p) H'
end
end Kb

namespace Kb
/-! how many can have a greater count than one name -/
def needZ (mine c : Int) : Int := if mine + 1 - c > 0 then mine + 1 - c else 0
theorem needZ_nn {mine c : Int} : 0 ≤ needZ mine c := by unfold needZ; split <;> omega
def plZ (off mine : Int) : List Int → Int → Int
  | [], S => if mine + 1 ≤ off then S / (mine + 1) else 0
  | b :: L, S => if needZ mine b ≤ mnI off S then 1 + plZ off mine L (S - needZ mine b) else plZ off mine L S
theorem mnI_iff {d off S : Int} : d ≤ mnI off S ↔ d ≤ off ∧ d ≤ S := by unfold mnI; split <;> omega
theorem plZ_nn {off mine : Int} (m0 : 0 ≤ mine) : ∀ {L : List Int} {S : Int}, 0 ≤ S → 0 ≤ plZ off mine L S
  | [], S, h => by
    show 0 ≤ if mine + 1 ≤ off then S / (mine + 1) else 0
    split
    · exact Int.ediv_nonneg h (by omega)
    · exact Int.le_refl _
  | b :: L, S, h => by
    show 0 ≤ if needZ mine b ≤ mnI off S then 1 + plZ off mine L (S - needZ mine b) else plZ off mine L S
    split
    · rename_i c
      have := mnI_iff.mp c
      have := plZ_nn (off := off) m0 (L := L) (S := S - needZ mine b) (by omega)
      omega
    · exact plZ_nn m0 h
/-- needs that rise: none is met that is more than what there is -/
theorem plZ_zero {off mine d : Int} (m0 : 0 ≤ mine) : ∀ {L : List Int} {S : Int}, 0 ≤ S → S < d → d ≤ mine + 1 → (∀ b ∈ L, d ≤ needZ mine b) → plZ off mine L S = 0
  | [], S, s0, h, hd, _ => by
    show (if mine + 1 ≤ off then S / (mine + 1) else 0) = 0
    split
    · exact Int.ediv_eq_zero_of_lt s0 (by omega)
    · rfl
  | b :: L, S, s0, h, hd, hb => by
    have := hb b List.mem_cons_self
    show (if needZ mine b ≤ mnI off S then 1 + plZ off mine L (S - needZ mine b) else plZ off mine L S) = 0
    rw [if_neg (fun c => by have := mnI_iff.mp c; omega)]
    exact plZ_zero m0 s0 h hd fun x hx => hb x (List.mem_cons_of_mem _ hx)
theorem need_rise {mine : Int} {L : List Int} (f : Fall L) : L.Pairwise fun a b => needZ mine a ≤ needZ mine b := f.imp fun {a b} h => by
  unfold needZ
  split <;> split <;> omega
theorem need_le {mine b : Int} (h : 0 ≤ b) (m0 : 0 ≤ mine) : needZ mine b ≤ mine + 1 := by unfold needZ; split <;> omega
theorem plZ_mono {off mine : Int} (m0 : 0 ≤ mine) : ∀ {L : List Int} {S S' : Int}, Nn L → Fall L → 0 ≤ S → S ≤ S' → plZ off mine L S ≤ plZ off mine L S'
  | [], S, S', _, _, s0, h => by
    show (if mine + 1 ≤ off then S / (mine + 1) else 0) ≤ if mine + 1 ≤ off then S' / (mine + 1) else 0
    split
    · exact Int.ediv_le_ediv (by omega) h
    · exact Int.le_refl _
  | b :: L, S, S', n, f, s0, h => by
    show (if needZ mine b ≤ mnI off S then 1 + plZ off mine L (S - needZ mine b) else plZ off mine L S) ≤ if needZ mine b ≤ mnI off S' then 1 + plZ off mine L (S' - needZ mine b) else plZ off mine L S'
    have nb := n.cons
    have fb := f.cons
    by_cases c1 : needZ mine b ≤ mnI off S
    · have c1' := mnI_iff.mp c1
      rw [if_pos c1, if_pos (mnI_iff.mpr ⟨c1'.1, by omega⟩)]
      have := plZ_mono (off := off) m0 (L := L) (S := S - needZ mine b) (S' := S' - needZ mine b) nb.2 fb.2 (by omega) (by omega)
      omega
    · rw [if_neg c1]
      by_cases c2 : needZ mine b ≤ mnI off S'
      · rw [if_pos c2]
        have c2' := mnI_iff.mp c2
        have hS : S < needZ mine b := by
          have := mt mnI_iff.mpr c1
          omega
        have r := need_rise (mine := mine) f
        rw [List.pairwise_cons] at r
        rw [plZ_zero (d := needZ mine b) m0 s0 hS (need_le nb.1 m0) r.1]
        have := plZ_nn (off := off) m0 (L := L) (S := S' - needZ mine b) (by omega)
        omega
      · rw [if_neg c2]
        exact plZ_mono m0 nb.2 fb.2 s0 h
theorem plZ_less {off mine d : Int} (m0 : 0 ≤ mine) (d0 : 0 ≤ d) (dm : d ≤ mine + 1) : ∀ {L : List Int} {S : Int}, Nn L → Fall L → (∀ b ∈ L, d ≤ needZ mine b) → d ≤ S → plZ off mine L S ≤ 1 + plZ off mine L (S - d)
  | [], S, _, _, _, h => by
    show (if mine + 1 ≤ off then S / (mine + 1) else 0) ≤ 1 + if mine + 1 ≤ off then (S - d) / (mine + 1) else 0
    split
    · have h1 : S / (mine + 1) ≤ (S - d + (mine + 1)) / (mine + 1) := Int.ediv_le_ediv (by omega) (by omega)
      have h2 := Int.add_mul_ediv_right (S - d) 1 (show mine + 1 ≠ 0 by omega)
      rw [Int.one_mul] at h2
      omega
    · omega
  | b :: L, S, n, f, hb, h => by
    have nb := n.cons
    have fb := f.cons
    have h1 := hb b List.mem_cons_self
    have hL : ∀ x ∈ L, d ≤ needZ mine x := fun x hx => hb x (List.mem_cons_of_mem _ hx)
    show (if needZ mine b ≤ mnI off S then 1 + plZ off mine L (S - needZ mine b) else plZ off mine L S) ≤ 1 + if needZ mine b ≤ mnI off (S - d) then 1 + plZ off mine L (S - d - needZ mine b) else plZ off mine L (S - d)
    by_cases c1 : needZ mine b ≤ mnI off S
    · have c1' := mnI_iff.mp c1
      rw [if_pos c1]
      by_cases c2 : needZ mine b ≤ mnI off (S - d)
      · have c2' := mnI_iff.mp c2
        rw [if_pos c2]
        have := plZ_less (off := off) m0 d0 dm (L := L) (S := S - needZ mine b) nb.2 fb.2 hL (by omega)
        rw [show S - needZ mine b - d = S - d - needZ mine b by omega] at this
        omega
      · rw [if_neg c2]
        have := plZ_mono (off := off) m0 (L := L) (S := S - needZ mine b) (S' := S - d) nb.2 fb.2 (by omega) (by omega)
        omega
    · rw [if_neg c1]
      by_cases c2 : needZ mine b ≤ mnI off (S - d)
      · exact absurd (mnI_iff.mpr ⟨(mnI_iff.mp c2).1, by have := (mnI_iff.mp c2).2; omega⟩) c1
      · rw [if_neg c2]
        exact plZ_less m0 d0 dm nb.2 fb.2 hL h
/-- how many of these are more -/
def cntG (mine : Int) (l : List Int) : Int := ((l.filter fun x => decide (mine < x)).length : Nat)
theorem cntG_cons (mine a : Int) (l : List Int) : cntG mine (a :: l) = (if mine < a then 1 else 0) + cntG mine l := by
  unfold cntG
  by_cases h : mine < a
  · rw [List.filter_cons_of_pos (by simpa using h), if_pos h, List.length_cons]
    push_cast
    omega
  · rw [List.filter_cons_of_neg (by simpa using h), if_neg h]
    omega
theorem cntG_app (mine : Int) (l m : List Int) : cntG mine (l ++ m) = cntG mine l + cntG mine m := by
  unfold cntG
  rw [List.filter_append, List.length_append]
  push_cast
  rfl
theorem cntG_perm {mine : Int} {l m : List Int} (p : l.Perm m) : cntG mine l = cntG mine m := by
  unfold cntG
  rw [(p.filter _).length_eq]
theorem cntG_nn (mine : Int) (l : List Int) : 0 ≤ cntG mine l := by unfold cntG; omega
/-- fresh names that are more: each has taken so much -/
theorem fresh_more {mine : Int} (m0 : 0 ≤ mine) : ∀ {f : List Int}, (∀ x ∈ f, 0 ≤ x) → cntG mine f * (mine + 1) ≤ f.sum
  | [], _ => by show (0 : Int) * _ ≤ 0; omega
  | a :: f, h => by
    have h0 := h a List.mem_cons_self
    have := fresh_more m0 (f := f) fun x hx => h x (List.mem_cons_of_mem _ hx)
    rw [cntG_cons, List.sum_cons, Int.add_mul]
    split <;> omega
theorem plZ_best {off mine : Int} (m0 : 0 ≤ mine) (o0 : 0 ≤ off) : ∀ {L t f : List Int} {S : Int}, Nn L → Fall L → t.length = L.length → (∀ x ∈ t, 0 ≤ x ∧ x ≤ off) → (∀ x ∈ f, 0 ≤ x ∧ x ≤ off) → t.sum + f.sum ≤ S →
    cntG mine (List.zipWith (· + ·) L t) + cntG mine f ≤ plZ off mine L S
  | [], t, f, S, _, _, hl, _, hf, e => by
    obtain rfl : t = [] := List.length_eq_zero_iff.mp hl
    rw [List.sum_nil] at e
    show (0 : Int) + cntG mine f ≤ if mine + 1 ≤ off then S / (mine + 1) else 0
    split
    · have := fresh_more m0 fun x hx => (hf x hx).1
      rw [Int.zero_add]
      exact (Int.le_ediv_iff_mul_le (by omega)).mpr (by omega)
    · have : cntG mine f = 0 := by
        unfold cntG
        rw [List.filter_eq_nil_iff.mpr fun x hx => by have := (hf x hx).2; simp; omega]
        rfl
      omega
  | b :: L, t, f, S, n, fl, hl, ht, hf, e => by
    match t, hl with
    | t0 :: t, hl =>
      have h0 := ht t0 List.mem_cons_self
      have nb := n.cons
      have fb := fl.cons
      have hl' : t.length = L.length := by simpa using hl
      have ht' : ∀ x ∈ t, 0 ≤ x ∧ x ≤ off := fun x hx => ht x (List.mem_cons_of_mem _ hx)
      rw [List.sum_cons] at e
      have st : 0 ≤ t.sum := sum_nn fun x hx => (ht' x hx).1
      have sf : 0 ≤ f.sum := sum_nn fun x hx => (hf x hx).1
      have r := need_rise (mine := mine) fl
      rw [List.pairwise_cons] at r
      show cntG mine ((b + t0) :: List.zipWith (· + ·) L t) + cntG mine f ≤ if needZ mine b ≤ mnI off S then 1 + plZ off mine L (S - needZ mine b) else plZ off mine L S
      rw [cntG_cons]
      have ndef : mine < b + t0 → needZ mine b ≤ t0 := fun h => by unfold needZ; split <;> omega
      by_cases c1 : needZ mine b ≤ mnI off S
      · have c1' := mnI_iff.mp c1
        rw [if_pos c1]
        by_cases c2 : mine < b + t0
        · rw [if_pos c2]
          have ih := plZ_best m0 o0 (L := L) (t := t) (f := f) (S := S - t0) nb.2 fb.2 hl' ht' hf (by omega)
          have := plZ_mono (off := off) m0 (L := L) (S := S - t0) (S' := S - needZ mine b) nb.2 fb.2 (by omega) (by have := ndef c2; omega)
          omega
        · rw [if_neg c2]
          have ih := plZ_best m0 o0 (L := L) (t := t) (f := f) (S := S) nb.2 fb.2 hl' ht' hf (by omega)
          have := plZ_less (off := off) m0 needZ_nn (need_le nb.1 m0) (L := L) (S := S) nb.2 fb.2 r.1 c1'.2
          omega
      · rw [if_neg c1]
        have c2 : ¬ mine < b + t0 := fun h => c1 (mnI_iff.mpr ⟨by have := ndef h; omega, by have := ndef h; omega⟩)
        rw [if_neg c2]
        have ih := plZ_best m0 o0 (L := L) (t := t) (f := f) (S := S) nb.2 fb.2 hl' ht' hf (by omega)
        omega
end Kb

namespace Kb
open PySem PySem.Spec PyProof.Rows L2 SrtZ SrtO FlX LamX
abbrev NP_filled : List Str := ["sketch", "question", "names", "size", "off", "left", "taken", "name"]
abbrev NP_passed : List Str := ["sketch", "name", "off", "left", "counts", "mine", "taken", "other", "need"]
/-- a plan on the heap: what is taken, and parts -/
structure PlanAt (H : Hp) (p : Addr) (x : Ct × List (Int × Int)) : Prop where
  ob : ∃ (d l : Addr) (ts : List Addr), H p = some (.tup [.ref d, .ref l]) ∧ H d = some (.dK (x.1.map entZ)) ∧ H l = some (.lst (ts.map V.ref)) ∧ Paired (PrI H) ts x.2
theorem PlanAt.same {H H' : Hp} {p : Addr} {x : Ct × List (Int × Int)} (h : PlanAt H p x) (y : Same H H') : PlanAt H' p x := by
  obtain ⟨d, l, ts, h1, h2, h3, h4⟩ := h.ob
  exact ⟨d, l, ts, y _ _ h1, y _ _ h2, y _ _ h3, paired_imp (fun t e h => y _ _ h) h4⟩
theorem PlanAt.ext {H H' : Hp} {p P : Addr} {c : Str} {x : Ct × List (Int × Int)} (h : PlanAt H p x) (T : TabS H P c) (y : ExT P c H H') : PlanAt H' p x := by
  obtain ⟨d, l, ts, h1, h2, h3, h4⟩ := h.ob
  exact ⟨d, l, ts, y.at T h1 (by intro _ z; cases z), y.at T h2 (by intro _ z; cases z), y.at T h3 (by intro _ z; cases z), paired_imp (fun t e h => y.at T h (by intro _ z; cases z)) h4⟩
theorem SkC.ext {K : PySem.W.Frag} {H H' : Hp} {s P : Addr} {c : Str} {r m o : Int} {kvs : Ct} (h : SkC K H s r m o kvs) (T : TabS H P c) (y : ExT P c H H') : SkC K H' s r m o kvs := by
  obtain ⟨k, ts, h1, ⟨ob, h2, h4⟩, h3⟩ := h.ob
  exact ⟨k, ts, y.tup T h1, ⟨ob, y.at T h2 (by intro _ z; cases z), h4⟩, paired_imp (fun t e h => y.tup T h) h3⟩
/-- a tuple or a list of these -/
def SqX (K : PySem.W.Frag) (H : Hp) (a : Addr) (xs : List V) : Prop := SqT K H a xs ∨ H a = some (.lst xs)
theorem SqX.same {K : PySem.W.Frag} {H H' : Hp} {a : Addr} {xs : List V} (h : SqX K H a xs) (s : Same H H') : SqX K H' a xs := by
  rcases h with h | h
  · exact .inl (seqT h s)
  · exact .inr (s _ _ h)
theorem pi_or {X : Cx} {tg iter : Expr} {w1 w2 : TI} (h1 : PI X tg iter w1) (h2 : PI X tg iter w2) : PI X tg iter (fun σ H R => w1 σ H R ∨ w2 σ H R) := by
  refine ⟨fun pins s σ H R I h => ?_⟩
  rcases h with h | h
  · exact h1.run pins s σ H R I h
  · exact h2.run pins s σ H R I h
def planZ (kvs : Ct) (m off size : Int) (zs ys : List Str) : Ct × List (Int × Int) := ((fillZ off ys (nullZ zs [], m - sumC kvs)).1, partedZ (fillZ off ys (nullZ zs [], m - sumC kvs)).2 size)
/-- just so much from others that as many as can be have a greater count -/
def passB (off mine : Int) (name : Str) (e : Str × Int) (left : Int) : Bool := !decide (e.1 = name) && decide (needZ mine e.2 ≤ mnI off left)
def passZ (off mine : Int) (name : Str) : Ct → Ct × Int → Ct × Int
  | [], x => x
  | e :: r, x => passZ off mine name r (if passB off mine name e x.2 = true then (putZ x.1 e.1 (needZ mine e.2), x.2 - needZ mine e.2) else x)
theorem passZ_snoc (off mine : Int) (name : Str) (e : Str × Int) : ∀ (zs : Ct) (x : Ct × Int), passZ off mine name (zs ++ [e]) x = passZ off mine name [e] (passZ off mine name zs x)
  | [], _ => rfl
  | z :: r, x => passZ_snoc off mine name e r _
theorem passZ_len (off mine : Int) (name : Str) : ∀ (zs : Ct) (x : Ct × Int), (passZ off mine name zs x).1.length ≤ x.1.length + zs.length
  | [], _ => Nat.le_refl _
  | z :: r, x => by
    have := passZ_len off mine name r (if passB off mine name z x.2 = true then (putZ x.1 z.1 (needZ mine z.2), x.2 - needZ mine z.2) else x)
    show (passZ off mine name r _).1.length ≤ x.1.length + (r.length + 1)
    refine Nat.le_trans this ?_
    split
    · have := putZ_len (kvs := x.1) (n := z.1) (v := needZ mine z.2)
      dsimp only
      omega
    · omega
theorem passZ_left {off mine : Int} (name : Str) : ∀ (zs : Ct) (x : Ct × Int), 0 ≤ x.2 → 0 ≤ (passZ off mine name zs x).2 ∧ (passZ off mine name zs x).2 ≤ x.2
  | [], x, h => ⟨h, Int.le_refl _⟩
  | z :: r, x, h => by
    have nn : 0 ≤ needZ mine z.2 := by unfold needZ; split <;> omega
    have g : 0 ≤ (if passB off mine name z x.2 = true then (putZ x.1 z.1 (needZ mine z.2), x.2 - needZ mine z.2) else x).2 ∧ (if passB off mine name z x.2 = true then (putZ x.1 z.1 (needZ mine z.2), x.2 - needZ mine z.2) else x).2 ≤ x.2 := by
      split
      · rename_i hb
        unfold passB at hb
        rw [Bool.and_eq_true, decide_eq_true_eq] at hb
        have := mnI_le (off := off) (S := x.2)
        dsimp only
        omega
      · omega
    have := passZ_left (off := off) (mine := mine) name r _ g.1
    show 0 ≤ (passZ off mine name r _).2 ∧ (passZ off mine name r _).2 ≤ x.2
    exact ⟨this.1, Int.le_trans this.2 g.2⟩
def planP (kvs : Ct) (m off : Int) (z : Str) : Ct × List (Int × Int) := ((passZ off (gd kvs z) z (fallBy (·.2) kvs) ([(z, 0)], m - sumC kvs)).1, partedZ (passZ off (gd kvs z) z (fallBy (·.2) kvs) ([(z, 0)], m - sumC kvs)).2 (mnI (gd kvs z + 1) off))
section
variable {P : Program} {w : World} {K : PySem.W.Frag} {mg : Str → Option Value} {base : Heap}
/-! _filled -/
def spFilled (K : PySem.W.Frag) : Sp := fun vs H Q _ => ∃ (s q n : Addr) (r m off size : Int) (kvs : Ct) (x : Qn) (ys : List Str), vs = [.ref s, .ref q, .ref n, .int size] ∧ SkC K H s r m off kvs ∧ SkG r m off kvs ∧ QnAt K H q x ∧ QnOk x ∧ SqX K H n (ys.map V.str) ∧ ys.length ≤ 100 ∧ size < 2 ^ 100 ∧ (0 < size ∨ (fillZ off ys (nullZ x.names [], m - sumC kvs)).2 = 0) ∧
  ∀ H' p, Same H H' → H p = none → PlanAt H' p (planZ kvs m off size x.names ys) → Q (.ref p) H'
end
end Kb

namespace Kb
open PySem PySem.Spec PyProof.Rows L2 SrtZ SrtO FlX LamX
section
variable {P : Program} {w : World} {K : PySem.W.Frag} {mg : Str → Option Value} {base : Heap}
theorem dget_of {H : Hp} {d : Addr} {kvs : Ct} {y : Str} {v : Int} (h : H d = some (.dK (kvs.map entZ))) (g : getZ kvs y = some v) : DGet H d (.str y) (some (.int v)) := by
  have gv : valV (kvs.map entZ) (Sum.inr y : Key) = some (.int v) := by
    rw [getZ_val, g]
    rfl
  rw [← gv]
  exact DGet.k (k := Sum.inr y) h
theorem sumC_pos : ∀ {l : Ct}, (∀ e ∈ l, 1 ≤ e.2) → 0 ≤ sumC l
  | [], _ => Int.le_refl _
  | e :: l, h => by
    have h1 := h e List.mem_cons_self
    have h2 := sumC_pos (l := l) fun x hx => h x (List.mem_cons_of_mem _ hx)
    unfold sumC at h2 ⊢
    rw [List.map_cons, List.sum_cons]
    omega
theorem SkG.lost {r m o : Int} {kvs : Ct} (g : SkG r m o kvs) : 0 ≤ m - sumC kvs ∧ o ≤ m - sumC kvs ∧ (o = 0 → m - sumC kvs = 0) ∧ o < 2 ^ 100 := by
  have h1 := g.lo
  have h2 := g.hi
  have h3 := g.o0
  have h4 := g.r1
  have h5 := g.big
  have h6 := sumC_pos g.cts.pos
  have h7 : 1 * o ≤ (r + 1) * o := Int.mul_le_mul_of_nonneg_right (by omega) h3
  refine ⟨by omega, by omega, fun e => ?_, by omega⟩
  rw [e, Int.mul_zero] at h2
  omega
/-! _passed -/
def spPassed (K : PySem.W.Frag) (Pt : Addr) : Sp := fun vs H Q _ => ∃ (s : Addr) (r m off : Int) (kvs : Ct) (z : Str), vs = [.ref s, .str z] ∧ SkC K H s r m off kvs ∧ SkG r m off kvs ∧ TabS H Pt qFall ∧
  ∀ H' p, ExT Pt qFall H H' → H p = none → PlanAt H' p (planP kvs m off z) → Q (.ref p) H'
end
end Kb

namespace Kb
open PySem PySem.Spec PyProof.Rows L2 SrtZ SrtO FlX LamX
abbrev Plan := Ct × List (Int × Int)
def lumped (kvs : Ct) (m off : Int) : Plan := planZ kvs m off off [] ((fallBy (·.2) kvs).map (·.1))
def spread (kvs : Ct) (m off : Int) : Plan := planZ kvs m off 1 [] []
/-- the plans of the least and of the greatest value -/
def plansZ (kvs : Ct) (m off : Int) : Qn → Plan × Plan
  | .count z => (planZ kvs m off off [z] [], planZ kvs m off off [z] [z])
  | .lot zs => (planZ kvs m off off zs [], planZ kvs m off off zs zs)
  | .apart y z => (planZ kvs m off off [y, z] [z], planZ kvs m off off [y, z] [y])
  | .place z => (planZ kvs m off off [z] [z], planP kvs m off z)
  | .first _ => (spread kvs m off, lumped kvs m off)
  | .unlike => (lumped kvs m off, spread kvs m off)
  | .squares => (spread kvs m off, lumped kvs m off)
theorem fallB_perm (kvs : Ct) : (fallBy (·.2) kvs).Perm kvs := List.mergeSort_perm _ _
theorem fallB_len (kvs : Ct) : (fallBy (·.2) kvs).length = kvs.length := (fallB_perm kvs).length_eq
theorem size_ok {r m off : Int} {kvs : Ct} (hg : SkG r m off kvs) (zs ys : List Str) : 0 < off ∨ (fillZ off ys (nullZ zs [], m - sumC kvs)).2 = 0 := by
  obtain ⟨a1, a2, a3, a4⟩ := hg.lost
  have ho := hg.o0
  by_cases e : off = 0
  · have := fillZ_left ho ys (nullZ zs [], m - sumC kvs) a1
    dsimp only at this
    have := a3 e
    exact .inr (by omega)
  · exact .inl (by omega)
section
variable {P : Program} {w : World} {K : PySem.W.Frag} {mg : Str → Option Value} {base : Heap}
/-! plans_of -/
def spPlansOf (K : PySem.W.Frag) (Pt : Addr) : Sp := fun vs H Q _ => ∃ (s q : Addr) (r m off : Int) (kvs : Ct) (x : Qn), vs = [.ref s, .ref q] ∧ SkC K H s r m off kvs ∧ SkG r m off kvs ∧ QnAt K H q x ∧ QnOk x ∧ TabS H Pt qFall ∧
  ∀ H' p p1 p2, ExT Pt qFall H H' → H' p = some (.tup [.ref p1, .ref p2]) → PlanAt H' p1 (plansZ kvs m off x).1 → PlanAt H' p2 (plansZ kvs m off x).2 → Q (.ref p) H'
end
end Kb

namespace Kb
open PySem PySem.Spec PyProof.Rows L2 SrtZ SrtO FlX LamX RZ
abbrev NP_is_lot : List Str := ["thing", "one", "other", "name"]
/-- zip of two tuples, turn by turn -/
theorem walk_zipT {K : PySem.W.Frag} {a b : Addr} {xs ys : List V} {n : Nat} (hn : n = min xs.length ys.length) : Walk (ItzT K a b) n (fun H => SqT K H a xs ∧ SqT K H b ys) (YPair (fun i => xs[i]?) (fun i => ys[i]?)) := by
  subst hn
  refine ⟨fun i _ hi q => ?_, fun _ q => ⟨xs, ys, q.1, q.2, by omega⟩, fun i H v H' _ q y => ?_⟩
  · have h1 : i < xs.length := by omega
    have h2 : i < ys.length := by omega
    exact ⟨xs, ys, xs[i], ys[i], q.1, q.2, by simp [h1], by simp [h2]⟩
  · obtain ⟨T, x, z, h1, h2, h3, h4, h5⟩ := y
    exact ⟨T, x, z, h1, h2, h3, h4 xs q.1, h5 ys q.2⟩
section
variable {P : Program} {w : World} {K : PySem.W.Frag} {mg : Str → Option Value} {base : Heap}
/-! _is_lot -/
def spIsLot (K : PySem.W.Frag) : Sp := fun vs H Q _ => ∃ (t : Addr) (zs : List Str), vs = [.ref t] ∧ SqT K H t (zs.map V.str) ∧ zs.length ≤ 40 ∧ (∀ z ∈ zs, Nm z) ∧ (zs.Pairwise fun a b => ltZ a b = true) ∧ ∀ H', Same H H' → Q (.bl true) H'
/-! is_question -/
def spIsQuestion (K : PySem.W.Frag) : Sp := fun vs H Q _ => ∃ (q : Addr) (x : Qn), vs = [.ref q] ∧ QnAt K H q x ∧ QnOk x ∧ ∀ H', Same H H' → Q (.bl true) H'
end
end Kb

namespace FlX
open PySem PySem.Spec PyProof.Rows PySem.W L2 LamX SrtZ
/-- the pair of ints that a tuple of the heap holds -/
def rdI (H : Hp) (v : V) : Int × Int := match v with
  | .ref t => (match H t with
    | some (.tup [.int x, .int y]) => (x, y)
    | _ => (0, 0))
  | _ => (0, 0)
theorem rdI_of {H : Hp} {t : Addr} {e : Int × Int} (h : H t = some (.tup [.int e.1, .int e.2])) : rdI H (.ref t) = e := by
  unfold rdI
  dsimp only
  rw [h]
theorem pairedI_rd {H : Hp} : ∀ {ts : List Addr} {ns : List (Int × Int)}, Paired (fun (t : Addr) (e : Int × Int) => H t = some (.tup [.int e.1, .int e.2])) ts ns → (ts.map V.ref).map (rdI H) = ns ∧ ∀ v ∈ ts.map V.ref, ∃ t, v = V.ref t ∧ H t = some (.tup [.int (rdI H v).1, .int (rdI H v).2])
  | _, _, .nil => ⟨rfl, fun _ h => nomatch h⟩
  | t :: ts, _ :: ns, .cons h r => by
    obtain ⟨h1, h2⟩ := pairedI_rd r
    have e := rdI_of h
    refine ⟨by rw [List.map_cons, List.map_cons, h1, e], fun v hv => ?_⟩
    rcases List.mem_cons.mp hv with rfl | hv
    · exact ⟨t, rfl, by rw [e]; exact h⟩
    · exact h2 v hv
theorem pairedI_of {H : Hp} : ∀ {vs : List V}, (∀ v ∈ vs, ∃ t, v = V.ref t ∧ H t = some (.tup [.int (rdI H v).1, .int (rdI H v).2])) → ∃ us : List Addr, vs = us.map V.ref ∧ Paired (fun (t : Addr) (e : Int × Int) => H t = some (.tup [.int e.1, .int e.2])) us (vs.map (rdI H))
  | [], _ => ⟨[], rfl, .nil⟩
  | v :: vs, h => by
    obtain ⟨t, e, ht⟩ := h v List.mem_cons_self
    obtain ⟨us, e2, hp⟩ := pairedI_of fun x hx => h x (List.mem_cons_of_mem _ hx)
    refine ⟨t :: us, by rw [e, e2]; rfl, .cons ht hp⟩
/-- the firsts of a falling list fall -/
theorem srtd_desc {k : V → Int × Int} : ∀ {ys : List V}, SrtO.Srtd (ltP k) ys → (ys.map k).Pairwise fun a b => a.1 ≤ b.1
  | [], _ => .nil
  | y :: ys, h => by
    rw [List.map_cons, List.pairwise_cons]
    have h' := List.pairwise_cons.mp h
    refine ⟨fun b hb => ?_, srtd_desc (k := k) h'.2⟩
    obtain ⟨x, hx, rfl⟩ := List.mem_map.mp hb
    have := SrtO.lexB_no.mp (h'.1 x hx)
    omega
section
variable {X : Cx}
/-- sorted(pairs, reverse=True), pairs of ints, any number of them -/
def rSortedPR (K : PySem.W.Frag) : List V → List V → Hp → VK → Prop := fun vs zs H Q => ∃ (a : Addr) (ts : List Addr) (ns : List (Int × Int)), vs = [V.ref a] ∧ zs = [.bl true] ∧ SqL K H a (ts.map V.ref) ∧ Paired (fun (t : Addr) (e : Int × Int) => H t = some (.tup [.int e.1, .int e.2])) ts ns ∧
  ∀ (p : Addr) (us : List Addr) (ms : List (Int × Int)), ms.Perm ns → (ms.Pairwise fun a b => b.1 ≤ a.1) → H p = none → Paired (fun (t : Addr) (e : Int × Int) => H t = some (.tup [.int e.1, .int e.2])) us ms → Q (.ref p) (upd H p (.lst (us.map V.ref)))
theorem cr_sortedPR : CallRK X (.builtin "sorted") [Str.ofString "reverse"] (rSortedPR X.K) := by
  intro pins s σ H vs zs us ws Q I r rz h
  obtain ⟨a, ts, ns, rfl, rfl, hs, hp, q⟩ := h
  obtain rfl := Vals.ref1 r
  obtain ⟨w1, rfl, e1⟩ := vals1 rz
  obtain rfl : w1 = Value.bool true := e1
  obtain ⟨its, rv, hl, hz⟩ := I.list hs
  obtain ⟨hk, hx⟩ := pairedI_rd hp
  obtain ⟨e1, e2⟩ := refs_back rv fun x m => by
    obtain ⟨t, e, _⟩ := hx x m
    exact ⟨t, e⟩
  have hpr : ∀ v ∈ its, Srt.IsPair s.heap v (rdI H (backV v)).1 (rdI H (backV v)).2 := fun v hv => by
    obtain ⟨t, rfl⟩ := e2 v hv
    have hm : V.ref t ∈ ts.map V.ref := by rw [e1]; exact List.mem_map.mpr ⟨_, hv, rfl⟩
    obtain ⟨t', e, ht⟩ := hx _ hm
    cases e
    obtain ⟨_, its2, r2, o, ho, hc, n, hd⟩ := I.hok _ _ ht
    obtain ⟨u1, u2, rfl, ri, rj⟩ := vals2 r2
    obtain ⟨t1, rfl⟩ := ri
    obtain ⟨t2, rfl⟩ := rj
    exact ⟨t, o, t1, t2, n, rfl, ho, hc, hd⟩
  refine SrtR.sorted_ordK (b := true) (fun _ => rfl) (PyProof.Rows.args_sorted_rev _ _) (fun _ => PyProof.Rows.args_list_sort_rev _ _) (SrtO.swo_lex fun u => rdI H (backV u)) hl.isList (by rw [← rv.length]; exact hz) (fun h2 h₁ a' ha' keep => ?_) fun out h1 h2 => ?_
  · refine SrtO.pairs_sortableO (by omega) (fun v hv => ?_) fun o e => ?_
    · obtain ⟨t, o, t1, t2, n, e, ho, hc, hd⟩ := hpr v hv
      exact ⟨t, o, t1, t2, n, e, (keep _ _ ho).2, hc, hd⟩
    · have e' : some o = some (seqObj "list" its.toArray 0) := e.symm.trans ha'
      cases e'
      intro z
      exact absurd (Value.type.inj z) (by decide)
  · have h2p : out.Perm its := h2.perm.trans (List.reverse_perm _)
    have h3 : ∀ u ∈ out, ∃ a, u = Value.ref a := fun u hu => e2 u (h2p.mem_iff.mp hu)
    have hb : (out.map backV).Perm (ts.map V.ref) := by
      rw [e1]
      exact h2p.map backV
    obtain ⟨ep, he'⟩ := PyProof.Rows.sortedAll_at s.heap its out.toArray.reverse
    have h4 : ∀ u ∈ out.reverse, ∃ a, u = Value.ref a := fun u hu => h3 u (List.mem_reverse.mp hu)
    have ea : out.reverse.toArray = out.toArray.reverse := by
      apply Array.ext'
      rw [Array.toList_reverse]
    obtain ⟨us, eu, hpu⟩ := pairedI_of (H := H) (vs := out.reverse.map backV) fun v hv => by
      refine hx v (hb.mem_iff.mp ?_)
      rw [List.map_reverse] at hv
      exact List.mem_reverse.mp hv
    have hlen : (us.map V.ref).length ≤ sizeLine := by
      rw [← eu, List.length_map, List.length_reverse, h2p.length_eq, ← rv.length]
      exact hz
    have hn : H (s.heap.objs.size + 1) = none := I.hok.fresh (Nat.le_succ _)
    refine ⟨.ref _, upd H (s.heap.objs.size + 1) (.lst (us.map V.ref)), I.laid (t' := s.toks) (fun _ _ => PyProof.Rows.sortedAll_old) (Nat.le_succ _) ⟨hlen, out.reverse, ep, by rw [← eu]; exact vals_back h4, by rw [ea]; exact he'⟩, rfl, q _ us _ ?_ ?_ hn hpu⟩
    · rw [← hk]
      refine List.Perm.map _ ?_
      rw [List.map_reverse]
      exact (List.reverse_perm _).trans hb
    · rw [List.map_reverse, List.map_reverse, List.pairwise_reverse]
      exact srtd_desc (SrtO.srtd_map h1)
end
end FlX

namespace Kb
open PySem PySem.Spec PyProof.Rows L2 SrtZ SrtO FlX LamX RZ
abbrev NP_worth : List Str := ["named", "parts", "question", "word", "groups", "mine", "count", "many", "name", "_"]
/-! what a plan is worth, as mathematics -/
def dscZ (ns : List (Int × Int)) : List (Int × Int) := ns.mergeSort fun a b => decide (b.1 ≤ a.1)
theorem dscZ_perm (ns : List (Int × Int)) : (dscZ ns).Perm ns := List.mergeSort_perm _ _
theorem dscZ_desc (ns : List (Int × Int)) : (dscZ ns).Pairwise fun a b => b.1 ≤ a.1 := by
  have := List.pairwise_mergeSort (le := fun a b : Int × Int => decide (b.1 ≤ a.1)) (fun a b c h1 h2 => by simp at *; omega) (fun a b => by simp; omega) ns
  exact this.imp fun h => by simpa using h
theorem exZ_fall : ∀ {ms : List (Int × Int)}, (ms.Pairwise fun a b => b.1 ≤ a.1) → Fall (exZ ms)
  | [], _ => .nil
  | e :: ms, h => by
    have h' := List.pairwise_cons.mp h
    show Fall (List.replicate e.2.toNat e.1 ++ exZ ms)
    unfold Fall
    rw [List.pairwise_append]
    refine ⟨List.pairwise_replicate.mpr (.inr (Int.le_refl _)), exZ_fall h'.2, fun a ha b hb => ?_⟩
    rw [(List.mem_replicate.mp ha).2]
    obtain ⟨f, hf, hb⟩ := List.mem_flatMap.mp hb
    rw [(List.mem_replicate.mp hb).2]
    exact h'.1 f hf
theorem exZ_perm {a b : List (Int × Int)} (p : a.Perm b) : (exZ a).Perm (exZ b) := p.flatMap_right _
def topG (ns : List (Int × Int)) (j : Int) : Int := ((exZ (dscZ ns)).take j.toNat).sum
theorem topG_of {ms ns : List (Int × Int)} {j : Int} (p : ms.Perm ns) (h : ms.Pairwise fun a b => b.1 ≤ a.1) (nn : ∀ e ∈ ns, 0 ≤ e.2) (hj : 0 ≤ j) : grtZ ms j = topG ns j := by
  rw [grtZ_ex (fun e he => nn e (p.mem_iff.mp he)) hj]
  unfold topG
  rw [fall_eq (exZ_fall h) (exZ_fall (dscZ_desc ns)) (exZ_perm (p.trans (dscZ_perm ns).symm))]
def groupsW (d : Ct) (ps : List (Int × Int)) : List (Int × Int) := ((d.filter fun e => decide (0 < e.2)).map fun e => (e.2, 1)) ++ ps
def worthZ (d : Ct) (ps : List (Int × Int)) : Qn → Int
  | .count z => gd d z
  | .lot zs => (zs.map (gd d)).sum
  | .apart y z => gd d y - gd d z
  | .place z => 1 + (((groupsW d ps).filter fun e => decide (gd d z < e.1)).map (·.2)).sum
  | .first j => topG (groupsW d ps) j
  | .unlike => ((groupsW d ps).map (·.2)).sum
  | .squares => ((groupsW d ps).map fun e => e.1 * e.1 * e.2).sum
section
variable {P : Program} {w : World} {K : PySem.W.Frag} {mg : Str → Option Value} {base : Heap}
/-! _greatest -/
def spGreatest (K : PySem.W.Frag) : Sp := fun vs H Q _ => ∃ (l : Addr) (j : Int) (ts : List Addr) (ns : List (Int × Int)), vs = [.ref l, .int j] ∧ SqL K H l (ts.map V.ref) ∧ Paired (PrI H) ts ns ∧ (∀ e ∈ ns, 0 ≤ e.2) ∧ 0 ≤ j ∧ j ≤ 40 ∧ ∀ H', Same H H' → Q (.int (topG ns j)) H'
/-! _worth -/
theorem paired_app {α β : Type} {F : α → β → Prop} : ∀ {xs : List α} {ys : List β} {us : List α} {vs : List β}, Paired F xs ys → Paired F us vs → Paired F (xs ++ us) (ys ++ vs)
  | _, _, _, _, .nil, h => h
  | _, _, _, _, .cons h t, k => .cons h (paired_app t k)
theorem gd_getD (d : Ct) (z : Str) : (((getZ d z).map V.int).getD (.int 0)) = .int (gd d z) := by
  unfold gd
  cases getZ d z <;> rfl
def spWorth (K : PySem.W.Frag) : Sp := fun vs H Q _ => ∃ (dd l q : Addr) (d : Ct) (ps : List (Int × Int)) (ts : List Addr) (x : Qn), vs = [.ref dd, .ref l, .ref q] ∧ H dd = some (.dK (d.map entZ)) ∧ d.length ≤ 1000 ∧ H l = some (.lst (ts.map V.ref)) ∧ Paired (PrI H) ts ps ∧ ps.length ≤ 1000 ∧ QnAt K H q x ∧ QnOk x ∧
  (∀ e ∈ ps, 0 ≤ e.2) ∧ (∀ e ∈ d, e.2.natAbs < 2 ^ 200) ∧ (∀ e ∈ ps, e.1.natAbs < 2 ^ 200 ∧ e.2.natAbs < 2 ^ 200) ∧ ∀ H', Same H H' → Q (.int (worthZ d ps x)) H'
end
end Kb

namespace Kb
open PySem PySem.Spec PyProof.Rows L2 SrtZ SrtO FlX LamX RZ
abbrev NP_named : List Str := ["sketch", "taken", "named", "name", "amount"]
abbrev NP_ends : List Str := ["sketch", "question", "low", "high", "taken", "parts"]
def namedZ (kvs tk : Ct) : Ct := tk.foldl (fun a e => addZ a e.1 e.2) kvs
theorem namedZ_snoc (kvs tk : Ct) (e : Str × Int) : namedZ kvs (tk ++ [e]) = addZ (namedZ kvs tk) e.1 e.2 := by
  unfold namedZ
  rw [List.foldl_append]
  rfl
theorem namedZ_len : ∀ (tk kvs : Ct), (namedZ kvs tk).length ≤ kvs.length + tk.length
  | [], _ => Nat.le_refl _
  | e :: r, kvs => by
    have := namedZ_len r (addZ kvs e.1 e.2)
    have : (addZ kvs e.1 e.2).length ≤ kvs.length + 1 := putZ_len
    show (namedZ (addZ kvs e.1 e.2) r).length ≤ kvs.length + (r.length + 1)
    omega
/-! what plans keep to -/
theorem getZ_bd {kvs : Ct} {B : Int} (h0 : 0 ≤ B) (h : ∀ e ∈ kvs, 0 ≤ e.2 ∧ e.2 ≤ B) (n : Str) : 0 ≤ gd kvs n ∧ gd kvs n ≤ B := by
  unfold gd
  cases hg : getZ kvs n with
  | none => exact ⟨Int.le_refl _, h0⟩
  | some v => exact h _ (getZ_in hg)
theorem namedZ_bd {C : Int} (c0 : 0 ≤ C) : ∀ {tk kvs : Ct} {B : Int}, 0 ≤ B → (∀ e ∈ kvs, 0 ≤ e.2 ∧ e.2 ≤ B) → (∀ e ∈ tk, 0 ≤ e.2 ∧ e.2 ≤ C) → ∀ e ∈ namedZ kvs tk, 0 ≤ e.2 ∧ e.2 ≤ B + tk.length * C
  | [], kvs, B, b0, hk, _ => fun e he => by
    have := hk e he
    show 0 ≤ e.2 ∧ e.2 ≤ B + ((0 : Nat) : Int) * C
    simp
    exact this
  | f :: tk, kvs, B, b0, hk, ht => fun e he => by
    have hf := ht f List.mem_cons_self
    have := namedZ_bd (tk := tk) (kvs := addZ kvs f.1 f.2) (B := B + C) c0 (by omega) (fun g hg => by
      rcases putZ_mem hg with hg | rfl
      · have := hk g hg
        omega
      · have := getZ_bd b0 hk f.1
        unfold gd at this
        show 0 ≤ (getZ kvs f.1).getD 0 + f.2 ∧ (getZ kvs f.1).getD 0 + f.2 ≤ B + C
        omega) (fun g hg => ht g (List.mem_cons_of_mem _ hg)) e he
    rw [List.length_cons]
    push_cast
    have e2 : ((tk.length : Int) + 1) * C = tk.length * C + C := by grind
    omega
theorem mem_le_sum : ∀ {l : Ct}, (∀ e ∈ l, 1 ≤ e.2) → ∀ e ∈ l, e.2 ≤ sumC l
  | f :: l, h, e, he => by
    have h1 := sumC_pos (l := l) fun x hx => h x (List.mem_cons_of_mem _ hx)
    have h2 := h f List.mem_cons_self
    have : sumC (f :: l) = f.2 + sumC l := by unfold sumC; rw [List.map_cons, List.sum_cons]
    rcases List.mem_cons.mp he with rfl | he
    · omega
    · have := mem_le_sum (l := l) (fun x hx => h x (List.mem_cons_of_mem _ hx)) e he
      omega
structure PlanOk (kvs : Ct) (pl : Plan) : Prop where
  len : pl.1.length ≤ 200
  plen : pl.2.length ≤ 2
  pos : ∀ e ∈ pl.2, 0 < e.1 ∧ 0 < e.2
  pb : ∀ e ∈ pl.2, e.1.natAbs < 2 ^ 200 ∧ e.2.natAbs < 2 ^ 200
  nb : ∀ e ∈ namedZ kvs pl.1, 0 ≤ e.2 ∧ e.2.natAbs < 2 ^ 200
theorem nullZ_mem : ∀ {zs : List Str} {d : Ct}, (∀ e ∈ d, e.2 = 0) → ∀ e ∈ nullZ zs d, e.2 = 0
  | [], _, h => h
  | z :: zs, d, h => nullZ_mem (zs := zs) fun e he => by
    rcases putZ_mem he with he | rfl
    · exact h e he
    · rfl
theorem fillZ_mem {off : Int} (h0 : 0 ≤ off) : ∀ {ys : List Str} {x : Ct × Int}, 0 ≤ x.2 → (∀ e ∈ x.1, 0 ≤ e.2 ∧ e.2 ≤ off) → ∀ e ∈ (fillZ off ys x).1, 0 ≤ e.2 ∧ e.2 ≤ off
  | [], _, _, h => h
  | y :: ys, x, hx, h => fillZ_mem h0 (ys := ys) (x := (putZ x.1 y (if x.2 < off then x.2 else off), x.2 - (if x.2 < off then x.2 else off))) (by dsimp only; split <;> omega) fun e he => by
    rcases putZ_mem he with he | rfl
    · exact h e he
    · dsimp only
      split <;> omega
theorem passZ_mem {off mine : Int} {z : Str} : ∀ {ys : Ct} {x : Ct × Int}, (∀ e ∈ x.1, 0 ≤ e.2 ∧ e.2 ≤ off) → ∀ e ∈ (passZ off mine z ys x).1, 0 ≤ e.2 ∧ e.2 ≤ off
  | [], _, h => h
  | y :: ys, x, h => passZ_mem (ys := ys) fun e he => by
    split at he
    · rename_i hb
      rcases putZ_mem he with he | rfl
      · exact h e he
      · unfold passB at hb
        rw [Bool.and_eq_true, decide_eq_true_eq] at hb
        have := mnI_le (off := off) (S := x.2)
        dsimp only
        refine ⟨?_, by omega⟩
        unfold needZ
        split <;> omega
    · exact h e he
theorem partedZ_ok {a sz : Int} (h0 : 0 ≤ a) (h1 : a < 2 ^ 100) (h2 : sz < 2 ^ 100) : ∀ e ∈ partedZ a sz, (0 < e.1 ∧ 0 < e.2) ∧ e.1.natAbs < 2 ^ 200 ∧ e.2.natAbs < 2 ^ 200 := fun e he => by
  unfold partedZ at he
  split at he
  · cases he
  · obtain ⟨hm, hk⟩ := List.mem_filter.mp he
    unfold okG at hk
    rw [Bool.and_eq_true, decide_eq_true_eq, decide_eq_true_eq] at hk
    refine ⟨hk, ?_⟩
    rcases List.mem_cons.mp hm with rfl | hm
    · dsimp only at hk ⊢
      have : a / sz ≤ a := Int.ediv_le_self sz h0
      omega
    · obtain rfl := List.mem_singleton.mp hm
      dsimp only at hk ⊢
      have : a % sz ≤ a := by
        have e := Int.emod_add_mul_ediv a sz
        by_cases hs : 0 ≤ sz
        · have : 0 ≤ sz * (a / sz) := Int.mul_nonneg hs (Int.ediv_nonneg h0 hs)
          omega
        · have e2 : a / sz ≤ 0 := by
            have := Int.ediv_nonneg h0 (show 0 ≤ -sz by omega)
            rw [Int.ediv_neg] at this
            omega
          have : 0 ≤ (-sz) * (-(a / sz)) := Int.mul_nonneg (by omega) (by omega)
          rw [Int.neg_mul_neg] at this
          omega
      omega
theorem planOk_of {r m off : Int} {kvs : Ct} (hg : SkG r m off kvs) {tk : Ct} {left sz : Int} (hl : tk.length ≤ 200) (ht : ∀ e ∈ tk, 0 ≤ e.2 ∧ e.2 ≤ off) (l0 : 0 ≤ left) (l1 : left ≤ m - sumC kvs) (hs : sz < 2 ^ 100) : PlanOk kvs (tk, partedZ left sz) := by
  obtain ⟨a1, a2, a3, a4⟩ := hg.lost
  have hb := hg.big
  have ho := hg.o0
  have h6 := sumC_pos hg.cts.pos
  have po := partedZ_ok l0 (by omega) hs
  refine ⟨hl, partedZ_len _ _, fun e he => (po e he).1, fun e he => (po e he).2, fun e he => ?_⟩
  have := namedZ_bd ho (B := m) (by omega) (fun e he => ⟨by have := hg.cts.pos e he; omega, by have := mem_le_sum hg.cts.pos e he; omega⟩) ht e he
  have h7 : (tk.length : Int) * off ≤ 200 * off := Int.mul_le_mul_of_nonneg_right (by omega) ho
  omega
theorem planZ_ok {r m off sz : Int} {kvs : Ct} {zs ys : List Str} (hg : SkG r m off kvs) (h1 : zs.length ≤ 40) (h2 : ys.length ≤ 100) (hs : sz < 2 ^ 100) : PlanOk kvs (planZ kvs m off sz zs ys) := by
  obtain ⟨a1, a2, a3, a4⟩ := hg.lost
  have hf := fillZ_left hg.o0 ys (nullZ zs [], m - sumC kvs) a1
  refine planOk_of hg ?_ (fillZ_mem hg.o0 a1 fun e he => ?_) hf.1 hf.2 hs
  · have := fillZ_len off ys (nullZ zs [], m - sumC kvs)
    have := nullZ_len zs []
    dsimp only [List.length_nil] at *
    omega
  · have := nullZ_mem (zs := zs) (d := []) (fun _ h => nomatch h) e he
    have := hg.o0
    omega
theorem planP_ok {r m off : Int} {kvs : Ct} {z : Str} (hg : SkG r m off kvs) : PlanOk kvs (planP kvs m off z) := by
  obtain ⟨a1, a2, a3, a4⟩ := hg.lost
  have hlen := hg.len
  have hr64 := hg.r64
  have hf := passZ_left (off := off) (mine := gd kvs z) z (fallBy (·.2) kvs) ([(z, 0)], m - sumC kvs) a1
  refine planOk_of hg ?_ (passZ_mem fun e he => ?_) hf.1 hf.2 (by have := mnI_le (off := gd kvs z + 1) (S := off); omega)
  · have := passZ_len off (gd kvs z) z (fallBy (·.2) kvs) ([(z, 0)], m - sumC kvs)
    rw [fallB_len] at this
    dsimp only [List.length_cons, List.length_nil] at *
    omega
  · rw [List.mem_singleton.mp he]
    exact ⟨Int.le_refl _, hg.o0⟩
theorem plansZ_ok {r m off : Int} {kvs : Ct} {x : Qn} (hg : SkG r m off kvs) (hx : QnOk x) : PlanOk kvs (plansZ kvs m off x).1 ∧ PlanOk kvs (plansZ kvs m off x).2 := by
  obtain ⟨a1, a2, a3, a4⟩ := hg.lost
  have hl := hx.len
  have hlen := hg.len
  have hr64 := hg.r64
  have fl : ((fallBy (·.2) kvs).map (·.1)).length ≤ 100 := by
    rw [List.length_map, fallB_len]
    omega
  have sp : PlanOk kvs (spread kvs m off) := planZ_ok hg (by decide) (by decide) (by decide)
  have lu : PlanOk kvs (lumped kvs m off) := planZ_ok hg (by decide) fl a4
  cases x with
  | count z => exact ⟨planZ_ok hg hl (by decide) a4, planZ_ok hg hl (Nat.le_trans hl (by decide)) a4⟩
  | lot zs => exact ⟨planZ_ok hg hl (Nat.zero_le _) a4, planZ_ok hg hl (Nat.le_trans hl (by decide)) a4⟩
  | apart y z => exact ⟨planZ_ok hg hl (by show 1 ≤ 100; decide) a4, planZ_ok hg hl (by show 1 ≤ 100; decide) a4⟩
  | place z => exact ⟨planZ_ok hg hl (by show 1 ≤ 100; decide) a4, planP_ok hg⟩
  | first j => exact ⟨sp, lu⟩
  | unlike => exact ⟨lu, sp⟩
  | squares => exact ⟨sp, lu⟩
/-- the ends of a question -/
def lowE (kvs : Ct) (m off : Int) (x : Qn) : Int := worthZ (namedZ kvs (plansZ kvs m off x).1.1) (plansZ kvs m off x).1.2 x
def highE (kvs : Ct) (m off : Int) (x : Qn) : Int := worthZ (namedZ kvs (plansZ kvs m off x).2.1) (plansZ kvs m off x).2.2 x
section
variable {P : Program} {w : World} {K : PySem.W.Frag} {mg : Str → Option Value} {base : Heap}
/-! _named -/
def spNamed (K : PySem.W.Frag) : Sp := fun vs H Q _ => ∃ (s dd : Addr) (r m off : Int) (kvs tk : Ct), vs = [.ref s, .ref dd] ∧ SkC K H s r m off kvs ∧ SkG r m off kvs ∧ H dd = some (.dK (tk.map entZ)) ∧ tk.length ≤ 500 ∧
  ∀ H' p, Same H H' → H p = none → H' p = some (.dK ((namedZ kvs tk).map entZ)) → Q (.ref p) H'
/-! _need_both -/
theorem SkG.yes {r m o : Int} {kvs : Ct} (g : SkG r m o kvs) : skB r m o kvs = true := by
  unfold skB
  rw [decide_eq_true g.r1, decide_eq_true g.r64, decide_eq_true g.m0, decide_eq_true g.o0, decide_eq_true g.len, decide_eq_true g.lo, decide_eq_true g.hi]
  rfl
def spNeedBoth (K : PySem.W.Frag) : Sp := fun vs H Q _ => ∃ (s q : Addr) (r m off : Int) (kvs : Ct) (x : Qn), vs = [.ref s, .ref q] ∧ SkC K H s r m off kvs ∧ SkG r m off kvs ∧ QnAt K H q x ∧ QnOk x ∧ ∀ H', Same H H' → Q .non H'
/-! ends -/
def spEnds (K : PySem.W.Frag) (Pt : Addr) : Sp := fun vs H Q _ => ∃ (s q : Addr) (r m off : Int) (kvs : Ct) (x : Qn), vs = [.ref s, .ref q] ∧ SkC K H s r m off kvs ∧ SkG r m off kvs ∧ QnAt K H q x ∧ QnOk x ∧ TabS H Pt qFall ∧
  ∀ H' p, ExT Pt qFall H H' → H p = none → H' p = some (.tup [.int (lowE kvs m off x), .int (highE kvs m off x)]) → Q (.ref p) H'
end
end Kb

namespace Kb
open PySem PySem.Spec PyProof.Rows L2 SrtZ SrtO
/-- how often each name stands in the streams -/
def cntZ (zs : List Str) (kc : Ct) : Ct := zs.foldl (fun k n => addZ k n 1) kc
def cntS (kc : Ct) : Stp → Ct
  | .put zs => cntZ zs kc
  | .pour => kc
def cntT (l : List Stp) : Ct := l.foldl cntS []
theorem cntZ_snoc {zs : List Str} {kc : Ct} {i : Nat} {n : Str} (h : zs[i]? = some n) : cntZ (zs.take (i + 1)) kc = addZ (cntZ (zs.take i) kc) n 1 := by
  unfold cntZ
  rw [List.take_add_one, h, List.foldl_append]
  rfl
theorem cntT_snoc {l : List Stp} {i : Nat} {t : Stp} (h : l[i]? = some t) : cntT (l.take (i + 1)) = cntS (cntT (l.take i)) t := by
  unfold cntT
  rw [List.take_add_one, h, List.foldl_append]
  rfl
theorem cntZ_nd : ∀ {zs : List Str} {kc : Ct}, NdZ kc → NdZ (cntZ zs kc)
  | [], _, h => h
  | z :: zs, kc, h => cntZ_nd (zs := zs) (addZ_nd (n := z) (c := 1) h)
theorem cntZ_len : ∀ {zs : List Str} {kc : Ct}, (cntZ zs kc).length ≤ kc.length + zs.length
  | [], _ => Nat.le_refl _
  | z :: zs, kc => by
    have h := cntZ_len (zs := zs) (kc := addZ kc z 1)
    have h2 := addZ_len (kvs := kc) (n := z) (c := 1)
    show (cntZ zs (addZ kc z 1)).length ≤ kc.length + (zs.length + 1)
    omega
theorem cntS_nd {kc : Ct} {t : Stp} (h : NdZ kc) : NdZ (cntS kc t) := by
  cases t with
  | put zs => exact cntZ_nd h
  | pour => exact h
theorem cntT_nd (l : List Stp) : NdZ (cntT l) := by
  have gen : ∀ (l : List Stp) (kc : Ct), NdZ kc → NdZ (l.foldl cntS kc) := by
    intro l
    induction l with
    | nil => exact fun _ h => h
    | cons t l ih => exact fun kc h => ih _ (cntS_nd h)
  exact gen l [] List.nodup_nil
theorem mny_mono (l : List Stp) (i : Nat) : mny (l.take i) ≤ mny l := by
  have gen : ∀ (l : List Stp) (m : Int), m ≤ l.foldl cS m := by
    intro l
    induction l with
    | nil => exact fun m => Int.le_refl _
    | cons t l ih =>
      intro m
      have h := ih (cS m t)
      have h2 : m ≤ cS m t := by
        cases t with
        | put zs => show m ≤ m + (zs.length : Nat); omega
        | pour => exact Int.le_refl _
      exact Int.le_trans h2 h
  unfold mny
  have := gen (l.drop i) ((l.take i).foldl cS 0)
  rw [← List.foldl_append, List.take_append_drop] at this
  exact this
theorem cntT_len : ∀ l : List Stp, ((cntT l).length : Int) ≤ mny l := by
  have gen : ∀ (l : List Stp) (kc : Ct) (m : Int), (kc.length : Int) ≤ m → ((l.foldl cntS kc).length : Int) ≤ l.foldl cS m := by
    intro l
    induction l with
    | nil => exact fun _ _ h => h
    | cons t l ih =>
      intro kc m h
      refine ih _ _ ?_
      cases t with
      | put zs =>
        have := cntZ_len (zs := zs) (kc := kc)
        show ((cntZ zs kc).length : Int) ≤ m + (zs.length : Nat)
        omega
      | pour => exact h
  exact fun l => gen l [] 0 (Int.le_refl _)
theorem cts_of {r : Int} {x : Tl} (ok : TlOk r x) : Cts (srtZ x.c) := by
  have p := srtZ_perm x.c
  exact ⟨fun e he => ok.nm e (p.mem_iff.mp he), fun e he => ok.pos e (p.mem_iff.mp he), srtZ_asc ok.nd⟩
section
variable {P : Program} {w : World} {K : PySem.W.Frag} {mg : Str → Option Value} {base : Heap}
/-! counts_of -/
def spCountsOf (K : PySem.W.Frag) : Sp := fun vs H Q _ => ∃ (a : Addr) (l : List Stp), vs = [.ref a] ∧ TreeAt K H a l ∧ Tree l ∧
  ∀ H' k (ts : List Addr), Same H H' → Ptp H' k (ts.map V.ref) → Paired (PrT H') ts (srtZ (cntT l)) → Q (.ref k) H'
/-! need_two, poured -/
def spNeedTwo : Sp := fun vs H Q _ => ∃ (s1 s2 : Addr) (r : Int) (x y : Tl), vs = [.ref s1, .ref s2] ∧ SkAt H s1 r x ∧ SkAt H s2 r y ∧ r ≤ 64 ∧ TlOk r x ∧ TlOk r y ∧ skB r x.m x.o (srtZ x.c) = true ∧ skB r y.m y.o (srtZ y.c) = true ∧ ∀ H', Same H H' → Q .non H'
def spPoured : Sp := fun vs H Q _ => ∃ (s1 s2 : Addr) (r : Int) (x y : Tl), vs = [.ref s1, .ref s2] ∧ SkAt H s1 r x ∧ SkAt H s2 r y ∧ 1 ≤ r ∧ r ≤ 64 ∧ TlOk r x ∧ TlOk r y ∧ skB r x.m x.o (srtZ x.c) = true ∧ skB r y.m y.o (srtZ y.c) = true ∧
  ∀ H' s', Same H H' → H s' = none → SkAt H' s' r (pourT r (skT y) (skT x)) → Q (.ref s') H'
end
end Kb

namespace Kb
open PySem PySem.Spec PyProof.Rows L2 SrtZ SrtO
/-! pouring, in any order of the counts -/
theorem mem_getZ {kvs : Ct} (nd : NdZ kvs) (e : Str × Int) : e ∈ kvs ↔ getZ kvs e.1 = some e.2 := by
  constructor
  · intro h
    obtain ⟨i, hi⟩ := List.mem_iff_getElem?.mp h
    exact getZ_self nd hi
  · intro h
    unfold getZ at h
    cases hf : kvs.find? fun f => decide (f.1 = e.1) with
    | none => rw [hf] at h; cases h
    | some f =>
      rw [hf] at h
      have h1 : f.1 = e.1 := of_decide_eq_true (List.find?_some (p := fun f : Str × Int => decide (f.1 = e.1)) hf)
      have h2 : f.2 = e.2 := Option.some.inj h
      have : f = e := Prod.ext h1 h2
      rw [← this]
      exact List.mem_of_find?_eq_some hf
theorem nd_nodup {kvs : Ct} (nd : NdZ kvs) : kvs.Nodup := by
  unfold NdZ at nd
  rw [List.Nodup, List.pairwise_map] at nd
  exact nd.imp fun h e => h (by rw [e])
theorem perm_of_getZ {a b : Ct} (na : NdZ a) (nb : NdZ b) (h : ∀ k, getZ a k = getZ b k) : a.Perm b :=
  (List.perm_ext_iff_of_nodup (nd_nodup na) (nd_nodup nb)).mpr fun e => by rw [mem_getZ na, mem_getZ nb, h]
theorem getZ_sums : ∀ {more kvs : Ct}, NdZ more → ∀ k, getZ (sumsZ more kvs) k = match getZ more k with | none => getZ kvs k | some c => some (gd kvs k + c)
  | [], kvs, _, k => rfl
  | e :: r, kvs, nd, k => by
    unfold NdZ at nd
    rw [List.map_cons, List.nodup_cons] at nd
    have ih := getZ_sums (more := r) (kvs := addZ kvs e.1 e.2) nd.2 k
    show getZ (sumsZ r (addZ kvs e.1 e.2)) k = _
    rw [ih, getZ_cons]
    by_cases h : e.1 = k
    · rw [if_pos h, getZ_none.mpr (h ▸ nd.1)]
      show getZ (addZ kvs e.1 e.2) k = some (gd kvs k + e.2)
      unfold addZ gd
      rw [getZ_put, if_pos h.symm, h]
    · rw [if_neg h]
      have e1 : getZ (addZ kvs e.1 e.2) k = getZ kvs k := by
        unfold addZ
        rw [getZ_put, if_neg (Ne.symm h)]
      have e2 : gd (addZ kvs e.1 e.2) k = gd kvs k := by
        unfold gd
        rw [e1]
      rw [e1, e2]
theorem gd_sums {more kvs : Ct} (nd : NdZ more) (k : Str) : gd (sumsZ more kvs) k = gd kvs k + gd more k := by
  unfold gd
  rw [getZ_sums nd]
  cases getZ more k with
  | none => exact (Int.add_zero _).symm
  | some c => rfl
theorem sums_perm {a a' b b' : Ct} (pa : a.Perm a') (pb : b.Perm b') (na : NdZ a) (nb : NdZ b) : (sumsZ a b).Perm (sumsZ a' b') := by
  have na' : NdZ a' := (pa.map (·.1)).nodup_iff.mp na
  have nb' : NdZ b' := (pb.map (·.1)).nodup_iff.mp nb
  refine perm_of_getZ (sumsZ_nd nb) (sumsZ_nd nb') fun k => ?_
  rw [getZ_sums na, getZ_sums na', getZ_perm pa na, getZ_perm pb nb]
  unfold gd
  rw [getZ_perm pb nb]
theorem fall_perm {a b : Ct} (p : a.Perm b) (r : Int) : fallZ a r = fallZ b r := by
  have hs := List.pairwise_mergeSort (le := fun (a b : Int) => decide (b ≤ a)) (fun a b c h1 h2 => by simp at *; omega) (fun a b => by simp; omega) (a.map (·.2))
  have := fall_uniq (kvs := b) (ns := (a.map (·.2)).mergeSort fun a b => decide (b ≤ a)) ((List.mergeSort_perm _ _).trans (p.map (·.2))) (hs.imp fun h => of_decide_eq_true h)
  unfold fallZ
  rw [this]
theorem skT_eq {x x' : Tl} (nd : NdZ x.c) (h : skT x = skT x') : x.m = x'.m ∧ x.o = x'.o ∧ x.c.Perm x'.c := by
  obtain ⟨m, o, c⟩ := x
  obtain ⟨m', o', c'⟩ := x'
  unfold skT at h
  injection h with e1 e2 e3
  dsimp only at e1 e2 e3
  exact ⟨e1, e2, (srtZ_perm c).symm.trans (by rw [e3]; exact srtZ_perm c')⟩
theorem pour_skT {r : Int} {x x' y y' : Tl} (nx : NdZ x.c) (ny : NdZ y.c) (hx : skT x = skT x') (hy : skT y = skT y') : skT (pourT r y x) = skT (pourT r y' x') := by
  obtain ⟨x1, x2, x3⟩ := skT_eq nx hx
  obtain ⟨y1, y2, y3⟩ := skT_eq ny hy
  have p := sums_perm y3 x3 ny nx
  have nd := sumsZ_nd (more := y.c) nx
  unfold pourT
  dsimp only
  rw [p.length_eq, fall_perm p, x1, x2, y1, y2]
  split
  · unfold skT
    dsimp only
    rw [srtZ_eq (takeZ_perm p _) (takeZ_nd nd)]
  · unfold skT
    dsimp only
    rw [srtZ_eq p nd]
/-! two runs: the program's and the law's own -/
def stepL (r : Int) (st : List Tl) : Stp → List Tl
  | .put zs => feedsT r zs tl0 :: st
  | .pour => match st with
    | x :: y :: st => pourT r x y :: st
    | st => st
def runL (r : Int) (l : List Stp) : List Tl := l.foldl (stepL r) []
theorem runL_snoc {r : Int} {l : List Stp} {i : Nat} {t : Stp} (h : l[i]? = some t) : runL r (l.take (i + 1)) = stepL r (runL r (l.take i)) t := by
  unfold runL
  rw [List.take_add_one, h, List.foldl_append]
  rfl
theorem runL_ok {r : Int} (hr : 1 ≤ r) : ∀ {l : List Stp} {st : List Tl}, (∀ zs, .put zs ∈ l → ∀ z ∈ zs, Nm z) → (∀ x ∈ st, TlOk r x) → ∀ x ∈ l.foldl (stepL r) st, TlOk r x
  | [], _, _, h => h
  | t :: l, st, hn, h => by
    refine runL_ok hr (l := l) (fun zs hz => hn zs (List.mem_cons_of_mem _ hz)) ?_
    cases t with
    | put zs =>
      intro x hx
      rcases List.mem_cons.mp hx with rfl | hx
      · exact feedsT_ok hr (tl0_ok hr) (hn zs List.mem_cons_self)
      · exact h x hx
    | pour =>
      match st, h with
      | [], h => exact h
      | [_], h => exact h
      | a :: b :: st, h =>
        intro x hx
        rcases List.mem_cons.mp hx with rfl | hx
        · exact pourT_ok (h b (List.mem_cons_of_mem _ List.mem_cons_self)) (h a List.mem_cons_self) (by omega)
        · exact h x (List.mem_cons_of_mem _ (List.mem_cons_of_mem _ hx))
theorem runTL {r : Int} (hr : 1 ≤ r) : ∀ {l : List Stp} {st st' : List Tl}, (∀ zs, .put zs ∈ l → ∀ z ∈ zs, Nm z) → (∀ x ∈ st, TlOk r x) → (∀ x ∈ st', TlOk r x) → st.map skT = st'.map skT → (l.foldl (stepT r) st).map skT = (l.foldl (stepL r) st').map skT
  | [], _, _, _, _, _, h => h
  | t :: l, st, st', hn, h1, h2, h => by
    have hn' : ∀ zs, .put zs ∈ l → ∀ z ∈ zs, Nm z := fun zs hz => hn zs (List.mem_cons_of_mem _ hz)
    cases t with
    | put zs =>
      have ok := feedsT_ok hr (tl0_ok hr) (hn zs List.mem_cons_self)
      refine runTL hr (l := l) hn' (fun x hx => ?_) (fun x hx => ?_) ?_
      · rcases List.mem_cons.mp hx with rfl | hx
        · exact ok
        · exact h1 x hx
      · rcases List.mem_cons.mp hx with rfl | hx
        · exact ok
        · exact h2 x hx
      · show skT _ :: st.map skT = skT _ :: st'.map skT
        rw [h]
    | pour =>
      match st, st', h, h1, h2 with
      | [], [], h, h1, h2 => exact runTL hr (l := l) hn' h1 h2 h
      | [a], [b], h, h1, h2 => exact runTL hr (l := l) hn' h1 h2 h
      | [_], _ :: _ :: _, h, _, _ => simp at h
      | _ :: _ :: _, [_], h, _, _ => simp at h
      | a :: b :: st, a' :: b' :: st', h, h1, h2 =>
        injection h with e1 h
        injection h with e2 h
        have oa := h1 a List.mem_cons_self
        have ob := h1 b (List.mem_cons_of_mem _ List.mem_cons_self)
        have oa' := h2 a' List.mem_cons_self
        have ob' := h2 b' (List.mem_cons_of_mem _ List.mem_cons_self)
        refine runTL hr (l := l) hn' (fun x hx => ?_) (fun x hx => ?_) ?_
        · rcases List.mem_cons.mp hx with rfl | hx
          · exact pourT_ok ob (skT_ok oa) (by omega)
          · exact h1 x (List.mem_cons_of_mem _ (List.mem_cons_of_mem _ hx))
        · rcases List.mem_cons.mp hx with rfl | hx
          · exact pourT_ok ob' oa' (by omega)
          · exact h2 x (List.mem_cons_of_mem _ (List.mem_cons_of_mem _ hx))
        · show skT (pourT r (skT a) b) :: st.map skT = skT (pourT r a' b') :: st'.map skT
          rw [pour_skT ob.nd (skT_ok oa).nd e2 ((skT_skT oa.nd).trans e1), h]
/-! what pouring leaves true -/
def minS (f : Int) (cs : List Int) : Int := (cs.map fun c => if f < c then f else c).sum
theorem minS_cons (f c : Int) (cs : List Int) : minS f (c :: cs) = (if f < c then f else c) + minS f cs := by
  unfold minS
  rw [List.map_cons, List.sum_cons]
theorem minS_perm {f : Int} {a b : List Int} (p : a.Perm b) : minS f a = minS f b := by
  induction p with
  | nil => rfl
  | cons x _ ih => rw [minS_cons, minS_cons, ih]
  | swap x y l =>
    rw [minS_cons, minS_cons, minS_cons, minS_cons]
    omega
  | trans _ _ ih1 ih2 => rw [ih1, ih2]
theorem sumC_take {f : Int} : ∀ kvs : Ct, sumC (takeZ f kvs) = sumC kvs - minS f (kvs.map (·.2))
  | [] => rfl
  | e :: r => by
    have ih := sumC_take (f := f) r
    rw [sumC_cons', List.map_cons, minS_cons]
    unfold takeZ at ih ⊢
    by_cases h : f < e.2
    · rw [List.filter_cons_of_pos (by simpa using h), List.map_cons, sumC_cons', ih, if_pos h]
      show e.2 - f + _ = _
      omega
    · rw [List.filter_cons_of_neg (by simpa using h), ih, if_neg h]
      omega
theorem minS_le {f : Int} : ∀ cs : List Int, minS f cs ≤ (cs.length : Int) * f
  | [] => by show (0 : Int) ≤ 0 * f; omega
  | c :: cs => by
    have ih := minS_le (f := f) cs
    rw [minS_cons, List.length_cons]
    have e : ((cs.length + 1 : Nat) : Int) * f = (cs.length : Int) * f + f := by push_cast; rw [Int.add_mul, Int.one_mul]
    rw [e]
    split <;> omega
theorem minS_ge {f : Int} (hf : 0 ≤ f) : ∀ {cs : List Int} {n : Nat}, (∀ c ∈ cs, 0 ≤ c) → (∀ i c, i < n → cs[i]? = some c → f ≤ c) → n ≤ cs.length → (n : Int) * f ≤ minS f cs
  | [], n, _, _, hn => by
    have : n = 0 := by simpa using hn
    subst this
    show (0 : Int) * f ≤ 0
    omega
  | c :: cs, 0, h0, _, _ => by
    have ih := minS_ge hf (cs := cs) (n := 0) (fun c hc => h0 c (List.mem_cons_of_mem _ hc)) (fun i c h => absurd h (by omega)) (Nat.zero_le _)
    rw [minS_cons]
    have h1 := h0 c List.mem_cons_self
    split <;> omega
  | c :: cs, n + 1, h0, hc, hn => by
    have ih := minS_ge hf (cs := cs) (n := n) (fun c hc => h0 c (List.mem_cons_of_mem _ hc)) (fun i c h e => hc (i + 1) c (by omega) (by simpa using e)) (by rw [List.length_cons] at hn; omega)
    have h1 := hc 0 c (by omega) rfl
    rw [minS_cons]
    have e : ((n + 1 : Nat) : Int) * f = (n : Int) * f + f := by push_cast; rw [Int.add_mul, Int.one_mul]
    rw [e]
    split <;> omega
theorem fall_spec {kvs : Ct} {r : Nat} (h : r < kvs.length) (pos : ∀ e ∈ kvs, 1 ≤ e.2) : 1 ≤ fallZ kvs r ∧ ((r : Int) + 1) * fallZ kvs r ≤ minS (fallZ kvs r) (kvs.map (·.2)) := by
  have hp := List.mergeSort_perm (kvs.map (·.2)) (fun a b => decide (b ≤ a))
  have hs := List.pairwise_mergeSort (le := fun (a b : Int) => decide (b ≤ a)) (fun a b c h1 h2 => by simp at *; omega) (fun a b => by simp; omega) (kvs.map (·.2))
  have p1 : ∀ c ∈ (kvs.map (·.2)).mergeSort (fun a b => decide (b ≤ a)), 1 ≤ c := fun c hc => by
    obtain ⟨e, he, rfl⟩ := List.mem_map.mp (hp.mem_iff.mp hc)
    exact pos e he
  rw [← minS_perm hp]
  unfold fallZ
  rw [Int.toNat_natCast]
  have hl : r < ((kvs.map (·.2)).mergeSort (fun a b => decide (b ≤ a))).length := by rw [hp.length_eq, List.length_map]; exact h
  generalize (kvs.map (·.2)).mergeSort (fun a b => decide (b ≤ a)) = s at hs p1 hl
  have eg : s.getD r 0 = s[r] := by simp [List.getD, hl]
  rw [eg]
  have h1 := p1 _ (List.getElem_mem hl)
  refine ⟨h1, ?_⟩
  have := minS_ge (f := s[r]) (by omega) (cs := s) (n := r + 1) (fun c hc => by have := p1 c hc; omega) (fun i c hi hc => ?_) (by omega)
  · push_cast at this
    exact this
  · obtain ⟨hil, rfl⟩ := List.getElem?_eq_some_iff.mp hc
    by_cases e : i = r
    · subst e
      exact Int.le_refl _
    · exact of_decide_eq_true (List.pairwise_iff_getElem.mp hs i r hil hl (by omega))
theorem sumC_sums : ∀ {more kvs : Ct}, NdZ kvs → sumC (sumsZ more kvs) = sumC kvs + sumC more
  | [], kvs, _ => by show sumC kvs = sumC kvs + 0; omega
  | e :: r, kvs, nd => by
    show sumC (sumsZ r (addZ kvs e.1 e.2)) = _
    rw [sumC_sums (more := r) (addZ_nd nd), sumC_add nd, sumC_cons']
    omega
/-- within the bounds -/
structure Bd (r : Int) (x : Tl) : Prop where
  low : (r + 1) * x.o ≤ x.m - sumC x.c
  high : x.m - sumC x.c ≤ 2 * r * x.o
  off : 0 ≤ x.o
  many : 0 ≤ x.m
theorem bd_pour {r : Int} {x y : Tl} (hr : 1 ≤ r) (ox : TlOk r x) (oy : TlOk r y) (hx : Bd r x) (hy : Bd r y) : Bd r (pourT r y x) := by
  obtain ⟨rn, rfl⟩ := Int.eq_ofNat_of_zero_le (show 0 ≤ r by omega)
  have es := sumC_sums (more := y.c) ox.nd
  have ll := sumsZ_len (more := y.c) (kvs := x.c)
  have pos := sumsZ_pos oy.pos ox.pos
  have lx := ox.len
  have ly := oy.len
  obtain ⟨a1, a2, a3, a4⟩ := hx
  obtain ⟨b1, b2, b3, b4⟩ := hy
  unfold pourT
  dsimp only
  generalize sumsZ y.c x.c = all at es ll pos
  have d1 : ((rn : Int) + 1) * (x.o + y.o) = ((rn : Int) + 1) * x.o + ((rn : Int) + 1) * y.o := Int.mul_add _ _ _
  have d2 : 2 * (rn : Int) * (x.o + y.o) = 2 * (rn : Int) * x.o + 2 * (rn : Int) * y.o := Int.mul_add _ _ _
  split
  · rename_i h
    obtain ⟨f1, f2⟩ := fall_spec (kvs := all) (r := rn) (by omega) pos
    have f3 := minS_le (f := fallZ all rn) (all.map (·.2))
    rw [List.length_map] at f3
    have f4 : (all.length : Int) * fallZ all rn ≤ 2 * (rn : Int) * fallZ all rn := Int.mul_le_mul_of_nonneg_right (by omega) (by omega)
    have d3 : ((rn : Int) + 1) * (x.o + y.o + fallZ all rn) = ((rn : Int) + 1) * (x.o + y.o) + ((rn : Int) + 1) * fallZ all rn := Int.mul_add _ _ _
    have d4 : 2 * (rn : Int) * (x.o + y.o + fallZ all rn) = 2 * (rn : Int) * (x.o + y.o) + 2 * (rn : Int) * fallZ all rn := Int.mul_add _ _ _
    refine ⟨?_, ?_, ?_, ?_⟩ <;> dsimp only
    · rw [sumC_take, d3]
      omega
    · rw [sumC_take, d4]
      omega
    · omega
    · omega
  · refine ⟨?_, ?_, ?_, ?_⟩ <;> dsimp only <;> omega
theorem bd_feeds {r : Int} (hr : 1 ≤ r) : ∀ {zs : List Str} {x : Tl}, TlOk r x → Fd r x → 0 ≤ x.m → (∀ z ∈ zs, Nm z) → Fd r (feedsT r zs x) ∧ (feedsT r zs x).m = x.m + (zs.length : Int)
  | [], x, _, f, _, _ => ⟨f, by show x.m = x.m + 0; omega⟩
  | z :: zs, x, ok, f, hm, hn => by
    have em : (feedT r z 1 x).m = x.m + 1 := by
      unfold feedT
      split <;> rfl
    obtain ⟨a, b⟩ := bd_feeds hr (zs := zs) (x := feedT r z 1 x) (feedT_ok ok hr (hn z List.mem_cons_self) (by decide)) (fd_feed ok hr f) (by rw [em]; omega) fun y hy => hn y (List.mem_cons_of_mem _ hy)
    refine ⟨a, ?_⟩
    show (feedsT r zs (feedT r z 1 x)).m = _
    rw [b, em, List.length_cons]
    push_cast
    omega
theorem bd_stream {r : Int} {zs : List Str} (hr : 1 ≤ r) (hn : ∀ z ∈ zs, Nm z) : Bd r (feedsT r zs tl0) ∧ (feedsT r zs tl0).m = (zs.length : Int) := by
  obtain ⟨f, e⟩ := bd_feeds hr (tl0_ok hr) (fd0 r) (Int.le_refl _) hn
  have e : (feedsT r zs tl0).m = (zs.length : Int) := by rw [e]; show 0 + _ = _; omega
  have ho := f.off
  have h2 : (r + 1) * (feedsT r zs tl0).o ≤ 2 * r * (feedsT r zs tl0).o := Int.mul_le_mul_of_nonneg_right (by omega) ho
  exact ⟨⟨by rw [f.lost]; exact Int.le_refl _, by rw [f.lost]; exact h2, ho, by rw [e]; omega⟩, e⟩
/-- the true counts, as a function -/
def TruF (f : Str → Int) (x : Tl) : Prop := ∀ k, 0 ≤ f k - gd x.c k ∧ f k - gd x.c k ≤ x.o
theorem gd_take {a : Int} {kvs : Ct} (nd : NdZ kvs) (ha : 0 ≤ a) (k : Str) (pos : ∀ e ∈ kvs, 1 ≤ e.2) : gd (takeZ a kvs) k = if a < gd kvs k then gd kvs k - a else 0 := by
  unfold gd
  rw [getZ_take nd]
  cases getZ kvs k with
  | none =>
    show 0 = if a < 0 then _ else 0
    rw [if_neg (by omega)]
  | some v =>
    show (if a < v then some (v - a) else none).getD 0 = if a < v then v - a else 0
    split <;> rfl
theorem tru_pour {r : Int} {x y : Tl} {f g : Str → Int} (hr : 1 ≤ r) (ox : TlOk r x) (oy : TlOk r y) (hf : TruF f x) (hg : TruF g y) : TruF (fun k => f k + g k) (pourT r y x) := by
  obtain ⟨rn, rfl⟩ := Int.eq_ofNat_of_zero_le (show 0 ≤ r by omega)
  intro k
  obtain ⟨a1, a2⟩ := hf k
  obtain ⟨b1, b2⟩ := hg k
  have es := gd_sums (kvs := x.c) oy.nd k
  have pos := sumsZ_pos oy.pos ox.pos
  have nd := sumsZ_nd (more := y.c) ox.nd
  unfold pourT
  dsimp only
  generalize sumsZ y.c x.c = all at es pos nd
  have hp : 0 ≤ gd all k := getZ_pos pos
  split
  · rename_i h
    obtain ⟨f1, _⟩ := fall_spec (kvs := all) (r := rn) (by omega) pos
    dsimp only
    rw [gd_take nd (by omega) k pos]
    split <;> omega
  · dsimp only
    omega
theorem gd_cntZ : ∀ (zs : List Str) (kc : Ct) (k : Str), gd (cntZ zs kc) k = gd kc k + gd (cntZ zs []) k
  | [], kc, k => by show gd kc k = gd kc k + 0; omega
  | z :: zs, kc, k => by
    show gd (cntZ zs (addZ kc z 1)) k = gd kc k + gd (cntZ zs (addZ [] z 1)) k
    rw [gd_cntZ zs (addZ kc z 1) k, gd_cntZ zs (addZ [] z 1) k, gd_add, gd_add]
    show _ = _ + (0 + _ + _)
    omega
theorem tru_stream {r : Int} (hr : 1 ≤ r) : ∀ {zs : List Str} {x : Tl} {kc : Ct}, TlOk r x → Tru kc x → (∀ z ∈ zs, Nm z) → Tru (cntZ zs kc) (feedsT r zs x)
  | [], _, _, _, h, _ => h
  | z :: zs, x, kc, ok, h, hn => tru_stream hr (zs := zs) (feedT_ok ok hr (hn z List.mem_cons_self) (by decide)) (tru_feed ok hr h) fun y hy => hn y (List.mem_cons_of_mem _ hy)
theorem sum_cnt : ∀ (l : List Stp) (kc : Ct) (m : Int), NdZ kc → sumC kc = m → sumC (l.foldl cntS kc) = l.foldl cS m
  | [], _, _, _, e => e
  | .put zs :: l, kc, m, nd, e => by
    have gen : ∀ (zs : List Str) (kc : Ct), NdZ kc → sumC (cntZ zs kc) = sumC kc + (zs.length : Int) := by
      intro zs
      induction zs with
      | nil => exact fun kc _ => by show sumC kc = sumC kc + 0; omega
      | cons z zs ih =>
        intro kc nd
        show sumC (cntZ zs (addZ kc z 1)) = _
        rw [ih _ (addZ_nd nd), sumC_add nd, List.length_cons]
        push_cast
        omega
    exact sum_cnt l (cntZ zs kc) (m + (zs.length : Nat)) (cntZ_nd nd) (by rw [gen zs kc nd, e])
  | .pour :: l, kc, m, nd, e => sum_cnt l kc m nd e
end Kb

namespace Kb
open PySem PySem.Spec PyProof.Rows L2 SrtZ SrtO FlX LamX RZ
/-! the counts of a plan, and of a truth, as a bag -/
def bagZ (d : Ct) (ps : List (Int × Int)) : List Int := exZ (groupsW d ps)
theorem exZ_app (a b : List (Int × Int)) : exZ (a ++ b) = exZ a ++ exZ b := by unfold exZ; exact List.flatMap_append
theorem exZ_ones : ∀ l : Ct, exZ (l.map fun e => (e.2, (1 : Int))) = l.map (·.2)
  | [] => rfl
  | e :: l => by
    show List.replicate 1 e.2 ++ exZ (l.map fun e => (e.2, (1 : Int))) = e.2 :: l.map (·.2)
    rw [exZ_ones l]
    rfl
theorem bagZ_pos {d : Ct} {ps : List (Int × Int)} (h : ∀ e ∈ d, 0 < e.2) : bagZ d ps = d.map (·.2) ++ exZ ps := by
  unfold bagZ groupsW
  rw [exZ_app, List.filter_eq_self.mpr fun e he => by simpa using h e he, exZ_ones]
theorem ex_len : ∀ {g : List (Int × Int)}, (∀ e ∈ g, 0 ≤ e.2) → (g.map (·.2)).sum = ((exZ g).length : Nat)
  | [], _ => rfl
  | e :: g, h => by
    have := h e List.mem_cons_self
    have ih := ex_len (g := g) fun x hx => h x (List.mem_cons_of_mem _ hx)
    show (e.2 :: g.map (·.2)).sum = ((List.replicate e.2.toNat e.1 ++ exZ g).length : Nat)
    rw [List.sum_cons, ih, List.length_append, List.length_replicate]
    push_cast
    omega
theorem sqs_app (a b : List Int) : sqs (a ++ b) = sqs a + sqs b := by unfold sqs; rw [List.map_append, List.sum_append]
theorem sqs_rep (n : Nat) (c : Int) : sqs (List.replicate n c) = c * c * n := by unfold sqs; rw [List.map_replicate, sum_rep]
theorem sqs_perm {a b : List Int} (p : a.Perm b) : sqs a = sqs b := by unfold sqs; exact perm_sum (p.map _)
theorem ex_sqs : ∀ {g : List (Int × Int)}, (∀ e ∈ g, 0 ≤ e.2) → (g.map fun e => e.1 * e.1 * e.2).sum = sqs (exZ g)
  | [], _ => rfl
  | e :: g, h => by
    have := h e List.mem_cons_self
    have ih := ex_sqs (g := g) fun x hx => h x (List.mem_cons_of_mem _ hx)
    show ((e.1 * e.1 * e.2) :: g.map fun e => e.1 * e.1 * e.2).sum = sqs (List.replicate e.2.toNat e.1 ++ exZ g)
    rw [List.sum_cons, ih, sqs_app, sqs_rep, Int.toNat_of_nonneg this]
theorem ex_cnt (c : Int) : ∀ {g : List (Int × Int)}, (∀ e ∈ g, 0 ≤ e.2) → ((g.filter fun e => decide (c < e.1)).map (·.2)).sum = cntG c (exZ g)
  | [], _ => rfl
  | e :: g, h => by
    have h0 := h e List.mem_cons_self
    have ih := ex_cnt c (g := g) fun x hx => h x (List.mem_cons_of_mem _ hx)
    show _ = cntG c (List.replicate e.2.toNat e.1 ++ exZ g)
    rw [cntG_app]
    unfold cntG at ih ⊢
    rw [List.filter_replicate]
    by_cases hc : c < e.1
    · rw [List.filter_cons_of_pos (by simpa using hc), List.map_cons, List.sum_cons, ih, if_pos (by simpa using hc), List.length_replicate]
      omega
    · rw [List.filter_cons_of_neg (by simpa using hc), ih, if_neg (by simpa using hc)]
      simp
/-- the counts that the questions of all names speak of: the greatest first -/
def srtB (d : Ct) (ps : List (Int × Int)) : List Int := exZ (dscZ (groupsW d ps))
theorem srtB_fall (d : Ct) (ps : List (Int × Int)) : Fall (srtB d ps) := exZ_fall (dscZ_desc _)
theorem srtB_perm (d : Ct) (ps : List (Int × Int)) : (srtB d ps).Perm (bagZ d ps) := exZ_perm (dscZ_perm _)
theorem groups_nn {d : Ct} {ps : List (Int × Int)} (h : ∀ e ∈ ps, 0 ≤ e.2) : ∀ e ∈ groupsW d ps, 0 ≤ e.2 := fun e he => by
  rcases List.mem_append.mp he with he | he
  · obtain ⟨f, _, rfl⟩ := List.mem_map.mp he
    show (0 : Int) ≤ 1
    decide
  · exact h e he
/-! a truth -/
structure TruZ (kvs : Ct) (m off : Int) (T : Ct) : Prop where
  nd : NdZ T
  pos : ∀ e ∈ T, 1 ≤ e.2
  lo : ∀ k, gd kvs k ≤ gd T k
  hi : ∀ k, gd T k - gd kvs k ≤ off
  sum : sumC T = m
theorem fallB_fall (kvs : Ct) : Fall ((fallBy (·.2) kvs).map (·.2)) := by
  unfold Fall
  rw [List.pairwise_map]
  have := List.pairwise_mergeSort (le := fun a b : Str × Int => decide (-(a.2) ≤ -(b.2))) (fun a b c h1 h2 => by simp at *; omega) (fun a b => by simp; omega) kvs
  exact this.imp fun h => by
    have := of_decide_eq_true h
    omega
theorem nd_list {l : Ct} (h : NdZ l) : l.Nodup := by
  unfold NdZ at h
  exact List.Pairwise.of_map (·.1) (fun a b hab e => hab (by rw [e])) h
theorem gd_in {l : Ct} (nd : NdZ l) {e : Str × Int} (h : e ∈ l) : gd l e.1 = e.2 := by
  unfold gd
  rw [getZ_mem nd h]
  rfl
theorem gd_notin {l : Ct} {n : Str} (h : n ∉ l.map (·.1)) : gd l n = 0 := by
  unfold gd
  rw [getZ_none.mpr h]
  rfl
theorem in_of_gd {l : Ct} {n : Str} (h : gd l n ≠ 0) : n ∈ l.map (·.1) ∧ (n, gd l n) ∈ l := by
  cases hg : getZ l n with
  | none =>
    unfold gd at h
    rw [hg] at h
    exact absurd rfl h
  | some v =>
    have hm := getZ_in hg
    have : gd l n = v := by unfold gd; rw [hg]; rfl
    rw [this]
    exact ⟨List.mem_map.mpr ⟨_, hm, rfl⟩, hm⟩
section
variable {r m off : Int} {kvs T : Ct}
abbrev Lf (kvs : Ct) : Ct := fallBy (·.2) kvs
abbrev Ls (kvs : Ct) : List Int := (fallBy (·.2) kvs).map (·.2)
def tsZ (kvs T : Ct) : List Int := (Lf kvs).map fun e => gd T e.1 - gd kvs e.1
def frZ (kvs T : Ct) : List Int := (T.filter fun e => !decide (e.1 ∈ kvs.map (·.1))).map (·.2)
theorem lf_mem {e : Str × Int} : e ∈ Lf kvs ↔ e ∈ kvs := (fallB_perm kvs).mem_iff
theorem lf_nd (nd : NdZ kvs) : NdZ (Lf kvs) := by
  unfold NdZ at nd ⊢
  exact ((fallB_perm kvs).map (·.1)).nodup_iff.mpr nd
theorem zip_ts (nd : NdZ kvs) : List.zipWith (· + ·) (Ls kvs) (tsZ kvs T) = (Lf kvs).map fun e => gd T e.1 := by
  unfold tsZ
  rw [List.zipWith_map]
  have : ∀ l : Ct, (∀ e ∈ l, e.2 = gd kvs e.1) → List.zipWith (fun (a b : Str × Int) => a.2 + (gd T b.1 - gd kvs b.1)) l l = l.map fun e => gd T e.1 := by
    intro l
    induction l with
    | nil => intro _; rfl
    | cons e l ih =>
      intro h
      rw [List.zipWith_cons_cons, List.map_cons, ih fun x hx => h x (List.mem_cons_of_mem _ hx)]
      have := h e List.mem_cons_self
      rw [show e.2 + (gd T e.1 - gd kvs e.1) = gd T e.1 by omega]
  exact this _ fun e he => (gd_in nd (lf_mem.mp he)).symm
theorem tru_kept (nd : NdZ kvs) (pos : ∀ e ∈ kvs, 1 ≤ e.2) (t : TruZ kvs m off T) : (T.filter fun e => decide (e.1 ∈ kvs.map (·.1))).Perm ((Lf kvs).map fun e => (e.1, gd T e.1)) := by
  refine (List.perm_ext_iff_of_nodup ((nd_list t.nd).filter _) ?_).mpr fun a => ?_
  · have h1 := lf_nd nd
    unfold NdZ at h1
    refine nd_list ?_
    unfold NdZ
    rw [List.map_map]
    exact h1
  · rw [List.mem_filter]
    constructor
    · rintro ⟨h1, h2⟩
      refine List.mem_map.mpr ?_
      have h2 := of_decide_eq_true h2
      obtain ⟨e, he, hk⟩ := List.mem_map.mp h2
      refine ⟨e, lf_mem.mpr he, ?_⟩
      rw [hk, gd_in t.nd h1]
    · intro hm
      obtain ⟨e, he, rfl⟩ := List.mem_map.mp hm
      have he' := lf_mem.mp he
      have h1 := t.lo e.1
      rw [gd_in nd he'] at h1
      have := pos e he'
      exact ⟨(in_of_gd (by omega)).2, decide_eq_true (List.mem_map.mpr ⟨e, he', rfl⟩)⟩
theorem bag_T (nd : NdZ kvs) (pos : ∀ e ∈ kvs, 1 ≤ e.2) (t : TruZ kvs m off T) : (bagZ T []).Perm (List.zipWith (· + ·) (Ls kvs) (tsZ kvs T) ++ frZ kvs T) := by
  rw [bagZ_pos fun e he => by have := t.pos e he; omega, zip_ts nd]
  show (List.map (fun e : Str × Int => e.2) T ++ []).Perm _
  rw [List.append_nil]
  have p1 := (List.filter_append_perm (fun e : Str × Int => decide (e.1 ∈ kvs.map (·.1))) T).symm.map (fun e : Str × Int => e.2)
  rw [List.map_append] at p1
  refine p1.trans (List.Perm.append ?_ ?_)
  · have := (tru_kept nd pos t).map (fun e : Str × Int => e.2)
    rw [List.map_map] at this
    exact this
  · exact List.Perm.refl _
theorem ts_ok (t : TruZ kvs m off T) : ∀ x ∈ tsZ kvs T, 0 ≤ x ∧ x ≤ off := fun x hx => by
  obtain ⟨e, _, rfl⟩ := List.mem_map.mp hx
  have := t.lo e.1
  have := t.hi e.1
  omega
theorem fr_ok (t : TruZ kvs m off T) : ∀ x ∈ frZ kvs T, 1 ≤ x ∧ x ≤ off := fun x hx => by
  obtain ⟨e, he, rfl⟩ := List.mem_map.mp hx
  obtain ⟨h1, h2⟩ := List.mem_filter.mp he
  have h3 : e.1 ∉ kvs.map (·.1) := by simpa using h2
  have := t.hi e.1
  rw [gd_notin h3, gd_in t.nd h1] at this
  have := t.pos e h1
  omega
theorem ts_len : (tsZ kvs T).length = (Ls kvs).length := by unfold tsZ; rw [List.length_map, List.length_map]
theorem zip_sum : ∀ {a b : List Int}, a.length = b.length → (List.zipWith (· + ·) a b).sum = a.sum + b.sum
  | [], [], _ => rfl
  | x :: a, y :: b, h => by
    rw [List.zipWith_cons_cons, List.sum_cons, List.sum_cons, List.sum_cons, zip_sum (by simpa using h)]
    omega
theorem tru_sum (nd : NdZ kvs) (pos : ∀ e ∈ kvs, 1 ≤ e.2) (t : TruZ kvs m off T) : (tsZ kvs T).sum + (frZ kvs T).sum = m - sumC kvs := by
  have h1 := perm_sum (bag_T nd pos t)
  rw [bagZ_pos fun e he => by have := t.pos e he; omega, List.sum_append, List.sum_append, zip_sum ts_len.symm] at h1
  have h2 : (T.map (·.2)).sum = m := t.sum
  have h4 : (exZ []).sum = 0 := rfl
  have h3 : (Ls kvs).sum = sumC kvs := perm_sum ((fallB_perm kvs).map (·.2))
  omega
/-! the plan where all is new, one by one -/
theorem parts_ones {S : Int} (h : 0 ≤ S) : exZ (partedZ S 1) = List.replicate S.toNat 1 := by
  unfold partedZ
  by_cases e : S = 0
  · rw [if_pos e, e]
    rfl
  · rw [if_neg e]
    unfold groupsZ
    rw [Int.ediv_one, Int.emod_one, List.filter_cons_of_pos (by unfold okG; simp; omega), List.filter_cons_of_neg (by unfold okG; simp)]
    show List.replicate S.toNat (1 : Int) ++ exZ [] = _
    exact List.append_nil _
theorem bag_spread (pos : ∀ e ∈ kvs, 1 ≤ e.2) (h : 0 ≤ m - sumC kvs) : (bagZ (namedZ kvs (spread kvs m off).1) (spread kvs m off).2).Perm (Ls kvs ++ List.replicate (m - sumC kvs).toNat 1) := by
  show (bagZ kvs (partedZ (m - sumC kvs) 1)).Perm _
  rw [bagZ_pos fun e he => by have := pos e he; omega, parts_ones h]
  exact List.Perm.append_right _ ((fallB_perm kvs).map (·.2)).symm
/-! the plan where the greatest get the most -/
theorem fill_lump {off : Int} : ∀ {L : Ct} {x : Ct × Int}, NdZ L → NdZ x.1 →
    (fillZ off (L.map (·.1)) x).2 = lumpR off (L.map (·.2)) x.2 ∧ L.map (fun e => e.2 + gd (fillZ off (L.map (·.1)) x).1 e.1) = lumpZ off (L.map (·.2)) x.2 ∧
    (∀ n, n ∉ L.map (·.1) → gd (fillZ off (L.map (·.1)) x).1 n = gd x.1 n) ∧ NdZ (fillZ off (L.map (·.1)) x).1 ∧ ∀ e ∈ (fillZ off (L.map (·.1)) x).1, e.1 ∈ x.1.map (·.1) ∨ e.1 ∈ L.map (·.1)
  | [], x, _, nx => ⟨rfl, rfl, fun _ _ => rfl, nx, fun e he => .inl (List.mem_map.mpr ⟨e, he, rfl⟩)⟩
  | f :: L, x, nl, nx => by
    unfold NdZ at nl
    rw [List.map_cons, List.nodup_cons] at nl
    obtain ⟨h1, h2, h3, h4, h5⟩ := fill_lump (off := off) (L := L) (x := (putZ x.1 f.1 (mnI off x.2), x.2 - mnI off x.2)) nl.2 (putZ_nd nx)
    have e1 : fillZ off ((f :: L).map (·.1)) x = fillZ off (L.map (·.1)) (putZ x.1 f.1 (mnI off x.2), x.2 - mnI off x.2) := rfl
    rw [e1]
    have gp : ∀ n, gd (putZ x.1 f.1 (mnI off x.2)) n = if n = f.1 then mnI off x.2 else gd x.1 n := fun n => by
      unfold gd
      rw [getZ_put]
      split <;> rfl
    refine ⟨h1, ?_, fun n hn => ?_, h4, fun e he => ?_⟩
    · rw [List.map_cons, h2, h3 f.1 nl.1]
      dsimp only
      rw [gp, if_pos rfl]
      rfl
    · rw [List.map_cons, List.mem_cons, not_or] at hn
      rw [h3 n hn.2]
      dsimp only
      rw [gp, if_neg hn.1]
    · rcases h5 e he with h | h
      · obtain ⟨y, hy, hk⟩ := List.mem_map.mp h
        rcases putZ_mem hy with hy | rfl
        · exact .inl (List.mem_map.mpr ⟨y, hy, hk⟩)
        · exact .inr (by rw [← hk]; exact List.mem_cons_self)
      · exact .inr (List.mem_cons_of_mem _ h)
theorem addZ_in {kvs : Ct} {n : Str} {c : Int} (h : n ∈ kvs.map (·.1)) : addZ kvs n c = kvs.map fun e => if e.1 = n then (e.1, gd kvs n + c) else e := by
  unfold addZ putZ
  rw [if_pos]
  · rfl
  · obtain ⟨e, he, hk⟩ := List.mem_map.mp h
    exact List.any_eq_true.mpr ⟨e, he, decide_eq_true hk⟩
theorem named_in : ∀ {tk kvs : Ct}, NdZ kvs → NdZ tk → (∀ e ∈ tk, e.1 ∈ kvs.map (·.1)) → namedZ kvs tk = kvs.map fun e => (e.1, e.2 + gd tk e.1)
  | [], kvs, _, _, _ => by
    show kvs = _
    have : ∀ e : Str × Int, (e.1, e.2 + gd [] e.1) = e := fun e => by
      show (e.1, e.2 + 0) = e
      rw [Int.add_zero]
    rw [List.map_congr_left fun e _ => this e, List.map_id']
  | f :: tk, kvs, nk, nt, h => by
    unfold NdZ at nt
    rw [List.map_cons, List.nodup_cons] at nt
    have hf := h f List.mem_cons_self
    show namedZ (addZ kvs f.1 f.2) tk = _
    have ek : (addZ kvs f.1 f.2).map (·.1) = kvs.map (·.1) := by
      rw [addZ_in hf, List.map_map]
      refine List.map_congr_left fun e _ => ?_
      show (if e.1 = f.1 then (e.1, gd kvs f.1 + f.2) else e).1 = e.1
      split <;> rfl
    rw [named_in (tk := tk) (kvs := addZ kvs f.1 f.2) (addZ_nd nk) nt.2 (fun e he => by rw [ek]; exact h e (List.mem_cons_of_mem _ he)), addZ_in hf, List.map_map]
    refine List.map_congr_left fun e he => ?_
    show ((if e.1 = f.1 then (e.1, gd kvs f.1 + f.2) else e).1, (if e.1 = f.1 then (e.1, gd kvs f.1 + f.2) else e).2 + gd tk (if e.1 = f.1 then (e.1, gd kvs f.1 + f.2) else e).1) = (e.1, e.2 + gd (f :: tk) e.1)
    have gc : gd (f :: tk) e.1 = if f.1 = e.1 then f.2 else gd tk e.1 := by
      unfold gd
      rw [getZ_cons]
      split <;> rfl
    by_cases hk : e.1 = f.1
    · rw [if_pos hk, gc, if_pos hk.symm, ← hk, gd_in nk he]
      dsimp only
      rw [hk, gd_notin nt.1]
      simp
    · rw [if_neg hk, gc, if_neg (fun z => hk z.symm)]
end
end Kb

namespace Kb
open PySem PySem.Spec PyProof.Rows L2 SrtZ SrtO
abbrev shand : Stmt := topS 25
abbrev Nhand : List Str := ["_law_script", "_law_cells", "_law_cell"]
theorem schand : FnScope ["_law_script", "_law_cells", "_law_cell"] ["_law_script"] (defScope shand) := ⟨rfl, rfl, rfl, by decide +kernel, rfl, by decide +kernel, by decide +kernel⟩
abbrev sdraw : Stmt := topS 26
theorem scdraw : FnScope ["_law_hand_here", "_law_many", "_law_cell", "_law_digit", "_law_number"] ["_law_hand_here", "_law_many"] (defScope sdraw) := ⟨rfl, rfl, rfl, by decide +kernel, rfl, by decide +kernel, by decide +kernel⟩
abbrev sany : Stmt := topS 27
theorem scany : FnScope ["_law_hand_here", "_law_things"] ["_law_hand_here", "_law_things"] (defScope sany) := ⟨rfl, rfl, rfl, by decide +kernel, rfl, by decide +kernel, by decide +kernel⟩
abbrev Dnhand (K : PySem.W.Frag) (mg : Str → Option Value) := Dn K mg "_law_hand" shand ["_law_script"]
abbrev Dndraw (K : PySem.W.Frag) (mg : Str → Option Value) := Dn K mg "_law_draw" sdraw ["_law_hand_here", "_law_many"]
abbrev Dnany (K : PySem.W.Frag) (mg : Str → Option Value) := Dn K mg "_law_any" sany ["_law_hand_here", "_law_things"]
/-- the hand that is drawn from: its list, its cells -/
structure Wl (a c : Addr) (H : Hp) : Prop where
  ac : a ≠ c
  ex : ∃ (ns : List Int) (i : Nat) (u s t : Int), H a = some (.lst [.ref c, .int (i : Int), .int u, .int s, .int t]) ∧ H c = some (.lst (ns.map V.int)) ∧ (∀ n ∈ ns, 0 ≤ n) ∧ 0 ≤ u
/-- all but the hand stays -/
def Exw (a : Addr) (H H' : Hp) : Prop := ∀ b o, b ≠ a → H b = some o → H' b = some o
theorem Exw.refl (a : Addr) (H : Hp) : Exw a H H := fun _ _ _ h => h
theorem Exw.trans {a : Addr} {H H1 H2 : Hp} (x : Exw a H H1) (y : Exw a H1 H2) : Exw a H H2 := fun b o n h => y b o n (x b o n h)
theorem Exw.up {a : Addr} {H H1 : Hp} {u : HO} (x : Exw a H H1) : Exw a H (upd H1 a u) := fun b o n h => by
  rw [upd_ne n]
  exact x b o n h
theorem Exw.same {a : Addr} {H H1 H2 : Hp} (x : Exw a H H1) (y : Same H1 H2) : Exw a H H2 := fun b o n h => y b o (x b o n h)
theorem Same.exw {a : Addr} {H H1 : Hp} (x : Same H H1) : Exw a H H1 := fun b o _ h => x b o h
theorem Wl.same {a c : Addr} {H H' : Hp} (h : Wl a c H) (y : Same H H') : Wl a c H' := by
  obtain ⟨n1, ns, i, u, s, t, e1, e2, r⟩ := h
  exact ⟨n1, ns, i, u, s, t, y _ _ e1, y _ _ e2, r⟩
theorem Wl.ne2 {a c p : Addr} {H : Hp} (h : Wl a c H) (hp : H p = none) : p ≠ a ∧ p ≠ c := by
  obtain ⟨_, ns, i, u, s, t, e1, e2, _⟩ := h
  exact ⟨(ne_of_none e1 hp).symm, (ne_of_none e2 hp).symm⟩
theorem Wl.put {a c p : Addr} {H : Hp} {u : HO} (h : Wl a c H) (n : p ≠ a ∧ p ≠ c) : Wl a c (upd H p u) := by
  obtain ⟨n1, ns, i, v, s, t, e1, e2, r⟩ := h
  exact ⟨n1, ns, i, v, s, t, by rw [upd_ne n.1.symm]; exact e1, by rw [upd_ne n.2.symm]; exact e2, r⟩
/-- what is no list stays -/
theorem Exw.at {a c b : Addr} {H H' : Hp} {o : HO} (x : Exw a H H') (h : Wl a c H) (hb : H b = some o) (hl : ∀ xs, o ≠ .lst xs) : H' b = some o := by
  obtain ⟨_, ns, i, u, s, t, e1, e2, _⟩ := h
  exact x b o (ne_of hb e1 (hl _)) hb
/-- a list of texts is not the hand's -/
theorem Exw.strs {a c b : Addr} {H H' : Hp} {zs : List Str} (x : Exw a H H') (h : Wl a c H) (hb : H b = some (.lst (zs.map V.str))) : H' b = some (.lst (zs.map V.str)) := by
  obtain ⟨_, ns, i, u, s, t, e1, e2, _⟩ := h
  refine x b _ (fun e => ?_) hb
  subst e
  rw [hb] at e1
  have := HO.lst.inj (Option.some.inj e1)
  cases zs with
  | nil => cases this
  | cons y ys => cases this
theorem Exw.tup {K : PySem.W.Frag} {a c b : Addr} {H H' : Hp} {xs : List V} (x : Exw a H H') (h : Wl a c H) (hb : SqT K H b xs) : SqT K H' b xs := by
  rcases hb with (hb | ⟨o, hb⟩) | hb
  · exact .inl (.inl (x.at h hb (by intro _ z; cases z)))
  · exact .inl (.inr ⟨o, x.at h hb (by intro _ z; cases z)⟩)
  · exact .inr hb
theorem Exw.new {a p : Addr} {H H1 : Hp} {u : HO} (x : Exw a H H1) (h : H1 p = none) : Exw a H (upd H1 p u) := x.same (same_upd h)
theorem Exw.gone {a p : Addr} {H H1 : Hp} (x : Exw a H H1) (ne : p ≠ a) (h : H1 p = none) : H p = none := by
  cases e : H p with
  | none => rfl
  | some o => rw [x _ _ ne e] at h; cases h
/-- an object that was new is stored anew -/
theorem Exw.put {a p : Addr} {H H1 : Hp} {u : HO} (x : Exw a H H1) (h : H p = none) : Exw a H (upd H1 p u) := fun b o n e => by
  rw [upd_ne (ne_of_none e h)]
  exact x b o n e
theorem rd_ix {K : PySem.W.Frag} {σ : L2.St} {H : Hp} {Q : VK} {a : Addr} {xs : List V} {v : V} {n : Nat} (k : Nat) (h0 : σ[n]? = some (some (.ref a))) (hS : SqL K H a xs) (hv : xs[k]? = some v) (q : Q v H) :
    tOp (rIxL K) (tVar n) (tC (.int (k : Int))) σ H Q := ⟨.ref a, h0, a, xs, k, v, rfl, rfl, hS, atI_nat hv, q⟩
theorem rd_set {H : Hp} {σ : L2.St} {a : Addr} {xs : List V} {v : V} {n : Nat} (k : Nat) {R : L2.St → Hp → Prop} (h0 : σ[n]? = some (some (.ref a))) (h : H a = some (.lst xs)) (hk : k < xs.length) (q : R σ (upd H a (.lst (xs.set k v)))) :
    gSub (tVar n) (tC (.int (k : Int))) rSetL v σ H R := ⟨.ref a, h0, a, xs, k, k, rfl, rfl, h, by unfold ixN; rw [if_pos (by omega), if_pos (by omega)]; simp, q⟩
theorem cut63 {xs : List V} (h : xs.length ≤ 63) : cutV xs none (some 63) = xs := by
  unfold cutV
  rw [show HT.sIx xs.length xs.length (some 63) = min 63 xs.length from HT.sIx_nat xs.length xs.length 63, HT.sIx_none, List.drop_zero, Nat.sub_zero]
  exact List.take_of_length_le (by omega)
def absI (n : Int) : Int := if n < 0 then -n else n
section
variable {P : Program} {w : World} {K : PySem.W.Frag} {mg : Str → Option Value} {base : Heap}
/-! _law_hand -/
def spHand (K : PySem.W.Frag) : Sp := fun vs H Q _ => ∃ (a : Addr) (ns : List Int), vs = [.ref a] ∧ SqL K H a (ns.map V.int) ∧ ns.length ≤ 63 ∧ ∀ H' p c, Same H H' → H p = none → Wl p c H' → Q (.ref p) H'
theorem ok_hand (T : Blt mg) (d : Dnhand K mg) : FnOk P w K mg base CX0 1 d.f d.fd ["_law_script"] (spHand K) := by
  refine d.F.ok schand (fun vs H Q E h => ?_) (fun cdv A outer s H vs Q E hr h => ?_)
  · obtain ⟨a, ns, rfl, _⟩ := h
    rfl
  · obtain ⟨a, ns, rfl, hS, hl, q⟩ := h
    refine ⟨_, (pss_cons (ps_setLc (i := 1) (own := [("_law_cell", 2)]) (g := gName 2) (tt := tYes) rfl schand.nd rfl rfl (sw_true rfl rfl rfl (by decide +kernel)) (pi_list (pe_slice sl_list (pv 0) po_none (po_some pe_int))) (blkOk_by (N := Nhand) (sc := defScope shand) (by decide +kernel)) (fun _ _ _ _ _ => pg_name (i := 2) schand.nd rfl (Or.inl rfl)) (fun _ _ _ _ _ => pts_nil) (fun _ _ _ _ _ => (pe_callB call_abs (by rfl) T.n_abs (by decide +kernel) (pa_cons (pe_callTy call_int1 (by rfl) T.n_int (by decide +kernel) (pa_cons (pv 2) pa_nil)) pa_nil))))
    (pss_one (ps_ret (pe_lst (pa_cons (pv 1) (pa_cons pe_int (pa_cons pe_int (pa_cons (pe_op op_add pe_int (pe_callB call_len_seq (by rfl) T.n_len (by decide +kernel) (pa_cons (pv 1) pa_nil))) (pa_cons pe_int pa_nil))))))))), ?_⟩
    refine ⟨.ref a, rfl, 63, rfl, a, _, rfl, hS, fun p np => ?_⟩
    rw [cut63 (by rw [List.length_map]; exact hl)]
    have s1 : Same H (upd H p (.lst (ns.map V.int))) := same_upd np
    have hp1 : (upd H p (.lst (ns.map V.int))) p = some (.lst (ns.map V.int)) := upd_same
    generalize upd H p (.lst (ns.map V.int)) = H1 at s1 hp1 ⊢
    refine ⟨p, rfl, ⟨_, sql hp1⟩, fun D nD => lc_list (xs := ns.map V.int) (fun i H3 => Same H1 H3 ∧ H3 D = some (.lst ((ns.take i).map fun n => V.int (absI n)))) ⟨same_upd nD, upd_same⟩ (fun i H3 _ h3 => sql (h3.1 _ _ hp1)) (fun i x H3 hx h3 => ?_) (fun H3 h3 => ?_)⟩
    · obtain ⟨n, hn, rfl⟩ := map_at hx
      refine ⟨rfl, .int n, rfl, .inl ⟨n, rfl, n, rfl, _, h3.2, ?_, fun b o z => ?_, ?_⟩⟩
      · rw [List.length_map, List.length_take, sizeLine_eq]
        omega
      · rw [upd_ne (ne_of_none z nD)]
        exact h3.1 b o z
      · rw [upd_same, List.take_add_one, hn, List.map_append]
        rfl
    · obtain ⟨s3, hD⟩ := h3
      rw [List.length_map, List.take_length] at hD
      have nD0 : H D = none := Same.gone s1 nD
      refine ⟨.ref D, rfl, .ref D, rfl, D, _, rfl, .inl (sql hD), _, _, rfl, rfl, (by show 5 ≤ sizeLine; decide), fun l nl => ?_⟩
      have s4 : Same H3 (upd H3 l (.lst [.ref D, .int 0, .int 0, .int (1 + (((ns.map fun n => V.int (absI n)).length : Nat) : Int)), .int 0])) := same_upd nl
      have lD : l ≠ D := (ne_of_none hD nl).symm
      have s03 : Same H H3 := fun b o e => s3 _ _ (s1 _ _ e)
      refine q _ l D (fun b o e => s4 _ _ (s03 _ _ e)) (Same.gone s03 nl) ⟨lD, ns.map absI, 0, 0, _, 0, upd_same, ?_, fun n hn => ?_, Int.le_refl _⟩
      · rw [List.map_map]
        exact s4 _ _ hD
      · obtain ⟨m, _, rfl⟩ := List.mem_map.mp hn
        unfold absI
        split <;> omega
/-! _law_draw -/
def spDraw : Sp := fun vs H Q _ => ∃ (a c : Addr) (n : Int), vs = [.ref a, .int n] ∧ Wl a c H ∧ 0 < n ∧ n < 1073741824 ∧ ∀ H' (r : Int), Exw a H H' → Wl a c H' → 0 ≤ r → r < n → Q (.int r) H'
theorem ok_draw (T : Blt mg) (d : Dndraw K mg) : FnOk P w K mg base CX0 1 d.f d.fd ["_law_hand_here", "_law_many"] spDraw := by
  refine d.F.ok scdraw (fun vs H Q E h => ?_) (fun cdv A outer s H vs Q E hr h => ?_)
  · obtain ⟨a, c, n, rfl, _⟩ := h
    rfl
  · obtain ⟨a, c, n, rfl, hw, hn0, hn1, q⟩ := h
    refine ⟨_, (C8.pss_cut (ps_if (PW.pt (pw_and (pt_cmpR op_eq (pe_ix ix_list (pv 0) pe_int (fun _ _ => rfl)) pe_int (nomark _)) (pw_and1 (pt_cmpR op_lt (pe_ix ix_list (pv 0) pe_int (fun _ _ => rfl)) (pe_callB call_len_seq (by rfl) T.n_len (by decide +kernel) (pa_cons (pe_ix ix_list (pv 0) pe_int (fun _ _ => rfl)) pa_nil)) (nomark _)))))
      (pss_cons (ps_set (i := 2) scdraw.nd rfl (Or.inl rfl) (pe_ix ix_list (pe_ix ix_list (pv 0) pe_int (fun _ _ => rfl)) (pe_ix ix_list (pv 0) pe_int (fun _ _ => rfl)) (fun _ _ => rfl)))
      (pss_cons (ps_asg (pe_op op_add (pe_ix ix_list (pv 0) pe_int (fun _ _ => rfl)) pe_int) (pg_sub (pv 0) pe_int set_list))
      (pss_cons (ps_asg (pe_op op_mod (pe_callTy call_int1 (by rfl) T.n_int (by decide +kernel) (pa_cons (pe_op op_add (pe_op op_add (pe_op op_mul (pe_ix ix_list (pv 0) pe_int (fun _ _ => rfl)) pe_int) (pv 2)) pe_int) pa_nil)) pe_int) (pg_sub (pv 0) pe_int set_list))
      (pss_one (ps_if (pt_cmpR op_ge (pv 2) (pe_op op_pow pe_int pe_int) (nomark _))
        (pss_one (ps_asg (pv 2) (pg_sub (pv 0) pe_int set_list)))
        pss_nil)))))
      pss_nil)
    (pss_cons (ps_if (pt_cmpR op_gt (pe_ix ix_list (pv 0) pe_int (fun _ _ => rfl)) pe_int (nomark _))
      (pss_cons (ps_set (i := 3) scdraw.nd rfl (Or.inl rfl) (pe_op op_modB (pe_callTy call_int1 (by rfl) T.n_int (by decide +kernel) (pa_cons (pe_ix ix_list (pv 0) pe_int (fun _ _ => rfl)) pa_nil)) (pv 1)))
      (pss_cons (ps_asg (pe_op op_fdiv (pe_ix ix_list (pv 0) pe_int (fun _ _ => rfl)) (pv 1)) (pg_sub (pv 0) pe_int set_list))
      (pss_one (ps_ret (pv 3)))))
      pss_nil)
    (pss_cons (ps_asg (pe_op op_add (pe_ix ix_list (pv 0) pe_int (fun _ _ => rfl)) pe_int) (pg_sub (pv 0) pe_int set_list))
    (pss_cons (ps_set (i := 4) scdraw.nd rfl (Or.inl rfl) (pe_op op_modB (pe_callTy call_int1 (by rfl) T.n_int (by decide +kernel) (pa_cons (pe_op op_mul (pe_callTy call_int1 (by rfl) T.n_int (by decide +kernel) (pa_cons (pe_op op_add (pe_ix ix_list (pv 0) pe_int (fun _ _ => rfl)) (pe_op op_mul pe_int (pe_ix ix_list (pv 0) pe_int (fun _ _ => rfl)))) pa_nil)) pe_int) pa_nil)) pe_int))
    (pss_cons (ps_set (i := 4) scdraw.nd rfl (Or.inl rfl) (pe_op op_modB (pe_callTy call_int1 (by rfl) T.n_int (by decide +kernel) (pa_cons (pe_op op_mul (pv 4) (pe_op op_add (pe_op op_fdiv (pv 4) pe_int) pe_int)) pa_nil)) pe_int))
    (pss_cons (ps_set (i := 4) scdraw.nd rfl (Or.inl rfl) (pe_op op_modB (pe_callTy call_int1 (by rfl) T.n_int (by decide +kernel) (pa_cons (pe_op op_mul (pv 4) (pe_op op_add (pe_op op_fdiv (pv 4) pe_int) pe_int)) pa_nil)) pe_int))
    (pss_one (ps_ret (pe_op op_modB (pe_callTy call_int1 (by rfl) T.n_int (by decide +kernel) (pa_cons (pe_op op_fdiv (pv 4) pe_int) pa_nil)) (pv 1)))))))))), ?_⟩
    refine ⟨fun σ H3 => ∃ y2, σ = [some (.ref a), some (.int n), y2, none, none] ∧ Exw a H H3 ∧ Wl a c H3, ?_, ?_⟩
    · obtain ⟨nac, ns, i, u, s, t, ea, ec, nn, u0⟩ := id hw
      refine rd_ix 2 rfl (sql ea) rfl ⟨rfl, _, rfl, ite2 (fun hu => ?_) fun _ => ⟨_, rfl, Exw.refl a H, hw⟩⟩
      refine rd_ix 1 rfl (sql ea) rfl (rd_ix 0 rfl (sql ea) rfl ⟨c, _, rfl, .inl (sql ec), _, _, rfl, rfl, _, rfl, ite2 (fun hi => ?_) fun _ => ⟨_, rfl, Exw.refl a H, hw⟩⟩)
      have hi : (i : Int) < ((ns.map V.int).length : Int) := of_decide_eq_true hi
      rw [List.length_map] at hi
      have hi : i < ns.length := by omega
      refine rd_ix 0 rfl (sql ea) rfl (rd_ix 1 rfl (sql ea) rfl ⟨c, _, _, .int ns[i], rfl, rfl, sql ec, atI_nat (j := i) (by simp [hi]), ?_⟩)
      have hcell : 0 ≤ ns[i] := nn _ (List.getElem_mem hi)
      refine rd_ix 1 rfl (sql ea) rfl ⟨_, _, rfl, rfl, rd_set 1 rfl ea (by decide : 1 < 5) ?_⟩
      have ea1 : (upd H a (.lst [.ref c, .int ((i : Int) + 1), .int u, .int s, .int t])) a = some (.lst [.ref c, .int ((i + 1 : Nat) : Int), .int u, .int s, .int t]) := upd_same
      have ec1 : (upd H a (.lst [.ref c, .int ((i : Int) + 1), .int u, .int s, .int t])) c = some (.lst (ns.map V.int)) := by rw [upd_ne nac.symm]; exact ec
      have x1 : Exw a H (upd H a (.lst [.ref c, .int ((i : Int) + 1), .int u, .int s, .int t])) := (Exw.refl a H).up
      show tSeq _ _ _ _ (upd H a (.lst [.ref c, .int ((i : Int) + 1), .int u, .int s, .int t]))
      generalize upd H a (.lst [.ref c, .int ((i : Int) + 1), .int u, .int s, .int t]) = H1 at ea1 ec1 x1 ⊢
      refine rd_ix 3 rfl (sql ea1) rfl ⟨_, _, rfl, rfl, cmulR (by decide) (by decide), .int ns[i], rfl, _, _, rfl, rfl, _, _, rfl, rfl, .inl ⟨_, rfl, _, _, rfl, rfl, (by show (0 : Int) < 2147483629; decide), rd_set 3 rfl ea1 (by decide : 3 < 5) ?_⟩⟩
      dsimp only
      generalize (s * 69621 + ns[i] + 11) % 2147483629 = s2
      have ea2 : (upd H1 a (.lst ([V.ref c, .int ((i + 1 : Nat) : Int), .int u, .int s, .int t].set 3 (.int s2)))) a = some (.lst [.ref c, .int ((i + 1 : Nat) : Int), .int u, .int s2, .int t]) := upd_same
      have ec2 : (upd H1 a (.lst ([V.ref c, .int ((i + 1 : Nat) : Int), .int u, .int s, .int t].set 3 (.int s2)))) c = some (.lst (ns.map V.int)) := by rw [upd_ne nac.symm]; exact ec1
      have x2 : Exw a H (upd H1 a (.lst ([V.ref c, .int ((i + 1 : Nat) : Int), .int u, .int s, .int t].set 3 (.int s2)))) := x1.up
      generalize upd H1 a (.lst ([V.ref c, .int ((i + 1 : Nat) : Int), .int u, .int s, .int t].set 3 (.int s2))) = H2 at ea2 ec2 x2 ⊢
      refine ⟨.int ns[i], rfl, _, _, rfl, rfl, ⟨by decide, by decide, by decide⟩, _, _, rfl, rfl, _, rfl, ite2 (fun _ => ?_) fun _ => ⟨_, rfl, x2, nac, ns, i + 1, u, s2, t, ea2, ec2, nn, u0⟩⟩
      refine ⟨.int ns[i], rfl, rd_set 2 rfl ea2 (by decide : 2 < 5) ⟨_, rfl, x2.up, nac, ns, i + 1, ns[i], s2, t, upd_same, by rw [upd_ne nac.symm]; exact ec2, nn, hcell⟩⟩
    · rintro σ H3 ⟨y2, rfl, x3, nac, ns, i, u, s, t, ea, ec, nn, u0⟩
      refine rd_ix 2 rfl (sql ea) rfl ⟨_, _, rfl, rfl, _, rfl, ite2 (fun _ => ?_) fun _ => ?_⟩
      · refine rd_ix 2 rfl (sql ea) rfl (.inl ⟨_, rfl, .int n, rfl, _, _, rfl, rfl, hn0, fun r r0 r1 _ => ?_⟩)
        refine rd_ix 2 rfl (sql ea) rfl ⟨.int n, rfl, _, _, rfl, rfl, ⟨hn0, hn1⟩, rd_set 2 rfl ea (by decide : 2 < 5) ⟨.int r, rfl, ?_⟩⟩
        exact q _ r x3.up ⟨nac, ns, i, u / n, s, t, upd_same, by rw [upd_ne nac.symm]; exact ec, nn, Int.ediv_nonneg u0 (by omega)⟩ r0 r1
      · refine rd_ix 4 rfl (sql ea) rfl ⟨_, _, rfl, rfl, rd_set 4 rfl ea (by decide : 4 < 5) ?_⟩
        have ea1 : (upd H3 a (.lst [.ref c, .int (i : Int), .int u, .int s, .int (t + 1)])) a = some (.lst [.ref c, .int (i : Int), .int u, .int s, .int (t + 1)]) := upd_same
        have w1 : Wl a c (upd H3 a (.lst [.ref c, .int (i : Int), .int u, .int s, .int (t + 1)])) := ⟨nac, ns, i, u, s, t + 1, upd_same, by rw [upd_ne nac.symm]; exact ec, nn, u0⟩
        have x4 : Exw a H (upd H3 a (.lst [.ref c, .int (i : Int), .int u, .int s, .int (t + 1)])) := x3.up
        show tSeq _ _ _ _ (upd H3 a (.lst [.ref c, .int (i : Int), .int u, .int s, .int (t + 1)]))
        generalize upd H3 a (.lst [.ref c, .int (i : Int), .int u, .int s, .int (t + 1)]) = H4 at ea1 w1 x4 ⊢
        refine rd_ix 3 rfl (sql ea1) rfl (rd_ix 4 rfl (sql ea1) rfl ⟨_, _, rfl, rfl, cmulL (by decide) (by decide), _, _, rfl, rfl, .inl ⟨_, rfl, _, _, rfl, rfl, cmulR (by decide) (by decide), .inl ⟨_, rfl, _, _, rfl, rfl, (by show (0 : Int) < 2147483647; decide), fun x1 a0 a1 _ => ?_⟩⟩⟩)
        refine ⟨.int x1, rfl, .int x1, rfl, _, _, rfl, rfl, ⟨by decide, by decide⟩, _, _, rfl, rfl, _, _, rfl, rfl, cmulL a0 (by omega), .inl ⟨_, rfl, _, _, rfl, rfl, (by show (0 : Int) < 2147483647; decide), fun x2 b0 b1 _ => ?_⟩⟩
        refine ⟨.int x2, rfl, .int x2, rfl, _, _, rfl, rfl, ⟨by decide, by decide⟩, _, _, rfl, rfl, _, _, rfl, rfl, cmulL b0 (by omega), .inl ⟨_, rfl, _, _, rfl, rfl, (by show (0 : Int) < 2147483399; decide), fun x3 c0 c1 _ => ?_⟩⟩
        refine ⟨.int x3, rfl, _, _, rfl, rfl, ⟨by decide, by decide⟩, .inl ⟨_, rfl, .int n, rfl, _, _, rfl, rfl, hn0, fun r r0 r1 _ => ?_⟩⟩
        exact q H4 r x4 w1 r0 r1
/-! _law_any -/
def spAny : Sp := fun vs H Q _ => ∃ (a c l : Addr) (xs : List V), vs = [.ref a, .ref l] ∧ Wl a c H ∧ l ≠ a ∧ H l = some (.lst xs) ∧ 0 < xs.length ∧ xs.length ≤ 100000 ∧ ∀ H' x, Exw a H H' → Wl a c H' → x ∈ xs → Q x H'
theorem ok_any (T : Blt mg) (ddraw : Dndraw K mg) (d : Dnany K mg) : FnOk P w K mg base CX0 2 d.f d.fd ["_law_hand_here", "_law_things"] spAny := by
  have Gdraw : FnOk P w K mg base CX0 1 ddraw.f ddraw.fd ["_law_hand_here", "_law_many"] spDraw := ok_draw T ddraw
  refine d.F.ok scany (fun vs H Q E h => ?_) (fun cdv A outer s H vs Q E hr h => ?_)
  · obtain ⟨a, c, l, xs, rfl, _⟩ := h
    rfl
  · obtain ⟨a, c, l, xs, rfl, hw, la, hl, h0, h1, q⟩ := h
    refine ⟨_, (pss_one (ps_ret (pe_ix ix_list (pv 1) (pe_call Gdraw (hr.mono (by omega)) (by rfl) ddraw.g ddraw.F.kp ddraw.b .nil pass0 (pa_cons (pv 0) (pa_cons (pe_callB call_len_seq (by rfl) T.n_len (by decide +kernel) (pa_cons (pv 1) pa_nil)) pa_nil))) (fun _ _ => rfl)))), ?_⟩
    refine ⟨.ref l, rfl, .ref a, rfl, .ref l, rfl, l, _, rfl, .inl (sql hl), a, c, (xs.length : Int), rfl, hw, by omega, by omega, fun H1 k x1 w1 k0 k1 => ?_⟩
    obtain ⟨kn, rfl⟩ := Int.eq_ofNat_of_zero_le k0
    have hk : kn < xs.length := by omega
    exact ⟨l, _, _, _, rfl, rfl, sql (x1 _ _ la hl), atI_nat (j := kn) (List.getElem?_eq_getElem hk), q H1 _ x1 w1 (List.getElem_mem hk)⟩
end
end Kb

namespace L2
open PySem PySem.Spec PyProof.Rows
section
variable {X : Cx}
/-- 'text' * n -/
theorem op_times : OpR X (binaryOp .Mult) (fun x y H Q => ∃ z k, x = .str z ∧ y = .int k ∧ z.length ≤ 16 ∧ 0 ≤ k ∧ k ≤ 100000 ∧ Q (.str (Txt.mul z k)) H) := by
  intro pins s σ H x y v u Q I rx ry h
  obtain ⟨z, k, ex, ey, hz, h0, h1, q⟩ := h
  subst ex ey
  obtain ⟨tz, ez⟩ := rx
  obtain ⟨tk, ek⟩ := ry
  subst ez ek
  exact SB.mul (mulOk_of 16 100000 hz (by omega) (by omega) (by decide) (by decide)) fun t' j => ⟨.str _, H, I.tok j, ⟨_, rfl⟩, q⟩
end
theorem mul_zero' (z : Str) : Txt.mul z 0 = Str.empty := by
  unfold Txt.mul
  rw [if_pos (by decide)]
theorem mul_one' (z : Str) : Txt.mul z 1 = z := by
  unfold Txt.mul
  rw [if_neg (by decide), if_pos (by rfl)]
end L2

namespace Kb
open PySem PySem.Spec PyProof.Rows L2 SrtZ SrtO
abbrev spool : Stmt := topS 28
abbrev Npool : List Str := ["_law_hand_here", "_law_many", "_law_letters", "_law_first_here", "_law_k"]
theorem scpool : FnScope ["_law_hand_here", "_law_many", "_law_letters", "_law_first_here", "_law_k"] ["_law_hand_here", "_law_many"] (defScope spool) := ⟨rfl, rfl, rfl, by decide +kernel, rfl, by decide +kernel, by decide +kernel⟩
abbrev Dnpool (K : PySem.W.Frag) (mg : Str → Option Value) := Dn K mg "_law_pool" spool ["_law_hand_here", "_law_many"]
def S (l : List Nat) : Str := ⟨l.toArray⟩
theorem cs_S (l : List Nat) : cs (S l) = l := by simp [cs, S]
theorem cs_app (a b : Str) : cs (a ++ b) = cs a ++ cs b := by
  show ((a.cps ++ b.cps).toList) = _
  rw [Array.toList_append]
  rfl
theorem len_app (a b : Str) : (a ++ b).length = a.length + b.length := by
  rw [← cs_len, ← cs_len, ← cs_len, cs_app, List.length_append]
theorem abc_at : ∀ m : Fin 26, (Str.ofString "abcdefghijklmnopqrstuvwxyz").cps.toList[m.val]? = some (97 + m.val) := by decide +kernel
/-- a name of a pool -/
def pnm (P : List Nat) (k : Nat) : Str := S (P ++ [97 + k % 26] ++ if 25 < k then [97 + (k / 26 - 1)] else [])
theorem pnm_cs (P : List Nat) (k : Nat) : cs (pnm P k) = P ++ [97 + k % 26] ++ if 25 < k then [97 + (k / 26 - 1)] else [] := cs_S _
theorem pnm_inj {P : List Nat} {j k : Nat} (h : pnm P j = pnm P k) : j = k := by
  have h2 := congrArg cs h
  rw [pnm_cs, pnm_cs, List.append_assoc, List.append_assoc] at h2
  have h3 := List.append_cancel_left h2
  injection h3 with h4 h5
  by_cases hj : 25 < j
  · by_cases hk : 25 < k
    · rw [if_pos hj, if_pos hk] at h5
      injection h5 with h5
      omega
    · rw [if_pos hj, if_neg hk] at h5
      cases h5
  · by_cases hk : 25 < k
    · rw [if_neg hj, if_pos hk] at h5
      cases h5
    · omega
structure Pre (P : List Nat) : Prop where
  len : P.length ≤ 2
  abc : ∀ c ∈ P, 97 ≤ c ∧ c ≤ 122
  is : P = [] ∨ P = [113] ∨ P = [122, 121]
theorem nmC_of {c : Nat} (h1 : 97 ≤ c) (h2 : c ≤ 122) : nmC c = true := by
  unfold nmC
  rw [show decide (c < 97) = false from decide_eq_false (by omega), show decide (122 < c) = false from decide_eq_false (by omega)]
  rfl
theorem nm_of {z : Str} {l : List Nat} (e : cs z = l) (h1 : 1 ≤ l.length) (h8 : l.length ≤ 8) (h : ∀ c ∈ l, 97 ≤ c ∧ c ≤ 122) : Nm z := by
  have hl : z.length = l.length := by rw [← cs_len, e]
  refine ⟨by omega, by omega, fun c hc => ?_⟩
  rw [e] at hc
  exact nmC_of (h c hc).1 (h c hc).2
theorem pnm_abc {P : List Nat} {k : Nat} (hP : Pre P) (hk : k < 702) : ∀ c ∈ cs (pnm P k), 97 ≤ c ∧ c ≤ 122 := fun c hc => by
  rw [pnm_cs] at hc
  rcases List.mem_append.mp hc with hc | hc
  · rcases List.mem_append.mp hc with hc | hc
    · exact hP.abc c hc
    · rw [List.mem_singleton.mp hc]
      omega
  · by_cases h : 25 < k
    · rw [if_pos h] at hc
      rw [List.mem_singleton.mp hc]
      omega
    · rw [if_neg h] at hc
      cases hc
theorem pnm_len {P : List Nat} {k : Nat} (hP : Pre P) : 1 ≤ (cs (pnm P k)).length ∧ (cs (pnm P k)).length ≤ 4 := by
  rw [pnm_cs, List.length_append, List.length_append]
  have := hP.len
  split <;> simp <;> omega
theorem pnm_nm {P : List Nat} {k : Nat} (hP : Pre P) (hk : k < 702) : Nm (pnm P k) := by
  have := pnm_len (k := k) hP
  exact nm_of rfl this.1 (by omega) (pnm_abc hP hk)
def poolL (P : List Nat) (n : Nat) : List Str := (List.range n).map (pnm P)
theorem poolL_nd (P : List Nat) (n : Nat) : (poolL P n).Nodup := by
  unfold poolL
  rw [List.Nodup, List.pairwise_map]
  exact (List.nodup_range (n := n)).imp fun {a b} h e => h (pnm_inj e)
theorem poolL_nm {P : List Nat} {n : Nat} (hP : Pre P) (hn : n ≤ 702) {z : Str} (h : z ∈ poolL P n) : Nm z := by
  obtain ⟨k, hk, rfl⟩ := List.mem_map.mp h
  have := List.mem_range.mp hk
  exact pnm_nm hP (by omega)
section
variable {P : Program} {w : World} {K : PySem.W.Frag} {mg : Str → Option Value} {base : Heap}
/-! _law_pool -/
def spPool : Sp := fun vs H Q _ => ∃ (a c : Addr) (n : Nat), vs = [.ref a, .int (n : Int)] ∧ Wl a c H ∧ n ≤ 702 ∧ ∀ H' p (P : List Nat), Exw a H H' → Wl a c H' → H p = none → p ≠ a → p ≠ c → H' p = some (.lst ((poolL P n).map V.str)) → Pre P → Q (.ref p) H'
theorem ok_pool (T : Blt mg) (ddraw : Dndraw K mg) (dany : Dnany K mg) (d : Dnpool K mg) : FnOk P w K mg base CX0 3 d.f d.fd ["_law_hand_here", "_law_many"] spPool := by
  have Gany : FnOk P w K mg base CX0 2 dany.f dany.fd ["_law_hand_here", "_law_things"] spAny := ok_any T ddraw dany
  refine d.F.ok scpool (fun vs H Q E h => ?_) (fun cdv A outer s H vs Q E hr h => ?_)
  · obtain ⟨a, c, n, rfl, _⟩ := h
    rfl
  · obtain ⟨a, c, n, rfl, hw, hn, q⟩ := h
    refine ⟨_, (pss_cons (ps_set (i := 2) scpool.nd rfl (Or.inr rfl) pe_str)
    (pss_cons (ps_set (i := 3) scpool.nd rfl (Or.inr rfl) (pe_call Gany (hr.mono (by omega)) (by rfl) dany.g dany.F.kp dany.b .nil pass0 (pa_cons (pv 0) (pa_cons (pe_lst (pa_cons pe_str (pa_cons pe_str (pa_cons pe_str (pa_cons pe_str pa_nil))))) pa_nil))))
    (pss_one (ps_ret (pe_lc (own := [("_law_k", 4)]) (g := gName 4) (tt := tYes) rfl scpool.nd (pi_range1 (by rfl) T.n_range (pa_cons (pv 1) pa_nil)) (blkOk_by (N := Npool) (sc := defScope spool) (by decide +kernel)) (fun _ _ _ _ _ => pg_name (i := 4) scpool.nd rfl (Or.inl rfl)) (fun _ _ _ _ _ => pts_nil) (fun _ _ _ _ _ => (pe_op op_add_str (pe_op op_add_str (pv 3) (pe_ix ix_str (pv 2) (pe_op op_mod (pv 4) pe_int) (fun _ _ => rfl))) (pe_op op_times (pe_ix ix_str (pv 2) (pe_op op_sub (pe_op op_fdiv (pv 4) pe_int) pe_int) (fun _ _ => rfl)) (pe_callTy call_int1 (by rfl) T.n_int (show bootBuiltins (Str.ofString "int") = some (Value.type "int") by decide +kernel) (pa_cons (pe_cmpR op_gt (pv 4) pe_int (nomark _)) pa_nil)))))))))), ?_⟩
    refine ⟨.ref a, rfl, (by show 4 ≤ sizeLine; decide), fun l nl => ?_⟩
    have lw := hw.ne2 nl
    have hl : (upd H l (.lst [.str (Str.ofString ""), .str (Str.ofString ""), .str (Str.ofString "q"), .str (Str.ofString "zy")])) l = some (.lst [.str (Str.ofString ""), .str (Str.ofString ""), .str (Str.ofString "q"), .str (Str.ofString "zy")]) := upd_same
    refine ⟨a, c, l, _, rfl, hw.same (same_upd nl), lw.1, hl, (by show 0 < 4; decide), (by show 4 ≤ 100000; decide), fun H1 x x1 w1 hx => ?_⟩
    obtain ⟨z, P, rfl, hz, hP⟩ : ∃ (z : Str) (P : List Nat), x = .str z ∧ cs z = P ∧ Pre P := by
      have e0 : cs (Str.ofString "") = [] := by decide +kernel
      have e1 : cs (Str.ofString "q") = [113] := by decide +kernel
      have e2 : cs (Str.ofString "zy") = [122, 121] := by decide +kernel
      have p0 : Pre [] := ⟨by decide, (fun _ h => nomatch h), .inl rfl⟩
      have p1 : Pre [113] := ⟨by decide, (fun c hc => by rw [List.mem_singleton.mp hc]; decide), .inr (.inl rfl)⟩
      have p2 : Pre [122, 121] := ⟨by decide, (fun c hc => by
        rcases List.mem_cons.mp hc with rfl | hc
        · decide
        · rw [List.mem_singleton.mp hc]; decide), .inr (.inr rfl)⟩
      rcases List.mem_cons.mp hx with rfl | hx
      · exact ⟨_, _, rfl, e0, p0⟩
      · rcases List.mem_cons.mp hx with rfl | hx
        · exact ⟨_, _, rfl, e0, p0⟩
        · rcases List.mem_cons.mp hx with rfl | hx
          · exact ⟨_, _, rfl, e1, p1⟩
          · rw [List.mem_singleton.mp hx]
            exact ⟨_, _, rfl, e2, p2⟩
    have x01 : Exw a H H1 := fun b o n e => x1 b o n (same_upd nl _ _ e)
    refine ⟨.int (n : Int), rfl, (n : Int), rfl, by omega, by omega, fun D nD => ?_⟩
    rw [Int.toNat_natCast]
    have Dw := w1.ne2 nD
    have nD0 : H D = none := x01.gone Dw.1 nD
    have hzl : (Str.ofString "abcdefghijklmnopqrstuvwxyz").length ≤ sizeLine := by
      rw [show (Str.ofString "abcdefghijklmnopqrstuvwxyz").length = 26 by decide +kernel, sizeLine_eq]
      decide
    have hz2 : z.length ≤ 2 := by
      rw [← cs_len, hz]
      exact hP.len
    refine lc_range (lo := 0) (n := n) (fun i H3 => Same H1 H3 ∧ H3 D = some (.lst ((poolL P i).map V.str))) ⟨same_upd nD, upd_same⟩ (fun i H3 hi h3 => ?_) (fun H3 h3 => ?_)
    · obtain ⟨s3, hD⟩ := h3
      have e0 : ((0 : Int) + (i : Int)) % 26 = ((i % 26 : Nat) : Int) := by omega
      have a1 : atI (Str.ofString "abcdefghijklmnopqrstuvwxyz").cps.toList (((0 : Int) + (i : Int)) % 26) = some (97 + i % 26) := by
        rw [e0]
        exact atI_nat (abc_at ⟨i % 26, Nat.mod_lt _ (by decide)⟩)
      refine ⟨rfl, .str z, rfl, _, rfl, .int (0 + (i : Int)), rfl, _, _, rfl, rfl, (by show (0 : Int) < 26; decide), _, _, _, rfl, rfl, hzl, a1, _, _, rfl, rfl, (by rw [sizeLine_eq]; show z.length + 1 ≤ _; omega), ?_⟩
      refine ⟨_, rfl, .int (0 + (i : Int)), rfl, _, _, rfl, rfl, ⟨by decide, by decide⟩, _, _, rfl, rfl, ?_⟩
      dsimp only
      by_cases h25 : 25 < i
      · have e1 : ((0 : Int) + (i : Int)) / 26 - 1 = ((i / 26 - 1 : Nat) : Int) := by omega
        have a2 : atI (Str.ofString "abcdefghijklmnopqrstuvwxyz").cps.toList (((0 : Int) + (i : Int)) / 26 - 1) = some (97 + (i / 26 - 1)) := by
          rw [e1]
          exact atI_nat (abc_at ⟨i / 26 - 1, by omega⟩)
        refine ⟨_, _, _, rfl, rfl, hzl, a2, .int (0 + (i : Int)), rfl, _, _, rfl, rfl, .inr ⟨_, rfl, _, _, rfl, rfl, (by show 1 ≤ 16; decide), ?_, ?_, ?_⟩⟩
        · split <;> decide
        · split <;> decide
        rw [show (decide ((25 : Int) < 0 + (i : Int))) = true from decide_eq_true (by omega), if_pos rfl, mul_one']
        refine ⟨_, _, rfl, rfl, by rw [sizeLine_eq, len_app]; show (z.length + 1) + 1 ≤ _; omega, _, hD, by rw [List.length_map]; unfold poolL; rw [List.length_map, List.length_range, sizeLine_eq]; omega, Same.put s3 nD, ?_⟩
        have hv : (z ++ (⟨#[97 + i % 26]⟩ : Str)) ++ (⟨#[97 + (i / 26 - 1)]⟩ : Str) = pnm P i := by
          refine cs_inj ?_
          rw [cs_app, cs_app, hz, pnm_cs, if_pos h25]
          rfl
        rw [hv, upd_same]
        unfold poolL
        rw [List.range_succ, List.map_append, List.map_append]
        rfl
      · have a2 : atI (Str.ofString "abcdefghijklmnopqrstuvwxyz").cps.toList (((0 : Int) + (i : Int)) / 26 - 1) = some 122 := by
          rw [show ((0 : Int) + (i : Int)) / 26 - 1 = -1 by omega]
          decide +kernel
        refine ⟨_, _, _, rfl, rfl, hzl, a2, .int (0 + (i : Int)), rfl, _, _, rfl, rfl, .inr ⟨_, rfl, _, _, rfl, rfl, (by show 1 ≤ 16; decide), ?_, ?_, ?_⟩⟩
        · split <;> decide
        · split <;> decide
        rw [show (decide ((25 : Int) < 0 + (i : Int))) = false from decide_eq_false (by omega), if_neg (by decide), mul_zero']
        refine ⟨_, _, rfl, rfl, by rw [sizeLine_eq, len_app]; show (z.length + 1) + 0 ≤ _; omega, _, hD, by rw [List.length_map]; unfold poolL; rw [List.length_map, List.length_range, sizeLine_eq]; omega, Same.put s3 nD, ?_⟩
        have hv : (z ++ (⟨#[97 + i % 26]⟩ : Str)) ++ Str.empty = pnm P i := by
          refine cs_inj ?_
          rw [cs_app, cs_app, hz, pnm_cs, if_neg h25]
          rfl
        rw [hv, upd_same]
        unfold poolL
        rw [List.range_succ, List.map_append, List.map_append]
        rfl
    · obtain ⟨s3, hD⟩ := h3
      exact q H3 D P (x01.same s3) (w1.same s3) nD0 Dw.1 Dw.2 hD hP
end
end Kb

namespace Kb
open PySem PySem.Spec PyProof.Rows L2 SrtZ SrtO
abbrev sfed : Stmt := topS 29
abbrev Nfed : List Str := ["_law_sketch_here", "_law_name", "_law_room", "_law_many", "_law_off", "_law_kept", "_law_counts", "_law_left", "_law_other", "_law_count"]
theorem scfed : FnScope ["_law_sketch_here", "_law_name", "_law_room", "_law_many", "_law_off", "_law_kept", "_law_counts", "_law_left", "_law_other", "_law_count"] ["_law_sketch_here", "_law_name"] (defScope sfed) := ⟨rfl, rfl, rfl, by decide +kernel, rfl, by decide +kernel, by decide +kernel⟩
abbrev spoured : Stmt := topS 30
abbrev Npoured : List Str := ["_law_one", "_law_other", "_law_counts", "_law_falling", "_law_taken", "_law_left", "_law_name", "_law_count"]
theorem scpoured : FnScope ["_law_one", "_law_other", "_law_counts", "_law_falling", "_law_taken", "_law_left", "_law_name", "_law_count"] ["_law_one", "_law_other"] (defScope spoured) := ⟨rfl, rfl, rfl, by decide +kernel, rfl, by decide +kernel, by decide +kernel⟩
abbrev Dnfed (K : PySem.W.Frag) (mg : Str → Option Value) := Dn K mg "_law_fed" sfed ["_law_sketch_here", "_law_name"]
abbrev Dnpoured (K : PySem.W.Frag) (mg : Str → Option Value) := Dn K mg "_law_poured" spoured ["_law_one", "_law_other"]
theorem takeZ_asc {a : Int} {kvs : Ct} (h : Asc kvs) : Asc (takeZ a kvs) := by
  unfold Asc takeZ
  rw [List.pairwise_map]
  exact List.Pairwise.filter _ h
theorem srtZ_self {kvs : Ct} (h : Asc kvs) (nd : NdZ kvs) : srtZ kvs = kvs := (srtZ_of h (List.Perm.refl _) nd).symm
theorem srtZ_nd {kvs : Ct} (nd : NdZ kvs) : NdZ (srtZ kvs) := ((srtZ_perm kvs).map (·.1)).nodup_iff.mpr nd
theorem prt_same {H H' : Hp} {ts : List Addr} {ys : Ct} (h : Paired (PrT H) ts ys) (s : Same H H') : Paired (PrT H') ts ys := paired_imp (fun _ _ k => s _ _ k) h
/-- a sketch on the heap, made anew -/
theorem SkAt.mk {H H1 : Hp} {s k : Addr} {r m o : Int} {kvs : Ct} {ts : List Addr} (h1 : H s = some (.tup [.int r, .int m, .int o, .ref k])) (h2 : Ptp H k (ts.map V.ref)) (h3 : Paired (PrT H) ts (srtZ kvs)) : SkAt H s r ⟨m, o, kvs⟩ := ⟨k, ts, h1, h2, h3⟩
section
variable {P : Program} {w : World} {K : PySem.W.Frag} {mg : Str → Option Value} {base : Heap}
/-! _law_fed -/
def spFed : Sp := fun vs H Q _ => ∃ (s : Addr) (r : Int) (n : Str) (x : Tl), vs = [.ref s, .str n] ∧ SkAt H s r x ∧ TlOk r x ∧ 1 ≤ r ∧ r ≤ 64 ∧
  ∀ H' p, Same H H' → H p = none → SkAt H' p r (feedT r n 1 x) → Q (.ref p) H'
theorem ok_fed (T : Blt mg) (d : Dnfed K mg) : FnOk P w K mg base CX0 1 d.f d.fd ["_law_sketch_here", "_law_name"] spFed := by
  refine d.F.ok scfed (fun vs H Q E h => ?_) (fun cdv A outer s H vs Q E hr h => ?_)
  · obtain ⟨s, r, n, x, rfl, _⟩ := h
    rfl
  · obtain ⟨sk, r, n, ⟨m, o, kvs0⟩, rfl, ⟨k, ts, hs, hk, hp0⟩, ok0, hr1, hr2, q⟩ := h
    dsimp only at hs hk hp0
    have hu := hu_of hr
    have ok := skT_ok ok0
    have efeed : ∀ {H' : Hp} {p : Addr}, SkAt H' p r (feedT r n 1 ⟨m, o, srtZ kvs0⟩) → SkAt H' p r (feedT r n 1 ⟨m, o, kvs0⟩) := fun h => h.congr (feed_skT (x := ⟨m, o, kvs0⟩) ok0.nd)
    have asc := srtZ_asc ok0.nd
    have ok : TlOk r ⟨m, o, srtZ kvs0⟩ := ok
    generalize srtZ kvs0 = kvs at hp0 ok asc efeed
    refine ⟨_, (pss_cons (ps_asg (pv 0) (pg_tup (by rfl) (pgs_cons (pg_name (i := 2) scfed.nd rfl (Or.inl rfl)) (pgs_cons (pg_name (i := 3) scfed.nd rfl (Or.inl rfl)) (pgs_cons (pg_name (i := 4) scfed.nd rfl (Or.inl rfl)) (pgs_cons (pg_name (i := 5) scfed.nd rfl (Or.inl rfl)) pgs_nil))))))
    (pss_cons (ps_asg (pe_callTy (call_dictPT rfl) (by rfl) T.n_dict (by decide +kernel) (pa_cons (pv 5) pa_nil)) (pg_name (i := 6) scfed.nd rfl (Or.inl rfl)))
    (pss_cons (ps_if (PW.pt (pw_or (pt_cmp (pc_din hu (pv 1) (pv 6))) (pw_or1 (pt_cmpR op_lt (pe_callB call_lenD (by rfl) T.n_len (by decide +kernel) (pa_cons (pv 6) pa_nil)) (pv 2) (nomark _)))))
      (pss_cons (ps_dput hu (pv 6) (pv 1) (pe_op op_add (pe_dget2 hu (pv 6) (pv 1) pe_int ⟨rfl, rfl, rfl, rfl⟩) pe_int) rfl)
      (pss_one (ps_ret (pe_tup (pa_cons (pv 2) (pa_cons (pe_op op_add (pv 3) pe_int) (pa_cons (pv 4) (pa_cons (pe_callTy call_tupleF (by rfl) T.n_tuple (by decide +kernel) (pa_cons (pe_callB (cr_sortedIZ rfl) (by rfl) T.n_sorted (by decide +kernel) (pa_cons (pe_bm0 PySem.F.plainAttrs_dict PySem.F.slot_dict_items PySem.F.type_dict_items mt_itemsK (pv 6)) pa_nil)) pa_nil)) pa_nil))))))))
      pss_nil)
    (pss_cons (ps_setLc (i := 7) (own := [("_law_other", 8), ("_law_count", 9)]) (g := gTup K 2 (gCons (gName 8) (gCons (gName 9) gNil))) rfl scfed.nd rfl rfl (sw_true rfl rfl rfl (by decide +kernel)) (pi_tup (pv 5)) (blkOk_by (N := Nfed) (sc := defScope sfed) (by decide +kernel)) (fun _ _ _ _ _ => pg_tup (by rfl) (pgs_cons (pg_name (i := 8) scfed.nd rfl (Or.inl rfl)) (pgs_cons (pg_name (i := 9) scfed.nd rfl (Or.inl rfl)) pgs_nil))) (fun _ _ _ _ _ => pts_one (pt_cmpR op_gt (pv 9) pe_int (nomark _))) (fun _ _ _ _ _ => (pe_tup (pa_cons (pv 8) (pa_cons (pe_op op_sub (pv 9) pe_int) pa_nil)))))
    (pss_one (ps_ret (pe_tup (pa_cons (pv 2) (pa_cons (pe_op op_add (pv 3) pe_int) (pa_cons (pe_op op_add (pv 4) pe_int) (pa_cons (pe_callTy call_tupleF (by rfl) T.n_tuple (by decide +kernel) (pa_cons (pv 7) pa_nil)) pa_nil))))))))))), ?_⟩
    refine ⟨.ref sk, rfl, sk, _, rfl, .inl (.inl hs), rfl, _, _, rfl, _, _, rfl, _, _, rfl, _, _, rfl, rfl, ?_⟩
    refine ⟨.ref k, rfl, k, ts, kvs.map entZ, rfl, hk, ents_paired (paired_imp (fun t e h => .inl (.inl h)) hp0), fun p np => ?_⟩
    have em : mergeK [] (kvs.map entZ) = kvs.map entZ := mergeZ kvs [] (by rw [List.nil_append]; exact ok.nd)
    rw [em]
    have hp : (upd H p (.dK (kvs.map entZ))) p = some (.dK (kvs.map entZ)) := upd_same
    have s1 : Same H (upd H p (.dK (kvs.map entZ))) := same_upd np
    generalize upd H p (.dK (kvs.map entZ)) = H1 at hp s1 ⊢
    have hlen : kvs.length ≤ 64 := by
      have : (kvs.length : Int) ≤ r := ok.len
      omega
    refine ⟨.str n, rfl, .ref p, rfl, p, _, rfl, DGet.k (k := Sum.inr n) hp, _, rfl, ?_⟩
    rw [getZ_val]
    cases hf : full r n kvs with
    | false =>
      cases hg : getZ kvs n
      case' none =>
        refine iteF ⟨.ref p, rfl, p, _, rfl, hp, .int r, rfl, _, _, rfl, rfl, true, congrArg V.bl (decide_eq_true (by
          rw [List.length_map]
          have h1 : (kvs.length : Int) ≤ r := ok.len
          have h2 : ¬ (kvs.length : Int) = r := fun z => by
            rw [full_yes hg z] at hf
            cases hf
          omega)), iteT ?_⟩
      case' some v => refine iteT ?_
      all_goals
        refine ⟨.ref p, rfl, p, rfl, .inl ⟨_, .inl hp⟩, .str n, rfl, _, DGet.k (k := Sum.inr n) hp, ?_⟩
        rw [getZ_val]
        refine ⟨(getZ kvs n).getD 0, 1, ?_, rfl, ?_⟩
        · cases getZ kvs n <;> rfl
        · refine ⟨.ref p, rfl, .str n, rfl, p, _, rfl, DPut.k (k := Sum.inr n) hp (by rw [List.length_map, sizeLine_eq]; omega), ?_⟩
          rw [putZ_put]
          rw [feed_add hf (by decide)] at efeed
          have s2 : Same H (upd H1 p (.dK ((putZ kvs n ((getZ kvs n).getD 0 + 1)).map entZ))) := Same.put s1 np
          have hp2 : (upd H1 p (.dK ((putZ kvs n ((getZ kvs n).getD 0 + 1)).map entZ))) p = some (.dK ((addZ kvs n 1).map entZ)) := upd_same
          generalize upd H1 p (.dK ((putZ kvs n ((getZ kvs n).getD 0 + 1)).map entZ)) = H2 at s2 hp2 ⊢
          refine ⟨.int r, rfl, .int m, rfl, _, _, rfl, rfl, .int o, rfl, .ref p, rfl, .inr (.inr (.inl ⟨rfl, .inl ⟨_, hp2⟩⟩)), p, _, rfl, rfl, hp2, fun p3 np3 => ?_⟩
          refine ⟨p3, p, addZ kvs n 1, rfl, upd_same, (by rw [upd_ne (ne_of_none hp2 np3)]; exact hp2), fun H3 l ys ts2 s3 nl nts lts pm so hl1 hts => ?_⟩
          have sb : Same H H3 := fun b u e => s3 b u (same_upd np3 b u (s2 b u e))
          refine ⟨l, _, rfl, sql hl1, fun k2 ob nk2 ho => ⟨(by show 4 ≤ sizeLine; decide), fun t nt => ?_⟩⟩
          have sc : Same H3 (upd H3 k2 (.frz ob (.tup (ts2.map V.ref)))) := same_upd nk2
          have hk2 : (upd H3 k2 (.frz ob (.tup (ts2.map V.ref)))) k2 = some (.frz ob (.tup (ts2.map V.ref))) := upd_same
          generalize upd H3 k2 (.frz ob (.tup (ts2.map V.ref))) = H4 at nt sc hk2 ⊢
          have nda := addZ_nd (n := n) (c := 1) ok.nd
          have eys : ys = srtZ (addZ kvs n 1) := srtZ_of (asc_of so pm nda) pm nda
          subst eys
          have sd := same_upd (o := .tup [.int r, .int (m + 1), .int o, .ref k2]) nt
          exact q _ t ((sb.trans sc).trans sd) (Same.gone (sb.trans sc) nt) (efeed ⟨k2, ts2, upd_same, ⟨ob, sd _ _ hk2, ho⟩, prt_same (prt_same hts sc) sd⟩)
    | true =>
      obtain ⟨hg, hl⟩ := full_of hf
      have m1 := mn_pos (ne_of_full hr1 hl) ok.pos
      rw [feed_lt hf m1] at efeed
      rw [hg]
      refine iteF ⟨.ref p, rfl, p, _, rfl, hp, .int r, rfl, _, _, rfl, rfl, false, congrArg V.bl (decide_eq_false (by rw [List.length_map]; omega)), iteF ?_⟩
      have hk1 := hk.same s1
      refine ⟨.ref k, rfl, k, rfl, ⟨_, hk1.seq⟩, fun D nD => ?_⟩
      refine lc_tup (xs := ts.map V.ref) (fun i H3 => Same H1 H3 ∧ ∃ us : List Addr, H3 D = some (.lst (us.map V.ref)) ∧ us.length ≤ i ∧ Paired (PrT H3) us (takeZ 1 (kvs.take i)))
        ⟨same_upd nD, [], upd_same, Nat.zero_le _, .nil⟩ (fun i H3 _ h3 => (hk1.same h3.1).seq) (fun i x H3 hx h3 => ?_) (fun H3 h3 => ?_)
      · obtain ⟨tp, htp, rfl⟩ := map_at hx
        obtain ⟨e, he, hat⟩ := paired_at hp0 htp
        obtain ⟨s3, us, hD, hul, hpr⟩ := h3
        refine ⟨tp, _, rfl, .inl (.inl (s3 _ _ (s1 _ _ hat))), rfl, _, _, rfl, _, _, rfl, rfl, rfl, .int e.2, rfl, _, _, rfl, rfl, _, rfl, ite2 (fun hgt => ?_) fun hgt => ?_⟩
        · have hgt := of_decide_eq_true hgt
          refine ⟨.str e.1, rfl, .int e.2, rfl, _, _, rfl, rfl, (by show 2 ≤ sizeLine; decide), fun t nt => ?_⟩
          have Dp : D ≠ t := ne_of_none hD nt
          refine ⟨_, by rw [upd_ne Dp]; exact hD, ?_, Same.put (Same.new s3 nt) nD, us ++ [t], by rw [upd_same, List.map_append]; rfl, by rw [List.length_append, List.length_singleton]; omega, ?_⟩
          · have := (List.getElem?_eq_some_iff.mp he).1
            rw [List.length_map, sizeLine_eq]
            omega
          · rw [List.take_add_one, he]
            show Paired _ _ (takeZ 1 (kvs.take i ++ [e]))
            rw [takeZ_snoc, if_pos (show 1 < e.2 by omega)]
            refine paired_snoc (paired_imp (fun t e' ht => ?_) hpr) ?_
            · show _ = _
              rw [upd_ne (ne_of ht hD (by intro z; cases z)), upd_ne (ne_of_none ht nt)]
              exact ht
            · show _ = _
              rw [upd_ne Dp.symm]
              exact upd_same
        · have hgt : ¬ 1 < e.2 := fun z => hgt (decide_eq_true z)
          refine ⟨s3, us, hD, by omega, ?_⟩
          rw [List.take_add_one, he]
          show Paired _ _ (takeZ 1 (kvs.take i ++ [e]))
          rw [takeZ_snoc, if_neg hgt, List.append_nil]
          exact hpr
      · obtain ⟨s3, us, hD, hul, hpr⟩ := h3
        rw [show kvs.take (ts.map V.ref).length = kvs by rw [List.length_map, Paired.length hp0, List.take_length]] at hpr
        have sb : Same H H3 := s1.trans s3
        refine ⟨.int r, rfl, .int m, rfl, _, _, rfl, rfl, .int o, rfl, _, _, rfl, rfl, .ref D, rfl, D, _, rfl, sql hD, fun k2 ob nk2 ho => ⟨(by show 4 ≤ sizeLine; decide), fun t nt => ?_⟩⟩
        have sc : Same H3 (upd H3 k2 (.frz ob (.tup (us.map V.ref)))) := same_upd nk2
        have hk2 : (upd H3 k2 (.frz ob (.tup (us.map V.ref)))) k2 = some (.frz ob (.tup (us.map V.ref))) := upd_same
        generalize upd H3 k2 (.frz ob (.tup (us.map V.ref))) = H4 at nt sc hk2 ⊢
        have sd := same_upd (o := .tup [.int r, .int (m + 1), .int (o + 1), .ref k2]) nt
        refine q _ t ((sb.trans sc).trans sd) (Same.gone (sb.trans sc) nt) (efeed ⟨k2, us, upd_same, ⟨ob, sd _ _ hk2, ho⟩, ?_⟩)
        rw [show srtZ (takeZ 1 kvs) = takeZ 1 kvs from srtZ_self (takeZ_asc asc) (takeZ_nd ok.nd)]
        exact prt_same (prt_same hpr sc) sd
end
end Kb

namespace Kb
open PySem PySem.Spec PyProof.Rows L2 SrtZ SrtO
theorem neg_fall {kvs : Ct} {r : Nat} {ns : List Int} (p : ns.Perm (kvs.map fun e => -e.2)) (so : ns.Pairwise (· ≤ ·)) (h : r < kvs.length) : ∃ v, ns[r]? = some v ∧ -v = fallZ kvs r := by
  have hl : ns.length = kvs.length := by rw [p.length_eq, List.length_map]
  have pm : (ns.map fun c => -c).Perm (kvs.map (·.2)) := by
    have := p.map (fun c : Int => -c)
    rw [List.map_map] at this
    refine this.trans ?_
    rw [show ((fun c : Int => -c) ∘ fun e : Str × Int => -e.2) = (fun e : Str × Int => e.2) from funext fun e => Int.neg_neg e.2]
  have so2 : (ns.map fun c => -c).Pairwise (· ≥ ·) := by
    rw [List.pairwise_map]
    exact so.imp fun h => by show -_ ≤ -_; omega
  have e := fall_uniq pm so2
  have hr : r < ns.length := by omega
  refine ⟨ns[r], List.getElem?_eq_getElem hr, ?_⟩
  unfold fallZ
  rw [Int.toNat_natCast, ← e, List.getD_eq_getElem?_getD, List.getElem?_map, List.getElem?_eq_getElem hr]
  rfl
/-- sorted names with their counts: the counts, ascending -/
theorem srt_names {kvs : Ct} {ss : List Str} (nd : NdZ kvs) (p : ss.Perm (kvs.map (·.1))) (so : Srtd ltZ ss) : (ss.map fun n => (n, gd kvs n)) = srtZ kvs := by
  have nds : ss.Nodup := p.nodup_iff.mpr nd
  refine srtZ_of ?_ ?_ nd
  · unfold Asc
    rw [List.pairwise_map]
    refine List.Pairwise.imp₂ (fun {a b} h1 h2 => ?_) so nds
    rcases bcase (ltZ a b) with q | q
    · exact q
    · exact absurd (ltZ_tri q h1) h2
  · refine (p.map fun n => (n, gd kvs n)).trans ?_
    rw [List.map_map]
    refine List.Perm.of_eq ?_
    conv => rhs; rw [← List.map_id kvs]
    refine List.map_congr_left fun e he => ?_
    show (e.1, gd kvs e.1) = e
    unfold gd
    rw [getZ_mem nd he]
    rfl
theorem keys_inr (kvs : Ct) : (kvs.map entZ).map (·.1) = (kvs.map (·.1)).map Sum.inr := by
  rw [List.map_map, List.map_map]
  rfl
theorem take_srt {a : Int} {kvs : Ct} (nd : NdZ kvs) : srtZ (takeZ a kvs) = takeZ a (srtZ kvs) :=
  (srtZ_of (takeZ_asc (srtZ_asc nd)) (takeZ_perm (srtZ_perm kvs) a) (takeZ_nd nd)).symm
section
variable {P : Program} {w : World} {K : PySem.W.Frag} {mg : Str → Option Value} {base : Heap}
/-! _law_poured -/
def spPouredL : Sp := fun vs H Q _ => ∃ (s1 s2 : Addr) (r : Int) (x y : Tl), vs = [.ref s1, .ref s2] ∧ SkAt H s1 r x ∧ SkAt H s2 r y ∧ TlOk r x ∧ TlOk r y ∧ 1 ≤ r ∧ r ≤ 64 ∧
  ∀ H' p, Same H H' → H p = none → SkAt H' p r (pourT r y x) → Q (.ref p) H'
theorem ok_pouredL (T : Blt mg) (d : Dnpoured K mg) : FnOk P w K mg base CX0 1 d.f d.fd ["_law_one", "_law_other"] spPouredL := by
  refine d.F.ok scpoured (fun vs H Q E h => ?_) (fun cdv A outer s H vs Q E hr h => ?_)
  · obtain ⟨s1, s2, r, x, y, rfl, _⟩ := h
    rfl
  · obtain ⟨s1, s2, r, ⟨m, o, kvs0⟩, ⟨m2, o2, ks0⟩, rfl, ⟨k1, ts1, h1, hk1, hp1⟩, ⟨k2, ts2, h2, hk2, hp2⟩, ok01, ok02, hr1, hr2, q⟩ := h
    dsimp only at h1 hk1 hp1 h2 hk2 hp2
    have hu := hu_of hr
    obtain ⟨rn, rfl⟩ := Int.eq_ofNat_of_zero_le (show 0 ≤ r by omega)
    have ok1 : TlOk rn ⟨m, o, srtZ kvs0⟩ := skT_ok ok01
    have ok2 : TlOk rn ⟨m2, o2, srtZ ks0⟩ := skT_ok ok02
    have epq : ∀ {H' : Hp} {p : Addr}, SkAt H' p rn (pourT rn ⟨m2, o2, srtZ ks0⟩ ⟨m, o, srtZ kvs0⟩) → SkAt H' p rn (pourT rn ⟨m2, o2, ks0⟩ ⟨m, o, kvs0⟩) := fun h => h.congr (pour_skT ok1.nd ok2.nd (skT_skT (x := ⟨m, o, kvs0⟩) ok01.nd) (skT_skT (x := ⟨m2, o2, ks0⟩) ok02.nd))
    generalize srtZ kvs0 = kvs at hp1 ok1 epq
    generalize srtZ ks0 = ks at hp2 ok2 epq
    refine ⟨_, (pss_cons (ps_asg (pe_callTy (call_dictPT rfl) (by rfl) T.n_dict (by decide +kernel) (pa_cons (pe_ix ix_tup (pv 0) pe_int (fun _ _ => rfl)) pa_nil)) (pg_name (i := 2) scpoured.nd rfl (Or.inr rfl)))
    (pss_cons (ps_for PassesOwn.never rfl (pi_tup (pe_ix ix_tup (pv 1) pe_int (fun _ _ => rfl))) (pg_tup (by rfl) (pgs_cons (pg_name (i := 6) scpoured.nd rfl (Or.inl rfl)) (pgs_cons (pg_name (i := 7) scpoured.nd rfl (Or.inl rfl)) pgs_nil)))
      (pss_one (ps_dput hu (pv 2) (pv 6) (pe_op op_add (pe_dget2 hu (pv 2) (pv 6) pe_int ⟨rfl, rfl, rfl, rfl⟩) (pv 7)) rfl)))
    (pss_cons (ps_set (i := 3) scpoured.nd rfl (Or.inl rfl) (pe_callB cr_sortedI (by rfl) T.n_sorted (by decide +kernel) (pa_cons (pe_lock (pe_lc (own := [("_law_count", 7)]) (g := gName 7) (tt := tYes) rfl scpoured.nd (pi_values (pv 2)) (blkOk_by (N := Npoured) (sc := defScope spoured) (by decide +kernel)) (fun _ _ _ _ _ => pg_name (i := 7) scpoured.nd rfl (Or.inl rfl)) (fun _ _ _ _ _ => pts_nil) (fun _ _ _ _ _ => (pe_un un_neg (pv 7))))) pa_nil)))
    (C8.pss_cut (ps_asg (pe_ifExp (pt_cmpR op_gt (pe_callB call_len_seq (by rfl) T.n_len (by decide +kernel) (pa_cons (pv 3) pa_nil)) (pe_ix ix_tup (pv 0) pe_int (fun _ _ => rfl)) (nomark _)) (pe_un un_neg (pe_ix ix_list (pv 3) (pe_ix ix_tup (pv 0) pe_int (fun _ _ => rfl)) (fun _ _ => rfl))) pe_int) (pg_name (i := 4) scpoured.nd rfl (Or.inr rfl)))
    (pss_cons (ps_setLc (i := 5) (own := [("_law_name", 6)]) (g := gName 6) rfl scpoured.nd rfl rfl (sw_true rfl rfl rfl (by decide +kernel)) (pi_list (pe_callB (cr_sortedDS rfl) (by rfl) T.n_sorted (by decide +kernel) (pa_cons (pv 2) pa_nil))) (blkOk_by (N := Npoured) (sc := defScope spoured) (by decide +kernel)) (fun _ _ _ _ _ => pg_name (i := 6) scpoured.nd rfl (Or.inl rfl)) (fun _ _ _ _ _ => pts_one (pt_cmpR op_gt (pe_dget hu (pv 2) (pv 6) (fun _ _ => rfl)) (pv 4) (nomark _))) (fun _ _ _ _ _ => (pe_tup (pa_cons (pv 6) (pa_cons (pe_op op_sub (pe_dget hu (pv 2) (pv 6) (fun _ _ => rfl)) (pv 4)) pa_nil)))))
    (pss_one (ps_ret (pe_tup (pa_cons (pe_ix ix_tup (pv 0) pe_int (fun _ _ => rfl)) (pa_cons (pe_op op_add (pe_ix ix_tup (pv 0) pe_int (fun _ _ => rfl)) (pe_ix ix_tup (pv 1) pe_int (fun _ _ => rfl))) (pa_cons (pe_op op_add (pe_op op_add (pe_ix ix_tup (pv 0) pe_int (fun _ _ => rfl)) (pe_ix ix_tup (pv 1) pe_int (fun _ _ => rfl))) (pv 4)) (pa_cons (pe_callTy call_tupleF (by rfl) T.n_tuple (by decide +kernel) (pa_cons (pv 5) pa_nil)) pa_nil)))))))))))), ?_⟩
    refine ⟨.ref s1, rfl, s1, _, _, _, rfl, rfl, .inl (.inl h1), atI_nat (j := 3) rfl, k1, ts1, kvs.map entZ, rfl, hk1, ents_paired (paired_imp (fun t e h => .inl (.inl h)) hp1), fun p np => ?_⟩
    have em : mergeK [] (kvs.map entZ) = kvs.map entZ := mergeZ kvs [] (by rw [List.nil_append]; exact ok1.nd)
    rw [em]
    have hlen1 : kvs.length ≤ 64 := by
      have : (kvs.length : Int) ≤ rn := ok1.len
      omega
    have hlen2 : ks.length ≤ 64 := by
      have : (ks.length : Int) ≤ rn := ok2.len
      omega
    have hp : (upd H p (.dK (kvs.map entZ))) p = some (.dK (kvs.map entZ)) := upd_same
    have s01 : Same H (upd H p (.dK (kvs.map entZ))) := same_upd np
    generalize upd H p (.dK (kvs.map entZ)) = H1 at hp s01 ⊢
    refine ⟨.ref s2, rfl, s2, _, _, _, rfl, rfl, .inl (.inl (s01 _ _ h2)), atI_nat (j := 3) rfl, k2, rfl, ⟨_, (hk2.same s01).seq⟩, for_tup (xs := ts2.map V.ref) (fun i σ H3 => ∃ y6 y7 : Option V, σ = [some (.ref s1), some (.ref s2), some (.ref p), none, none, none, y6, y7] ∧ Same H H3 ∧ H3 p = some (.dK ((sumsZ (ks.take i) kvs).map entZ)))
      ⟨none, none, rfl, s01, hp⟩ (fun i σ H3 _ ⟨_, _, _, b3, _⟩ => (hk2.same b3).seq) ?_ ?_⟩
    · rintro i v σ H3 hi ⟨y6, y7, rfl, b3, hp3⟩
      obtain ⟨tp, htp, rfl⟩ := map_at hi
      obtain ⟨e, he, hat⟩ := paired_at hp2 htp
      refine ⟨tp, _, rfl, .inl (.inl (b3 _ _ hat)), rfl, _, _, rfl, _, _, rfl, rfl, ?_⟩
      refine ⟨.ref p, rfl, p, rfl, .inl ⟨_, .inl hp3⟩, .str e.1, rfl, _, DGet.k (k := Sum.inr e.1) hp3, ?_⟩
      rw [getZ_val]
      refine ⟨.int e.2, rfl, (getZ (sumsZ (ks.take i) kvs) e.1).getD 0, e.2, ?_, rfl, ?_⟩
      · cases getZ (sumsZ (ks.take i) kvs) e.1 <;> rfl
      have hlen := sumsZ_len (more := ks.take i) (kvs := kvs)
      rw [List.length_take] at hlen
      refine ⟨.ref p, rfl, .str e.1, rfl, p, _, rfl, DPut.k (k := Sum.inr e.1) hp3 (by rw [List.length_map, sizeLine_eq]; omega), ?_⟩
      rw [putZ_put]
      refine ⟨some (.str e.1), some (.int e.2), rfl, Same.put b3 np, ?_⟩
      rw [upd_same, sumsZ_snoc he]
      rfl
    rintro σ H3 ⟨y6, y7, rfl, s03, hp3⟩
    rw [show ks.take (ts2.map V.ref).length = ks by rw [List.length_map, Paired.length hp2, List.take_length]] at hp3
    have nda := sumsZ_nd (more := ks) (kvs := kvs) ok1.nd
    have posa := sumsZ_pos (more := ks) (kvs := kvs) ok2.pos ok1.pos
    have lla := sumsZ_len (more := ks) (kvs := kvs)
    have epour : pourT (rn : Int) ⟨m2, o2, ks⟩ ⟨m, o, kvs⟩ = if (rn : Int) < ((sumsZ ks kvs).length : Int) then ⟨m + m2, o + o2 + fallZ (sumsZ ks kvs) rn, takeZ (fallZ (sumsZ ks kvs) rn) (sumsZ ks kvs)⟩ else ⟨m + m2, o + o2, sumsZ ks kvs⟩ := rfl
    generalize sumsZ ks kvs = all at hp3 nda posa lla epour
    -- falling
    refine ⟨p, _, hp3, trivial, fun oe => ?_⟩
    refine ⟨.ref p, rfl, p, oe, all.map entZ, rfl, upd_same, fun D nD => ?_⟩
    generalize hHl : upd H3 p (.frz oe (.dK (all.map entZ))) = Hm at nD ⊢
    have hlm : Hm p = some (.frz oe (.dK (all.map entZ))) := by rw [← hHl]; exact upd_same
    have pD : p ≠ D := ne_of_none hlm nD
    refine lc_it (walk_values (kvs := all.map entZ)) (fun i H3 => Same Hm H3 ∧ H3 D = some (.lst ((all.take i).map fun e => V.int (-e.2))))
      ⟨same_upd nD, upd_same⟩ (fun i H3 _ h3 => h3.1 _ _ hlm) (fun i x H5 H6 hi h3 y => ?_) (fun H5 h5 => ?_)
    · obtain ⟨rfl, kk, hkv⟩ := y
      obtain ⟨e, he, hkv2⟩ := map_at hkv
      cases hkv2
      obtain ⟨s4, hD⟩ := h3
      refine ⟨rfl, .int e.2, rfl, e.2, rfl, _, hD, ?_, Same.put s4 nD, ?_⟩
      · rw [List.length_map, List.length_take, sizeLine_eq]
        omega
      · rw [upd_same, List.take_add_one, he, List.map_append]
        rfl
    obtain ⟨s5, hD5⟩ := h5
    rw [List.length_map, List.take_length] at hD5
    refine ⟨s5 _ _ hlm, ?_⟩
    have s06 : Same H (upd H5 p (.dK (all.map entZ))) := s03.trans (fun b u e => by
      by_cases hb : b = p
      · subst hb
        rw [hp3] at e
        cases e
        exact upd_same
      · rw [upd_ne hb]
        refine s5 b u ?_
        rw [← hHl, upd_ne hb]
        exact e)
    have hp6 : (upd H5 p (.dK (all.map entZ))) p = some (.dK (all.map entZ)) := upd_same
    have hD6 : (upd H5 p (.dK (all.map entZ))) D = some (.lst (all.map fun e => V.int (-e.2))) := by rw [upd_ne pD.symm]; exact hD5
    generalize upd H5 p (.dK (all.map entZ)) = H6 at s06 hp6 hD6 ⊢
    refine ⟨D, all.map (fun e => -e.2), rfl, sql (by rw [hD6, List.map_map]; rfl), fun nsr l pm so nl => ?_⟩
    have s67 := same_upd (o := .lst (nsr.map V.int)) nl
    have hp7 := s67 _ _ hp6
    have hl7 : (upd H6 l (.lst (nsr.map V.int))) l = some (.lst (nsr.map V.int)) := upd_same
    have s07 : Same H (upd H6 l (.lst (nsr.map V.int))) := s06.trans s67
    generalize upd H6 l (.lst (nsr.map V.int)) = H7 at hp7 hl7 s07 ⊢
    have hnl : nsr.length = all.length := by rw [pm.length_eq, List.length_map]
    -- taken
    refine ⟨fun σ H8 => H8 = H7 ∧ ∃ (tk : Int), σ = [some (.ref s1), some (.ref s2), some (.ref p), some (.ref l), some (.int tk), none, y6, y7] ∧ pourT (rn : Int) ⟨m2, o2, ks⟩ ⟨m, o, kvs⟩ = ⟨m + m2, o + o2 + tk, takeZ tk all⟩, ?_, ?_⟩
    · refine ⟨.ref l, rfl, l, _, rfl, .inl (sql hl7), .ref s1, rfl, s1, _, _, _, rfl, rfl, .inl (.inl (s07 _ _ h1)), atI_nat (j := 0) rfl, _, _, rfl, rfl, _, rfl, ?_⟩
      refine ite2 (fun hgt => ?_) fun hgt => ?_
      · have hgt := of_decide_eq_true hgt
        rw [List.length_map, hnl] at hgt
        obtain ⟨v, hv, e⟩ := neg_fall pm so (show rn < all.length by omega)
        refine ⟨.ref l, rfl, .ref s1, rfl, s1, _, _, _, rfl, rfl, .inl (.inl (s07 _ _ h1)), atI_nat (j := 0) rfl, l, _, _, .int v, rfl, rfl, sql hl7, atI_nat (by rw [List.getElem?_map, hv]; rfl), v, rfl, rfl, -v, rfl, ?_⟩
        rw [epour, if_pos hgt, e]
      · have hgt : ¬ (rn : Int) < (all.length : Int) := fun z => hgt (decide_eq_true (by rw [List.length_map, hnl]; exact z))
        refine ⟨rfl, 0, rfl, ?_⟩
        rw [epour, if_neg hgt, Int.add_zero, takeZ_zero posa]
    · rintro σ H8 ⟨rfl, tk, rfl, ep⟩
      rw [ep] at epq
      refine ⟨.ref p, rfl, p, _, all.map (·.1), rfl, hp7, keys_inr all, fun ss l2 pms sos nl2 => ?_⟩
      have ey := srt_names nda pms sos
      have s89 := same_upd (o := .lst (ss.map V.str)) nl2
      have hl9 : (upd H8 l2 (.lst (ss.map V.str))) l2 = some (.lst (ss.map V.str)) := upd_same
      have hp9 := s89 _ _ hp7
      have s09 := s07.trans s89
      generalize upd H8 l2 (.lst (ss.map V.str)) = H9 at hl9 hp9 s09 ⊢
      have hsl : ss.length = all.length := by rw [pms.length_eq, List.length_map]
      refine ⟨l2, rfl, ⟨_, sql hl9⟩, fun D2 nD2 => ?_⟩
      refine lc_list (xs := ss.map V.str) (fun i H3 => Same H9 H3 ∧ ∃ us : List Addr, H3 D2 = some (.lst (us.map V.ref)) ∧ us.length ≤ i ∧ Paired (PrT H3) us (takeZ tk ((srtZ all).take i)))
        ⟨same_upd nD2, [], upd_same, Nat.zero_le _, .nil⟩ (fun i H3 _ h3 => sql (h3.1 _ _ hl9)) (fun i x H3 hx h3 => ?_) (fun H3 h3 => ?_)
      · obtain ⟨z, hz, rfl⟩ := map_at hx
        obtain ⟨s3, us, hD, hul, hpr⟩ := h3
        have he : (srtZ all)[i]? = some (z, gd all z) := by
          rw [← ey, List.getElem?_map, hz]
          rfl
        have hmem : z ∈ all.map (·.1) := pms.mem_iff.mp (List.mem_of_getElem? hz)
        have dg : DGet H3 p (.str z) (some (.int (gd all z))) := .inl ⟨all.map entZ, Sum.inr z, .inl (s3 _ _ hp9), rfl, by
          rw [getZ_val]
          unfold gd
          cases hg : getZ all z with
          | none => exact absurd hmem (getZ_none.mp hg)
          | some v => rfl⟩
        refine ⟨rfl, .ref p, rfl, .str z, rfl, p, .int (gd all z), rfl, dg, .int tk, rfl, _, _, rfl, rfl, _, rfl, ite2 (fun hg9 => ?_) fun hg9 => ?_⟩
        · have hg9 := of_decide_eq_true hg9
          refine ⟨.str z, rfl, .ref p, rfl, .str z, rfl, p, .int (gd all z), rfl, dg, .int tk, rfl, _, _, rfl, rfl, (by show 2 ≤ sizeLine; decide), fun t nt => ?_⟩
          have Dp : D2 ≠ t := ne_of_none hD nt
          refine ⟨_, by rw [upd_ne Dp]; exact hD, ?_, Same.put (Same.new s3 nt) nD2, us ++ [t], by rw [upd_same, List.map_append]; rfl, by rw [List.length_append, List.length_singleton]; omega, ?_⟩
          · have := (List.getElem?_eq_some_iff.mp hz).1
            rw [List.length_map, sizeLine_eq]
            omega
          · rw [List.take_add_one, he]
            show Paired _ _ (takeZ tk ((srtZ all).take i ++ [(z, gd all z)]))
            rw [takeZ_snoc, if_pos (show tk < gd all z by exact hg9)]
            refine paired_snoc (paired_imp (fun t e' ht => ?_) hpr) ?_
            · show _ = _
              rw [upd_ne (ne_of ht hD (by intro z; cases z)), upd_ne (ne_of_none ht nt)]
              exact ht
            · show _ = _
              rw [upd_ne Dp.symm]
              exact upd_same
        · have hg9 : ¬ tk < gd all z := fun z => hg9 (decide_eq_true z)
          refine ⟨s3, us, hD, by omega, ?_⟩
          rw [List.take_add_one, he]
          show Paired _ _ (takeZ tk ((srtZ all).take i ++ [(z, gd all z)]))
          rw [takeZ_snoc, if_neg hg9, List.append_nil]
          exact hpr
      · obtain ⟨s3, us, hD, hul, hpr⟩ := h3
        rw [show (srtZ all).take (ss.map V.str).length = srtZ all by rw [List.length_map, hsl, ← (srtZ_perm all).length_eq, List.take_length]] at hpr
        have sb : Same H H3 := s09.trans s3
        have h1b : SqT K H3 s1 [.int (rn : Int), .int m, .int o, .ref k1] := .inl (.inl (sb _ _ h1))
        have h2b : SqT K H3 s2 [.int (rn : Int), .int m2, .int o2, .ref k2] := .inl (.inl (sb _ _ h2))
        refine ⟨.ref s1, rfl, s1, _, _, _, rfl, rfl, h1b, atI_nat (j := 0) rfl, .ref s1, rfl, s1, _, _, _, rfl, rfl, h1b, atI_nat (j := 1) rfl, .ref s2, rfl, s2, _, _, _, rfl, rfl, h2b, atI_nat (j := 1) rfl, _, _, rfl, rfl, .ref s1, rfl, s1, _, _, _, rfl, rfl, h1b, atI_nat (j := 2) rfl, .ref s2, rfl, s2, _, _, _, rfl, rfl, h2b, atI_nat (j := 2) rfl, _, _, rfl, rfl, .int tk, rfl, _, _, rfl, rfl, .ref D2, rfl, D2, _, rfl, sql hD, fun kk ob nkk ho => ⟨(by show 4 ≤ sizeLine; decide), fun t nt => ?_⟩⟩
        have sc : Same H3 (upd H3 kk (.frz ob (.tup (us.map V.ref)))) := same_upd nkk
        have hkk : (upd H3 kk (.frz ob (.tup (us.map V.ref)))) kk = some (.frz ob (.tup (us.map V.ref))) := upd_same
        generalize upd H3 kk (.frz ob (.tup (us.map V.ref))) = H4 at nt sc hkk ⊢
        have sd := same_upd (o := .tup [.int (rn : Int), .int (m + m2), .int (o + o2 + tk), .ref kk]) nt
        refine q _ t ((sb.trans sc).trans sd) (Same.gone (sb.trans sc) nt) (epq ⟨kk, us, upd_same, ⟨ob, sd _ _ hkk, ho⟩, ?_⟩)
        rw [take_srt nda]
        exact prt_same (prt_same hpr sc) sd
end
end Kb

namespace Kb
open PySem PySem.Spec PyProof.Rows L2 SrtZ SrtO
abbrev ssketch : Stmt := topS 31
abbrev Nsketch : List Str := ["_law_room", "_law_tree_here", "_law_pile", "_law_step", "_law_other", "_law_found", "_law_name"]
theorem scsketch : FnScope ["_law_room", "_law_tree_here", "_law_pile", "_law_step", "_law_other", "_law_found", "_law_name"] ["_law_room", "_law_tree_here"] (defScope ssketch) := ⟨rfl, rfl, rfl, by decide +kernel, rfl, by decide +kernel, by decide +kernel⟩
abbrev Ncounted : List Str := ["_law_tree_here", "_law_found", "_law_step", "_law_name"]
abbrev Dnsketch (K : PySem.W.Frag) (mg : Str → Option Value) := Dn K mg "_law_sketch" ssketch ["_law_room", "_law_tree_here"]
/-! data that is compared -/
theorem strOk_nm {z : Str} (h : Nm z) : PyData.strOk z = true := by
  unfold PyData.strOk
  refine Array.all_eq_true_iff_forall_mem.mpr fun c hc => ?_
  have := h.abc c (Array.mem_toList_iff.mpr hc)
  unfold nmC at this
  have h2 : (!decide (122 < c)) = true := by
    cases hx : (!decide (122 < c)) with
    | true => rfl
    | false => rw [hx] at this; simp at this
  have h3 : ¬ 122 < c := by simpa using h2
  exact decide_eq_true (by omega)
theorem lay_strs : ∀ {zs : List Str}, (∀ z ∈ zs, Nm z) → PyData.canLayAll0 (zs.map PyData.str) = true ∧ PyData.depthAll (zs.map PyData.str) = 0
  | [], _ => ⟨rfl, rfl⟩
  | z :: zs, h => by
    obtain ⟨h1, h2⟩ := lay_strs (zs := zs) fun y hy => h y (List.mem_cons_of_mem _ hy)
    constructor
    · show (PyData.strOk z && PyData.canLayAll0 (zs.map PyData.str)) = true
      rw [strOk_nm (h z List.mem_cons_self), h1]
      rfl
    · show max 0 (PyData.depthAll (zs.map PyData.str)) = 0
      rw [h2]
      rfl
theorem dp_strs {K : PySem.W.Frag} {H : Hp} : ∀ zs : List Str, DpAll K H (zs.map V.str) (zs.map PyData.str)
  | [] => .nil
  | z :: zs => .cons (.str z) (dp_strs zs)
abbrev prD (e : Str × Int) : PyData := .tuple [.str e.1, .int e.2]
abbrev ctD (ys : Ct) : PyData := .tuple (ys.map prD)
theorem dp_prs {K : PySem.W.Frag} {H : Hp} : ∀ {ts : List Addr} {ys : Ct}, Paired (PrT H) ts ys → DpAll K H (ts.map V.ref) (ys.map prD)
  | _, _, .nil => .nil
  | _, _, .cons h t => .cons (.tup (.inl (.inl h)) (.cons (.str _) (.cons (.int _) .nil))) (dp_prs t)
theorem lay_prs : ∀ {ys : Ct}, (∀ e ∈ ys, Nm e.1) → PyData.canLayAll0 (ys.map prD) = true ∧ PyData.depthAll (ys.map prD) ≤ 1
  | [], _ => ⟨rfl, Nat.zero_le _⟩
  | e :: ys, h => by
    obtain ⟨h1, h2⟩ := lay_prs (ys := ys) fun y hy => h y (List.mem_cons_of_mem _ hy)
    constructor
    · show ((PyData.strOk e.1 && (true && true)) && PyData.canLayAll0 (ys.map prD)) = true
      rw [strOk_nm (h e List.mem_cons_self), h1]
      rfl
    · show max 1 (PyData.depthAll (ys.map prD)) ≤ 1
      omega
theorem eqv_prs : ∀ ys : Ct, PyData.eqvAll (ys.map prD) (ys.map prD) = true
  | [] => rfl
  | e :: ys => by
    show (((e.1 == e.1) && ((e.2 == e.2) && true)) && PyData.eqvAll (ys.map prD) (ys.map prD)) = true
    rw [eqv_prs ys, beq_self_eq_true, beq_self_eq_true]
    rfl
theorem ct_shaped {ys : Ct} (h : ∀ e ∈ ys, Nm e.1) : SeqAt.shaped (ctD ys) = true := by
  obtain ⟨h1, h2⟩ := lay_prs h
  show (PyData.canLayAll0 (ys.map prD) && decide (PyData.depthAll (ys.map prD) + 1 ≤ 64)) = true
  rw [h1, decide_eq_true (by omega)]
  rfl
abbrev skD (r m o : Int) (ys : Ct) : PyData := .tuple [.int r, .int m, .int o, ctD ys]
theorem sk_shaped {r m o : Int} {ys : Ct} (h : ∀ e ∈ ys, Nm e.1) : SeqAt.shaped (skD r m o ys) = true := by
  obtain ⟨h1, h2⟩ := lay_prs h
  show ((true && (true && (true && (PyData.canLayAll0 (ys.map prD) && true)))) && decide (max 0 (max 0 (max 0 (max (PyData.depthAll (ys.map prD) + 1) 0))) + 1 ≤ 64)) = true
  rw [h1, decide_eq_true (by omega)]
  rfl
theorem sk_eqv (r m o : Int) (ys : Ct) : PyData.eqv (skD r m o ys) (skD r m o ys) = true := by
  show ((r == r) && ((m == m) && ((o == o) && (PyData.eqvAll (ys.map prD) (ys.map prD) && true)))) = true
  rw [eqv_prs ys, beq_self_eq_true, beq_self_eq_true, beq_self_eq_true]
  rfl
theorem dp_ct {K : PySem.W.Frag} {H : Hp} {k : Addr} {ts : List Addr} {ys : Ct} (h1 : SqT K H k (ts.map V.ref)) (h2 : Paired (PrT H) ts ys) : Dp K H (.ref k) (ctD ys) := .tup h1 (dp_prs h2)
theorem dp_sk {K : PySem.W.Frag} {H : Hp} {s : Addr} {r : Int} {x : Tl} (h : SkAt H s r x) : Dp K H (.ref s) (skD r x.m x.o (srtZ x.c)) := by
  obtain ⟨k, ts, h1, h2, h3⟩ := h
  exact .tup (.inl (.inl h1)) (.cons (.int _) (.cons (.int _) (.cons (.int _) (.cons (dp_ct h2.seq h3) .nil))))
theorem runL_lenT {r : Int} (hr : 1 ≤ r) {l : List Stp} (hn : ∀ zs, .put zs ∈ l → ∀ z ∈ zs, Nm z) : (runL r l).length = (runT r l).length := by
  have h := congrArg List.length (runTL (r := r) hr (l := l) (st := []) (st' := []) hn (fun _ h => nomatch h) (fun _ h => nomatch h) rfl)
  rw [List.length_map, List.length_map] at h
  exact h.symm
theorem rev_cons' {α : Type} (e : Addr) (pl : List Addr) : ((e :: pl).reverse.map V.ref) = pl.reverse.map V.ref ++ [V.ref e] := by rw [List.reverse_cons, List.map_append]; rfl
section
variable {P : Program} {w : World} {K : PySem.W.Frag} {mg : Str → Option Value} {base : Heap}
/-! _law_sketch -/
def spSketchL (K : PySem.W.Frag) : Sp := fun vs H Q _ => ∃ (r : Int) (a : Addr) (l : List Stp) (x : Tl), vs = [.int r, .ref a] ∧ 1 ≤ r ∧ r ≤ 64 ∧ TreeAt K H a l ∧ Tree l ∧ (∀ zs, .put zs ∈ l → ∀ z ∈ zs, Nm z) ∧ runL r l = [x] ∧
  ∀ H' s, Same H H' → SkAt H' s r x → Q (.ref s) H'
theorem ok_sketchL (T : Blt mg) (dfed : Dnfed K mg) (dpoured : Dnpoured K mg) (d : Dnsketch K mg) : FnOk P w K mg base CX0 2 d.f d.fd ["_law_room", "_law_tree_here"] (spSketchL K) := by
  have Gfed : FnOk P w K mg base CX0 1 dfed.f dfed.fd ["_law_sketch_here", "_law_name"] spFed := ok_fed T dfed
  have Gpoured : FnOk P w K mg base CX0 1 dpoured.f dpoured.fd ["_law_one", "_law_other"] spPouredL := ok_pouredL T dpoured
  refine d.F.ok scsketch (fun vs H Q E h => ?_) (fun cdv A outer s H vs Q E hr h => ?_)
  · obtain ⟨r, a, l, x, rfl, _⟩ := h
    rfl
  · obtain ⟨r, a, l, xe, rfl, hr1, hr2, ht, tr, hN, hrun, q⟩ := h
    refine ⟨_, (pss_cons (ps_set (i := 2) scsketch.nd rfl (Or.inl rfl) (pe_lst pa_nil))
    (pss_cons (ps_for PassesOwn.never rfl (pi_tup (pv 1)) (pg_name (i := 3) scsketch.nd rfl (Or.inl rfl))
      (pss_one (ps_if (pt_cmpR (op_eqD hr.units) (pv 3) (pe_tup (pa_cons pe_str pa_nil)) (nomark _))
        (pss_cons (ps_set (i := 4) scsketch.nd rfl (Or.inl rfl) (pe_bm0 PySem.F.plainAttrs_list PySem.F.slot_list_pop PySem.F.type_list_pop mt_pop (pv 2)))
        (pss_one (ps_expr (pe_bm PySem.F.plainAttrs_list PySem.F.slot_list_append PySem.F.type_list_append mt_append (pv 2) (pa_cons (pe_call Gpoured (hr.mono (by omega)) (by rfl) dpoured.g dpoured.F.kp dpoured.b .nil pass0 (pa_cons (pe_bm0 PySem.F.plainAttrs_list PySem.F.slot_list_pop PySem.F.type_list_pop mt_pop (pv 2)) (pa_cons (pv 4) pa_nil))) pa_nil)))))
        (pss_cons (ps_set (i := 5) scsketch.nd rfl (Or.inl rfl) (pe_tup (pa_cons (pv 0) (pa_cons pe_int (pa_cons pe_int (pa_cons (pe_tupF pa_nil) pa_nil))))))
        (pss_cons (ps_for PassesOwn.never rfl (pi_tup (pe_ix ix_tup (pv 3) pe_int (fun _ _ => rfl))) (pg_name (i := 6) scsketch.nd rfl (Or.inl rfl))
          (pss_one (ps_set (i := 5) scsketch.nd rfl (Or.inl rfl) (pe_call Gfed (hr.mono (by omega)) (by rfl) dfed.g dfed.F.kp dfed.b .nil pass0 (pa_cons (pv 5) (pa_cons (pv 6) pa_nil))))))
        (pss_one (ps_expr (pe_bm PySem.F.plainAttrs_list PySem.F.slot_list_append PySem.F.type_list_append mt_append (pv 2) (pa_cons (pv 5) pa_nil)))))))))
    (pss_one (ps_ret (pe_ix ix_list (pv 2) pe_int (fun _ _ => rfl)))))), ?_⟩
    refine ⟨(by show 0 ≤ sizeLine; decide), fun p np => ?_⟩
    obtain ⟨vs, hS, hp⟩ := ht
    have hl : vs.length = l.length := Paired.length hp
    have s2 : Same H (upd H p (.lst [])) := same_upd np
    refine ⟨.ref a, rfl, a, rfl, ⟨_, seqT hS s2⟩, for_tup (xs := vs) (fun i σ H3 => ∃ (pl : List Addr) (y3 y4 y5 y6 : Option V), σ = [some (.int r), some (.ref a), some (.ref p), y3, y4, y5, y6] ∧ Same H H3 ∧ H3 p = some (.lst (pl.reverse.map V.ref)) ∧ Paired (fun s x => SkAt H3 s r x) pl (runL r (l.take i)))
      ⟨[], none, none, none, none, rfl, s2, upd_same, .nil⟩ (fun i σ H3 _ ⟨_, _, _, _, _, _, s3, _⟩ => seqT hS s3) ?_ ?_⟩
    · rintro i v σ H3 hi ⟨pl, y3, y4, y5, y6, rfl, s3, hpl, hst⟩
      obtain ⟨st, hsti, hat⟩ := paired_at hp hi
      have hat3 := hat.same s3
      have snoc := runL_snoc (r := r) hsti
      have hNi : ∀ zs, .put zs ∈ l.take i → ∀ z ∈ zs, Nm z := fun zs hz => hN zs (List.mem_of_mem_take hz)
      have okL : ∀ x ∈ runL r (l.take i), TlOk r x := runL_ok hr1 hNi (fun _ h => nomatch h)
      have pll : pl.length = (runL r (l.take i)).length := Paired.length hst
      have hlenT := runL_lenT (r := r) hr1 hNi
      have hii : i < l.length := (List.getElem?_eq_some_iff.mp hsti).1
      have hrl := run_len (r := r) tr.two i (by omega)
      have hsmall : (runL r (l.take i)).length ≤ 5000 := by
        rw [hlenT]
        have := run_short (r := r) (l.take i)
        rw [List.length_take] at this
        have := tr.len
        omega
      have fin : ∀ (H6 : Hp) (e6 : Addr) (rest : List Addr) (R : List Tl) (x6 : Tl) (y3 y4 y5 y6 : Option V), Same H H6 → H6 p = some (.lst (rest.reverse.map V.ref)) → Paired (fun s x => SkAt H6 s r x) rest R → SkAt H6 e6 r x6 → stepL r (runL r (l.take i)) st = x6 :: R →
          ∃ (pl : List Addr) (z3 z4 z5 z6 : Option V), ([some (.int r), some (.ref a), some (.ref p), y3, y4, y5, y6] : L2.St) = [some (.int r), some (.ref a), some (.ref p), z3, z4, z5, z6] ∧ Same H (upd H6 p (.lst (rest.reverse.map V.ref ++ [.ref e6]))) ∧ (upd H6 p (.lst (rest.reverse.map V.ref ++ [.ref e6]))) p = some (.lst (pl.reverse.map V.ref)) ∧ Paired (fun s x => SkAt (upd H6 p (.lst (rest.reverse.map V.ref ++ [.ref e6]))) s r x) pl (runL r (l.take (i + 1))) := fun H6 e6 rest R x6 y3 y4 y5 y6 s6 hp6 hR h6 hst => by
        have keep : ∀ {s : Addr} {x : Tl}, SkAt H6 s r x → SkAt (upd H6 p (.lst (rest.reverse.map V.ref ++ [.ref e6]))) s r x := fun {s x} h => by
          obtain ⟨k, ts, g1, ⟨ob, g2, g3⟩, g4⟩ := h
          refine ⟨k, ts, by rw [upd_ne (ne_of g1 hp6 (by intro z; cases z))]; exact g1, ⟨ob, by rw [upd_ne (ne_of g2 hp6 (by intro z; cases z))]; exact g2, g3⟩, paired_imp (fun t e ht => ?_) g4⟩
          show _ = _
          rw [upd_ne (ne_of ht hp6 (by intro z; cases z))]
          exact ht
        refine ⟨e6 :: rest, y3, y4, y5, y6, rfl, Same.put s6 np, by rw [upd_same, rev_cons' (α := Unit)], ?_⟩
        rw [snoc, hst]
        exact .cons (keep h6) (paired_imp (fun s x h => keep h) hR)
      have keepP : ∀ {H4 : Hp} {xs : List V} {u : HO} {s : Addr} {x : Tl}, H4 p = some (.lst xs) → SkAt H4 s r x → SkAt (upd H4 p u) s r x := fun {H4 xs u s x} hp4 h => by
        obtain ⟨k, ts, g1, ⟨ob, g2, g3⟩, g4⟩ := h
        refine ⟨k, ts, by rw [upd_ne (ne_of g1 hp4 (by intro z; cases z))]; exact g1, ⟨ob, by rw [upd_ne (ne_of g2 hp4 (by intro z; cases z))]; exact g2, g3⟩, paired_imp (fun t e ht => ?_) g4⟩
        show _ = _
        rw [upd_ne (ne_of ht hp4 (by intro z; cases z))]
        exact ht
      cases st with
      | pour =>
        obtain ⟨b, rfl, h1⟩ := hat3
        refine ⟨.ref b, rfl, (by show 1 ≤ sizeLine; decide), fun tq nq => ⟨.tuple [.str (Str.ofString "pour")], .tuple [.str (Str.ofString "pour")], .tup (seqT h1 (same_upd nq)) (.cons (.str _) .nil), .tup (.inl (.inl upd_same)) (.cons (.str _) .nil), (by decide +kernel), (by decide +kernel), true, congrArg V.bl (by decide +kernel), iteT ?_⟩⟩
        have sq : Same H3 (upd H3 tq (.tup [.str (Str.ofString "pour")])) := same_upd nq
        generalize upd H3 tq (.tup [.str (Str.ofString "pour")]) = H3' at sq
        have s3' := s3.trans sq
        have hpl' := sq _ _ hpl
        have hst' : Paired (fun s x => SkAt H3' s r x) pl (runL r (l.take i)) := paired_imp (fun s x h => h.same sq) hst
        have h2 := tr.two i hsti
        rw [← hrl, ← hlenT] at h2
        generalize hgen : runL r (l.take i) = R at hst' snoc okL pll hsmall h2 fin
        match pl, R, hst', okL, h2, hsmall, fin with
        | [], [], _, _, h2, _, _ => exact absurd h2 (by have : ((0 : Nat) : Int) = _ := rfl; show ¬ (2 : Int) ≤ ((0 : Nat) : Int); decide)
        | [_], [_], _, _, h2, _, _ => exact absurd h2 (by show ¬ (2 : Int) ≤ ((1 : Nat) : Int); decide)
        | e1 :: e2 :: pl, x1 :: x2 :: R, .cons hs1 (.cons hs2 hst), okL, _, hsmall, fin =>
          rw [rev_cons' (α := Unit)] at hpl'
          refine ⟨.ref p, rfl, .inl ⟨rfl, _, sql hpl'⟩, p, _, .ref e1, rfl, rfl, hpl', by simp, ?_⟩
          rw [List.dropLast_concat, rev_cons' (α := Unit)]
          have a1 := keepP hpl' hs1 (u := .lst (pl.reverse.map V.ref ++ [V.ref e2]))
          have a2 := keepP hpl' hs2 (u := .lst (pl.reverse.map V.ref ++ [V.ref e2]))
          have aR : Paired (fun s x => SkAt (upd H3' p (.lst (pl.reverse.map V.ref ++ [V.ref e2]))) s r x) pl R := paired_imp (fun s x h => keepP hpl' h) hst
          have hp4 : (upd H3' p (.lst (pl.reverse.map V.ref ++ [V.ref e2]))) p = some (.lst (pl.reverse.map V.ref ++ [V.ref e2])) := upd_same
          have s4 : Same H (upd H3' p (.lst (pl.reverse.map V.ref ++ [V.ref e2]))) := Same.put s3' np
          generalize upd H3' p (.lst (pl.reverse.map V.ref ++ [V.ref e2])) = H4 at a1 a2 aR hp4 s4 ⊢
          refine ⟨.ref p, rfl, .inl ⟨rfl, _, sql hp4⟩, .ref p, rfl, .inl ⟨rfl, _, sql hp4⟩, p, _, .ref e2, rfl, rfl, hp4, by simp, ?_⟩
          rw [List.dropLast_concat]
          have b1 := keepP hp4 a1 (u := .lst (pl.reverse.map V.ref))
          have b2 := keepP hp4 a2 (u := .lst (pl.reverse.map V.ref))
          have bR : Paired (fun s x => SkAt (upd H4 p (.lst (pl.reverse.map V.ref))) s r x) pl R := paired_imp (fun s x h => keepP hp4 h) aR
          have hp5 : (upd H4 p (.lst (pl.reverse.map V.ref))) p = some (.lst (pl.reverse.map V.ref)) := upd_same
          have s5 : Same H (upd H4 p (.lst (pl.reverse.map V.ref))) := Same.put s4 np
          generalize upd H4 p (.lst (pl.reverse.map V.ref)) = H5 at b1 b2 bR hp5 s5 ⊢
          have o1 := okL x1 List.mem_cons_self
          have o2 := okL x2 (List.mem_cons_of_mem _ List.mem_cons_self)
          refine ⟨.ref e1, rfl, e2, e1, r, x2, x1, rfl, b2, b1, o2, o1, hr1, hr2, fun H6 e6 s6 ne6 st6 => ?_⟩
          have hp6 := s6 _ _ hp5
          have hs' : R.length + 2 ≤ 5000 := hsmall
          have pl2 := Paired.length hst
          refine ⟨p, _, _, rfl, rfl, hp6, (by rw [List.length_map, List.length_reverse, sizeLine_eq]; omega), ?_⟩
          exact fin _ _ _ _ _ _ _ _ _ (s5.trans s6) hp6 (paired_imp (fun s x h => h.same s6) bR) st6 rfl
      | put zs =>
        have hNz := hN zs (List.mem_of_getElem? hsti)
        obtain ⟨b, t, rfl, h1, h2, _, hzl⟩ := hat3
        obtain ⟨lz1, lz2⟩ := lay_strs hNz
        refine ⟨.ref b, rfl, (by show 1 ≤ sizeLine; decide), fun tq nq => ⟨.tuple [.str (Str.ofString "stream"), .tuple (zs.map PyData.str)], .tuple [.str (Str.ofString "pour")], .tup (seqT h1 (same_upd nq)) (.cons (.str _) (.cons (.tup (seqT h2 (same_upd nq)) (dp_strs zs)) .nil)), .tup (.inl (.inl upd_same)) (.cons (.str _) .nil), ?_, (by decide +kernel), false, ?_, iteF ?_⟩⟩
        · show ((PyData.strOk (Str.ofString "stream") && (PyData.canLayAll0 (zs.map PyData.str) && true)) && decide (max 0 (max (PyData.depthAll (zs.map PyData.str) + 1) 0) + 1 ≤ 64)) = true
          rw [lz1, lz2, show PyData.strOk (Str.ofString "stream") = true by decide +kernel]
          rfl
        · refine congrArg V.bl ?_
          show ((Str.ofString "stream" == Str.ofString "pour") && PyData.eqvAll [.tuple (zs.map PyData.str)] []) = false
          rw [show (Str.ofString "stream" == Str.ofString "pour") = false by decide +kernel]
          rfl
        have sq : Same H3 (upd H3 tq (.tup [.str (Str.ofString "pour")])) := same_upd nq
        generalize upd H3 tq (.tup [.str (Str.ofString "pour")]) = H3' at sq
        refine ⟨.int r, rfl, (by show 0 ≤ sizeLine; decide), fun k0 ob nk0 ho => ⟨(by show 4 ≤ sizeLine; decide), fun st0 nst0 => ?_⟩⟩
        have s4 : Same H3 (upd (upd H3' k0 (.frz ob (.tup []))) st0 (.tup [.int r, .int 0, .int 0, .ref k0])) := Same.new (Same.new sq nk0) nst0
        have sta0 : SkAt (upd (upd H3' k0 (.frz ob (.tup []))) st0 (.tup [.int r, .int 0, .int 0, .ref k0])) st0 r tl0 := ⟨k0, [], upd_same, ⟨ob, by rw [upd_ne (ne_of_none upd_same nst0)]; exact upd_same, ho⟩, by rw [show srtZ tl0.c = [] from (srtZ_perm _).eq_nil]; exact .nil⟩
        generalize upd (upd H3' k0 (.frz ob (.tup []))) st0 (.tup [.int r, .int 0, .int 0, .ref k0]) = H4 at s4 sta0 ⊢
        refine ⟨.ref b, rfl, b, _, _, _, rfl, rfl, seqT h1 s4, atI_nat (j := 1) rfl, t, rfl, ⟨_, seqT h2 s4⟩, for_tup (xs := zs.map V.str) (fun j σ H6 => ∃ (st6 : Addr) (z6 : Option V), σ = [some (.int r), some (.ref a), some (.ref p), some (.ref b), y4, some (.ref st6), z6] ∧ Same H3 H6 ∧ SkAt H6 st6 r (feedsT r (zs.take j) tl0) ∧ TlOk r (feedsT r (zs.take j) tl0)) ⟨st0, y6, rfl, s4, sta0, tl0_ok hr1⟩ (fun j σ H6 _ ⟨_, _, _, s6, _⟩ => seqT h2 s6) ?_ ?_⟩
        · rintro j v σ H6 hj ⟨st6, z6, rfl, s6, sta6, ok6⟩
          obtain ⟨z, hz, rfl⟩ := map_at hj
          have hfs := feedsT_snoc (r := r) (x := tl0) hz
          have hok7 := feedT_ok ok6 hr1 (hNz z (List.mem_of_getElem? hz)) (c := 1) (by decide)
          refine ⟨.ref st6, rfl, .str z, rfl, st6, r, z, feedsT r (zs.take j) tl0, rfl, sta6, ok6, hr1, hr2, fun H7 st7 s7 _ sta7 => ?_⟩
          rw [← hfs] at sta7 hok7
          exact ⟨st7, _, rfl, s6.trans s7, sta7, hok7⟩
        · rintro σ H6 ⟨st6, z6, rfl, s6, sta6, ok6⟩
          rw [List.length_map, List.take_length] at sta6
          have hp6 := s6 _ _ hpl
          refine ⟨.ref p, rfl, .inl ⟨rfl, _, sql hp6⟩, .ref st6, rfl, p, _, _, rfl, rfl, hp6, (by rw [List.length_map, List.length_reverse, sizeLine_eq]; omega), ?_⟩
          exact fin _ _ _ _ _ _ _ _ _ (s3.trans s6) hp6 (paired_imp (fun s x h => h.same s6) hst) sta6 rfl
    · rintro σ H3 ⟨pl, y3, y4, y5, y6, rfl, s3, hpl, hst⟩
      rw [hl, List.take_length, hrun] at hst
      match pl, hst with
      | [e], .cons he .nil => exact ⟨.ref p, rfl, p, _, _, _, rfl, rfl, sql hpl, atI_nat (j := 0) rfl, q H3 e s3 he⟩
/-! _law_counted -/
def spCountedL (K : PySem.W.Frag) : Sp := fun vs H Q _ => ∃ (a : Addr) (l : List Stp), vs = [.ref a] ∧ TreeAt K H a l ∧ Tree l ∧
  ∀ H' k (ts : List Addr), Same H H' → Ptp H' k (ts.map V.ref) → Paired (PrT H') ts (srtZ (cntT l)) → Q (.ref k) H'
end
end Kb

namespace Kb
open PySem PySem.Spec PyProof.Rows L2 SrtZ SrtO
abbrev stree : Stmt := topS 32
abbrev Ntree : List Str := ["_law_hand_here", "_law_pool_here", "_law_streams", "_law_most", "_law_steps", "_law_pile", "_law_many", "_law_k", "_law_some", "_law_names", "_law_turn"]
theorem sctree : FnScope ["_law_hand_here", "_law_pool_here", "_law_streams", "_law_most", "_law_steps", "_law_pile", "_law_many", "_law_k", "_law_some", "_law_names", "_law_turn"] ["_law_hand_here", "_law_pool_here", "_law_streams", "_law_most"] (defScope stree) := ⟨rfl, rfl, rfl, by decide +kernel, rfl, by decide +kernel, by decide +kernel⟩
abbrev Dntree (K : PySem.W.Frag) (mg : Str → Option Value) := Dn K mg "_law_tree" stree ["_law_hand_here", "_law_pool_here", "_law_streams", "_law_most"]
def Vl : Int → List Stp → Prop
  | _, [] => True
  | h, .put _ :: l => Vl (h + 1) l
  | h, .pour :: l => 2 ≤ h ∧ Vl (h - 1) l
theorem vl_at : ∀ {l : List Stp} {h : Int} {i : Nat}, Vl h l → l[i]? = some .pour → 2 ≤ (l.take i).foldl hS h
  | [], _, i, _, e => by simp at e
  | .put zs :: l, h, 0, v, e => by cases e
  | .pour :: l, h, 0, v, _ => v.1
  | .put zs :: l, h, i + 1, v, e => vl_at (l := l) (h := h + 1) v (by simpa using e)
  | .pour :: l, h, i + 1, v, e => vl_at (l := l) (h := h - 1) v.2 (by simpa using e)
theorem vl_app : ∀ {l l' : List Stp} {h : Int}, Vl h l → Vl (l.foldl hS h) l' → Vl h (l ++ l')
  | [], _, _, _, v => v
  | .put zs :: l, l', h, v, w => vl_app (l := l) (h := h + 1) v w
  | .pour :: l, l', h, v, w => ⟨v.1, vl_app (l := l) (h := h - 1) v.2 w⟩
theorem vl_pours : ∀ (n : Nat) (h : Int), (n : Int) + 1 ≤ h → Vl h (List.replicate n .pour) ∧ (List.replicate n Stp.pour).foldl hS h = h - n
  | 0, h, _ => ⟨trivial, by show h = h - 0; omega⟩
  | n + 1, h, hn => by
    obtain ⟨a, b⟩ := vl_pours n (h - 1) (by omega)
    refine ⟨⟨by omega, a⟩, ?_⟩
    show (List.replicate n Stp.pour).foldl hS (h - 1) = _
    rw [b]
    omega
theorem cs_pours : ∀ (n : Nat) (m : Int), (List.replicate n Stp.pour).foldl cS m = m
  | 0, _ => rfl
  | n + 1, m => cs_pours n m
/-- a tree as it is being drawn -/
structure Gr (Pn : Str → Prop) (i : Nat) (pile : Int) (l : List Stp) : Prop where
  vl : Vl 0 l
  ht : hgt l = pile
  pos : 1 ≤ i → 1 ≤ pile
  few : mny l ≤ 40 * i
  len : (l.length : Int) = 2 * i - pile
  nm : ∀ zs, .put zs ∈ l → ∀ z ∈ zs, Pn z
theorem gr0 {Pn : Str → Prop} : Gr Pn 0 0 [] := ⟨trivial, rfl, fun h => absurd h (by decide), Int.le_refl _, rfl, fun _ h => nomatch h⟩
theorem gr_put {Pn : Str → Prop} {i : Nat} {pile : Int} {l : List Stp} {zs : List Str} (g : Gr Pn i pile l) (hp : 0 ≤ pile) (hz : ∀ z ∈ zs, Pn z) (hl : zs.length ≤ 40) : Gr Pn (i + 1) (pile + 1) (l ++ [.put zs]) := by
  obtain ⟨vl, ht, pos, few, len, nm⟩ := g
  refine ⟨vl_app vl (by trivial), ?_, fun _ => by omega, ?_, ?_, fun ys hy => ?_⟩
  · unfold hgt at ht ⊢
    rw [List.foldl_append, ht]
    rfl
  · unfold mny at few ⊢
    rw [List.foldl_append]
    show l.foldl cS 0 + (zs.length : Nat) ≤ _
    push_cast
    omega
  · rw [List.length_append, List.length_singleton]
    push_cast
    omega
  · rcases List.mem_append.mp hy with h | h
    · exact nm ys h
    · rcases List.mem_singleton.mp h with h
      cases h
      exact hz
theorem gr_pours {Pn : Str → Prop} {i : Nat} {pile : Int} {l : List Stp} (g : Gr Pn i pile l) (n : Nat) (hn : (n : Int) + 1 ≤ pile) : Gr Pn i (pile - n) (l ++ List.replicate n .pour) := by
  obtain ⟨vl, ht, pos, few, len, nm⟩ := g
  have hh : l.foldl hS 0 = pile := ht
  obtain ⟨a, b⟩ := vl_pours n (l.foldl hS 0) (by rw [hh]; exact hn)
  refine ⟨vl_app vl a, ?_, fun h => by omega, ?_, ?_, fun ys hy => ?_⟩
  · unfold hgt
    rw [List.foldl_append, b, hh]
  · unfold mny at few ⊢
    rw [List.foldl_append, cs_pours]
    exact few
  · rw [List.length_append, List.length_replicate]
    push_cast
    omega
  · rcases List.mem_append.mp hy with h | h
    · exact nm ys h
    · cases (List.eq_of_mem_replicate h)
theorem gr_tree {Pn : Str → Prop} {i : Nat} {l : List Stp} (g : Gr Pn i 1 l) (hi : i ≤ 100) : Tree l := by
  obtain ⟨vl, ht, pos, few, len, nm⟩ := g
  exact ⟨fun j e => vl_at vl e, ht, by omega, by omega⟩
theorem sq_upd {K : PySem.W.Frag} {H : Hp} {a t : Addr} {xs ys : List V} {u : HO} (h : SqT K H a xs) (ht : H t = some (.lst ys)) : SqT K (upd H t u) a xs := by
  rcases h with (h | ⟨o, h⟩) | h
  · exact .inl (.inl (by rw [upd_ne (ne_of h ht (by intro z; cases z))]; exact h))
  · exact .inl (.inr ⟨o, by rw [upd_ne (ne_of h ht (by intro z; cases z))]; exact h⟩)
  · exact .inr h
theorem StpAt.put {K : PySem.W.Frag} {H : Hp} {t : Addr} {ys : List V} {u : HO} {v : V} {st : Stp} (h : StpAt K H v st) (ht : H t = some (.lst ys)) : StpAt K (upd H t u) v st := by
  cases st with
  | put zs =>
    obtain ⟨a, b, e, h1, h2, r⟩ := h
    exact ⟨a, b, e, sq_upd h1 ht, sq_upd h2 ht, r⟩
  | pour =>
    obtain ⟨a, e, h1⟩ := h
    exact ⟨a, e, sq_upd h1 ht⟩
theorem paired_rep {α β : Type} {F : α → β → Prop} {x : α} {y : β} (h : F x y) : ∀ n : Nat, Paired F (List.replicate n x) (List.replicate n y)
  | 0 => .nil
  | n + 1 => .cons h (paired_rep h n)
theorem rep_flat (n : Nat) (v : V) : (List.replicate n [v]).flatten = List.replicate n v := by
  induction n with
  | zero => rfl
  | succ n ih => rw [List.replicate_succ, List.flatten_cons, ih]; rfl
section
variable {P : Program} {w : World} {K : PySem.W.Frag} {mg : Str → Option Value} {base : Heap}
theorem StpAt.exw {a c : Addr} {H H' : Hp} {v : V} {t : Stp} (h : StpAt K H v t) (x : Exw a H H') (w0 : Wl a c H) : StpAt K H' v t := by
  cases t with
  | put zs =>
    obtain ⟨a, b, e, h1, h2, r⟩ := h
    exact ⟨a, b, e, x.tup w0 h1, x.tup w0 h2, r⟩
  | pour =>
    obtain ⟨a, e, h1⟩ := h
    exact ⟨a, e, x.tup w0 h1⟩
/-! _law_tree -/
def spTree (K : PySem.W.Frag) : Sp := fun vs H Q _ => ∃ (a c l : Addr) (ns : List Str) (lv : Nat) (m : Int), vs = [.ref a, .ref l, .int (lv : Int), .int m] ∧ Wl a c H ∧ l ≠ a ∧ H l = some (.lst (ns.map V.str)) ∧ 0 < ns.length ∧ ns.length ≤ 1000 ∧ (∀ z ∈ ns, Nm z) ∧ 1 ≤ lv ∧ lv ≤ 40 ∧ 0 ≤ m ∧ m ≤ 40 ∧
  ∀ H' t (i : Nat) (st : List Stp), Exw a H H' → Wl a c H' → H t = none → TreeAt K H' t st → Gr (· ∈ ns) i 1 st → i ≤ lv → Q (.ref t) H'
theorem ok_tree (T : Blt mg) (ddraw : Dndraw K mg) (dany : Dnany K mg) (d : Dntree K mg) : FnOk P w K mg base CX0 3 d.f d.fd ["_law_hand_here", "_law_pool_here", "_law_streams", "_law_most"] (spTree K) := by
  have Gdraw : FnOk P w K mg base CX0 1 ddraw.f ddraw.fd ["_law_hand_here", "_law_many"] spDraw := ok_draw T ddraw
  have Gany : FnOk P w K mg base CX0 2 dany.f dany.fd ["_law_hand_here", "_law_things"] spAny := ok_any T ddraw dany
  refine d.F.ok sctree (fun vs H Q E h => ?_) (fun cdv A outer s H vs Q E hr h => ?_)
  · obtain ⟨a, c, l, ns, lv, m, rfl, _⟩ := h
    rfl
  · obtain ⟨a, c, l, ns, lv, m, rfl, w0, la, hl, n0, n1, hnm, lv1, lv2, hm0, hm1, q⟩ := h
    refine ⟨_, (pss_cons (ps_par (i := 4) (j := 5) (by rfl) sctree.nd rfl rfl (by decide) rfl rfl (pa_cons (pe_lst pa_nil) (pa_cons pe_int pa_nil)) (by rfl))
    (pss_cons (ps_set (i := 6) sctree.nd rfl (Or.inl rfl) (pe_op op_add pe_int (pe_call Gdraw (hr.mono (by omega)) (by rfl) ddraw.g ddraw.F.kp ddraw.b .nil pass0 (pa_cons (pv 0) (pa_cons (pv 2) pa_nil)))))
    (pss_cons (ps_for PassesOwn.never rfl (pi_range1 (by rfl) T.n_range (pa_cons (pv 6) pa_nil)) (pg_name (i := 7) sctree.nd rfl (Or.inl rfl))
      (pss_cons (ps_asg (pe_op op_cat (pe_lc (own := [("_law_turn", 10)]) (g := gName 10) (tt := tYes) rfl sctree.nd (pi_range1 (by rfl) T.n_range (pa_cons (pe_op op_add pe_int (pe_call Gdraw (hr.mono (by omega)) (by rfl) ddraw.g ddraw.F.kp ddraw.b .nil pass0 (pa_cons (pv 0) (pa_cons pe_int pa_nil)))) pa_nil)) (blkOk_by (N := Ntree) (sc := defScope stree) (by decide +kernel)) (fun _ _ _ _ _ => pg_name (i := 10) sctree.nd rfl (Or.inl rfl)) (fun _ _ _ _ _ => pts_nil) (fun _ _ _ _ _ => (pe_call Gany (hr.mono (by omega)) (by rfl) dany.g dany.F.kp dany.b .nil pass0 (pa_cons (pv 0) (pa_cons (pv 1) pa_nil))))) (pe_slice sl_list (pv 1) po_none (po_some pe_int))) (pg_name (i := 8) sctree.nd rfl (Or.inr rfl)))
      (pss_cons (ps_setLc (i := 9) (own := [("_law_turn", 10)]) (g := gName 10) (tt := tYes) rfl sctree.nd rfl rfl (sw_true rfl rfl rfl (by decide +kernel)) (pi_range1 (by rfl) T.n_range (pa_cons (pe_call Gdraw (hr.mono (by omega)) (by rfl) ddraw.g ddraw.F.kp ddraw.b .nil pass0 (pa_cons (pv 0) (pa_cons (pe_op op_add (pv 3) pe_int) pa_nil))) pa_nil)) (blkOk_by (N := Ntree) (sc := defScope stree) (by decide +kernel)) (fun _ _ _ _ _ => pg_name (i := 10) sctree.nd rfl (Or.inl rfl)) (fun _ _ _ _ _ => pts_nil) (fun _ _ _ _ _ => (pe_call Gany (hr.mono (by omega)) (by rfl) dany.g dany.F.kp dany.b .nil pass0 (pa_cons (pv 0) (pa_cons (pe_ifExp (pt_cmpR op_gt (pe_call Gdraw (hr.mono (by omega)) (by rfl) ddraw.g ddraw.F.kp ddraw.b .nil pass0 (pa_cons (pv 0) (pa_cons pe_int pa_nil))) pe_int (nomark _)) (pv 8) (pv 1)) pa_nil)))))
      (pss_cons (ps_expr (pe_bm PySem.F.plainAttrs_list PySem.F.slot_list_append PySem.F.type_list_append mt_append (pv 4) (pa_cons (pe_tup (pa_cons pe_str (pa_cons (pe_callTy call_tuple_of (by rfl) T.n_tuple (by decide +kernel) (pa_cons (pv 9) pa_nil)) pa_nil))) pa_nil)))
      (pss_cons (ps_set (i := 5) sctree.nd rfl (Or.inl rfl) (pe_op op_add (pv 5) pe_int))
      (pss_one (ps_while PassesOwn.never (PW.pt (pw_and (pt_cmpR op_gt (pv 5) pe_int (nomark _)) (pw_and1 (pt_cmpR op_eq (pe_call Gdraw (hr.mono (by omega)) (by rfl) ddraw.g ddraw.F.kp ddraw.b .nil pass0 (pa_cons (pv 0) (pa_cons pe_int pa_nil))) pe_int (nomark _)))))
        (pss_cons (ps_expr (pe_bm PySem.F.plainAttrs_list PySem.F.slot_list_append PySem.F.type_list_append mt_append (pv 4) (pa_cons (pe_tup (pa_cons pe_str pa_nil)) pa_nil)))
        (pss_one (ps_set (i := 5) sctree.nd rfl (Or.inl rfl) (pe_op op_sub (pv 5) pe_int)))))))))))
    (pss_one (ps_ret (pe_callTy call_tuple_of (by rfl) T.n_tuple (by decide +kernel) (pa_cons (pe_op op_cat (pv 4) (pe_op op_rep (pe_lst (pa_cons (pe_tup (pa_cons pe_str pa_nil)) pa_nil)) (pe_op op_sub (pv 5) pe_int))) pa_nil))))))), ?_⟩
    refine ⟨(by show 0 ≤ sizeLine; decide), fun D nD => ⟨_, _, rfl, ?_⟩⟩
    have Da := w0.ne2 nD
    have s1 : Same H (upd H D (.lst [])) := same_upd nD
    have hD1 : (upd H D (.lst [])) D = some (.lst []) := upd_same
    have w1 := w0.same s1
    generalize upd H D (.lst []) = H1 at s1 hD1 w1 ⊢
    refine ⟨.ref a, rfl, .int (lv : Int), rfl, a, c, (lv : Int), rfl, w1, (by omega), (by omega), fun H2 k x2 w2 k0 k1 => ⟨_, _, rfl, rfl, ?_⟩⟩
    obtain ⟨k, rfl⟩ := Int.eq_ofNat_of_zero_le k0
    refine ⟨_, rfl, (1 + (k : Int)), rfl, by omega, by omega, ?_⟩
    rw [show (1 + (k : Int)).toNat = k + 1 by omega]
    refine for_range (lo := 0) (n := k + 1) (fun i σ H3 => ∃ (pile : Int) (vs : List V) (st : List Stp) (y7 y8 y9 y10 : Option V), σ = [some (.ref a), some (.ref l), some (.int (lv : Int)), some (.int m), some (.ref D), some (.int pile), some (.int (1 + (k : Int))), y7, y8, y9, y10] ∧ Exw a H H3 ∧ Wl a c H3 ∧ H3 D = some (.lst vs) ∧ Paired (StpAt K H3) vs st ∧ Gr (· ∈ ns) i pile st ∧ 0 ≤ pile ∧ pile ≤ i)
      ⟨0, [], [], none, none, none, none, rfl, (Same.exw s1).trans x2, w2, x2 _ _ Da.1 hD1, .nil, gr0, Int.le_refl _, Int.le_refl _⟩ ?_ ?_
    · rintro i σ H3 hi ⟨pile, vs, st, y7, y8, y9, y10, rfl, x3, w3, hD3, hpr3, gr, hp0, hp1⟩
      refine ⟨.ref a, rfl, a, c, 3, rfl, w3, (by decide), (by decide), fun H4 r x4 w4 r0 r1 => ⟨_, _, rfl, rfl, (1 + r : Int), rfl, by omega, by omega, fun G nG => ?_⟩⟩
      have Ga := w4.ne2 nG
      have hD4 := x4 _ _ Da.1 hD3
      have hl4 := (x3.trans x4) _ _ la hl
      have hpr4 : Paired (StpAt K H4) vs st := paired_imp (fun v t h => h.exw x4 w3) hpr3
      obtain ⟨r, rfl⟩ := Int.eq_ofNat_of_zero_le r0
      rw [show (1 + (r : Int)).toNat = r + 1 by omega]
      refine lc_range (lo := 0) (n := r + 1) (fun i H7 => Exw a H4 H7 ∧ Wl a c H7 ∧ ∃ ss : List Str, H7 G = some (.lst (ss.map V.str)) ∧ ss.length = i ∧ ∀ z ∈ ss, z ∈ ns) ⟨Same.exw (same_upd nG), w4.same (same_upd nG), [], upd_same, rfl, (fun _ h => nomatch h)⟩ (fun j H7 hj h7 => ?_) (fun H7 h7 => ?_)
      · obtain ⟨x7, w7, ss, hG7, hsl, hss⟩ := h7
        refine ⟨rfl, .ref a, rfl, .ref l, rfl, a, c, l, ns.map V.str, rfl, w7, la, x7 _ _ la hl4, (by rw [List.length_map]; exact n0), (by rw [List.length_map]; omega), fun H8 x x8 w8 hx => ?_⟩
        obtain ⟨z, hz, rfl⟩ := List.mem_map.mp hx
        refine ⟨_, x8 _ _ Ga.1 hG7, by rw [List.length_map, hsl, sizeLine_eq]; omega, (x7.trans x8).put nG, w8.put Ga, ss ++ [z], ?_, ?_, ?_⟩
        · rw [upd_same, List.map_append]
          rfl
        · rw [List.length_append, hsl]
          rfl
        · intro y hy
          rcases List.mem_append.mp hy with hy | hy
          · exact hss y hy
          · rw [List.mem_singleton.mp hy]
            exact hz
      obtain ⟨x7, w7, ss, hG7, hsl, hss⟩ := h7
      have hl7 := x7 _ _ la hl4
      have hD7 := x7 _ _ Da.1 hD4
      have hpr7 : Paired (StpAt K H7) vs st := paired_imp (fun v t h => h.exw x7 w4) hpr4
      refine ⟨.ref l, rfl, 1, rfl, l, _, rfl, sql hl7, fun p np => ?_⟩
      rw [show cutV (ns.map V.str) none (some 1) = (ns.take 1).map V.str by unfold cutV; rw [show HT.sIx (ns.map V.str).length (ns.map V.str).length (some 1) = min 1 (ns.map V.str).length from HT.sIx_nat _ _ 1, HT.sIx_none, List.drop_zero, Nat.sub_zero, ← List.map_take, List.length_map, show min 1 ns.length = 1 by omega]]
      have s8 := same_upd (o := .lst ((ns.take 1).map V.str)) np
      have hp8 : (upd H7 p (.lst ((ns.take 1).map V.str))) p = some (.lst ((ns.take 1).map V.str)) := upd_same
      generalize upd H7 p (.lst ((ns.take 1).map V.str)) = H8 at s8 hp8 ⊢
      refine ⟨G, p, _, _, rfl, rfl, s8 _ _ hG7, hp8, (by rw [List.length_map, List.length_map, hsl, List.length_take, sizeLine_eq]; omega), fun S nS => ?_⟩
      rw [← List.map_append]
      have hS9 : (upd H8 S (.lst ((ss ++ ns.take 1).map V.str))) S = some (.lst ((ss ++ ns.take 1).map V.str)) := upd_same
      have s79 : Same H7 (upd H8 S (.lst ((ss ++ ns.take 1).map V.str))) := Same.new s8 nS
      have t0 : 0 < (ss ++ ns.take 1).length := by rw [List.length_append, hsl]; omega
      have t1 : (ss ++ ns.take 1).length ≤ 10 := by rw [List.length_append, hsl, List.length_take]; omega
      have tn : ∀ z ∈ ss ++ ns.take 1, z ∈ ns := fun z hz => by
        rcases List.mem_append.mp hz with hz | hz
        · exact hss z hz
        · exact List.mem_of_mem_take hz
      have Sa : S ≠ a := (w7.same s8).ne2 nS |>.1
      generalize ss ++ ns.take 1 = tt at hS9 s79 t0 t1 tn ⊢
      generalize upd H8 S (.lst (tt.map V.str)) = H9 at hS9 s79 ⊢
      have w9 := w7.same s79
      have x9 : Exw a H H9 := ((x3.trans x4).trans x7).same s79
      have hl9 := s79 _ _ hl7
      have hD9 := s79 _ _ hD7
      have hpr9 : Paired (StpAt K H9) vs st := paired_imp (fun v t h => h.same s79) hpr7
      refine ⟨.ref a, rfl, .int m, rfl, _, _, rfl, rfl, a, c, (m + 1 : Int), rfl, w9, (by omega), (by omega), fun H10 r2 x10 w10 r20 r21 => ⟨r2, rfl, by omega, by omega, fun G2 nG2 => ?_⟩⟩
      have Ga2 := w10.ne2 nG2
      obtain ⟨r2, rfl⟩ := Int.eq_ofNat_of_zero_le r20
      rw [Int.toNat_natCast]
      have hS10 := x10 _ _ Sa hS9
      have hl10 := x10 _ _ la hl9
      have hD10 := x10 _ _ Da.1 hD9
      have hpr10 : Paired (StpAt K H10) vs st := paired_imp (fun v t h => h.exw x10 w9) hpr9
      refine lc_range (lo := 0) (n := r2) (fun i H11 => Exw a H10 H11 ∧ Wl a c H11 ∧ ∃ zs : List Str, H11 G2 = some (.lst (zs.map V.str)) ∧ zs.length = i ∧ ∀ z ∈ zs, z ∈ ns) ⟨Same.exw (same_upd nG2), w10.same (same_upd nG2), [], upd_same, rfl, (fun _ h => nomatch h)⟩ (fun j H11 hj h11 => ?_) (fun H11 h11 => ?_)
      · obtain ⟨x11, w11, zs, hG11, hzl, hzs⟩ := h11
        refine ⟨rfl, .ref a, rfl, .ref a, rfl, a, c, 3, rfl, w11, (by decide), (by decide), fun H12 r3 x12 w12 _ _ => ⟨_, _, rfl, rfl, _, rfl, ?_⟩⟩
        have fin : ∀ (H13 : Hp) (z : Str), Exw a H12 H13 → Wl a c H13 → z ∈ ns → ∃ acc, H13 G2 = some (.lst acc) ∧ acc.length < sizeLine ∧ (Exw a H10 (upd H13 G2 (.lst (acc ++ [.str z]))) ∧ Wl a c (upd H13 G2 (.lst (acc ++ [.str z]))) ∧ ∃ zs : List Str, (upd H13 G2 (.lst (acc ++ [.str z]))) G2 = some (.lst (zs.map V.str)) ∧ zs.length = j + 1 ∧ ∀ z ∈ zs, z ∈ ns) := fun H13 z x13 w13 hz =>
          ⟨_, x13 _ _ Ga2.1 (x12 _ _ Ga2.1 hG11), by rw [List.length_map, hzl, sizeLine_eq]; omega, ((x11.trans x12).trans x13).put nG2, w13.put Ga2, zs ++ [z], by rw [upd_same, List.map_append]; rfl, by rw [List.length_append, hzl]; rfl, fun y hy => by
            rcases List.mem_append.mp hy with hy | hy
            · exact hzs y hy
            · rw [List.mem_singleton.mp hy]
              exact hz⟩
        refine ite2 (fun _ => ?_) fun _ => ?_
        · refine ⟨.ref S, rfl, a, c, S, tt.map V.str, rfl, w12, Sa, x12 _ _ Sa (x11 _ _ Sa hS10), (by rw [List.length_map]; exact t0), (by rw [List.length_map]; omega), fun H13 x x13 w13 hx => ?_⟩
          obtain ⟨z, hz, rfl⟩ := List.mem_map.mp hx
          exact fin H13 z x13 w13 (tn z hz)
        · refine ⟨.ref l, rfl, a, c, l, ns.map V.str, rfl, w12, la, x12 _ _ la (x11 _ _ la hl10), (by rw [List.length_map]; exact n0), (by rw [List.length_map]; omega), fun H13 x x13 w13 hx => ?_⟩
          obtain ⟨z, hz, rfl⟩ := List.mem_map.mp hx
          exact fin H13 z x13 w13 hz
      obtain ⟨x11, w11, zs, hG11, hzl, hzs⟩ := h11
      have hD11 := x11 _ _ Da.1 hD10
      have hpr11 : Paired (StpAt K H11) vs st := paired_imp (fun v t h => h.exw x11 w10) hpr10
      have x011 : Exw a H H11 := (x9.trans x10).trans x11
      refine ⟨.ref D, rfl, .inl ⟨rfl, _, sql hD11⟩, .ref G2, rfl, G2, _, rfl, .inl ⟨sql hG11, fun t nt => ⟨(by show 2 ≤ sizeLine; decide), fun b nb => ?_⟩⟩⟩
      have s12 := same_upd (o := .tup (zs.map V.str)) nt
      have ht12 : (upd H11 t (.tup (zs.map V.str))) t = some (.tup (zs.map V.str)) := upd_same
      have sb := same_upd (o := .tup [.str (Str.ofString "stream"), .ref t]) nb
      have s35 : Same H11 (upd (upd H11 t (.tup (zs.map V.str))) b (.tup [.str (Str.ofString "stream"), .ref t])) := fun b' u z => sb b' u (s12 b' u z)
      have hpr12 : Paired (StpAt K (upd (upd H11 t (.tup (zs.map V.str))) b (.tup [.str (Str.ofString "stream"), .ref t]))) (vs ++ [.ref b]) (st ++ [.put zs]) := paired_app (paired_imp (fun v t h => h.same s35) hpr11) (.cons ⟨b, t, rfl, .inl (.inl upd_same), .inl (.inl (sb _ _ ht12)), (fun z hz => hnm z (hzs z hz)), by omega⟩ .nil)
      generalize upd (upd H11 t (.tup (zs.map V.str))) b (.tup [.str (Str.ofString "stream"), .ref t]) = H12 at s35 hpr12 ⊢
      have hD12 := s35 _ _ hD11
      have lvs : vs.length = st.length := Paired.length hpr3
      have gl := gr.len
      refine ⟨D, vs, _, rfl, rfl, hD12, (by rw [lvs, sizeLine_eq]; omega), .int pile, rfl, _, _, rfl, rfl, ?_⟩
      have hD13 : (upd H12 D (.lst (vs ++ [.ref b]))) D = some (.lst (vs ++ [.ref b])) := upd_same
      have w13 : Wl a c (upd H12 D (.lst (vs ++ [.ref b]))) := (w11.same s35).put Da
      have x13 : Exw a H (upd H12 D (.lst (vs ++ [.ref b]))) := (x011.same s35).put nD
      have hpr13 : Paired (StpAt K (upd H12 D (.lst (vs ++ [.ref b])))) (vs ++ [.ref b]) (st ++ [.put zs]) := paired_imp (fun v t h => h.put hD12) hpr12
      generalize upd H12 D (.lst (vs ++ [.ref b])) = H13 at hD13 w13 x13 hpr13 ⊢
      have gr13 := gr_put gr hp0 hzs (by omega)
      refine ⟨fun μ σ H8 => ∃ (pl : Int) (vs : List V) (st : List Stp), μ = pl.toNat ∧ σ = [some (.ref a), some (.ref l), some (.int (lv : Int)), some (.int m), some (.ref D), some (.int pl), some (.int (1 + (k : Int))), some (.int (0 + (i : Int))), some (.ref S), some (.ref G2), y10] ∧ Exw a H H8 ∧ Wl a c H8 ∧ H8 D = some (.lst vs) ∧ Paired (StpAt K H8) vs st ∧ Gr (· ∈ ns) (i + 1) pl st ∧ 0 ≤ pl ∧ pl ≤ i + 1, ⟨_, _, _, _, rfl, rfl, x13, w13, hD13, hpr13, gr13, by omega, by omega⟩, ?_⟩
      rintro μ σ H8 ⟨pl, vs8, st8, rfl, rfl, x8, w8, hD8, hpr8, gr8, hq0, hq1⟩
      refine ⟨.int pl, rfl, _, _, rfl, rfl, _, rfl, ite2 (fun hgt => ?_) fun _ => ?_⟩
      · have hgt := of_decide_eq_true hgt
        refine ⟨.ref a, rfl, a, c, 2, rfl, w8, (by decide), (by decide), fun H9 r9 x9' w9' _ _ => ⟨rfl, _, rfl, ?_⟩⟩
        have hD9 := x9' _ _ Da.1 hD8
        have hpr9 : Paired (StpAt K H9) vs8 st8 := paired_imp (fun v t h => h.exw x9' w8) hpr8
        refine ite2 (fun _ => ⟨fun σ' H' => ∃ (pl' : Int) (vs : List V) (st : List Stp), pl'.toNat < pl.toNat ∧ σ' = [some (.ref a), some (.ref l), some (.int (lv : Int)), some (.int m), some (.ref D), some (.int pl'), some (.int (1 + (k : Int))), some (.int (0 + (i : Int))), some (.ref S), some (.ref G2), y10] ∧ Exw a H H' ∧ Wl a c H' ∧ H' D = some (.lst vs) ∧ Paired (StpAt K H') vs st ∧ Gr (· ∈ ns) (i + 1) pl' st ∧ 0 ≤ pl' ∧ pl' ≤ i + 1, fun σ' H' ⟨pl', vs', st', h1, h2⟩ => ⟨_, h1, pl', vs', st', rfl, h2⟩, ?_⟩) fun _ => ?_
        · refine ⟨.ref D, rfl, .inl ⟨rfl, _, sql hD9⟩, (by show 1 ≤ sizeLine; decide), fun b8 nb8 => ?_⟩
          have sb8 := same_upd (o := .tup [.str (Str.ofString "pour")]) nb8
          have hprA : Paired (StpAt K (upd H9 b8 (.tup [.str (Str.ofString "pour")]))) (vs8 ++ [.ref b8]) (st8 ++ [.pour]) := paired_app (paired_imp (fun v t h => h.same sb8) hpr9) (.cons ⟨b8, rfl, .inl (.inl upd_same)⟩ .nil)
          generalize upd H9 b8 (.tup [.str (Str.ofString "pour")]) = HA at sb8 hprA ⊢
          have hDA := sb8 _ _ hD9
          have lvs8 : vs8.length = st8.length := Paired.length hpr8
          have gl8 := gr8.len
          have g9 := gr_pours gr8 1 (by omega)
          refine ⟨D, vs8, _, rfl, rfl, hDA, (by rw [lvs8, sizeLine_eq]; omega), .int pl, rfl, _, _, rfl, rfl, ?_⟩
          exact ⟨pl - 1, vs8 ++ [.ref b8], st8 ++ [.pour], by omega, rfl, ((x8.trans x9').same sb8).put nD, (w9'.same sb8).put Da, upd_same, paired_imp (fun v t h => h.put hDA) hprA, g9, by omega, by omega⟩
        · exact ⟨pl, vs8, st8, _, _, _, _, rfl, x8.trans x9', w9', hD9, hpr9, gr8, hq0, by push_cast; omega⟩
      · exact ⟨pl, vs8, st8, _, _, _, _, rfl, x8, w8, hD8, hpr8, gr8, hq0, by push_cast; omega⟩
    · rintro σ H3 ⟨pile, vs, st, y7, y8, y9, y10, rfl, x3, w3, hD3, hpr3, gr, hp0, hp1⟩
      have hp2 := gr.pos (by omega)
      obtain ⟨n, hn⟩ : ∃ n : Nat, pile - 1 = (n : Int) := ⟨(pile - 1).toNat, by omega⟩
      have gl := gr.len
      have lvs : vs.length = st.length := Paired.length hpr3
      refine ⟨.ref D, rfl, (by show 1 ≤ sizeLine; decide), fun b8 nb => ⟨(by show 1 ≤ sizeLine; decide), fun l1 nl1 => ?_⟩⟩
      have sb : Same H3 (upd (upd H3 b8 (.tup [.str (Str.ofString "pour")])) l1 (.lst [.ref b8])) := Same.new (same_upd nb) nl1
      have hb : (upd (upd H3 b8 (.tup [.str (Str.ofString "pour")])) l1 (.lst [.ref b8])) b8 = some (.tup [.str (Str.ofString "pour")]) := same_upd nl1 _ _ upd_same
      refine ⟨.int pile, rfl, _, _, rfl, rfl, l1, (n : Int), _, rfl, (by show V.int (pile - 1) = _; rw [hn]), upd_same, (by omega), (by omega), (by rw [Int.toNat_natCast, sizeLine_eq]; show 1 * n ≤ _; omega), fun l2 nl2 => ?_⟩
      rw [Int.toNat_natCast, rep_flat]
      have sc := Same.new (o := .lst (List.replicate n (V.ref b8))) sb nl2
      refine ⟨D, l2, _, _, rfl, rfl, sc _ _ hD3, upd_same, (by rw [List.length_replicate, lvs, sizeLine_eq]; omega), fun l3 nl3 => ?_⟩
      have sd := Same.new (o := .lst (vs ++ List.replicate n (V.ref b8))) sc nl3
      refine ⟨l3, _, rfl, .inl ⟨sql upd_same, fun t nt => ?_⟩⟩
      have se := Same.new (o := .tup (vs ++ List.replicate n (V.ref b8))) sd nt
      have g9 := gr_pours gr n (by omega)
      have e1 : pile - (n : Int) = 1 := by omega
      rw [e1] at g9
      have hbt := Same.new (o := .tup (vs ++ List.replicate n (V.ref b8))) (Same.new (o := .lst (vs ++ List.replicate n (V.ref b8))) (same_upd nl2 (o := .lst (List.replicate n (V.ref b8)))) nl3) nt _ _ hb
      exact q _ t (k + 1) _ (x3.same se) (w3.same se) ((x3.same sd).gone ((w3.same sd).ne2 nt).1 nt) ⟨_, .inl (.inl upd_same), paired_app (paired_imp (fun v t h => h.same se) hpr3) (paired_rep ⟨b8, rfl, .inl (.inl hbt)⟩ n)⟩ g9 (by omega)
end
end Kb

/-! plain tuples: slices of them, their sums, turned round -/
namespace L2
open PySem PySem.Spec PyProof.Rows HT
section
variable {prog : Program} {w : World} {A : Around} {E : Value → Shared → Prop} {s : Shared}
theorem rev_places (n : Nat) : Builtin.Slice.slicePlaces ((n : Int) - 1) (-1) (-1) = n := by
  unfold Builtin.Slice.slicePlaces
  have h1 : ¬ ((-1 : Int) > 0) := by decide
  simp only [h1, if_false, show (- -1 : Int) = 1 by decide, Int.ediv_one]
  split <;> omega
theorem rev_adjust (n : Nat) : Builtin.Slice.sliceAdjust none none (-1) (n : Int) = ((n : Int) - 1, -1) := by
  unfold Builtin.Slice.sliceAdjust
  simp
theorem sliceApplied_rev {sl : Addr} {vs : Value} {n : Nat} {Q : Int × Int × Nat → Shared → Prop} (hs : s.heap.IsSliceOf sl .none .none vs) (ps : IsPart vs (some (-1)))
    (h : Q (((n : Int) - 1), -1, n) s) : wpAny (model prog w) A (Builtin.Slice.sliceApplied (.ref sl) (pure (n : Int))) Q E s := by
  obtain ⟨os, hos, hcs, hds⟩ := id hs
  unfold Builtin.Slice.sliceApplied Builtin.Slice.sliceFields
  refine wpAny_bind (wpAny_bind (wpAny_field hos hds (x := .none) rfl (wpAny_bind (wpAny_field hos hds (x := .none) rfl (wpAny_bind (wpAny_field hos hds (x := vs) rfl (wpAny_pure ?_)))))))
  refine wpAny_bind (slicePart_ ps ?_)
  show wpAny _ _ (if ((-1 : Int) == 0) = true then _ else _) _ _ s
  rw [if_neg (by decide)]
  refine wpAny_bind (slicePart_none (wpAny_bind (slicePart_none (wpAny_bind (wpAny_pure ?_)))))
  show wpAny _ _ (match Builtin.Slice.sliceAdjust none none (-1) (n : Int) with | (lo, hi) => pure (lo, (-1 : Int), Builtin.Slice.slicePlaces lo hi (-1))) _ _ s
  rw [rev_adjust]
  show wpAny _ _ (pure (((n : Int) - 1), (-1 : Int), Builtin.Slice.slicePlaces ((n : Int) - 1) (-1) (-1))) _ _ s
  rw [rev_places]
  exact wpAny_pure h
theorem fm_congr {α β : Type} {f g : α → Option β} : ∀ {l : List α}, (∀ x ∈ l, f x = g x) → l.filterMap f = l.filterMap g
  | [], _ => rfl
  | x :: l, h => by
    rw [List.filterMap_cons, List.filterMap_cons, h x List.mem_cons_self, fm_congr (l := l) fun y hy => h y (List.mem_cons_of_mem _ hy)]
theorem same_fresh {H : Hp} {p : Addr} {u : HO} (h : H p = none) : Same H (upd H p u) := fun b o e => by
  rw [upd_ne (ne_of_none e h)]
  exact e
theorem rev_pick (xs : Array Value) : ((List.range xs.size).filterMap fun (m : Nat) => xs[(((xs.size : Nat) : Int) - 1 + (m : Int) * (-1)).toNat]?).toArray = xs.toList.reverse.toArray := by
  have e1 : ((List.range xs.size).filterMap fun (m : Nat) => xs[(((xs.size : Nat) : Int) - 1 + (m : Int) * (-1)).toNat]?) = (List.range xs.size).filterMap fun (m : Nat) => xs[xs.size - 1 - m]? := by
    refine fm_congr fun m hm => ?_
    have := List.mem_range.mp hm
    rw [show (((xs.size : Nat) : Int) - 1 + (m : Int) * (-1)).toNat = xs.size - 1 - m by omega]
  rw [e1]
  have e2 : ((List.range xs.size).filterMap fun (m : Nat) => xs[xs.size - 1 - m]?) = ((List.range xs.size).map fun k => xs.size - 1 - k).filterMap (xs[·]?) := by
    rw [List.filterMap_map]
    rfl
  rw [e2, PySem.W.krv_range, List.filterMap_reverse, PySem.W.krv_all]
/-- t[::-1] makes a new tuple: the slice is never the whole, for its step is -1 -/
theorem getItem_tuple_rev {t sl : Addr} {its : Array Value} {step : Value} {Q : Value → Shared → Prop} (isT : IsTup s.heap t its) (isSl : s.heap.IsSliceOf sl .none .none step) (minus : IsPart step (some (-1)))
    (q : Q (.ref s.heap.objs.size) { s with heap := s.heap.push { cls := .type "tuple", data := .seq its.toList.reverse.toArray } }) (small : its.size ≤ sizeLine) : wpAny (model prog w) A (getItem (.ref t) (.ref sl)) Q E s := by
  have fits : sizeOk (.seq its.toList.reverse.toArray) := by
    show its.toList.reverse.toArray.size ≤ _
    simpa using small
  have tySl : s.TypeIs (.ref sl) "slice" := let ⟨o, g, c, _⟩ := isSl; ⟨o, g, c⟩
  have notWhole : (((((its.size : Nat) : Int) - 1) == 0 && (-1 : Int) == 1) && its.size == its.size) = false := by simp
  unfold getItem
  try with_reducible refine wpAny_holding ?_
  try refine wpAny_bind (wpAny_pure ?_)
  refine wpAny_bind (wpAny_sequenceKey isT.typeIs (by decide) (wpAny_bind (wpAny_callSpecial?_slot (name := Str.ofString "__getitem__") isT.typeIs PyProof.Rows.slot_tuple_getitem (wpAny_call_entry PyProof.Rows.slot_tuple_getitem isT.typeIs entry_tuple_getitem ?_ (args_tuple_getitem _ _)))))
  show wpAny _ _ (Builtin.Tuple.tupleItemsOf (.ref t) >>= _) _ _ s
  refine wpAny_bind (tupleItemsOf_ isT (wpAny_bind (wpAny_typeOf tySl ?_)))
  rw [if_pos (by decide)]
  refine wpAny_bind (sliceApplied_rev isSl minus ?_)
  show wpAny _ _ (if ((((its.size : Nat) : Int) - 1) == 0 && (-1 : Int) == 1 && its.size == its.size) = true then _ else _) _ _ s
  rw [notWhole, if_neg (by decide), rev_pick]
  first
    | exact wpAny_bind (m := Builtin.Tuple.tupleExact _) (wpAny_newObj_type (wpAny_pure ⟨_, rfl, wpAny_pure q⟩) fits)
    | exact wpAny_bind (wpAny_bind (m := Builtin.Tuple.tupleExact _) (wpAny_newObj_type (wpAny_pure (wpAny_pure ⟨_, rfl, wpAny_pure q⟩)) fits))
    | exact wpAny_bind (wpAny_bind (m := Builtin.Tuple.tupleExact _) (wpAny_newObj_type (wpAny_pure ⟨_, rfl, wpAny_pure q⟩) fits))
end
section
variable {X : Cx}
/-- t[::-1], a plain tuple -/
def tRevP (K : PySem.W.Frag) (te : TE) : TE := fun σ H Q => te σ H fun x H1 => ∃ a xs, x = .ref a ∧ SqT K H1 a xs ∧ ∀ p H', Same H1 H' → Ptp H' p xs.reverse → Q (.ref p) H'
theorem pe_revP {e : Expr} {te : TE} {k : Nat} {p1 p2 p3 pos : Pos} (he : PE X e te) : PE X (.Subscript e (.Slice none none (some (.UnaryOp .USub (.Constant (.int 1) k p1) p2)) p3) pos) (tRevP X.K te) := by
  refine ⟨fun pins s σ H Q I h => ?_⟩
  refine Subscript_ (thn (he.run pins s σ H _ I h) fun v s1 ⟨x, H1, I1, r1, q1⟩ => ?_)
  obtain ⟨a, xs, ex, hx, q⟩ := q1
  subst ex
  cases r1
  have hst : PO X (some (.UnaryOp .USub (.Constant (.int 1) k p1) p2)) (tPart (tUn (rU fun i => .int (-i)) (tC (.int 1)))) := po_some (pe_un un_neg pe_int)
  refine wpAny_Slice (thn (po_none.run pins s1 σ H1 (fun o H2 => o = none ∧ H2 = H1) I1 ⟨rfl, rfl⟩) fun vl s2 ⟨l, H2, I2, pl, el, e2⟩ => ?_)
  subst el e2
  refine thn (po_none.run pins s2 σ H2 (fun o H3 => o = none ∧ H3 = H2) I2 ⟨rfl, rfl⟩) fun vu s3 ⟨u, H3, I3, pu, eu, e3⟩ => ?_
  subst eu e3
  refine thn (hst.run pins s3 σ H3 (fun o H4 => o = some (-1) ∧ H4 = H3) I3 ⟨1, rfl, -1, rfl, rfl, rfl⟩) fun vs s4 ⟨o, H4, I4, ps, eo, e4⟩ => ?_
  subst eo e4
  cases pl
  cases pu
  have I5 : Inv X pins σ H4 { s4 with heap := s4.heap.push { cls := .type "slice", data := .fields #[.none, .none, vs] } } := I4.kept (t' := s4.toks) fun b ob q => Heap.get?_push_of_some _ q
  obtain ⟨its, r, ht, hz⟩ := I5.tuple hx
  have hlen := r.length
  show wpAny (model X.prog X.w) X.A (subscriptTail e (.Slice none none (some (.UnaryOp .USub (.Constant (.int 1) k p1) p2)) p3) (.ref a) (.ref s4.heap.objs.size)) (EP X pins σ Q) X.xe { s4 with heap := s4.heap.push { cls := .type "slice", data := .fields #[.none, .none, vs] } }
  refine tail_any (ops := [.ref a, .ref s4.heap.objs.size]) ht.typeIs (PyProof.Rows.slot_tuple_getitem.lookup) ?_ (by with_unfolding_all rfl)
  refine getItem_tuple_rev ht (Heap.IsSliceOf.new _ .none .none vs) ps ?_ (by rw [List.size_toArray]; omega)
  have hf := I5.hok.fresh (Nat.le_refl _)
  refine ⟨.ref _, _, I5.laid (t' := s4.toks) (o := .frz { cls := .type "tuple", data := .seq its.reverse.toArray } (.tup xs.reverse)) (fun b ob q => Heap.get?_push_of_some _ q) (Nat.le_refl _) ?_, rfl, q _ _ (same_fresh hf) ⟨_, upd_same, rfl⟩⟩
  exact ⟨Heap.get?_push_size _ rfl, by rw [List.length_reverse]; exact hz, _, r.reverse, ⟨_, Heap.get?_push_size _ rfl, rfl, _, rfl⟩⟩
/-- t[lo:hi], t a plain tuple: a plain tuple -/
def rSlP (K : PySem.W.Frag) : V → Option Int → Option Int → Hp → VK → Prop := fun x lo hi H Q => ∃ a xs, x = .ref a ∧ Ptp H a xs ∧ ∀ p H', Same H H' → Ptp H' p (cutV xs lo hi) → Q (.ref p) H'
theorem cutV_whole {xs : List V} {lo hi : Option Int} (h : HT.sIx xs.length 0 lo = 0 ∧ HT.sIx xs.length xs.length hi = xs.length) : cutV xs lo hi = xs := by
  unfold cutV
  rw [h.1, h.2, List.drop_zero, Nat.sub_zero, List.take_length]
theorem sl_tupP : SlR X (rSlP X.K) := by
  intro pins s σ H x v vl vu lo hi sl Q I rx hs pl pu h
  obtain ⟨a, xs, rfl, hx, q⟩ := h
  by_cases hw : HT.sIx xs.length 0 lo = 0 ∧ HT.sIx xs.length xs.length hi = xs.length
  · exact sl_tupA pins s σ H _ v vl vu lo hi sl Q I rx hs pl pu ⟨a, xs, rfl, hx.seq, fun _ => q a H (Same.refl H) (by rw [cutV_whole hw]; exact hx), fun n => absurd hw n⟩
  · cases rx
    obtain ⟨its, r, ht, hz⟩ := I.tuple hx.seq
    have hlen : its.toArray.size = xs.length := by rw [List.size_toArray]; exact r.length.symm
    refine ⟨"tuple", _, PyProof.Rows.slot_tuple_getitem.lookup, ht.typeIs, ?_⟩
    refine HT.getItem_tuple_cut ht hs pl pu (by rw [hlen]; exact hw) ?_ (by rw [hlen]; exact hz)
    rw [hlen]
    have hf := I.hok.fresh (Nat.le_refl _)
    refine ⟨.ref s.heap.objs.size, _, I.laid (t' := s.toks) (o := .frz { cls := .type "tuple", data := .seq ((its.drop (HT.sIx xs.length 0 lo)).take (HT.sIx xs.length xs.length hi - HT.sIx xs.length 0 lo)).toArray } (.tup (cutV xs lo hi))) (fun b ob q => Heap.get?_push_of_some _ q) (Nat.le_refl _) ?_, rfl, q _ _ (same_fresh hf) ⟨_, upd_same, rfl⟩⟩
    exact ⟨Heap.get?_push_size _ rfl, Nat.le_trans (cutV_length xs lo hi) hz, _, (r.drop (HT.sIx xs.length 0 lo)).take (HT.sIx xs.length xs.length hi - HT.sIx xs.length 0 lo), ⟨_, Heap.get?_push_size _ rfl, rfl, _, rfl⟩⟩
/-- t + u, plain tuples: a plain tuple -/
def rCatP (K : PySem.W.Frag) : R2 := fun x y H Q => ∃ a b xs ys, x = .ref a ∧ y = .ref b ∧ Ptp H a xs ∧ Ptp H b ys ∧ xs.length + ys.length ≤ sizeLine ∧ ∀ p H', Same H H' → Ptp H' p (xs ++ ys) → Q (.ref p) H'
theorem op_catP : OpR X (binaryOp .Add) (rCatP X.K) := by
  intro pins s σ H x y v u Q I rx ry h
  obtain ⟨a, b, xs, ys, rfl, rfl, ha, hb, hz, q⟩ := h
  by_cases hx : xs = []
  · subst hx
    exact op_catA pins s σ H _ _ v u Q I rx ry ⟨a, b, [], ys, rfl, rfl, ha.seq, hb.seq, hz, fun _ => q b H (Same.refl H) hb, fun n => absurd rfl n, fun n => absurd rfl n⟩
  · cases rx
    cases ry
    obtain ⟨its, r1, p1, _⟩ := I.tuple ha.seq
    obtain ⟨its2, r2, p2, _⟩ := I.tuple hb.seq
    refine HT.cat_tup p1 p2 (fun z => hx (r1.nil_iff.mp z)) (fun z => ⟨.ref a, H, I, rfl, q a H (Same.refl H) (by rw [r2.nil_iff.mp z, List.append_nil]; exact ha)⟩) (fun z => ?_) (by rw [← r1.length, ← r2.length]; exact hz)
    have hf := I.hok.fresh (Nat.le_refl _)
    refine ⟨.ref s.heap.objs.size, _, I.laid (t' := s.toks) (o := .frz { cls := .type "tuple", data := .seq (its ++ its2).toArray } (.tup (xs ++ ys))) (fun b ob q => Heap.get?_push_of_some _ q) (Nat.le_refl _) ?_, rfl, q _ _ (same_fresh hf) ⟨_, upd_same, rfl⟩⟩
    exact ⟨Heap.get?_push_size _ rfl, by rw [List.length_append]; exact hz, _, r1.append r2, ⟨_, Heap.get?_push_size _ rfl, rfl, _, rfl⟩⟩
end
end L2

namespace Kb
open PySem PySem.Spec PyProof.Rows L2 SrtZ SrtO
abbrev slost : Stmt := topS 33
abbrev Nlost : List Str := ["_law_sketch_here", "_law_name", "_law_count"]
theorem sclost : FnScope ["_law_sketch_here", "_law_name", "_law_count"] ["_law_sketch_here"] (defScope slost) := ⟨rfl, rfl, rfl, by decide +kernel, rfl, by decide +kernel, by decide +kernel⟩
abbrev struth : Stmt := topS 34
abbrev Ntruth : List Str := ["_law_hand_here", "_law_sketch_here", "_law_fresh", "_law_taken", "_law_left", "_law_names", "_law_turn", "_law_more", "_law_counts", "_law_name", "_law_count"]
theorem sctruth : FnScope ["_law_hand_here", "_law_sketch_here", "_law_fresh", "_law_taken", "_law_left", "_law_names", "_law_turn", "_law_more", "_law_counts", "_law_name", "_law_count"] ["_law_hand_here", "_law_sketch_here", "_law_fresh"] (defScope struth) := ⟨rfl, rfl, rfl, by decide +kernel, rfl, by decide +kernel, by decide +kernel⟩
abbrev Dnlost (K : PySem.W.Frag) (mg : Str → Option Value) := Dn K mg "_law_lost" slost ["_law_sketch_here"]
abbrev Dntruth (K : PySem.W.Frag) (mg : Str → Option Value) := Dn K mg "_law_truth" struth ["_law_hand_here", "_law_sketch_here", "_law_fresh"]
/-! mathematics: what is taken -/
def min3 (i j k : Int) : Int := if k < (if j < i then j else i) then k else (if j < i then j else i)
theorem nuMin3_int (i j k : Int) : nuMin3 (.int i) (.int j) (.int k) = some (.int (min3 i j k)) := by
  unfold nuMin3 min3
  by_cases h : j < i
  · have e : nuMin2 (.int i) (.int j) = some (.int j) := by
      show ((some (decide (j < i))).map fun c => if c = true then V.int j else V.int i) = _
      rw [decide_eq_true h]
      rfl
    rw [e, if_pos h]
    show ((some (decide (k < j))).map fun c => if c = true then V.int k else V.int j) = _
    by_cases h2 : k < j
    · rw [decide_eq_true h2, if_pos h2]
      rfl
    · rw [decide_eq_false h2, if_neg h2]
      rfl
  · have e : nuMin2 (.int i) (.int j) = some (.int i) := by
      show ((some (decide (j < i))).map fun c => if c = true then V.int j else V.int i) = _
      rw [decide_eq_false h]
      rfl
    rw [e, if_neg h]
    show ((some (decide (k < i))).map fun c => if c = true then V.int k else V.int i) = _
    by_cases h2 : k < i
    · rw [decide_eq_true h2, if_pos h2]
      rfl
    · rw [decide_eq_false h2, if_neg h2]
      rfl
theorem sumC_nn : ∀ {t : Ct}, (∀ e ∈ t, 0 ≤ e.2) → 0 ≤ sumC t
  | [], _ => Int.le_refl _
  | e :: t, h => by
    rw [sumC_cons']
    have := h e List.mem_cons_self
    have := sumC_nn (t := t) fun f hf => h f (List.mem_cons_of_mem _ hf)
    omega
theorem gd_cons (e : Str × Int) (t : Ct) (k : Str) : gd (e :: t) k = if e.1 = k then e.2 else gd t k := by
  unfold gd
  rw [getZ_cons]
  split <;> rfl
theorem gd_out {t : Ct} {k : Str} (h : k ∉ t.map (·.1)) : gd t k = 0 := by
  unfold gd
  rw [getZ_none.mpr h]
  rfl
/-- without a name -/
def wo (n : Str) (t : Ct) : Ct := t.filter fun e => !decide (e.1 = n)
theorem wo_out {n : Str} : ∀ {t : Ct}, n ∉ t.map (·.1) → wo n t = t
  | [], _ => rfl
  | e :: t, h => by
    rw [List.map_cons, List.mem_cons, not_or] at h
    unfold wo
    rw [List.filter_cons_of_pos (by simpa using fun z => h.1 z.symm)]
    exact congrArg _ (wo_out (t := t) h.2)
theorem wo_sum {n : Str} : ∀ {t : Ct}, NdZ t → sumC (wo n t) = sumC t - gd t n
  | [], _ => by show (0 : Int) = 0 - 0; rfl
  | e :: t, nd => by
    unfold NdZ at nd
    rw [List.map_cons, List.nodup_cons] at nd
    by_cases h : e.1 = n
    · have hn : n ∉ t.map (·.1) := by rw [← h]; exact nd.1
      have : wo n (e :: t) = wo n t := by
        unfold wo
        rw [List.filter_cons_of_neg (by simp [h])]
      rw [this, wo_out hn, sumC_cons', gd_cons, if_pos h]
      omega
    · have : wo n (e :: t) = e :: wo n t := by
        unfold wo
        rw [List.filter_cons_of_pos (by simpa using h)]
      rw [this, sumC_cons', sumC_cons', gd_cons, if_neg h, wo_sum nd.2]
      omega
theorem wo_gd {n k : Str} (h : ¬ k = n) : ∀ t : Ct, gd (wo n t) k = gd t k
  | [] => rfl
  | e :: t => by
    by_cases hn : e.1 = n
    · have : wo n (e :: t) = wo n t := by
        unfold wo
        rw [List.filter_cons_of_neg (by simp [hn])]
      rw [this, gd_cons, if_neg (fun z => h (z.symm.trans hn)), wo_gd h t]
    · have : wo n (e :: t) = e :: wo n t := by
        unfold wo
        rw [List.filter_cons_of_pos (by simpa using hn)]
      rw [this, gd_cons, gd_cons, wo_gd h t]
theorem wo_nd {n : Str} {t : Ct} (nd : NdZ t) : NdZ (wo n t) := by
  unfold NdZ wo
  exact nd.sublist (List.Sublist.map _ List.filter_sublist)
theorem full_sum {o : Int} : ∀ {ns : List Str} {t : Ct}, ns.Nodup → NdZ t → (∀ e ∈ t, 0 ≤ e.2) → (∀ n ∈ ns, gd t n = o) → (ns.length : Int) * o ≤ sumC t
  | [], t, _, _, nn, _ => by
    have := sumC_nn nn
    show ((0 : Nat) : Int) * o ≤ _
    rw [Int.natCast_zero, Int.zero_mul]
    exact this
  | n :: ns, t, hn, nd, nn, h => by
    rw [List.nodup_cons] at hn
    have ih := full_sum (o := o) (ns := ns) (t := wo n t) hn.2 (wo_nd nd) (fun e he => nn e (List.mem_filter.mp he).1) fun k hk => by
      rw [wo_gd (n := n) (k := k) (fun z => hn.1 (by rw [← z]; exact hk)) t]
      exact h k (List.mem_cons_of_mem _ hk)
    rw [wo_sum nd, h n List.mem_cons_self] at ih
    show ((ns.length + 1 : Nat) : Int) * o ≤ sumC t
    push_cast
    rw [Int.add_mul, Int.one_mul]
    omega
theorem nodup_len : ∀ {l m : List Str}, l.Nodup → (∀ x ∈ l, x ∈ m) → l.length ≤ m.length
  | [], _, _, _ => Nat.zero_le _
  | x :: l, m, nd, h => by
    rw [List.nodup_cons] at nd
    have hx := h x List.mem_cons_self
    have ih := nodup_len (l := l) (m := m.erase x) nd.2 fun y hy => (List.mem_erase_of_ne (fun z => nd.1 (by rw [← z]; exact hy))).mpr (h y (List.mem_cons_of_mem _ hy))
    rw [List.length_erase_of_mem hx] at ih
    have := List.length_pos_of_mem hx
    show l.length + 1 ≤ m.length
    omega
/-- what is taken so far, and what is left -/
structure Tk (ns : List Str) (o lost : Int) (t : Ct) (left : Int) : Prop where
  nd : NdZ t
  ins : ∀ e ∈ t, e.1 ∈ ns
  nn : ∀ e ∈ t, 0 ≤ e.2
  le : ∀ k, gd t k ≤ o
  sum : left = lost - sumC t
  pos : 0 ≤ left
theorem gd_nn {t : Ct} (nn : ∀ e ∈ t, 0 ≤ e.2) (k : Str) : 0 ≤ gd t k := by
  unfold gd
  cases h : getZ t k with
  | none => exact Int.le_refl _
  | some v => exact nn _ (getZ_in h)
theorem Tk.zero {ns : List Str} {o lost : Int} (h0 : 0 ≤ o) (hl : 0 ≤ lost) : Tk ns o lost [] lost := ⟨List.nodup_nil, (fun _ h => nomatch h), (fun _ h => nomatch h), fun k => h0, by show lost = lost - 0; omega, hl⟩
theorem Tk.more {ns : List Str} {o lost : Int} {t : Ct} {left more : Int} {n : Str} (h : Tk ns o lost t left) (hn : n ∈ ns) (m0 : 0 ≤ more) (m1 : more ≤ left) (m2 : more ≤ o - gd t n) : Tk ns o lost (addZ t n more) (left - more) := by
  refine ⟨addZ_nd h.nd, fun e he => ?_, fun e he => ?_, fun k => ?_, ?_, by omega⟩
  · rcases putZ_mem he with he | rfl
    · exact h.ins e he
    · exact hn
  · rcases putZ_mem he with he | rfl
    · exact h.nn e he
    · have := gd_nn h.nn n
      unfold gd at this
      show 0 ≤ (getZ t n).getD 0 + more
      omega
  · rw [gd_add]
    have := h.le k
    by_cases e : k = n
    · rw [if_pos e, e]
      omega
    · rw [if_neg e]
      omega
  · rw [sumC_add h.nd, h.sum]
    omega
theorem Tk.len {ns : List Str} {o lost : Int} {t : Ct} {left : Int} (h : Tk ns o lost t left) : t.length ≤ ns.length := by
  have hs : (t.map (·.1)).length ≤ ns.length := by
    refine nodup_len h.nd fun k hk => ?_
    obtain ⟨e, he, rfl⟩ := List.mem_map.mp hk
    exact h.ins e he
  rw [List.length_map] at hs
  exact hs
theorem take0_gd {t : Ct} (nd : NdZ t) (nn : ∀ e ∈ t, 0 ≤ e.2) (k : Str) : gd (takeZ 0 t) k = gd t k := by
  unfold gd
  rw [getZ_take nd]
  cases h : getZ t k with
  | none => rfl
  | some v =>
    have := nn _ (getZ_in h)
    show ((if (0 : Int) < v then some (v - 0) else none).getD 0) = v
    have : (0 : Int) ≤ v := this
    split
    · show v - 0 = v; omega
    · show 0 = v; omega
theorem take0_sum : ∀ {t : Ct}, (∀ e ∈ t, 0 ≤ e.2) → sumC (takeZ 0 t) = sumC t
  | [], _ => rfl
  | e :: t, h => by
    have ih := take0_sum (t := t) fun f hf => h f (List.mem_cons_of_mem _ hf)
    have h0 := h e List.mem_cons_self
    by_cases hp : 0 < e.2
    · have : takeZ 0 (e :: t) = (e.1, e.2 - 0) :: takeZ 0 t := by
        unfold takeZ
        rw [List.filter_cons_of_pos (by simpa using hp)]
        rfl
      rw [this, sumC_cons', sumC_cons', ih]
      show e.2 - 0 + sumC t = _
      omega
    · have : takeZ 0 (e :: t) = takeZ 0 t := by
        unfold takeZ
        rw [List.filter_cons_of_neg (by simpa using hp)]
      rw [this, sumC_cons', ih]
      omega
/-- a truth of a sketch -/
structure TrOf (x : Tl) (ys : Ct) : Prop where
  asc : Asc ys
  nd : NdZ ys
  pos : ∀ e ∈ ys, 1 ≤ e.2
  nm : ∀ e ∈ ys, Nm e.1
  lo : ∀ k, gd x.c k ≤ gd ys k
  hi : ∀ k, gd ys k - gd x.c k ≤ x.o
  sum : sumC ys = x.m
theorem TrOf.of_taken {ns : List Str} {x : Tl} {r : Int} {t : Ct} (ok : TlOk r x) (h : Tk ns x.o (x.m - sumC x.c) t 0) (hn : ∀ n ∈ ns, Nm n) : TrOf x (takeZ 0 (srtZ (sumsZ t (srtZ x.c)))) := by
  have okS : TlOk r (skT x) := skT_ok ok
  have ndk : NdZ (srtZ x.c) := srtZ_nd ok.nd
  have nda : NdZ (sumsZ t (srtZ x.c)) := sumsZ_nd ndk
  have nds := srtZ_nd nda
  have sg : ∀ k, gd (srtZ x.c) k = gd x.c k := fun k => by
    unfold gd
    rw [getZ_perm (srtZ_perm x.c) ndk]
  have ga : ∀ k, gd (srtZ (sumsZ t (srtZ x.c))) k = gd x.c k + gd t k := fun k => by
    have : gd (srtZ (sumsZ t (srtZ x.c))) k = gd (sumsZ t (srtZ x.c)) k := by
      unfold gd
      rw [getZ_perm (srtZ_perm _) nds]
    rw [this, gd_sums h.nd, sg]
  have nn : ∀ e ∈ srtZ (sumsZ t (srtZ x.c)), 0 ≤ e.2 := fun e he => by
    have h1 : gd (srtZ (sumsZ t (srtZ x.c))) e.1 = e.2 := by
      unfold gd
      rw [getZ_mem nds he]
      rfl
    rw [ga] at h1
    have := gd_nn h.nn e.1
    have : 0 ≤ gd x.c e.1 := getZ_pos ok.pos
    omega
  refine ⟨takeZ_asc (srtZ_asc nda), takeZ_nd nds, takeZ_pos, takeZ_nm fun e he => ?_, fun k => ?_, fun k => ?_, ?_⟩
  · have he2 := (srtZ_perm _).mem_iff.mp he
    have gen : ∀ {more kvs : Ct}, (∀ e ∈ more, Nm e.1) → (∀ e ∈ kvs, Nm e.1) → ∀ e ∈ sumsZ more kvs, Nm e.1 := sumsZ_nm
    exact gen (fun e he => hn _ (h.ins e he)) okS.nm e he2
  · rw [take0_gd nds nn, ga]
    have := gd_nn h.nn k
    omega
  · rw [take0_gd nds nn, ga]
    have := h.le k
    omega
  · rw [take0_sum nn, sumC_perm' (srtZ_perm _), sumC_sums ndk, sumC_perm' (srtZ_perm x.c)]
    have := h.sum
    omega
end Kb

namespace Kb
open PySem PySem.Spec PyProof.Rows L2 SrtZ SrtO
section
variable {P : Program} {w : World} {K : PySem.W.Frag} {mg : Str → Option Value} {base : Heap}
theorem unlk {H H3 : Hp} {d : Addr} {u : HO} {od : Obj} (hd : H d = some u) (s : Same (upd H d (.frz od u)) H3) : Same H (upd H3 d u) := unlock_same hd s
/-! _law_lost -/
def spLost : Sp := fun vs H Q _ => ∃ (s : Addr) (r : Int) (x : Tl), vs = [.ref s] ∧ SkAt H s r x ∧ x.c.length ≤ 1000 ∧ ∀ H', Same H H' → Q (.int (x.m - sumC x.c)) H'
theorem ok_lost (T : Blt mg) (d : Dnlost K mg) : FnOk P w K mg base CX0 1 d.f d.fd ["_law_sketch_here"] spLost := by
  refine d.F.ok sclost (fun vs H Q E h => ?_) (fun cdv A outer s H vs Q E hr h => ?_)
  · obtain ⟨s, _, _, rfl, _⟩ := h
    rfl
  · obtain ⟨s, r, ⟨m, o, kvs0⟩, rfl, ⟨k, ts, hs0, hk, hp⟩, hl, q⟩ := h
    dsimp only at hs0 hp hl q
    have hs : SqT K H s [.int r, .int m, .int o, .ref k] := .inl (.inl hs0)
    have hl2 : (srtZ kvs0).length ≤ 1000 := by rw [(srtZ_perm kvs0).length_eq]; exact hl
    rw [← sumC_perm' (srtZ_perm kvs0)] at q
    generalize srtZ kvs0 = kvs at hp hl2 q
    refine ⟨_, (pss_one (ps_ret (pe_op op_sub (pe_ix ix_tup (pv 0) pe_int (fun _ _ => rfl)) (pe_callB (cr_sum rfl) (by rfl) T.n_sum (by decide +kernel) (pa_cons (pe_lc (own := [("_law_name", 1), ("_law_count", 2)]) (g := gTup K 2 (gCons (gName 1) (gCons (gName 2) gNil))) (tt := tYes) rfl sclost.nd (pi_tup (pe_ix ix_tup (pv 0) pe_int (fun _ _ => rfl))) (blkOk_by (N := Nlost) (sc := defScope slost) (by decide +kernel)) (fun _ _ _ _ _ => pg_tup (by rfl) (pgs_cons (pg_name (i := 1) sclost.nd rfl (Or.inl rfl)) (pgs_cons (pg_name (i := 2) sclost.nd rfl (Or.inl rfl)) pgs_nil))) (fun _ _ _ _ _ => pts_nil) (fun _ _ _ _ _ => (pv 2))) pa_nil))))), ?_⟩
    refine ⟨.ref s, rfl, s, _, _, _, rfl, rfl, hs, atI_nat (j := 1) rfl, .ref s, rfl, s, _, _, _, rfl, rfl, hs, atI_nat (j := 3) rfl, k, rfl, ⟨_, hk.seq⟩, fun D nD => lc_tup (xs := ts.map V.ref) (fun i H3 => Same H H3 ∧ H3 D = some (.lst ((kvs.take i).map fun e => V.int e.2))) ⟨same_upd nD, upd_same⟩ (fun i H3 _ h3 => (hk.same h3.1).seq) (fun i x H3 hx h3 => ?_) (fun H3 h3 => ?_)⟩
    · obtain ⟨t, ht, rfl⟩ := map_at hx
      obtain ⟨e, he, hat⟩ := paired_at hp ht
      refine ⟨t, _, rfl, .inl (.inl (h3.1 _ _ hat)), rfl, _, _, rfl, _, _, rfl, rfl, rfl, .int e.2, rfl, _, h3.2, ?_, fun b o z => ?_, ?_⟩
      · rw [List.length_map, List.length_take, sizeLine_eq]
        omega
      · rw [upd_ne (ne_of_none z nD)]
        exact h3.1 b o z
      · rw [upd_same, List.take_add_one, he, List.map_append]
        rfl
    · refine ⟨D, kvs.map (fun e : Str × Int => e.2), rfl, sql ?_, _, _, rfl, rfl, q H3 h3.1⟩
      rw [h3.2, List.length_map, Paired.length hp, List.take_length, List.map_map]
      rfl
/-! _law_truth -/
def spTruth : Sp := fun vs H Q _ => ∃ (a c s f : Addr) (r : Int) (x : Tl) (fs : List Str), vs = [.ref a, .ref s, .ref f] ∧ Wl a c H ∧ SkAt H s r x ∧ TlOk r x ∧ x.c.length ≤ 100 ∧ f ≠ a ∧ H f = some (.lst (fs.map V.str)) ∧ fs.length ≤ 700 ∧
  ((srtZ x.c).map (·.1) ++ fs).Nodup ∧ (∀ z ∈ fs, Nm z) ∧ 0 ≤ x.o ∧ x.o < 1000000000 ∧ 0 ≤ x.m - sumC x.c ∧ x.m - sumC x.c ≤ (((srtZ x.c).map (·.1) ++ fs).length : Nat) * x.o ∧
  ∀ H' k (ts : List Addr) (ys : Ct), Exw a H H' → Wl a c H' → H k = none → Ptp H' k (ts.map V.ref) → Paired (PrT H') ts ys → TrOf x ys → ys.length ≤ 900 → Q (.ref k) H'
theorem ok_truth (T : Blt mg) (ddraw : Dndraw K mg) (dany : Dnany K mg) (dlost : Dnlost K mg) (d : Dntruth K mg) : FnOk P w K mg base CX0 3 d.f d.fd ["_law_hand_here", "_law_sketch_here", "_law_fresh"] spTruth := by
  have Gdraw : FnOk P w K mg base CX0 1 ddraw.f ddraw.fd ["_law_hand_here", "_law_many"] spDraw := ok_draw T ddraw
  have Gany : FnOk P w K mg base CX0 2 dany.f dany.fd ["_law_hand_here", "_law_things"] spAny := ok_any T ddraw dany
  have Glost : FnOk P w K mg base CX0 1 dlost.f dlost.fd ["_law_sketch_here"] spLost := ok_lost T dlost
  refine d.F.ok sctruth (fun vs H Q E h => ?_) (fun cdv A outer s H vs Q E hr h => ?_)
  · obtain ⟨a, c, s, f, _, _, _, rfl, _⟩ := h
    rfl
  · obtain ⟨a, c, sk, f, r, x, fs, rfl, w0, hsk, ok, hxl, fa, hf, hfl, hnd, hfn, ho0, ho1, hl0, hl1, q⟩ := h
    have hu := hu_of hr
    have hnm : ∀ n ∈ (srtZ x.c).map (·.1) ++ fs, Nm n := fun n hn => by
      rcases List.mem_append.mp hn with hn | hn
      · obtain ⟨e, he, rfl⟩ := List.mem_map.mp hn
        exact (skT_ok ok).nm e he
      · exact hfn n hn
    have ofT : ∀ {t : Ct}, Tk ((srtZ x.c).map (·.1) ++ fs) x.o (x.m - sumC x.c) t 0 → TrOf x (takeZ 0 (srtZ (sumsZ t (srtZ x.c)))) := fun h => TrOf.of_taken ok h hnm
    have hkl : (srtZ x.c).length ≤ 100 := by rw [(srtZ_perm x.c).length_eq]; exact hxl
    refine ⟨_, (pss_cons (ps_set (i := 3) sctruth.nd rfl (Or.inl rfl) pe_dnewK)
    (pss_cons (ps_set (i := 4) sctruth.nd rfl (Or.inl rfl) (pe_call Glost (hr.mono (by omega)) (by rfl) dlost.g dlost.F.kp dlost.b .nil pass0 (pa_cons (pv 1) pa_nil)))
    (pss_cons (ps_set (i := 5) sctruth.nd rfl (Or.inl rfl) (pe_op op_cat (pe_lc (own := [("_law_name", 9), ("_law_count", 10)]) (g := gTup K 2 (gCons (gName 9) (gCons (gName 10) gNil))) (tt := tYes) rfl sctruth.nd (pi_tup (pe_ix ix_tup (pv 1) pe_int (fun _ _ => rfl))) (blkOk_by (N := Ntruth) (sc := defScope struth) (by decide +kernel)) (fun _ _ _ _ _ => pg_tup (by rfl) (pgs_cons (pg_name (i := 9) sctruth.nd rfl (Or.inl rfl)) (pgs_cons (pg_name (i := 10) sctruth.nd rfl (Or.inl rfl)) pgs_nil))) (fun _ _ _ _ _ => pts_nil) (fun _ _ _ _ _ => (pv 9))) (pv 2)))
    (pss_cons (ps_for PassesOwn.never rfl (pi_range1 (by rfl) T.n_range (pa_cons pe_int pa_nil)) (pg_name (i := 6) sctruth.nd rfl (Or.inl rfl))
      (pss_one (ps_if (pt_cmpR op_gt (pv 4) pe_int (nomark _))
        (pss_cons (ps_set (i := 9) sctruth.nd rfl (Or.inl rfl) (pe_call Gany (hr.mono (by omega)) (by rfl) dany.g dany.F.kp dany.b .nil pass0 (pa_cons (pv 0) (pa_cons (pv 5) pa_nil))))
        (pss_cons (ps_set (i := 7) sctruth.nd rfl (Or.inl rfl) (pe_callB (call_min3Nu rfl) (by rfl) T.n_min (by decide +kernel) (pa_cons (pv 4) (pa_cons (pe_op op_sub (pe_ix ix_tup (pv 1) pe_int (fun _ _ => rfl)) (pe_dget2 hu (pv 3) (pv 9) pe_int ⟨rfl, rfl, rfl, rfl⟩)) (pa_cons (pe_op op_add pe_int (pe_call Gdraw (hr.mono (by omega)) (by rfl) ddraw.g ddraw.F.kp ddraw.b .nil pass0 (pa_cons (pv 0) (pa_cons (pe_callB (call_max2 rfl) (by rfl) T.n_max (by decide +kernel) (pa_cons (pe_ix ix_tup (pv 1) pe_int (fun _ _ => rfl)) (pa_cons pe_int pa_nil))) pa_nil)))) pa_nil)))))
        (pss_cons (ps_dput hu (pv 3) (pv 9) (pe_op op_add (pe_dget2 hu (pv 3) (pv 9) pe_int ⟨rfl, rfl, rfl, rfl⟩) (pv 7)) rfl)
        (pss_one (ps_set (i := 4) sctruth.nd rfl (Or.inl rfl) (pe_op op_sub (pv 4) (pv 7)))))))
        pss_nil)))
    (pss_cons (ps_for PassesOwn.never rfl (pi_list (pv 5)) (pg_name (i := 9) sctruth.nd rfl (Or.inl rfl))
      (pss_cons (ps_set (i := 7) sctruth.nd rfl (Or.inl rfl) (pe_callB (call_min2 rfl) (by rfl) T.n_min (by decide +kernel) (pa_cons (pv 4) (pa_cons (pe_op op_sub (pe_ix ix_tup (pv 1) pe_int (fun _ _ => rfl)) (pe_dget2 hu (pv 3) (pv 9) pe_int ⟨rfl, rfl, rfl, rfl⟩)) pa_nil))))
      (pss_cons (ps_dput hu (pv 3) (pv 9) (pe_op op_add (pe_dget2 hu (pv 3) (pv 9) pe_int ⟨rfl, rfl, rfl, rfl⟩) (pv 7)) rfl)
      (pss_one (ps_set (i := 4) sctruth.nd rfl (Or.inl rfl) (pe_op op_sub (pv 4) (pv 7)))))))
    (pss_cons (ps_asg (pe_callTy (call_dictPT rfl) (by rfl) T.n_dict (by decide +kernel) (pa_cons (pe_ix ix_tup (pv 1) pe_int (fun _ _ => rfl)) pa_nil)) (pg_name (i := 8) sctruth.nd rfl (Or.inr rfl)))
    (pss_cons (ps_lock (ps_for PassesOwn.never rfl (pi_keys (pv 3)) (pg_name (i := 9) sctruth.nd rfl (Or.inl rfl))
      (pss_one (ps_dput hu (pv 8) (pv 9) (pe_op op_add (pe_dget2 hu (pv 8) (pv 9) pe_int ⟨rfl, rfl, rfl, rfl⟩) (pe_dget hu (pv 3) (pv 9) (fun _ _ => rfl))) rfl))))
    (pss_one (ps_ret (pe_callTy call_tupleF (by rfl) T.n_tuple (by decide +kernel) (pa_cons (pe_lc (own := [("_law_name", 9)]) (g := gName 9) rfl sctruth.nd (pi_list (pe_callB (cr_sortedDS rfl) (by rfl) T.n_sorted (by decide +kernel) (pa_cons (pv 8) pa_nil))) (blkOk_by (N := Ntruth) (sc := defScope struth) (by decide +kernel)) (fun _ _ _ _ _ => pg_name (i := 9) sctruth.nd rfl (Or.inl rfl)) (fun _ _ _ _ _ => pts_one (pt_cmpR op_gt (pe_dget hu (pv 8) (pv 9) (fun _ _ => rfl)) pe_int (nomark _))) (fun _ _ _ _ _ => (pe_tup (pa_cons (pv 9) (pa_cons (pe_dget hu (pv 8) (pv 9) (fun _ _ => rfl)) pa_nil))))) pa_nil))))))))))), ?_⟩
    -- taken
    intro tk ntk
    have tka := w0.ne2 ntk
    have s1 : Same H (upd H tk (.dK [])) := same_upd ntk
    have ht1 : (upd H tk (.dK [])) tk = some (.dK []) := upd_same
    generalize upd H tk (.dK []) = H1 at s1 ht1 ⊢
    refine ⟨.ref sk, rfl, sk, r, x, rfl, hsk.same s1, by omega, fun H2 s2 => ?_⟩
    have s02 := s1.trans s2
    have ht2 := s2 _ _ ht1
    have hsk2 := hsk.same s02
    obtain ⟨k, ts, hs0, hk, hp⟩ := id hsk2
    obtain ⟨m, o, kvs0⟩ := x
    dsimp only at *
    generalize hkv : srtZ kvs0 = kvs at hp hnd hnm ofT hkl hl1
    generalize hlost : m - sumC kvs0 = lost at hl0 hl1 ofT ⊢
    -- names
    refine ⟨.ref sk, rfl, sk, _, _, _, rfl, rfl, .inl (.inl hs0), atI_nat (j := 3) rfl, k, rfl, ⟨_, hk.seq⟩, fun D nD => ?_⟩
    refine lc_tup (xs := ts.map V.ref) (fun i H3 => Same H2 H3 ∧ H3 D = some (.lst ((kvs.take i).map fun e => V.str e.1))) ⟨same_upd nD, upd_same⟩ (fun i H3 _ h3 => (hk.same h3.1).seq) (fun i x H3 hx h3 => ?_) (fun H3 h3 => ?_)
    · obtain ⟨t, ht, rfl⟩ := map_at hx
      obtain ⟨e, he, hat⟩ := paired_at hp ht
      refine ⟨t, _, rfl, .inl (.inl (h3.1 _ _ hat)), rfl, _, _, rfl, _, _, rfl, rfl, rfl, .str e.1, rfl, _, h3.2, ?_, Same.put h3.1 nD, ?_⟩
      · rw [List.length_map, List.length_take, sizeLine_eq]
        omega
      · rw [upd_same, List.take_add_one, he, List.map_append]
        rfl
    obtain ⟨s3, hD3⟩ := h3
    rw [List.length_map, Paired.length hp, List.take_length] at hD3
    have s03 := s02.trans s3
    refine ⟨.ref f, rfl, D, f, _, _, rfl, rfl, hD3, s03 _ _ hf, (by rw [List.length_map, List.length_map, sizeLine_eq]; omega), fun Nl nN => ?_⟩
    rw [show (kvs.map fun e => V.str e.1) ++ fs.map V.str = (kvs.map (·.1) ++ fs).map V.str by rw [List.map_append, List.map_map]; rfl]
    generalize hns : kvs.map (·.1) ++ fs = ns at hnd hnm ofT hl1 ⊢
    have nsl : ns.length ≤ 800 := by rw [← hns, List.length_append, List.length_map]; omega
    have hN4 : (upd H3 Nl (.lst (ns.map V.str))) Nl = some (.lst (ns.map V.str)) := upd_same
    have s34 := same_upd (o := .lst (ns.map V.str)) nN
    have s04 := s03.trans s34
    have ht4 := s34 _ _ (s3 _ _ ht2)
    have Na := (w0.same s03).ne2 nN
    generalize upd H3 Nl (.lst (ns.map V.str)) = H4 at hN4 s34 s04 ht4 ⊢
    have w4 := w0.same s04
    -- the first loop
    refine ⟨400, rfl, by decide, by decide, ?_⟩
    refine for_range (lo := 0) (n := 400) (fun i σ H5 => ∃ (t : Ct) (left : Int) (y6 y7 y9 y10 : Option V), σ = [some (.ref a), some (.ref sk), some (.ref f), some (.ref tk), some (.int left), some (.ref Nl), y6, y7, none, y9, y10] ∧ Exw a H H5 ∧ Wl a c H5 ∧ H5 Nl = some (.lst (ns.map V.str)) ∧ H5 tk = some (.dK (t.map entZ)) ∧ Tk ns o lost t left)
      ⟨[], lost, none, none, none, none, rfl, Same.exw s04, w4, hN4, ht4, Tk.zero ho0 hl0⟩ ?_ ?_
    · rintro i σ H5 hi ⟨t, left, y6, y7, y9, y10, rfl, x5, w5, hN5, ht5, tkk⟩
      refine ⟨.int left, rfl, _, _, rfl, rfl, _, rfl, ite2 (fun hgt => ?_) fun _ => ⟨t, left, _, _, _, _, rfl, x5, w5, hN5, ht5, tkk⟩⟩
      have hgt : 0 < left := of_decide_eq_true hgt
      have o1 : 1 ≤ o := by
        by_cases h : 1 ≤ o
        · exact h
        · have : o = 0 := by omega
          rw [this, Int.mul_zero] at hl1
          have := tkk.sum
          have := sumC_nn tkk.nn
          omega
      have nl0 : 0 < ns.length := by
        cases ns with
        | nil =>
          exfalso
          have h0 : ((([] : List Str).length : Nat) : Int) * o = 0 := by show ((0 : Nat) : Int) * o = 0; rw [Int.natCast_zero, Int.zero_mul]
          rw [h0] at hl1
          have := tkk.sum
          have := sumC_nn tkk.nn
          omega
        | cons => exact Nat.succ_pos _
      refine ⟨.ref a, rfl, .ref Nl, rfl, a, c, Nl, ns.map V.str, rfl, w5, Na.1, hN5, (by rw [List.length_map]; exact nl0), (by rw [List.length_map]; omega), fun H6 v x6 w6 hv => ?_⟩
      obtain ⟨n, hn, rfl⟩ := List.mem_map.mp hv
      have ht6 := x6 _ _ tka.1 ht5
      have hN6 := x6 _ _ Na.1 hN5
      have x06 := x5.trans x6
      have hsk6 : SqT K H6 sk [.int r, .int m, .int o, .ref k] := .inl (.inl (by
        obtain ⟨k0, ts0, hs00, _, _⟩ := hsk
        have e1 := s02 _ _ hs00
        rw [hs0] at e1
        cases e1
        exact x06.at w0 hs00 (by intro _ z; cases z)))
      have tl := tkk.len
      refine ⟨.int left, rfl, .ref sk, rfl, sk, _, _, _, rfl, rfl, hsk6, atI_nat (j := 2) rfl, .ref tk, rfl, tk, rfl, .inl ⟨_, .inl ht6⟩, .str n, rfl, _, DGet.k (k := Sum.inr n) ht6, o, gd t n, rfl, ?_, ?_⟩
      · rw [getZ_val]
        unfold gd
        cases getZ t n <;> rfl
      refine ⟨.ref a, rfl, .ref sk, rfl, sk, _, _, _, rfl, rfl, hsk6, atI_nat (j := 2) rfl, o, 1, rfl, a, c, _, rfl, w6, ?_, ?_, fun H7 dd x7 w7 d0 d1 => ⟨_, _, rfl, rfl, ?_⟩⟩
      · split <;> omega
      · split <;> omega
      refine ⟨.int left, .int (o - gd t n), .int (1 + dd), .int (min3 left (o - gd t n) (1 + dd)), rfl, nuMin3_int _ _ _, ?_⟩
      have g1 := tkk.le n
      have m0 : 0 ≤ min3 left (o - gd t n) (1 + dd) := by unfold min3; split <;> (try split) <;> omega
      have m1 : min3 left (o - gd t n) (1 + dd) ≤ left := by unfold min3; split <;> (try split) <;> omega
      have m2 : min3 left (o - gd t n) (1 + dd) ≤ o - gd t n := by unfold min3; split <;> (try split) <;> omega
      generalize min3 left (o - gd t n) (1 + dd) = mm at m0 m1 m2 ⊢
      have ht7 := x7 _ _ tka.1 ht6
      have hN7 := x7 _ _ Na.1 hN6
      refine ⟨.ref tk, rfl, tk, rfl, .inl ⟨_, .inl ht7⟩, .str n, rfl, _, DGet.k (k := Sum.inr n) ht7, ?_⟩
      rw [getZ_val]
      refine ⟨.int mm, rfl, (getZ t n).getD 0, mm, ?_, rfl, ?_⟩
      · cases getZ t n <;> rfl
      refine ⟨.ref tk, rfl, .str n, rfl, tk, _, rfl, DPut.k (k := Sum.inr n) ht7 (by rw [List.length_map, sizeLine_eq]; omega), ?_⟩
      rw [putZ_put]
      refine ⟨.int left, rfl, .int mm, rfl, _, _, rfl, rfl, addZ t n mm, left - mm, _, _, _, _, rfl, (x06.trans x7).put ntk, w7.put tka, ?_, upd_same, tkk.more hn m0 m1 m2⟩
      rw [upd_ne (ne_of hN7 ht7 (by intro z; cases z))]
      exact hN7
    rintro σ H5 ⟨t5, left5, y6, y7, y9, y10, rfl, x5, w5, hN5, ht5, tkk5⟩
    -- the second loop
    refine ⟨.ref Nl, rfl, Nl, rfl, ⟨_, sql hN5⟩, ?_⟩
    refine for_list (xs := ns.map V.str) (fun i σ H6 => ∃ (t : Ct) (left : Int) (y6 y7 y9 y10 : Option V), σ = [some (.ref a), some (.ref sk), some (.ref f), some (.ref tk), some (.int left), some (.ref Nl), y6, y7, none, y9, y10] ∧ Exw a H H6 ∧ Wl a c H6 ∧ H6 Nl = some (.lst (ns.map V.str)) ∧ H6 tk = some (.dK (t.map entZ)) ∧ Tk ns o lost t left ∧ (left = 0 ∨ ∀ n ∈ ns.take i, gd t n = o))
      ⟨t5, left5, _, _, _, _, rfl, x5, w5, hN5, ht5, tkk5, .inr fun _ h => nomatch h⟩ (fun i σ H6 _ ⟨_, _, _, _, _, _, _, _, _, h, _⟩ => sql h) ?_ ?_
    · rintro i v σ H6 hi ⟨t, left, y6, y7, y9, y10, rfl, x6, w6, hN6, ht6, tkk, hful⟩
      obtain ⟨n, hn, rfl⟩ := map_at hi
      have hnm2 : n ∈ ns := List.mem_of_getElem? hn
      have hsk6 : SqT K H6 sk [.int r, .int m, .int o, .ref k] := .inl (.inl (by
        obtain ⟨k0, ts0, hs00, _, _⟩ := hsk
        have e1 := s02 _ _ hs00
        rw [hs0] at e1
        cases e1
        exact x6.at w0 hs00 (by intro _ z; cases z)))
      have tl := tkk.len
      refine ⟨.int left, rfl, .ref sk, rfl, sk, _, _, _, rfl, rfl, hsk6, atI_nat (j := 2) rfl, .ref tk, rfl, tk, rfl, .inl ⟨_, .inl ht6⟩, .str n, rfl, _, DGet.k (k := Sum.inr n) ht6, o, gd t n, rfl, ?_, ?_⟩
      · rw [getZ_val]
        unfold gd
        cases getZ t n <;> rfl
      refine ⟨left, o - gd t n, rfl, ?_⟩
      have g1 := tkk.le n
      have p0 := tkk.pos
      have m0 : 0 ≤ (if o - gd t n < left then o - gd t n else left) := by split <;> omega
      have m1 : (if o - gd t n < left then o - gd t n else left) ≤ left := by split <;> omega
      have m2 : (if o - gd t n < left then o - gd t n else left) ≤ o - gd t n := by split <;> omega
      have m3 : left - (if o - gd t n < left then o - gd t n else left) = 0 ∨ (if o - gd t n < left then o - gd t n else left) = o - gd t n := by split <;> omega
      generalize (if o - gd t n < left then o - gd t n else left) = mm at m0 m1 m2 m3 ⊢
      refine ⟨.ref tk, rfl, tk, rfl, .inl ⟨_, .inl ht6⟩, .str n, rfl, _, DGet.k (k := Sum.inr n) ht6, ?_⟩
      rw [getZ_val]
      refine ⟨.int mm, rfl, (getZ t n).getD 0, mm, ?_, rfl, ?_⟩
      · cases getZ t n <;> rfl
      refine ⟨.ref tk, rfl, .str n, rfl, tk, _, rfl, DPut.k (k := Sum.inr n) ht6 (by rw [List.length_map, sizeLine_eq]; omega), ?_⟩
      rw [putZ_put]
      refine ⟨.int left, rfl, .int mm, rfl, _, _, rfl, rfl, addZ t n mm, left - mm, _, _, _, _, rfl, x6.put ntk, w6.put tka, ?_, upd_same, tkk.more hnm2 m0 m1 m2, ?_⟩
      · rw [upd_ne (ne_of hN6 ht6 (by intro z; cases z))]
        exact hN6
      · rcases hful with h0 | hful
        · exact .inl (by omega)
        · rcases m3 with h0 | hm
          · exact .inl h0
          · refine .inr fun z hz => ?_
            rw [List.take_add_one, hn] at hz
            rw [gd_add]
            by_cases e : z = n
            · rw [if_pos e, e]
              omega
            · rw [if_neg e, Int.add_zero]
              rcases List.mem_append.mp hz with hz | hz
              · exact hful z hz
              · exact absurd (List.mem_singleton.mp (by simpa using hz)) e
    rintro σ H6 ⟨t, left, y6, y7, y9, y10, rfl, x6, w6, hN6, ht6, tkk, hful⟩
    rw [List.length_map, List.take_length] at hful
    have hleft : left = 0 := by
      rcases hful with h0 | hful
      · exact h0
      · have := full_sum hnd tkk.nd tkk.nn hful
        have h1 := tkk.sum
        have h2 := tkk.pos
        omega
    subst hleft
    have tr := ofT tkk
    have tl := tkk.len
    -- counts
    have hsk6 : SkAt H6 sk r ⟨m, o, kvs0⟩ := by
      obtain ⟨k0, ts0, hs00, hk00, hp00⟩ := hsk
      refine ⟨k0, ts0, x6.at w0 hs00 (by intro _ z; cases z), ?_, paired_imp (fun t e ht => x6.at w0 ht (by intro _ z; cases z)) hp00⟩
      obtain ⟨ob, g1, g2⟩ := hk00
      exact ⟨ob, x6.at w0 g1 (by intro _ z; cases z), g2⟩
    obtain ⟨k6, ts6, h6s, hk6, hp6⟩ := hsk6
    dsimp only at h6s hp6
    rw [hkv] at hp6
    have ndk : NdZ kvs := by rw [← hkv]; exact srtZ_nd ok.nd
    refine ⟨.ref sk, rfl, sk, _, _, _, rfl, rfl, .inl (.inl h6s), atI_nat (j := 3) rfl, k6, ts6, kvs.map entZ, rfl, hk6, ents_paired (paired_imp (fun t e h => .inl (.inl h)) hp6), fun p np => ?_⟩
    have em : mergeK [] (kvs.map entZ) = kvs.map entZ := mergeZ kvs [] (by rw [List.nil_append]; exact ndk)
    rw [em]
    have pa := w6.ne2 np
    have np0 : H p = none := x6.gone pa.1 np
    have s67 := same_upd (o := .dK (kvs.map entZ)) np
    have hp7 : (upd H6 p (.dK (kvs.map entZ))) p = some (.dK (kvs.map entZ)) := upd_same
    generalize upd H6 p (.dK (kvs.map entZ)) = H7 at s67 hp7 ⊢
    have x7 := x6.same s67
    have w7 := w6.same s67
    have ht7 := s67 _ _ ht6
    refine ⟨tk, _, ht7, trivial, fun od => ?_⟩
    have ptk : p ≠ tk := (ne_of_none ht6 np).symm
    have hlt : (upd H7 tk (.frz od (.dK (t.map entZ)))) tk = some (.frz od (.dK (t.map entZ))) := upd_same
    have hpl : (upd H7 tk (.frz od (.dK (t.map entZ)))) p = some (.dK (kvs.map entZ)) := by rw [upd_ne ptk]; exact hp7
    have back : ∀ {H3 : Hp}, (∀ b u, b ≠ p → (upd H7 tk (.frz od (.dK (t.map entZ)))) b = some u → H3 b = some u) → ∀ b u, b ≠ p → H7 b = some u → (upd H3 tk (.dK (t.map entZ))) b = some u := fun {H3} k3 b u nb e => by
      by_cases hb : b = tk
      · subst hb
        rw [ht7] at e
        cases e
        exact upd_same
      · rw [upd_ne hb]
        refine k3 b u nb ?_
        rw [upd_ne hb]
        exact e
    generalize upd H7 tk (.frz od (.dK (t.map entZ))) = Hl at hlt hpl back ⊢
    refine ⟨.ref tk, rfl, tk, od, rfl, .inl ⟨_, hlt, ?_⟩⟩
    have tl2 : t.length ≤ 800 := by omega
    refine for_it (walk_keys (kvs := t.map entZ)) (fun i σ H3 => ∃ y9 : Option V, σ = [some (.ref a), some (.ref sk), some (.ref f), some (.ref tk), some (.int 0), some (.ref Nl), y6, y7, some (.ref p), y9, y10] ∧ (∀ b u, b ≠ p → Hl b = some u → H3 b = some u) ∧ H3 p = some (.dK ((sumsZ (t.take i) kvs).map entZ)))
      ⟨_, rfl, fun _ _ _ e => e, hpl⟩ (fun i σ H3 _ h3 => by
        obtain ⟨_, _, h, _⟩ := h3
        exact h _ _ ptk.symm hlt) ?_ ?_
    · rintro i v σ H2' H3 hi ⟨y9', rfl, k3, hp3⟩ ⟨rfl, kk, v', hkv', rfl⟩
      obtain ⟨e, he, hkv2⟩ := map_at hkv'
      cases hkv2
      have ll := sumsZ_len (more := t.take i) (kvs := kvs)
      rw [List.length_take] at ll
      have dg : DGet H3 tk (.str e.1) (some (.int e.2)) := .inl ⟨t.map entZ, Sum.inr e.1, .inr ⟨od, k3 _ _ ptk.symm hlt⟩, rfl, by
        rw [getZ_val, getZ_self tkk.nd he]
        rfl⟩
      refine ⟨.ref p, rfl, p, rfl, .inl ⟨_, .inl hp3⟩, .str e.1, rfl, _, DGet.k (k := Sum.inr e.1) hp3, ?_⟩
      rw [getZ_val]
      refine ⟨.ref tk, rfl, .str e.1, rfl, tk, .int e.2, rfl, dg, (getZ (sumsZ (t.take i) kvs) e.1).getD 0, e.2, ?_, rfl, ?_⟩
      · cases getZ (sumsZ (t.take i) kvs) e.1 <;> rfl
      refine ⟨.ref p, rfl, .str e.1, rfl, p, _, rfl, DPut.k (k := Sum.inr e.1) hp3 (by rw [List.length_map, sizeLine_eq]; omega), ?_⟩
      rw [putZ_put]
      refine ⟨_, rfl, fun b u n e' => by rw [upd_ne n]; exact k3 b u n e', ?_⟩
      rw [upd_same, sumsZ_snoc he]
      rfl
    rintro σ H3' ⟨y9', rfl, k3, hp3⟩
    rw [List.length_map, List.take_length] at hp3
    refine ⟨k3 _ _ ptk.symm hlt, ?_⟩
    have k8 := back k3
    have hp8 : (upd H3' tk (.dK (t.map entZ))) p = some (.dK ((sumsZ t kvs).map entZ)) := by rw [upd_ne ptk]; exact hp3
    generalize upd H3' tk (.dK (t.map entZ)) = H8 at k8 hp8 ⊢
    have x8 : Exw a H H8 := fun b u nb e => by
      have hb : b ≠ p := ne_of_none e np0
      exact k8 b u hb (x7 b u nb e)
    have w8 : Wl a c H8 := by
      obtain ⟨n1, ns', i, u, s', t', e1, e2, rr⟩ := w7
      exact ⟨n1, ns', i, u, s', t', k8 _ _ pa.1.symm e1, k8 _ _ pa.2.symm e2, rr⟩
    have nda := sumsZ_nd (more := t) (kvs := kvs) ndk
    have lla := sumsZ_len (more := t) (kvs := kvs)
    generalize sumsZ t kvs = all at hp8 nda lla tr
    refine ⟨.ref p, rfl, p, _, all.map (·.1), rfl, hp8, keys_inr all, fun ss l2 pms sos nl2 => ?_⟩
    have ey := srt_names nda pms sos
    have s89 := same_upd (o := .lst (ss.map V.str)) nl2
    have hl9 : (upd H8 l2 (.lst (ss.map V.str))) l2 = some (.lst (ss.map V.str)) := upd_same
    have hp9 := s89 _ _ hp8
    have w9 := w8.same s89
    have x9 := x8.same s89
    generalize upd H8 l2 (.lst (ss.map V.str)) = H9 at hl9 hp9 w9 x9 ⊢
    have hsl : ss.length = all.length := by rw [pms.length_eq, List.length_map]
    refine ⟨l2, rfl, ⟨_, sql hl9⟩, fun D2 nD2 => ?_⟩
    refine lc_list (xs := ss.map V.str) (fun i H3 => Same H9 H3 ∧ ∃ us : List Addr, H3 D2 = some (.lst (us.map V.ref)) ∧ us.length ≤ i ∧ Paired (PrT H3) us (takeZ 0 ((srtZ all).take i)))
      ⟨same_upd nD2, [], upd_same, Nat.zero_le _, .nil⟩ (fun i H3 _ h3 => sql (h3.1 _ _ hl9)) (fun i x H3 hx h3 => ?_) (fun H3 h3 => ?_)
    · obtain ⟨z, hz, rfl⟩ := map_at hx
      obtain ⟨s3, us, hD, hul, hpr⟩ := h3
      have he : (srtZ all)[i]? = some (z, gd all z) := by
        rw [← ey, List.getElem?_map, hz]
        rfl
      have hmem : z ∈ all.map (·.1) := pms.mem_iff.mp (List.mem_of_getElem? hz)
      have dg : ∀ {H4 : Hp}, Same H3 H4 → DGet H4 p (.str z) (some (.int (gd all z))) := fun s34 => .inl ⟨all.map entZ, Sum.inr z, .inl (s34 _ _ (s3 _ _ hp9)), rfl, by
        rw [getZ_val]
        unfold gd
        cases hg : getZ all z with
        | none => exact absurd hmem (getZ_none.mp hg)
        | some v => rfl⟩
      refine ⟨rfl, .ref p, rfl, .str z, rfl, p, .int (gd all z), rfl, dg (Same.refl H3), _, _, rfl, rfl, _, rfl, ite2 (fun hg9 => ?_) fun hg9 => ?_⟩
      · have hg9 := of_decide_eq_true hg9
        refine ⟨.str z, rfl, .ref p, rfl, .str z, rfl, p, .int (gd all z), rfl, dg (Same.refl H3), (by show 2 ≤ sizeLine; decide), fun tt nt => ?_⟩
        have Dp : D2 ≠ tt := ne_of_none hD nt
        refine ⟨_, by rw [upd_ne Dp]; exact hD, ?_, Same.put (Same.new s3 nt) nD2, us ++ [tt], by rw [upd_same, List.map_append]; rfl, by rw [List.length_append, List.length_singleton]; omega, ?_⟩
        · have := (List.getElem?_eq_some_iff.mp hz).1
          rw [List.length_map, sizeLine_eq]
          omega
        · rw [List.take_add_one, he]
          show Paired _ _ (takeZ 0 ((srtZ all).take i ++ [(z, gd all z)]))
          rw [takeZ_snoc, if_pos (show 0 < gd all z by exact hg9)]
          refine paired_snoc (paired_imp (fun t e' ht => ?_) hpr) ?_
          · show _ = _
            rw [upd_ne (ne_of ht hD (by intro z; cases z)), upd_ne (ne_of_none ht nt)]
            exact ht
          · show _ = _
            rw [upd_ne Dp.symm]
            show _ = some (HO.tup [V.str z, V.int (gd all z - 0)])
            rw [Int.sub_zero]
            exact upd_same
      · have hg9 : ¬ 0 < gd all z := fun z => hg9 (decide_eq_true z)
        refine ⟨s3, us, hD, by omega, ?_⟩
        rw [List.take_add_one, he]
        show Paired _ _ (takeZ 0 ((srtZ all).take i ++ [(z, gd all z)]))
        rw [takeZ_snoc, if_neg hg9, List.append_nil]
        exact hpr
    · obtain ⟨s3, us, hD, hul, hpr⟩ := h3
      rw [show (srtZ all).take (ss.map V.str).length = srtZ all by rw [List.length_map, hsl, ← (srtZ_perm all).length_eq, List.take_length]] at hpr
      refine ⟨D2, _, rfl, sql hD, fun kk ob nkk ho => ?_⟩
      have sc : Same H3 (upd H3 kk (.frz ob (.tup (us.map V.ref)))) := same_upd nkk
      have hl4 : (takeZ 0 (srtZ all)).length ≤ 900 := by
        have := takeZ_len (a := 0) (kvs := srtZ all)
        rw [(srtZ_perm all).length_eq] at this
        omega
      exact q _ kk us _ ((x9.same s3).same sc) ((w9.same s3).same sc) ((x9.same s3).gone ((w9.same s3).ne2 nkk).1 nkk) ⟨ob, upd_same, ho⟩ (paired_imp (fun t e h => sc _ _ h) hpr) tr hl4
end
end Kb

namespace Kb
open PySem PySem.Spec PyProof.Rows L2 SrtZ SrtO
abbrev Nis_truth : List Str := ["_law_sketch", "_law_thing", "_law_counts", "_law_kept", "_law_taken", "_law_name", "_law_one"]
theorem dg_open {H : Hp} {d : Addr} {kvs : Ct} (h : H d = some (.dK (kvs.map entZ))) (n : Str) : DGet H d (.str n) ((getZ kvs n).map V.int) := by
  rw [← getZ_val]
  exact DGet.k (k := Sum.inr n) h
theorem dg_lock {H : Hp} {d : Addr} {kvs : Ct} {od : Obj} (h : H d = some (.frz od (.dK (kvs.map entZ)))) (n : Str) : DGet H d (.str n) ((getZ kvs n).map V.int) := by
  rw [← getZ_val]
  exact .inl ⟨kvs.map entZ, Sum.inr n, .inr ⟨od, h⟩, rfl, rfl⟩
/-- with all kept names among them, the sum of what is taken is what is lost -/
theorem taken_sum {ks : Ct} (ndk : NdZ ks) : ∀ {ys : Ct}, NdZ ys → (∀ e ∈ ks, e.1 ∈ ys.map (·.1)) → (ys.map fun e => e.2 - gd ks e.1).sum = sumC ys - sumC ks
  | [], _, h => by
    have : ks = [] := by
      cases ks with
      | nil => rfl
      | cons e r => exact absurd (h e List.mem_cons_self) (by simp)
    rw [this]
    rfl
  | y :: ys, nd, h => by
    unfold NdZ at nd
    rw [List.map_cons, List.nodup_cons] at nd
    have ih := taken_sum (ks := wo y.1 ks) (wo_nd ndk) (ys := ys) nd.2 fun e he => by
      obtain ⟨h1, h2⟩ := List.mem_filter.mp he
      have h3 : ¬ e.1 = y.1 := by simpa using h2
      rcases List.mem_cons.mp (h e h1) with h4 | h4
      · exact absurd h4 h3
      · exact h4
    have hc : (ys.map fun e => e.2 - gd ks e.1) = ys.map fun e => e.2 - gd (wo y.1 ks) e.1 := by
      refine List.map_congr_left fun e he => ?_
      rw [wo_gd (n := y.1) (k := e.1) (fun z => nd.1 (by rw [← z]; exact List.mem_map.mpr ⟨e, he, rfl⟩)) ks]
    rw [List.map_cons, List.sum_cons, hc, ih, wo_sum ndk, sumC_cons']
    omega
section
variable {P : Program} {w : World} {K : PySem.W.Frag} {mg : Str → Option Value} {base : Heap}
/-! _law_is_truth -/
end
end Kb

namespace Kb
open PySem PySem.Spec PyProof.Rows L2 SrtZ SrtO FlX LamX RZ
theorem gd_srt {kvs : Ct} (nd : NdZ kvs) (k : Str) : gd (srtZ kvs) k = gd kvs k := by
  unfold gd
  rw [getZ_perm (srtZ_perm kvs) (srtZ_nd nd)]
theorem sum_zero : ∀ {d : Ct}, (∀ e ∈ d, e.2 = 0) → sumC d = 0
  | [], _ => rfl
  | e :: d, h => by
    rw [sumC_cons', h e List.mem_cons_self, sum_zero fun x hx => h x (List.mem_cons_of_mem _ hx)]
    rfl
theorem sum_pos : ∀ {d : Ct}, (∀ e ∈ d, 0 ≤ e.2) → sumC (d.filter fun e => decide (0 < e.2)) = sumC d
  | [], _ => rfl
  | e :: d, h => by
    have ih := sum_pos fun x hx => h x (List.mem_cons_of_mem e hx)
    have h0 := h e List.mem_cons_self
    by_cases hk : 0 < e.2
    · rw [List.filter_cons_of_pos (by simpa using hk), sumC_cons', sumC_cons', ih]
    · rw [List.filter_cons_of_neg (by simpa using hk), sumC_cons', ih]
      omega
theorem len_le_sum : ∀ {k : Ct}, (∀ e ∈ k, 1 ≤ e.2) → (k.length : Int) ≤ sumC k
  | [], _ => Int.le_refl _
  | e :: k, h => by
    have := h e List.mem_cons_self
    have := len_le_sum (k := k) fun x hx => h x (List.mem_cons_of_mem _ hx)
    rw [sumC_cons', List.length_cons]
    push_cast
    omega
theorem TruZ.of {x : Tl} {T : Ct} (ok : TlOk r x) (t : TruZ (srtZ x.c) x.m x.o T) (nm : ∀ e ∈ T, Nm e.1) : TrOf x (srtZ T) := by
  have p := srtZ_perm T
  have g : ∀ k, gd (srtZ T) k = gd T k := gd_srt t.nd
  have gx : ∀ k, gd (srtZ x.c) k = gd x.c k := gd_srt ok.nd
  refine ⟨srtZ_asc t.nd, srtZ_nd t.nd, fun e he => t.pos e (p.mem_iff.mp he), fun e he => nm e (p.mem_iff.mp he), fun k => ?_, fun k => ?_, ?_⟩
  · have := t.lo k
    rw [gx] at this
    rw [g]
    exact this
  · have := t.hi k
    rw [gx] at this
    rw [g]
    exact this
  · rw [sumC_perm' p]
    exact t.sum
theorem TrOf.tz {x : Tl} {ys : Ct} (ok : TlOk r x) (t : TrOf x ys) : TruZ (srtZ x.c) x.m x.o ys := by
  have gx : ∀ k, gd (srtZ x.c) k = gd x.c k := gd_srt ok.nd
  refine ⟨t.nd, t.pos, fun k => ?_, fun k => ?_, t.sum⟩
  · rw [gx]
    exact t.lo k
  · rw [gx]
    exact t.hi k
structure TupC (H : Hp) (k : Addr) (ys : Ct) : Prop where
  ob : ∃ us : List Addr, Ptp H k (us.map V.ref) ∧ Paired (PrT H) us ys
theorem TupC.same {H H' : Hp} {k : Addr} {ys : Ct} (h : TupC H k ys) (s : Same H H') : TupC H' k ys := by
  obtain ⟨us, h1, h2⟩ := h.ob
  exact ⟨us, h1.same s, prt_same h2 s⟩
theorem asc_strs : ∀ {ys : List Str}, Srtd ltZ ys → ys.Nodup → ys.Pairwise fun a b => ltZ a b = true
  | [], _, _ => .nil
  | y :: ys, h, nd => by
    have h' := List.pairwise_cons.mp h
    rw [List.nodup_cons] at nd
    refine .cons (fun b hb => ?_) (asc_strs h'.2 nd.2)
    cases hx : ltZ y b with
    | true => rfl
    | false => exact absurd (ltZ_tri hx (h'.1 b hb)) fun e => nd.1 (by rw [e]; exact hb)
section
variable {K : PySem.W.Frag} {a c P : Addr} {H H' : Hp} {q : Str}
theorem tabS_exw (T : TabS H P q) (x : Exw a H H') (w : Wl a c H) : TabS H' P q := by
  obtain ⟨ps, h, tr, hc⟩ := T
  refine ⟨ps, x.at w h (by intro _ z; cases z), tr, fun pos cv e => ?_⟩
  obtain ⟨d, e1, e2⟩ := hc pos cv e
  exact ⟨d, e1, x.at w e2 (by intro _ z; cases z)⟩
theorem Wl.ext (w : Wl a c H) (T : TabS H P q) (x : ExT P q H H') : Wl a c H' := by
  obtain ⟨ac, ns, i, u, s, t, e1, e2, r⟩ := w
  exact ⟨ac, ns, i, u, s, t, x.at T e1 (by intro _ z; cases z), x.at T e2 (by intro _ z; cases z), r⟩
theorem SkAt.extT {s : Addr} {r : Int} {y : Tl} (h : SkAt H s r y) (T : TabS H P q) (x : ExT P q H H') : SkAt H' s r y := by
  obtain ⟨k, ts, h1, ⟨o, h2, d⟩, h3⟩ := h
  exact ⟨k, ts, x.at T h1 (by intro _ z; cases z), ⟨o, x.at T h2 (by intro _ z; cases z), d⟩, paired_imp (fun t y ht => x.at T ht (by intro _ z; cases z)) h3⟩
theorem SkAt.exw {s : Addr} {r : Int} {y : Tl} (h : SkAt H s r y) (x : Exw a H H') (w : Wl a c H) : SkAt H' s r y := by
  obtain ⟨k, ts, h1, ⟨o, h2, d⟩, h3⟩ := h
  exact ⟨k, ts, x.at w h1 (by intro _ z; cases z), ⟨o, x.at w h2 (by intro _ z; cases z), d⟩, paired_imp (fun t y ht => x.at w ht (by intro _ z; cases z)) h3⟩
theorem TupC.extT {k : Addr} {ys : Ct} (h : TupC H k ys) (T : TabS H P q) (x : ExT P q H H') : TupC H' k ys := by
  obtain ⟨us, ⟨o, h2, d⟩, h3⟩ := h.ob
  exact ⟨us, ⟨o, x.at T h2 (by intro _ z; cases z), d⟩, paired_imp (fun t y ht => x.at T ht (by intro _ z; cases z)) h3⟩
theorem TupC.exw {k : Addr} {ys : Ct} (h : TupC H k ys) (x : Exw a H H') (w : Wl a c H) : TupC H' k ys := by
  obtain ⟨us, ⟨o, h2, d⟩, h3⟩ := h.ob
  exact ⟨us, ⟨o, x.at w h2 (by intro _ z; cases z), d⟩, paired_imp (fun t y ht => x.at w ht (by intro _ z; cases z)) h3⟩
end
/-- what a sketch that is asked tells -/
structure SkA (H : Hp) (s : Addr) (r : Int) (x : Tl) : Prop where
  at_ : SkAt H s r x
  ok : TlOk r x
  g : SkG r x.m x.o (srtZ x.c)
theorem SkA.same {H H' : Hp} {s : Addr} {r : Int} {x : Tl} (h : SkA H s r x) (y : Same H H') : SkA H' s r x := ⟨h.at_.same y, h.ok, h.g⟩
end Kb

namespace Kb
open PySem PySem.Spec PyProof.Rows L2 SrtZ SrtO FlX LamX RZ
/-! what is worth as much -/
/-! all ways to part a number -/
def partsF : Nat → Nat → Nat → List (List Nat)
  | 0, _, _ => []
  | f + 1, l, m => if l = 0 then [[]] else (List.range (min l m)).flatMap fun i => (partsF f (l - (i + 1)) (i + 1)).map fun r => (i + 1) :: r
theorem parts_sound : ∀ {f l m : Nat} {e : List Nat}, e ∈ partsF f l m → (∀ x ∈ e, 1 ≤ x ∧ x ≤ m) ∧ e.sum = l
  | 0, _, _, _, h => nomatch h
  | f + 1, l, m, e, h => by
    unfold partsF at h
    by_cases h0 : l = 0
    · rw [if_pos h0] at h
      rw [List.mem_singleton.mp h, h0]
      exact ⟨(fun _ h => nomatch h), rfl⟩
    · rw [if_neg h0] at h
      obtain ⟨i, hi, h⟩ := List.mem_flatMap.mp h
      have hi := List.mem_range.mp hi
      obtain ⟨r, hr, rfl⟩ := List.mem_map.mp h
      obtain ⟨h1, h2⟩ := parts_sound hr
      refine ⟨fun x hx => ?_, ?_⟩
      · rcases List.mem_cons.mp hx with rfl | hx
        · omega
        · have := h1 x hx
          omega
      · rw [List.sum_cons, h2]
        omega
theorem parts_full : ∀ {f l m : Nat} {e : List Nat}, l < f → e.Pairwise (· ≥ ·) → (∀ x ∈ e, 1 ≤ x ∧ x ≤ m) → e.sum = l → e ∈ partsF f l m
  | f + 1, l, m, e, hf, hp, he, hs => by
    unfold partsF
    cases e with
    | nil =>
      rw [if_pos (show l = 0 from hs.symm)]
      exact List.mem_cons_self
    | cons x r =>
      rw [List.sum_cons] at hs
      obtain ⟨x1, xm⟩ := he x List.mem_cons_self
      obtain ⟨p1, p2⟩ := List.pairwise_cons.mp hp
      rw [if_neg (by omega)]
      refine List.mem_flatMap.mpr ⟨x - 1, List.mem_range.mpr (by omega), List.mem_map.mpr ⟨r, ?_, by rw [show x - 1 + 1 = x by omega]⟩⟩
      rw [show x - 1 + 1 = x by omega]
      exact parts_full (by omega) p2 (fun y hy => ⟨(he y (List.mem_cons_of_mem _ hy)).1, p1 y hy⟩) (by omega)
theorem parts_few : ∀ l, l < 12 → ∀ m, m < 4 → (partsF 12 l m).length ≤ 16 := by decide +kernel
theorem sum_len : ∀ {e : List Nat}, (∀ x ∈ e, 1 ≤ x) → e.length ≤ e.sum
  | [], _ => Nat.le_refl _
  | x :: e, h => by
    have := h x List.mem_cons_self
    have := sum_len (e := e) fun y hy => h y (List.mem_cons_of_mem _ hy)
    rw [List.length_cons, List.sum_cons]
    omega
/-! all deals -/
def stepD (off : Nat) (d : List Nat × Nat) : List (List Nat × Nat) := (List.range (min off d.2 + 1)).map fun i => (d.1 ++ [i], d.2 - i)
def dealsZ (off lost : Nat) : Nat → List (List Nat × Nat)
  | 0 => [([], lost)]
  | k + 1 => (dealsZ off lost k).flatMap (stepD off)
theorem deals_sound {off lost : Nat} : ∀ {k : Nat} {d : List Nat × Nat}, d ∈ dealsZ off lost k → d.1.length = k ∧ (∀ x ∈ d.1, x ≤ off) ∧ d.1.sum + d.2 = lost
  | 0, d, h => by
    rw [List.mem_singleton.mp h]
    exact ⟨rfl, (fun _ h => nomatch h), Nat.zero_add _⟩
  | k + 1, d, h => by
    obtain ⟨d0, h0, h⟩ := List.mem_flatMap.mp h
    obtain ⟨a, b, c⟩ := deals_sound h0
    obtain ⟨i, hi, rfl⟩ := List.mem_map.mp h
    have hi := List.mem_range.mp hi
    refine ⟨by rw [List.length_append, a]; rfl, fun x hx => ?_, ?_⟩
    · rcases List.mem_append.mp hx with hx | hx
      · exact b x hx
      · rw [List.mem_singleton.mp hx]
        omega
    · rw [List.sum_append]
      show d0.1.sum + (i + 0) + (d0.2 - i) = lost
      omega
theorem deals_full {off lost : Nat} : ∀ {k : Nat} {t : List Nat}, t.length = k → (∀ x ∈ t, x ≤ off) → t.sum ≤ lost → (t, lost - t.sum) ∈ dealsZ off lost k
  | 0, t, hl, _, _ => by
    rw [List.eq_nil_of_length_eq_zero hl]
    exact List.mem_cons_self
  | k + 1, t, hl, ho, hs => by
    have hne : t ≠ [] := fun e => by rw [e] at hl; cases hl
    obtain ⟨u, x, rfl⟩ : ∃ u x, t = u ++ [x] := ⟨t.dropLast, t.getLast hne, (List.dropLast_concat_getLast hne).symm⟩
    rw [List.length_append, List.length_singleton] at hl
    rw [List.sum_append] at hs ⊢
    have hs : u.sum + (x + 0) ≤ lost := hs
    have ih := deals_full (k := k) (t := u) (off := off) (lost := lost) (by omega) (fun y hy => ho y (List.mem_append.mpr (.inl hy))) (by omega)
    have hx := ho x (List.mem_append.mpr (.inr List.mem_cons_self))
    refine List.mem_flatMap.mpr ⟨_, ih, List.mem_map.mpr ⟨x, List.mem_range.mpr ?_, ?_⟩⟩
    · show x < min off (lost - u.sum) + 1
      omega
    · show (u ++ [x], lost - u.sum - x) = (u ++ [x], lost - (u.sum + (x + 0)))
      rw [show lost - u.sum - x = lost - (u.sum + (x + 0)) by omega]
theorem fl_len {α β : Type} {f : α → List β} {b : Nat} : ∀ {l : List α}, (∀ a ∈ l, (f a).length ≤ b) → (l.flatMap f).length ≤ l.length * b
  | [], _ => by simp
  | a :: l, h => by
    have h1 := h a List.mem_cons_self
    have h2 := fl_len (l := l) fun x hx => h x (List.mem_cons_of_mem _ hx)
    rw [List.flatMap_cons, List.length_append, List.length_cons, Nat.succ_mul]
    omega
theorem deals_few {off lost : Nat} (ho : off ≤ 3) : ∀ k : Nat, (dealsZ off lost k).length ≤ 4 ^ k
  | 0 => Nat.le_refl _
  | k + 1 => by
    have h1 := deals_few (off := off) (lost := lost) ho k
    have h2 := fl_len (f := stepD off) (b := 4) (l := dealsZ off lost k) fun d _ => by
      unfold stepD
      rw [List.length_map, List.length_range]
      omega
    show ((dealsZ off lost k).flatMap (stepD off)).length ≤ _
    rw [Nat.pow_succ]
    omega
/-! counts out of a deal -/
theorem gd_map {f : Str → Int} : ∀ {ns : List Str} {k : Str}, gd (ns.map fun n => (n, f n)) k = if k ∈ ns then f k else 0
  | [], k => rfl
  | n :: ns, k => by
    have ih := gd_map (f := f) (ns := ns) (k := k)
    by_cases h : n = k
    · subst h
      rw [if_pos List.mem_cons_self]
      unfold gd getZ
      rw [List.map_cons, List.find?_cons_of_pos (by exact decide_eq_true rfl)]
      rfl
    · have e : gd ((n :: ns).map fun n => (n, f n)) k = gd (ns.map fun n => (n, f n)) k := by
        unfold gd getZ
        rw [List.map_cons, List.find?_cons_of_neg (by simpa using h)]
      rw [e, ih]
      by_cases h2 : k ∈ ns
      · rw [if_pos h2, if_pos (List.mem_cons_of_mem _ h2)]
      · rw [if_neg h2, if_neg fun z => (List.mem_cons.mp z).elim (fun z => h z.symm) h2]
theorem gd_filt {p : Str × Int → Bool} {l : Ct} (nd : NdZ l) (k : Str) : gd (l.filter p) k = if k ∈ l.map (·.1) ∧ p (k, gd l k) = true then gd l k else 0 := by
  have ndf : NdZ (l.filter p) := nd.sublist (List.Sublist.map _ List.filter_sublist)
  by_cases hk : k ∈ l.map (·.1)
  · obtain ⟨e, he, rfl⟩ := List.mem_map.mp hk
    have ge := gd_in nd he
    have ee : (e.1, gd l e.1) = e := by rw [ge]
    by_cases hp : p (e.1, gd l e.1) = true
    · rw [if_pos ⟨hk, hp⟩, ge]
      rw [ee] at hp
      exact gd_in ndf (List.mem_filter.mpr ⟨he, hp⟩)
    · rw [if_neg fun z => hp z.2]
      refine gd_notin fun hm => ?_
      obtain ⟨f, hf, e2⟩ := List.mem_map.mp hm
      obtain ⟨f1, f2⟩ := List.mem_filter.mp hf
      have := gd_in nd f1
      rw [e2, ge] at this
      have : f = e := Prod.ext e2 this.symm
      subst this
      rw [ee] at hp
      exact hp f2
  · rw [if_neg fun z => hk z.1]
    exact gd_notin fun hm => hk (by
      obtain ⟨f, hf, e2⟩ := List.mem_map.mp hm
      exact List.mem_map.mpr ⟨f, (List.mem_filter.mp hf).1, e2⟩)
theorem gd_pos {l : Ct} (nd : NdZ l) (nn : ∀ e ∈ l, 0 ≤ e.2) (k : Str) : gd (l.filter fun e => decide (0 < e.2)) k = gd l k := by
  rw [gd_filt nd]
  by_cases hk : k ∈ l.map (·.1)
  · obtain ⟨e, he, rfl⟩ := List.mem_map.mp hk
    have ge := gd_in nd he
    have := nn e he
    by_cases h0 : 0 < gd l e.1
    · rw [if_pos ⟨hk, decide_eq_true h0⟩]
    · rw [if_neg fun z => h0 (of_decide_eq_true z.2)]
      omega
  · rw [if_neg fun z => hk z.1, gd_notin hk]
/-- counts of names out of a deal -/
def dealC (kvs : Ct) (ns : List Str) (t : List Nat) : Ct := (ns.zip t).map fun p => (p.1, gd kvs p.1 + (p.2 : Int))
theorem deal_keys (kvs : Ct) : ∀ {ns : List Str} {t : List Nat}, t.length = ns.length → (dealC kvs ns t).map (·.1) = ns
  | [], _, _ => by unfold dealC; rw [List.zip_nil_left]; rfl
  | n :: ns, [], h => by cases h
  | n :: ns, x :: t, h => congrArg (n :: ·) (deal_keys kvs (ns := ns) (t := t) (by simpa using h))
theorem deal_mem {kvs : Ct} {ns : List Str} {t : List Nat} {e : Str × Int} (h : e ∈ dealC kvs ns t) : e.1 ∈ ns ∧ ∃ x ∈ t, e.2 = gd kvs e.1 + (x : Int) := by
  obtain ⟨p, hp, rfl⟩ := List.mem_map.mp h
  obtain ⟨h1, h2⟩ := List.of_mem_zip (show (p.1, p.2) ∈ ns.zip t from hp)
  exact ⟨h1, p.2, h2, rfl⟩
theorem deal_sum (kvs : Ct) : ∀ {ns : List Str} {t : List Nat}, t.length = ns.length → sumC (dealC kvs ns t) = (ns.map (gd kvs)).sum + (t.sum : Int)
  | [], [], _ => rfl
  | n :: ns, [], h => by cases h
  | [], x :: t, h => by cases h
  | n :: ns, x :: t, h => by
    have ih := deal_sum kvs (ns := ns) (t := t) (by simpa using h)
    have e : sumC (dealC kvs (n :: ns) (x :: t)) = (gd kvs n + (x : Int)) + sumC (dealC kvs ns t) := sumC_cons' _ _
    rw [e, ih, List.map_cons, List.sum_cons, List.sum_cons]
    push_cast
    omega
theorem gd_ns_sum {kvs : Ct} (nk : NdZ kvs) {ns : List Str} (nd : ns.Nodup) (sub : ∀ e ∈ kvs, e.1 ∈ ns) : (ns.map (gd kvs)).sum = sumC kvs := by
  have hm : (ns.map fun n => (n, (0 : Int))).map (·.1) = ns := by rw [List.map_map]; exact List.map_id _
  have h := taken_sum (ks := kvs) nk (ys := ns.map fun n => (n, (0 : Int))) (by show (List.map _ _).Nodup; rw [hm]; exact nd) (fun e he => by rw [hm]; exact sub e he)
  have s0 : sumC (ns.map fun n => (n, (0 : Int))) = 0 := sum_zero fun e he => by
    obtain ⟨n, _, rfl⟩ := List.mem_map.mp he
    rfl
  rw [s0, List.map_map] at h
  have gen : ∀ l : List Str, (l.map ((fun e : Str × Int => e.2 - gd kvs e.1) ∘ fun n => (n, (0 : Int)))).sum = -(l.map (gd kvs)).sum := by
    intro l
    induction l with
    | nil => rfl
    | cons n l ih =>
      rw [List.map_cons, List.sum_cons, List.map_cons, List.sum_cons, ih]
      show (0 - gd kvs n) + _ = _
      omega
  rw [gen] at h
  omega
end Kb

namespace Kb
open PySem PySem.Spec PyProof.Rows L2 SrtZ SrtO FlX LamX RZ
theorem getZ_inE {a : Ct} {k : Str} {v : Int} (h : getZ a k = some v) : ∃ e ∈ a, e.2 = v := by
  unfold getZ at h
  cases hf : a.find? (fun e => decide (e.1 = k)) with
  | none => rw [hf] at h; cases h
  | some f => rw [hf] at h; exact ⟨f, List.mem_of_find?_eq_some hf, Option.some.inj h⟩
theorem getZ_of_gd2 {a b : Ct} {k : Str} (pa : ∀ e ∈ a, 1 ≤ e.2) (pb : ∀ e ∈ b, 1 ≤ e.2) (h : gd a k = gd b k) : getZ a k = getZ b k := by
  unfold gd at h
  cases ha : getZ a k with
  | none =>
    cases hb : getZ b k with
    | none => rfl
    | some v =>
      obtain ⟨e, he, rfl⟩ := getZ_inE hb
      have := pb e he
      rw [ha, hb] at h
      have : (0 : Int) = e.2 := h
      omega
  | some u =>
    obtain ⟨f, hf, rfl⟩ := getZ_inE ha
    have := pa f hf
    cases hb : getZ b k with
    | none =>
      rw [ha, hb] at h
      have : f.2 = (0 : Int) := h
      omega
    | some v =>
      rw [ha, hb] at h
      exact congrArg some h
/-! counts of new names -/
def zzN (i : Nat) : Str := S [122, 122, 97 + i]
theorem zzN_inj {i j : Nat} (h : zzN i = zzN j) : i = j := by
  have := congrArg cs h
  unfold zzN at this
  rw [cs_S, cs_S] at this
  injection this with _ h
  injection h with _ h
  injection h with h _
  omega
theorem zzN_nm {i : Nat} (h : i < 26) : Nm (zzN i) := nm_of (l := [122, 122, 97 + i]) (cs_S _) (by show 1 ≤ 3; decide) (by show 3 ≤ 8; decide) fun c hc => by
  simp only [List.mem_cons, List.not_mem_nil, or_false] at hc
  omega
def zzC (e : List Nat) : Ct := ((List.range e.length).zip e).map fun p => (zzN p.1, (p.2 : Int))
theorem zz_keys (e : List Nat) : (zzC e).map (·.1) = (List.range e.length).map zzN := by
  unfold zzC
  rw [List.map_map]
  have : ((fun x : Str × Int => x.1) ∘ fun p : Nat × Nat => (zzN p.1, (p.2 : Int))) = zzN ∘ Prod.fst := rfl
  rw [this, ← List.map_map, List.map_fst_zip (by rw [List.length_range]; exact Nat.le_refl _)]
theorem zz_vals (e : List Nat) : (zzC e).map (·.2) = e.map fun x : Nat => (x : Int) := by
  unfold zzC
  rw [List.map_map]
  have : ((fun x : Str × Int => x.2) ∘ fun p : Nat × Nat => (zzN p.1, (p.2 : Int))) = (fun x : Nat => (x : Int)) ∘ Prod.snd := rfl
  rw [this, ← List.map_map, List.map_snd_zip (by rw [List.length_range]; exact Nat.le_refl _)]
theorem nodup_inj {α β : Type} {f : α → β} (hf : ∀ a b, f a = f b → a = b) : ∀ {l : List α}, l.Nodup → (l.map f).Nodup
  | [], _ => List.nodup_nil
  | a :: l, h => by
    obtain ⟨h1, h2⟩ := List.nodup_cons.mp h
    rw [List.map_cons]
    refine List.nodup_cons.mpr ⟨fun hm => ?_, nodup_inj hf h2⟩
    obtain ⟨b, hb, e⟩ := List.mem_map.mp hm
    exact h1 (hf _ _ e ▸ hb)
theorem zz_nd (e : List Nat) : NdZ (zzC e) := by
  unfold NdZ
  rw [zz_keys]
  exact nodup_inj (fun _ _ => zzN_inj) List.nodup_range
theorem zz_mem {e : List Nat} {f : Str × Int} (h : f ∈ zzC e) : (∃ i, i < e.length ∧ f.1 = zzN i) ∧ ∃ x ∈ e, f.2 = (x : Int) := by
  obtain ⟨p, hp, rfl⟩ := List.mem_map.mp h
  obtain ⟨h1, h2⟩ := List.of_mem_zip (show (p.1, p.2) ∈ (List.range e.length).zip e from hp)
  exact ⟨⟨p.1, List.mem_range.mp h1, rfl⟩, p.2, h2, rfl⟩
theorem sum_castN : ∀ l : List Nat, (l.map fun x : Nat => (x : Int)).sum = (l.sum : Int)
  | [] => rfl
  | x :: l => by
    rw [List.map_cons, List.sum_cons, List.sum_cons, sum_castN l]
    push_cast
    rfl
def rawC (kvs : Ct) (ns : List Str) (t e : List Nat) : Ct := dealC kvs ns t ++ zzC e
def posC (l : Ct) : Ct := l.filter fun x => decide (0 < x.2)
/-- names that are asked of a listing -/
structure NsOk (kvs : Ct) (ns : List Str) : Prop where
  nd : ns.Nodup
  sub : ∀ e ∈ kvs, e.1 ∈ ns
  nk : NdZ kvs
  kp : ∀ e ∈ kvs, 1 ≤ e.2
  nm : ∀ n ∈ ns, Nm n
  zz : ∀ n ∈ ns, ∀ i, n ≠ zzN i
/-- a deal with its parts -/
structure DlOk (off lost : Nat) (ns : List Str) (t e : List Nat) : Prop where
  len : t.length = ns.length
  to : ∀ x ∈ t, x ≤ off
  eo : ∀ x ∈ e, 1 ≤ x ∧ x ≤ off
  sum : t.sum + e.sum = lost
theorem raw_nd {kvs : Ct} {ns : List Str} {t e : List Nat} (h : NsOk kvs ns) (hl : t.length = ns.length) : NdZ (rawC kvs ns t e) := by
  unfold NdZ rawC
  rw [List.map_append, deal_keys kvs hl, List.nodup_append]
  refine ⟨h.nd, zz_nd e, fun a ha b hb => ?_⟩
  rw [zz_keys] at hb
  obtain ⟨i, _, rfl⟩ := List.mem_map.mp hb
  exact h.zz a ha i
theorem gd_app {A B : Ct} {k : Str} (h : k ∉ A.map (·.1)) : gd (A ++ B) k = gd B k := by
  unfold gd getZ
  rw [List.find?_append]
  have : A.find? (fun e => decide (e.1 = k)) = none := List.find?_eq_none.mpr fun e he => by
    have : e.1 ≠ k := fun z => h (List.mem_map.mpr ⟨e, he, z⟩)
    simpa using this
  rw [this]
  rfl
theorem gd_app1 {A B : Ct} {k : Str} (h : k ∈ A.map (·.1)) : gd (A ++ B) k = gd A k := by
  unfold gd getZ
  rw [List.find?_append]
  cases hf : A.find? (fun e => decide (e.1 = k)) with
  | some f => rfl
  | none =>
    obtain ⟨e, he, rfl⟩ := List.mem_map.mp h
    have := List.find?_eq_none.mp hf e he
    simp at this
theorem raw_nn {kvs : Ct} {ns : List Str} {t e : List Nat} (h : NsOk kvs ns) : ∀ f ∈ rawC kvs ns t e, 0 ≤ f.2 := fun f hf => by
  rcases List.mem_append.mp hf with hf | hf
  · obtain ⟨_, x, _, e2⟩ := deal_mem hf
    have : 0 ≤ gd kvs f.1 := getZ_pos h.kp
    omega
  · obtain ⟨_, x, _, e2⟩ := zz_mem hf
    omega
theorem posC_map (l : Ct) : ∀ e ∈ posC l, e ∈ l ∧ 1 ≤ e.2 := fun e he => by
  obtain ⟨h1, h2⟩ := List.mem_filter.mp he
  have : 0 < e.2 := by simpa using h2
  exact ⟨h1, by omega⟩
theorem raw_tru {kvs : Ct} {ns : List Str} {t e : List Nat} {m : Int} {off lost : Nat} (h : NsOk kvs ns) (d : DlOk off lost ns t e) (hm : m - sumC kvs = (lost : Int)) (hl : lost < 26) : TruZ kvs m off (posC (rawC kvs ns t e)) ∧ ∀ f ∈ posC (rawC kvs ns t e), Nm f.1 := by
  have nd := raw_nd (e := e) h d.len
  have nn := raw_nn (t := t) (e := e) h
  have el : e.length ≤ lost := by
    have := sum_len (e := e) fun x hx => (d.eo x hx).1
    have := d.sum
    omega
  have kd := deal_keys kvs (ns := ns) d.len
  have gp : ∀ k, gd (posC (rawC kvs ns t e)) k = gd (rawC kvs ns t e) k := gd_pos nd nn
  have ndd : NdZ (dealC kvs ns t) := by
    show ((dealC kvs ns t).map (·.1)).Nodup
    rw [kd]
    exact h.nd
  have key : ∀ k, gd kvs k ≤ gd (rawC kvs ns t e) k ∧ gd (rawC kvs ns t e) k - gd kvs k ≤ off := fun k => by
    by_cases hk : k ∈ ns
    · have hk2 : k ∈ (dealC kvs ns t).map (·.1) := by rw [kd]; exact hk
      unfold rawC
      rw [gd_app1 hk2]
      obtain ⟨f, hf, rfl⟩ := List.mem_map.mp hk2
      rw [gd_in ndd hf]
      obtain ⟨_, x, hx, e2⟩ := deal_mem hf
      have := d.to x hx
      omega
    · have hk2 : k ∉ (dealC kvs ns t).map (·.1) := by rw [kd]; exact hk
      have g0 : gd kvs k = 0 := gd_notin fun z => by
        obtain ⟨f, hf, rfl⟩ := List.mem_map.mp z
        exact hk (h.sub f hf)
      unfold rawC
      rw [gd_app hk2, g0]
      by_cases hz : k ∈ (zzC e).map (·.1)
      · obtain ⟨f, hf, rfl⟩ := List.mem_map.mp hz
        rw [gd_in (zz_nd e) hf]
        obtain ⟨_, x, hx, e2⟩ := zz_mem hf
        have := d.eo x hx
        omega
      · rw [gd_notin hz]
        omega
  refine ⟨⟨nd.sublist (List.Sublist.map _ List.filter_sublist), fun f hf => (posC_map _ f hf).2, fun k => ?_, fun k => ?_, ?_⟩, fun f hf => ?_⟩
  · rw [gp]
    exact (key k).1
  · rw [gp]
    exact (key k).2
  · unfold posC
    rw [sum_pos nn]
    unfold rawC
    rw [sumC_app, deal_sum kvs d.len, gd_ns_sum h.nk h.nd h.sub]
    have : sumC (zzC e) = (e.sum : Int) := by
      unfold sumC
      rw [zz_vals, sum_castN]
    rw [this]
    have := d.sum
    omega
  · rcases List.mem_append.mp (posC_map _ f hf).1 with hf | hf
    · exact h.nm _ (deal_mem hf).1
    · obtain ⟨⟨i, hi, e2⟩, _⟩ := zz_mem hf
      rw [e2]
      exact zzN_nm (by omega)
/-- each truth is listed, new names apart -/
theorem raw_all {kvs : Ct} {ns : List Str} {m : Int} {off lost : Nat} {T : Ct} (h : NsOk kvs ns) (tz : TruZ kvs m off T) (hm : m - sumC kvs = (lost : Int)) : ∃ t e, DlOk off lost ns t e ∧ e.Pairwise (· ≥ ·) ∧ (∀ n ∈ ns, gd (posC (rawC kvs ns t e)) n = gd T n) ∧ ((posC (rawC kvs ns t e)).map (·.2)).Perm (T.map (·.2)) := by
  let t : List Nat := ns.map fun n => (gd T n - gd kvs n).toNat
  let r : Ct := T.filter fun f => !decide (f.1 ∈ ns)
  let e0 : List Nat := r.map fun f => f.2.toNat
  let e : List Nat := e0.mergeSort fun a b => decide (b ≤ a)
  have pe : e.Perm e0 := List.mergeSort_perm _ _
  have hfall : e.Pairwise (· ≥ ·) := by
    have := List.pairwise_mergeSort (le := fun (a b : Nat) => decide (b ≤ a)) (fun a b c h1 h2 => by simp at *; omega) (fun a b => by simp; omega) e0
    exact this.imp fun h => of_decide_eq_true h
  have tl : t.length = ns.length := List.length_map _
  have hd : dealC kvs ns t = ns.map fun n => (n, gd T n) := by
    have gen : ∀ l : List Str, dealC kvs l (l.map fun n => (gd T n - gd kvs n).toNat) = l.map fun n => (n, gd T n) := by
      intro l
      induction l with
      | nil => rfl
      | cons n l ih =>
        have e1 : dealC kvs (n :: l) ((n :: l).map fun n => (gd T n - gd kvs n).toNat) = (n, gd kvs n + ((gd T n - gd kvs n).toNat : Int)) :: dealC kvs l (l.map fun n => (gd T n - gd kvs n).toNat) := rfl
        have := tz.lo n
        rw [e1, ih, List.map_cons, show gd kvs n + ((gd T n - gd kvs n).toNat : Int) = gd T n by omega]
    exact gen ns
  have rin : ∀ f ∈ r, f ∈ T ∧ f.1 ∉ ns := fun f hf => by
    obtain ⟨h1, h2⟩ := List.mem_filter.mp hf
    exact ⟨h1, by simpa using h2⟩
  have rb : ∀ f ∈ r, 1 ≤ f.2 ∧ f.2 ≤ off := fun f hf => by
    obtain ⟨h1, h2⟩ := rin f hf
    have g0 : gd kvs f.1 = 0 := gd_notin fun z => by
      obtain ⟨u, hu, e2⟩ := List.mem_map.mp z
      exact h2 (e2 ▸ h.sub u hu)
    have := tz.hi f.1
    rw [gd_in tz.nd h1, g0] at this
    exact ⟨tz.pos f h1, by omega⟩
  have eo : ∀ x ∈ e, 1 ≤ x ∧ x ≤ off := fun x hx => by
    obtain ⟨f, hf, rfl⟩ := List.mem_map.mp (pe.mem_iff.mp hx)
    have := rb f hf
    omega
  have pin : (T.filter fun f => decide (f.1 ∈ ns)).Perm (posC (ns.map fun n => (n, gd T n))) := by
    have nA : NdZ (T.filter fun f => decide (f.1 ∈ ns)) := tz.nd.sublist (List.Sublist.map _ List.filter_sublist)
    have nM : NdZ (ns.map fun n => (n, gd T n)) := by
      show ((ns.map fun n => (n, gd T n)).map (·.1)).Nodup
      rw [List.map_map, show ((fun x : Str × Int => x.1) ∘ fun n : Str => (n, gd T n)) = id from rfl, List.map_id]
      exact h.nd
    have gT : ∀ k, 0 ≤ gd T k := fun k => getZ_pos tz.pos
    have nnM : ∀ f ∈ ns.map fun n => (n, gd T n), 0 ≤ f.2 := fun f hf => by
      obtain ⟨n, _, rfl⟩ := List.mem_map.mp hf
      exact gT n
    have nB : NdZ (posC (ns.map fun n => (n, gd T n))) := nM.sublist (List.Sublist.map _ List.filter_sublist)
    refine perm_of_getZ nA nB fun k => getZ_of_gd2 (fun f hf => tz.pos f (List.mem_filter.mp hf).1) (fun f hf => (posC_map _ f hf).2) ?_
    unfold posC
    rw [gd_pos nM nnM, gd_map, gd_filt tz.nd]
    by_cases hk : k ∈ ns
    · rw [if_pos hk]
      by_cases hT : k ∈ T.map (·.1)
      · rw [if_pos ⟨hT, decide_eq_true hk⟩]
      · rw [if_neg fun z => hT z.1, gd_notin hT]
    · rw [if_neg hk, if_neg fun z => hk (of_decide_eq_true z.2)]
  have psplit : T.Perm ((T.filter fun f => decide (f.1 ∈ ns)) ++ r) := (List.filter_append_perm (fun f : Str × Int => decide (f.1 ∈ ns)) T).symm
  have nzz : posC (zzC e) = zzC e := List.filter_eq_self.mpr fun f hf => by
    obtain ⟨_, x, hx, e2⟩ := zz_mem hf
    have := eo x hx
    exact decide_eq_true (by omega)
  have hraw : posC (rawC kvs ns t e) = posC (ns.map fun n => (n, gd T n)) ++ zzC e := by
    unfold rawC
    rw [hd]
    rw [show posC ((ns.map fun n => (n, gd T n)) ++ zzC e) = posC (ns.map fun n => (n, gd T n)) ++ posC (zzC e) from List.filter_append .., nzz]
  have vr : (zzC e).map (·.2) = e.map fun x : Nat => (x : Int) := zz_vals e
  have pr : ((zzC e).map (·.2)).Perm (r.map (·.2)) := by
    rw [vr]
    refine (pe.map _).trans ?_
    rw [List.map_map]
    have : r.map ((fun x : Nat => (x : Int)) ∘ fun f : Str × Int => f.2.toNat) = r.map (·.2) := List.map_congr_left fun f hf => by
      have := rb f hf
      show ((f.2.toNat : Nat) : Int) = f.2
      omega
    rw [this]
  have pv : ((posC (rawC kvs ns t e)).map (·.2)).Perm (T.map (·.2)) := by
    rw [hraw, List.map_append]
    refine ((pin.symm.map _).append pr).trans ?_
    rw [← List.map_append]
    exact (psplit.symm.map _)
  refine ⟨t, e, ⟨tl, fun x hx => ?_, eo, ?_⟩, hfall, fun n hn => ?_, pv⟩
  · obtain ⟨n, _, rfl⟩ := List.mem_map.mp hx
    have := tz.hi n
    omega
  · have s1 : sumC T = ((posC (rawC kvs ns t e)).map (·.2)).sum := (perm_sum pv).symm
    have s2 : ((posC (rawC kvs ns t e)).map (·.2)).sum = sumC (posC (rawC kvs ns t e)) := rfl
    have s3 : sumC (posC (rawC kvs ns t e)) = sumC (rawC kvs ns t e) := sum_pos (raw_nn h)
    have s4 : sumC (rawC kvs ns t e) = sumC kvs + (t.sum : Int) + (e.sum : Int) := by
      unfold rawC
      rw [sumC_app, deal_sum kvs tl, gd_ns_sum h.nk h.nd h.sub]
      have : sumC (zzC e) = (e.sum : Int) := by
        unfold sumC
        rw [zz_vals, sum_castN]
      rw [this]
    have := tz.sum
    omega
  · unfold posC
    rw [gd_pos (raw_nd h tl) (raw_nn h)]
    unfold rawC
    rw [gd_app1 (by rw [deal_keys kvs tl]; exact hn), hd, gd_map, if_pos hn]
end Kb

namespace Kb
open PySem PySem.Spec PyProof.Rows L2 SrtZ SrtO FlX LamX RZ
abbrev sparts : Stmt := topS 36
abbrev Nparts : List Str := ["_law_left", "_law_most", "_law_found", "_law_first_here", "_law_rest"]
theorem scparts : FnScope ["_law_left", "_law_most", "_law_found", "_law_first_here", "_law_rest"] ["_law_left", "_law_most"] (defScope sparts) := ⟨rfl, rfl, rfl, by decide +kernel, rfl, by decide +kernel, by decide +kernel⟩
abbrev Dnparts (K : PySem.W.Frag) (mg : Str → Option Value) := Dn K mg "_law_parts" sparts ["_law_left", "_law_most"]
/-- numbers in a plain tuple -/
abbrev NtAt (H : Hp) (k : Addr) (e : List Nat) : Prop := Ptp H k (e.map fun x : Nat => V.int (x : Int))
theorem NtAt.putL {H : Hp} {k p : Addr} {e : List Nat} {xs : List V} {u : HO} (h : NtAt H k e) (hp : H p = some (.lst xs)) : NtAt (upd H p u) k e := by
  obtain ⟨o, h1, h2⟩ := h
  exact ⟨o, by rw [upd_ne (ne_of h1 hp (by intro z; cases z))]; exact h1, h2⟩
section
variable {P : Program} {w : World} {K : PySem.W.Frag} {mg : Str → Option Value} {base : Heap}
def spParts (n : Nat) : Sp := fun vs H Q _ => ∃ (l m : Nat), vs = [.int (l : Int), .int (m : Int)] ∧ l < n ∧ n ≤ 12 ∧ m ≤ 3 ∧ (∀ j, j ≤ n → ∀ l, l < 12 → ∀ m, m < 4 → (partsF j l m).length ≤ 16) ∧
  ∀ H' p (ks : List Addr), Same H H' → H p = none → H' p = some (.lst (ks.map V.ref)) → Paired (NtAt H') ks (partsF n l m) → Q (.ref p) H'
theorem ok_parts' (T : Blt mg) (dparts : Dnparts K mg) (n : Nat) (Gparts : FnOk P w K mg base CX0 (n + 1) dparts.f dparts.fd ["_law_left", "_law_most"] (spParts n)) : FnOk P w K mg base CX0 (n + 2) dparts.f dparts.fd ["_law_left", "_law_most"] (spParts (n + 1)) := by
  refine dparts.F.ok scparts (fun vs H Q E h => ?_) (fun cdv A outer s H vs Q E hr h => ?_)
  · obtain ⟨l, m, rfl, _⟩ := h
    rfl
  · obtain ⟨l, m, rfl, hl, hn, hm, hfew, q⟩ := h
    refine ⟨_, (pss_cons (ps_if (pt_cmpR op_eq (pv 0) pe_int (nomark _))
      (pss_one (ps_ret (pe_lst (pa_cons (pe_tupF pa_nil) pa_nil))))
      pss_nil)
    (pss_cons (ps_set (i := 2) scparts.nd rfl (Or.inl rfl) (pe_lst pa_nil))
    (pss_cons (ps_for PassesOwn.never rfl (pi_range2 (by rfl) T.n_range (pa_cons pe_int (pa_cons (pe_op op_add (pe_callB (call_min2 rfl) (by rfl) T.n_min (by decide +kernel) (pa_cons (pv 0) (pa_cons (pv 1) pa_nil))) pe_int) pa_nil))) (pg_name (i := 3) scparts.nd rfl (Or.inr rfl))
      (pss_one (ps_expr (pe_bm PySem.F.plainAttrs_list PySem.F.slot_list_extend PySem.F.type_list_extend mt_extend (pv 2) (pa_cons (pe_lc (own := [("_law_rest", 4)]) (g := gName 4) (tt := tYes) rfl scparts.nd (pi_list (pe_call Gparts (hr.mono (by omega)) (by rfl) dparts.g dparts.F.kp dparts.b .nil pass0 (pa_cons (pe_op op_sub (pv 0) (pv 3)) (pa_cons (pv 3) pa_nil)))) (blkOk_by (N := Nparts) (sc := defScope sparts) (by decide +kernel)) (fun _ _ _ _ _ => pg_name (i := 4) scparts.nd rfl (Or.inl rfl)) (fun _ _ _ _ _ => pts_nil) (fun _ _ _ _ _ => (pe_op (r := rCatP K) op_catP (pe_tupF (pa_cons (pv 3) pa_nil)) (pv 4)))) pa_nil)))))
    (pss_one (ps_ret (pv 2)))))), ?_⟩
    refine ⟨.int (l : Int), rfl, rfl, _, rfl, ite2 (fun h0 => ?_) fun h0 => ?_⟩
    · have h0 : V.int (l : Int) = V.int 0 := of_decide_eq_true h0
      have h0 : l = 0 := by injection h0 with h0; omega
      refine ⟨(by show 0 ≤ sizeLine; decide), fun p o np ho => ⟨(by show 1 ≤ sizeLine; decide), fun D nD => ?_⟩⟩
      have s1 := same_upd (o := .frz o (.tup [])) np
      have hp1 : NtAt (upd H p (.frz o (.tup []))) p [] := ⟨o, upd_same, ho⟩
      generalize upd H p (.frz o (.tup [])) = H1 at s1 hp1 nD ⊢
      refine q _ D [p] (Same.new s1 nD) (Same.gone s1 nD) upd_same ?_
      rw [show partsF (n + 1) l m = [[]] by unfold partsF; rw [if_pos h0]]
      exact .cons (hp1.same (same_upd nD)) .nil
    · have h0 : ¬ l = 0 := fun e => h0 (by rw [e]; exact decide_eq_true rfl)
      refine ⟨(by show 0 ≤ sizeLine; decide), fun D nD => ?_⟩
      have e1 : partsF (n + 1) l m = (List.range (min l m)).flatMap fun i => (partsF n (l - (i + 1)) (i + 1)).map fun r => (i + 1) :: r := by
        show (if l = 0 then _ else _) = _
        rw [if_neg h0]
      have em : (if (m : Int) < (l : Int) then (m : Int) else (l : Int)) = ((min l m : Nat) : Int) := by
        split <;> omega
      refine ⟨.int (l : Int), rfl, .int (m : Int), rfl, (l : Int), (m : Int), rfl, _, _, rfl, rfl, ?_⟩
      refine ⟨1, ((min l m : Nat) : Int) + 1, (by show [V.int 1, V.int ((if (m : Int) < (l : Int) then (m : Int) else (l : Int)) + 1)] = _; rw [em]), ⟨by decide, by decide, by omega, by omega⟩, ?_⟩
      rw [show (((min l m : Nat) : Int) + 1 - 1).toNat = min l m by omega]
      refine for_range (lo := 1) (n := min l m) (fun i σ H3 => ∃ y3 y4 : Option V, σ = [some (.int (l : Int)), some (.int (m : Int)), some (.ref D), y3, y4] ∧ Same H H3 ∧ ∃ ks : List Addr, H3 D = some (.lst (ks.map V.ref)) ∧ Paired (NtAt H3) ks ((List.range i).flatMap fun i => (partsF n (l - (i + 1)) (i + 1)).map fun r => (i + 1) :: r))
        ⟨none, none, rfl, same_upd nD, [], upd_same, .nil⟩ ?_ ?_
      · rintro i σ H3 hi ⟨y3, y4, rfl, s3, ks, hD3, hks⟩
        have hi3 : i < 3 := by omega
        refine ⟨.ref D, rfl, .inl ⟨rfl, _, sql hD3⟩, .int (l : Int), rfl, .int (1 + (i : Int)), rfl, _, _, rfl, rfl, .int (1 + (i : Int)), rfl, l - (i + 1), i + 1, ?_, by omega, by omega, by omega, (fun j hj => hfew j (by omega)), fun H4 p4 ks4 s4 n4 h4 hk4 => ?_⟩
        · show [V.int ((l : Int) - (1 + (i : Int))), V.int (1 + (i : Int))] = [V.int ((l - (i + 1) : Nat) : Int), V.int ((i + 1 : Nat) : Int)]
          rw [show ((l - (i + 1) : Nat) : Int) = (l : Int) - (1 + (i : Int)) by omega, show ((i + 1 : Nat) : Int) = 1 + (i : Int) by omega]
        have few4 := hfew n (Nat.le_succ n) (l - (i + 1)) (by omega) (i + 1) (by omega)
        have lk4 := Paired.length hk4
        refine ⟨p4, rfl, ⟨_, sql h4⟩, fun D2 nD2 => ?_⟩
        refine lc_list (K := K) (a := p4) (xs := ks4.map V.ref) (fun j H5 => Same H4 H5 ∧ ∃ us : List Addr, H5 D2 = some (.lst (us.map V.ref)) ∧ Paired (NtAt H5) us (((partsF n (l - (i + 1)) (i + 1)).take j).map fun r => (i + 1) :: r)) ⟨same_upd nD2, [], upd_same, .nil⟩ (fun j H5 _ h5 => sql (h5.1 _ _ h4)) (fun j v H5 hv h5 => ?_) (fun H5 h5 => ?_)
        · obtain ⟨k, hk, rfl⟩ := map_at hv
          obtain ⟨r, hr2, hat⟩ := paired_at hk4 hk
          obtain ⟨s5, us, hD5, hus⟩ := h5
          have hj := (List.getElem?_eq_some_iff.mp hr2).1
          have hkr : NtAt H5 k r := hat.same s5
          have rl : r.length ≤ 12 := by
            obtain ⟨a1, a2⟩ := parts_sound (List.mem_of_getElem? hr2)
            have := sum_len (e := r) fun x hx => (a1 x hx).1
            omega
          refine ⟨rfl, .int (1 + (i : Int)), rfl, (by show 1 ≤ sizeLine; decide), fun p1 o np1 ho => ?_⟩
          have s6 := same_upd (o := .frz o (.tup [.int (1 + (i : Int))])) np1
          have hp1 : Ptp (upd H5 p1 (.frz o (.tup [.int (1 + (i : Int))]))) p1 [.int (1 + (i : Int))] := ⟨o, upd_same, ho⟩
          generalize upd H5 p1 (.frz o (.tup [.int (1 + (i : Int))])) = H6 at s6 hp1 ⊢
          refine ⟨.ref k, rfl, p1, k, _, _, rfl, rfl, hp1, hkr.same s6, (by rw [List.length_map, sizeLine_eq]; show 1 + r.length ≤ _; omega), fun p2 H7 s7 hp2 => ?_⟩
          have s57 := s6.trans s7
          have hD7 := s57 _ _ hD5
          have lus := Paired.length hus
          rw [List.length_map, List.length_take] at lus
          refine ⟨_, hD7, by rw [List.length_map, lus, sizeLine_eq]; omega, Same.put (s5.trans s57) nD2, us ++ [p2], by rw [upd_same, List.map_append]; rfl, ?_⟩
          rw [List.take_add_one, hr2, List.map_append]
          refine paired_snoc (paired_imp (fun _ _ h => NtAt.putL (h.same s57) hD7) hus) (NtAt.putL (xs := us.map V.ref) ?_ hD7)
          show Ptp H7 p2 (V.int ((i + 1 : Nat) : Int) :: r.map fun x : Nat => V.int (x : Int))
          rw [show ((i + 1 : Nat) : Int) = 1 + (i : Int) by omega]
          exact hp2
        · obtain ⟨s5, us, hD5, hus⟩ := h5
          rw [List.length_map, lk4, List.take_length] at hus
          have lus := Paired.length hus
          rw [List.length_map] at lus
          have s35 := s4.trans s5
          have hD35 := s35 _ _ hD3
          have lks := Paired.length hks
          have lks2 : ((List.range i).flatMap fun i => (partsF n (l - (i + 1)) (i + 1)).map fun r => (i + 1) :: r).length ≤ i * 16 := by
            have := fl_len (f := fun i => (partsF n (l - (i + 1)) (i + 1)).map fun r => (i + 1) :: r) (b := 16) (l := List.range i) fun a ha => by
              have ha := List.mem_range.mp ha
              rw [List.length_map]
              exact hfew n (Nat.le_succ n) _ (by omega) _ (by omega)
            rw [List.length_range] at this
            exact this
          refine ⟨D, D2, _, _, rfl, rfl, hD35, hD5, (by rw [List.length_map, List.length_map, sizeLine_eq]; omega), ?_⟩
          refine ⟨_, _, rfl, Same.put (s3.trans s35) nD, ks ++ us, by rw [upd_same, List.map_append], ?_⟩
          rw [List.range_succ, List.flatMap_append, List.flatMap_cons, List.flatMap_nil, List.append_nil]
          exact paired_app (paired_imp (fun _ _ h => NtAt.putL (h.same s35) hD35) hks) (paired_imp (fun _ _ h => NtAt.putL h hD35) hus)
      · rintro σ H3 ⟨y3, y4, rfl, s3, ks, hD3, hks⟩
        refine ⟨.ref D, rfl, q H3 D ks s3 nD hD3 ?_⟩
        rw [e1]
        exact hks
theorem ok_parts (T : Blt mg) (dparts : Dnparts K mg) : ∀ n : Nat, FnOk P w K mg base CX0 (n + 1) dparts.f dparts.fd ["_law_left", "_law_most"] (spParts n)
  | 0 => dparts.F.ok scparts (fun _ _ _ _ h => by obtain ⟨l, m, rfl, _⟩ := h; rfl) (fun _ _ _ _ _ _ _ _ _ h => by obtain ⟨l, m, _, hl, _⟩ := h; exact absurd hl (Nat.not_lt_zero _))
  | n + 1 => ok_parts' T dparts n (ok_parts T dparts n)
end
end Kb

namespace L2
open PySem PySem.Spec PyProof.Rows SrtO SrtZ
/-- a set of texts, in such a table as a walk wants -/
structure StrS (P : Program) (w : World) (h : Heap) (a : Addr) (S : Str → Bool) (n : Nat) (es : Array (Int × Value)) (ep : Nat) (t : SetTable) : Prop where
  ob : ∃ o, h.get? a = some o ∧ o.ExactSet ∧ o.data = .set es ep t
  el : ElemsOf (strKind P w) es.toList
  is_ : ∀ k : Str, S k = true ↔ ∃ e, e ∈ es.toList ∧ (strKind P w).is k e.2 = true
  lt : es.size < scanBound
  fits : t.fits es.size = true
  sz : es.size = n
  ris : Ris t.place.toList
  led : w.params.followText "set-order" = true ∨ t.led = true
def StrSet (P : Program) (w : World) (h : Heap) (a : Addr) (S : Str → Bool) (n : Nat) : Prop := ∃ es ep t, StrS P w h a S n es ep t
section
variable {P : Program} {w : World} {A : Around} {E : Value → Shared → Prop} {s : Shared} {a : Addr}
theorem strS_store {h : Heap} {o : Obj} {es0 : Array (Int × Value)} {ep : Nat} {t0 : SetTable} (h1 : h.get? a = some o) (h2 : o.ExactSet) (h3 : o.data = .set es0 ep t0) {es : Array (Int × Value)} {t : SetTable} {S : Str → Bool}
    (el : ElemsOf (strKind P w) es.toList) (is_ : ∀ k : Str, S k = true ↔ ∃ e, e ∈ es.toList ∧ (strKind P w).is k e.2 = true) (lt : es.size < scanBound) (fits : t.fits es.size = true) (ris : Ris t.place.toList) (led : w.params.followText "set-order" = true ∨ t.led = true) :
    StrS P w (h.update a (Obj.putSet es t)) a S es.size es (ep + 1) t :=
  ⟨⟨_, (SetOf_store (knd := strKind P w) h1 h2 h3 el is_ lt fits).1, h2, rfl⟩, el, is_, lt, fits, rfl, ris, led⟩
theorem strS_tail {g : Bool → Sem Unit} (hg : ∀ (b : Bool) (s₁ : Shared) (Q' : Unit → Shared → Prop), Q' () s₁ → wpAny (model P w) A (g b) Q' E s₁) {o : Obj} {es : Array (Int × Value)} {ep : Nat} {t : SetTable} (h1 : s.heap.get? a = some o) (h2 : o.ExactSet) (h3 : o.data = .set es ep t)
    {es1 : Array (Int × Value)} {t2 : SetTable} {S' : Str → Bool} (el : ElemsOf (strKind P w) es1.toList) (is_ : ∀ k : Str, S' k = true ↔ ∃ e, e ∈ es1.toList ∧ (strKind P w).is k e.2 = true) (lt : es1.size < scanBound) (fits : t2.fits es1.size = true) (ris : Ris t2.place.toList)
    (led : w.params.followText "set-order" = true ∨ t2.led = true) {wasDummy : Bool} {R : Option Bool → Shared → Prop}
    (q : ∀ h' : Heap, Heap.SameBut a s.heap h' → StrSet P w h' a S' es1.size → R (some true) { s with heap := h' }) :
    wpAny (model P w) A (do
      storeSet a es1 t2
      if (!wasDummy && t2.tooFull) = true then do
          g (relayAll t2 es1 (SetTable.grown es1.size)).2.2
          storeSet a (relayAll t2 es1 (SetTable.grown es1.size)).1 (relayAll t2 es1 (SetTable.grown es1.size)).2.1
          pure (some true)
        else pure (some true)) R E s := by
  have st := strS_store (P := P) (w := w) h1 h2 h3 el is_ lt fits ris led
  refine wpAny_bind (wpAny_storeSet_of h1 h3 ?_ (fits_of_scanBound lt))
  obtain ⟨o1, k1, k2, k3⟩ := st.ob
  split
  · refine wpAny_bind (hg _ _ _ ?_)
    have pm := relayAll_perm t2 es1 (SetTable.grown es1.size)
    have sz : (relayAll t2 es1 (SetTable.grown es1.size)).1.size = es1.size := by
      have := pm.length_eq
      simpa using this
    refine wpAny_bind (wpAny_storeSet_of k1 k3 ?_ (by rw [sz]; exact fits_of_scanBound lt))
    refine wpAny_pure ?_
    have st2 := strS_store (P := P) (w := w) (S := S') k1 k2 k3 (el.perm pm) (fun k => (is_ k).trans ⟨fun ⟨e, he, hk⟩ => ⟨e, pm.mem_iff.mpr he, hk⟩, fun ⟨e, he, hk⟩ => ⟨e, pm.mem_iff.mp he, hk⟩⟩) (by rw [sz]; exact lt) (relayAll_fits _ _ _) (relayAll_ris _ _ _) (by rw [relayAll_led]; exact led)
    rw [sz] at st2
    exact q _ (Heap.SameBut.trans (Heap.SameBut.update _ _ _) (Heap.SameBut.update _ _ _)) ⟨_, _, _, st2⟩
  · exact wpAny_pure (q _ (Heap.SameBut.update _ _ _) ⟨_, _, _, st⟩)
theorem gave_of {g : Bool → Sem Unit} (h1 : g true = rule "set.scan.the-table-gave-way") (h2 : g false = pure ()) : ∀ (b : Bool) (s₁ : Shared) (Q' : Unit → Shared → Prop), Q' () s₁ → wpAny (model P w) A (g b) Q' E s₁ := fun b s₁ Q' h => by
  cases b
  · rw [h2]
    exact wpAny_pure h
  · rw [h1]
    exact wpAny_rule h
theorem strS_add {S : Str → Bool} {n : Nat} {z : Str} {tk : Tok} {Q : Bool → Shared → Prop} (h : StrSet P w s.heap a S n) (hn : n + 1 < scanBound)
    (q : ∀ (b : Bool) (h' : Heap), Heap.SameBut a s.heap h' → StrSet P w h' a (fun k => S k || decide (k = z)) (if S z = true then n else n + 1) → Q b { s with heap := h' }) :
    wpAny (model P w) A (setAddHashed a (.str z tk) ((strKind P w).hash z)) Q E s := by
  obtain ⟨es, ep, t, ⟨⟨o, h1, h2, h3⟩, el, is_, lt, fits, sz, ris, led⟩⟩ := h
  subst sz
  unfold setAddHashed
  refine wpAny_holding ?_
  rw [setAddHashedIn.eq_def]
  dsimp only
  refine wpAny_bind (wpAny_setState_of h1 h3 fits ?_)
  dsimp only
  have hb : byScan (.str z tk) es = true := by
    unfold byScan
    rw [decide_eq_true lt]
    simp only [Bool.and_eq_true]
    refine ⟨⟨rfl, trivial⟩, ?_⟩
    rw [Array.all_eq_true']
    intro e he
    exact (el e (by simpa using he)).2
  rw [if_pos hb]
  refine wpAny_bind ?_
  unfold setAddByScan
  refine wpAny_bind (wpAny_rule ?_)
  have hk := strKind_is P w z tk
  refine wpAny_bind (wpAny_setScan_of hk h1 h3 fits el ?_)
  cases hf : List.findIdx? (fun e => (strKind P w).is z e.2) es.toList with
  | some j =>
    dsimp only
    refine wpAny_pure ?_
    dsimp only
    refine wpAny_pure ?_
    have hS : S z = true := by
      obtain ⟨hlt, hj, _⟩ := List.findIdx?_eq_some_iff_getElem.mp hf
      exact (is_ z).mpr ⟨_, List.getElem_mem hlt, hj⟩
    refine q _ _ (Heap.SameBut.refl _ _) ?_
    rw [if_pos hS]
    refine ⟨es, ep, t, ⟨⟨o, h1, h2, h3⟩, el, fun k => ?_, lt, fits, rfl, ris, led⟩⟩
    rw [← is_ k]
    by_cases hkz : k = z
    · subst hkz
      rw [hS]
      rfl
    · rw [decide_eq_false hkz, Bool.or_false]
  | none =>
    dsimp only
    have hS : S z = false := by
      cases e : S z with
      | false => rfl
      | true =>
        obtain ⟨e, he, hke⟩ := (is_ z).mp e
        have := List.findIdx?_eq_none_iff.mp hf e he
        rw [hke] at this
        cases this
    have pm := layNew_perm t es ((strKind P w).hash z) (.str z tk)
    have fi := layNew_fits t es ((strKind P w).hash z) (.str z tk)
    have ri := layNew_ris t es ((strKind P w).hash z) (.str z tk) ris
    have le := layNew_led t es ((strKind P w).hash z) (.str z tk)
    generalize layNew t es ((strKind P w).hash z) (.str z tk) = y at pm fi ri le ⊢
    obtain ⟨es1, t1, wasDummy, gave⟩ := y
    dsimp only at pm fi ri le ⊢
    have sz1 : es1.size = es.size + 1 := by
      have := pm.length_eq
      simpa using this
    have el1 : ElemsOf (strKind P w) es1.toList := fun e he => by
      have := pm.mem_iff.mp he
      rw [Array.toList_push, List.mem_append] at this
      rcases this with h | h
      · exact el e h
      · rw [List.mem_singleton.mp h]
        exact ⟨⟨z, hk, rfl⟩, rfl⟩
    have is1 : ∀ k : Str, (S k || decide (k = z)) = true ↔ ∃ e, e ∈ es1.toList ∧ (strKind P w).is k e.2 = true := fun k => by
      rw [Bool.or_eq_true, is_ k, decide_eq_true_eq]
      constructor
      · rintro (⟨e, he, h⟩ | rfl)
        · exact ⟨e, pm.mem_iff.mpr (by rw [Array.toList_push, List.mem_append]; exact .inl he), h⟩
        · exact ⟨_, pm.mem_iff.mpr (by rw [Array.toList_push, List.mem_append]; exact .inr (List.mem_singleton.mpr rfl)), hk⟩
      · rintro ⟨e, he, h⟩
        have := pm.mem_iff.mp he
        rw [Array.toList_push, List.mem_append] at this
        rcases this with h' | h'
        · exact .inl ⟨e, h', h⟩
        · rw [List.mem_singleton.mp h'] at h
          exact .inr ((strKind P w).inj _ _ _ h hk)
    have led1 : w.params.followText "set-order" = true ∨ t1.led = true := by rw [le]; exact led
    have fin : ∀ h' : Heap, Heap.SameBut a s.heap h' → StrSet P w h' a (fun k => S k || decide (k = z)) es1.size → Q true { s with heap := h' } := fun h' sb st => by
      refine q true h' sb ?_
      rw [hS, if_neg (by decide), ← sz1]
      exact st
    refine wpAny_bind (gave_of (by rfl) (by rfl) gave _ _ ?_)
    split
    · refine wpAny_bind ?_
      show wpAny _ _ (pure false) _ _ _
      refine wpAny_pure ?_
      rw [if_neg (by decide)]
      refine strS_tail (t2 := { t1 with plain := false }) ?hg1 h1 h2 h3 el1 is1 (by omega) fi ri led1 ?q1
      case q1 => exact fun h' sb st => wpAny_pure (fin h' sb st)
      case hg1 => exact gave_of (by rfl) (by rfl)
    · refine wpAny_bind (wpAny_pure ?_)
      rw [if_pos rfl]
      refine strS_tail ?hg2 h1 h2 h3 el1 is1 (by omega) fi ri led1 ?q2
      case q2 => exact fun h' sb st => wpAny_pure (fin h' sb st)
      case hg2 => exact gave_of (by rfl) (by rfl)
theorem StrSet.keep {S : Str → Bool} {n : Nat} {h h' : Heap} (st : StrSet P w h a S n) (k : ∀ o, h.get? a = some o → h'.get? a = some o) : StrSet P w h' a S n := by
  obtain ⟨es, ep, t, ⟨⟨o, h1, h2, h3⟩, el, is_, lt, fits, sz, ris, led⟩⟩ := st
  exact ⟨es, ep, t, ⟨⟨o, k o h1, h2, h3⟩, el, is_, lt, fits, sz, ris, led⟩⟩
theorem StrSet.congr {S S' : Str → Bool} {n : Nat} {h : Heap} (st : StrSet P w h a S n) (e : ∀ k, S k = S' k) : StrSet P w h a S' n := by
  rw [← show S = S' from funext e]
  exact st
def hasZ (xs : List Str) (i : Nat) : Str → Bool := fun k => (xs.take i).any fun x => decide (x = k)
theorem hasZ_snoc {xs : List Str} {i : Nat} {x : Str} (h : xs[i]? = some x) (k : Str) : hasZ xs (i + 1) k = (hasZ xs i k || decide (k = x)) := by
  unfold hasZ
  rw [List.take_add_one, h, List.any_append]
  congr 1
  show (decide (x = k) || false) = _
  rw [Bool.or_false]
  by_cases e : x = k
  · rw [decide_eq_true e, decide_eq_true e.symm]
  · rw [decide_eq_false e, decide_eq_false (Ne.symm e)]
/-- how many unlike ones stand before i -/
def dcz (xs : List Str) : Nat → Nat
  | 0 => 0
  | i + 1 => dcz xs i + (match xs[i]? with | some x => (if hasZ xs i x = true then 0 else 1) | none => 0)
theorem dcz_snoc {xs : List Str} {i : Nat} {x : Str} (h : xs[i]? = some x) : dcz xs (i + 1) = dcz xs i + (if hasZ xs i x = true then 0 else 1) := by
  show dcz xs i + _ = _
  rw [h]
theorem dcz_le (xs : List Str) : ∀ i, dcz xs i ≤ i
  | 0 => Nat.le_refl _
  | i + 1 => by
    have := dcz_le xs i
    show dcz xs i + _ ≤ i + 1
    split
    · split <;> omega
    · omega
theorem strS_loop {R : Result → Shared → Prop} {I : Addr} {fp wr : List Addr} {G : Array GenState → Array GenState → Prop} {n : Nat} {Pv : Nat → Value → Prop} {St : Nat → Shared → Prop} (wk : WalksS P w A.in1 I fp wr G n Pv St) (S : Addr) (hS : S ∉ fp) (xs : List Str) (hl : xs.length = n) (hn : n + 1 < scanBound)
    (hv : ∀ i v, Pv i v → ∃ x t, xs[i]? = some x ∧ v = Value.str x t) : ∀ (k i : Nat) (s : Shared), n - i = k → i ≤ n → St i s → (∃ m, m ≤ dcz xs i ∧ StrSet P w s.heap S (hasZ xs i) m) →
    (∀ s' : Shared, Moved (S :: wr) G s s' → (∃ m, m ≤ dcz xs n ∧ StrSet P w s'.heap S (hasZ xs n) m) → R (.ok (.ret .none)) s') →
    codeAny (model P w) A (.builtin "set.update.loop" { pos := [.ref S, .ref I] }) R s := by
  intro k
  induction k with
  | zero =>
    intro i s hk hi st ⟨m, hm, ss⟩ q
    have : i = n := by omega
    subst this
    refine codeAny_builtin F.entry_set_update_loop ?_
    rw [Around.under_plainId F.plain_set_update_loop]
    unfold Builtin.«set.update.loop»
    dsimp only
    refine wpAny_bind (wk.done s _ _ st fun s' mv => ?_)
    dsimp only
    refine wpAny_pure ?_
    dsimp only
    refine q s' (mv.mono fun b hb => List.mem_cons_of_mem _ hb) ⟨m, hm, ss.keep fun o e => mv.heap _ _ (fun z => hS (wk.sub _ z)) e⟩
  | succ k ih =>
    intro i s hk hi st ⟨m, hm, ss⟩ q
    refine codeAny_builtin F.entry_set_update_loop ?_
    rw [Around.under_plainId F.plain_set_update_loop]
    unfold Builtin.«set.update.loop»
    dsimp only
    refine wpAny_bind (wk.item i s _ _ (by omega) st fun v s' hp st' mv => ?_)
    obtain ⟨x, t, hx, rfl⟩ := hv i v hp
    dsimp only
    refine wpAny_bind (wpAny_holding ?_)
    unfold setAdd
    refine wpAny_holding (wpAny_bind ((strKind P w).pyHash (strKind_is P w x t) ?_))
    have ss' : StrSet P w s'.heap S (hasZ xs i) m := ss.keep fun o e => mv.heap _ _ (fun z => hS (wk.sub _ z)) e
    refine strS_add (s := { s' with toks := s'.toks + 1 }) ss' (by have := dcz_le xs i; omega) fun b h' sb ss2 => ?_
    refine wpAny_pure ?_
    refine ⟨plainId_quiet F.plain_set_update_loop _, ?_⟩
    have fr := wk.frame (i + 1) s' h' (s'.toks + 1) st' (Nat.le_succ _) fun b hb o e => by
      rw [sb.2 b (fun z => hS (z ▸ hb))]
      exact e
    refine ih (i + 1) _ (by omega) (by omega) fr ⟨_, ?_, ss2.congr fun k => (hasZ_snoc hx k).symm⟩ fun s2 mv2 ss3 => ?_
    · rw [dcz_snoc hx]
      split <;> omega
    · refine q s2 (Moved.trans (wk.gtrans) ?_ mv2) ss3
      refine (mv.mono fun b hb => List.mem_cons_of_mem _ hb).then_heap (Nat.le_succ _) fun b o hb e => ?_
      rw [sb.2 b (fun z => hb (z ▸ List.mem_cons_self))]
      exact e
end
end L2

namespace L2
open PySem PySem.Spec PyProof.Rows SrtO SrtZ
section
variable {P : Program} {w : World} {A : Around} {E : Value → Shared → Prop} {s : Shared} {a : Addr}
theorem call_set_init {self x : Value} {Q : Value → Shared → Prop} (hty : s.TypeIs self "set") (h : wpAny (model P w) A.in1 (Builtin.«set.__init__» { pos := [self, x] }) (fun fin s' => ∃ v, fin = Fin.done (.ret v) ∧ Q v s') E s) : wpAny (model P w) A (call (.builtin "set.__init__") [self, x]) Q E s := by
  refine wpAny_call (codeAny_call_builtin F.called_set.init.plain F.entry_set_init (check_set_init_1 hty (wpAny_mono h ?_ ?_)))
  · rintro fin s' ⟨v, rfl, hq⟩
    exact hq
  · exact fun _ _ h => h
theorem call_set_strs {l : Addr} {items : Array Value} {xs : List Str} {Q : Value → Shared → Prop} (hA : A.handled = none) (hl : s.heap.IsList l items) (hx : StrsAre items.toList xs) (hn : xs.length + 1 < scanBound)
    (q : ∀ (h' : Heap) (tk m : Nat), m ≤ dcz xs xs.length → StrSet P w h' s.heap.objs.size (hasZ xs xs.length) m → (∀ b o, s.heap.get? b = some o → h'.get? b = some o) → Q (.ref s.heap.objs.size) { s with heap := h', toks := tk }) :
    wpAny (model P w) A (call (.type "set") [.ref l]) Q E s := by
  have T := F.called_set
  obtain ⟨c, tl, hm⟩ := T.mro
  refine wpAny_call (codeAny_of_tree (wpAny_pure ⟨Code.quiet_builtin _ (by decide +kernel), ?_⟩))
  refine codeAny_builtin F.entry_type_call ?_
  rw [Around.under_plain (weight_type_call_type "set" [.ref l] []) rfl]
  unfold Builtin.«type.__call__»
  dsimp only
  rw [if_neg (by rw [T.notType]; decide), if_neg (by rw [show _ = false from T.canCreate]; decide)]
  rw [F.typeCall_set_1]
  refine wpAny_bind (wpAny_pure ?_)
  refine wpAny_bind (wpAny_of_eq hm ?_)
  rw [if_neg (by simp)]
  refine wpAny_bind (wpAny_of_eq T.made ?_)
  dsimp only
  refine wpAny_bind (wpAny_pure ?_)
  refine wpAny_bind (wpAny_holding (wpAny_call ?_))
  refine codeAny_mono (code_set_led1 (E := E) (Q₁ := fun v s' => v = .ref s.heap.objs.size ∧ s' = { s with heap := s.heap.push { cls := .type "set", data := .set #[] 0 (SetTable.fresh 0 0 !w.params.followText "set-order") } }) (.ref l) ⟨rfl, rfl⟩) fun r s' h => ?_
  match r, h with
  | .ok (.ret v), h =>
    obtain ⟨rfl, rfl⟩ := h
    dsimp only
    generalize hob : ({ cls := .type "set", data := .set #[] 0 (SetTable.fresh 0 0 !w.params.followText "set-order") } : Obj) = ob
    have hnew : (s.heap.push ob).get? s.heap.objs.size = some ob := Heap.get?_push_size _ (by rw [← hob]; rfl)
    have hty : ({ s with heap := s.heap.push ob } : Shared).TypeIs (.ref s.heap.objs.size) "set" := ⟨ob, hnew, by rw [← hob]⟩
    refine wpAny_bind (wpAny_isInstance hty T.sub ?_)
    rw [if_neg (by decide)]
    refine wpAny_bind (wpAny_holding ?_)
    unfold callSpecial?
    refine wpAny_bind (wpAny_specialOf hty T.init.lookup ?_)
    dsimp only
    refine wpAny_holding (wpAny_bind (wpAny_of_eq (T.init.bind _) ?_))
    dsimp only
    refine wpAny_bind (call_set_init hty ?_)
    unfold Builtin.«set.__init__»
    dsimp only
    refine wpAny_bind ?_
    unfold noKeywords
    rw [if_pos (by rfl)]
    refine wpAny_pure ?_
    unfold typeNameOfCut
    refine wpAny_bind (wpAny_bind ?_)
    unfold shownTypeOf
    refine wpAny_bind (wpAny_typeOf hty ?_)
    rw [if_neg (by decide +kernel)]
    refine wpAny_pure ?_
    unfold typeNameCut
    dsimp only
    unfold typeName
    refine wpAny_pure ?_
    refine wpAny_bind (show wpAny _ _ (pure ()) _ _ _ from wpAny_pure ?_)
    refine wpAny_bind (show wpAny _ _ (pure _) _ _ _ from wpAny_pure ?_)
    unfold setUsed
    have hfr : (SetTable.fresh 0 0 !w.params.followText "set-order").fits (#[] : Array (Int × Value)).size = true := rfl
    have hdat : ob.data = .set #[] 0 (SetTable.fresh 0 0 !w.params.followText "set-order") := by rw [← hob]
    refine wpAny_bind (wpAny_bind (wpAny_setState_of hnew hdat hfr (wpAny_pure ?_)))
    rw [if_neg (by simp [SetTable.fresh, SetTable.fill])]
    refine wpAny_bind ?_
    unfold Builtin.Frozenset.updateFrom Builtin.Frozenset.isAnySet
    obtain ⟨lo, hlo, hlc, hld⟩ := id hl
    have htl : ({ s with heap := s.heap.push ob } : Shared).TypeIs (.ref l) "list" := ⟨lo, Heap.get?_push_of_some _ hlo, hlc⟩
    refine wpAny_bind ?_
    unfold orM
    refine wpAny_bind (wpAny_isInstance htl F.sub_list_set ?_)
    refine wpAny_isInstance htl F.sub_list_frozenset ?_
    rw [if_neg (by decide)]
    refine wpAny_bind (wpAny_typeOf htl ?_)
    rw [if_neg (by decide +kernel)]
    refine wpAny_bind (wpAny_pyIter_list (hl.push ob) ?_)
    refine wpAny_bind (wpAny_runValue ?_)
    have hnl : s.heap.objs.size ≠ l := fun z => absurd (Heap.lt_size hlo) (by rw [← z]; exact Nat.lt_irrefl _)
    have isz : (s.heap.push ob).objs.size = s.heap.objs.size + 1 := size_push' _ _
    have hlI : l ≠ (s.heap.push ob).objs.size := fun z => by
      have h0 := Heap.lt_size hlo
      rw [z, isz] at h0
      exact Nat.not_lt.mpr (Nat.le_succ _) h0
    have hA2 : (A.in1.in1.in1).handled = none := hA
    have wk := (Walks.list (prog := P) (w := w) hA2 (s.heap.push ob).objs.size l hlI items).toS
    have hlen : xs.length = items.size := by
      have := hx.len_eq
      simpa using this.symm
    have hfp : s.heap.objs.size ∉ [(s.heap.push ob).objs.size, l] := fun z => by
      rcases List.mem_cons.mp z with z | z
      · omega
      · exact hnl (List.mem_singleton.mp z)
    have st0 : StrSet P w ((s.heap.push ob).push { cls := .type "list_iterator", data := .fields #[.ref l, .int 0 0] }) s.heap.objs.size (hasZ xs 0) 0 := by
      refine ⟨#[], 0, _, ⟨⟨ob, Heap.get?_push_of_some _ hnew, ?_, hdat⟩, (fun e he => by simp at he), fun k => ?_, (by decide), hfr, rfl, List.Pairwise.nil, ?_⟩⟩
      · rw [← hob]
        exact ⟨rfl, rfl, rfl⟩
      · unfold hasZ
        simp
      · show _ ∨ (!w.params.followText "set-order") = true
        cases w.params.followText "set-order" <;> simp
    refine strS_loop wk s.heap.objs.size hfp xs hlen (by omega) (fun i v hv => ?_) items.size 0 _ rfl (Nat.zero_le _) ⟨⟨_, Heap.get?_push_size _ rfl, rfl, rfl⟩, (hl.push ob).push _⟩ ⟨0, Nat.le_refl _, st0⟩ fun s' mv hs => ?_
    · obtain ⟨t, ht⟩ := SS.strs_at hx i v (by simpa using hv)
      have hi : i < xs.length := by
        rw [hlen]
        exact (Array.getElem?_eq_some_iff.mp hv).1
      exact ⟨_, t, List.getElem?_eq_getElem hi, by rw [ht]; simp [List.getD, hi]⟩
    obtain ⟨m, hm, ss⟩ := hs
    rw [← hlen] at hm ss
    dsimp only
    refine wpAny_pure (wpAny_pure ⟨_, rfl, wpAny_pure ?_⟩)
    dsimp only
    rw [if_neg (by decide)]
    refine wpAny_pure ?_
    dsimp only
    obtain ⟨h', g', d', tk', os'⟩ := s'
    have e1 := mv.gens
    have e2 := mv.drawn
    have e3 := mv.os
    dsimp only at e1 e2 e3 ss ⊢
    subst e1 e2 e3
    refine q h' tk' m hm ss fun b o e => mv.heap b o (fun z => ?_) (Heap.get?_push_of_some _ (Heap.get?_push_of_some _ e))
    have hb := Heap.lt_size e
    rcases List.mem_cons.mp z with z | z
    · rw [z] at hb
      exact absurd hb (Nat.lt_irrefl _)
    · rw [List.mem_singleton.mp z, isz] at hb
      exact Nat.not_lt.mpr (Nat.le_succ _) hb
  | .error e, h => exact h
end
end L2

namespace L2
open PySem PySem.Spec PyProof.Rows SrtO SrtZ
section
variable {P : Program} {w : World} {A : Around} {E : Value → Shared → Prop} {s : Shared} {a : Addr}
theorem isStr_of {z : Str} {v : Value} (h : (strKind P w).is z v = true) : ∃ t, v = .str z t := by
  cases v with
  | str x t =>
    have h := (strKind P w).inj (.str x t) z x h (strKind_is P w x t)
    exact ⟨t, by rw [h]⟩
  | _ => exact absurd h (by first | decide | (intro z; cases z))
theorem sorted_strS {S : Str → Bool} {n : Nat} {Q : Value → Shared → Prop} (hs : StrSet P w s.heap a S n) (hA : A.handled = none)
    (q : ∀ (s' : Shared) (p : Nat) (ys : List Str) (out : List Value), (∀ b o, s.heap.get? b = some o → s'.heap.get? b = some o) → s'.gens = s.gens → s'.os = s.os → s.heap.objs.size ≤ p → (∃ c, s'.heap.get? p = some (seqObj "list" out.toArray c)) → StrsAre out ys → (∀ z, z ∈ ys ↔ S z = true) → ys.length = n → Srtd ltZ ys → Q (.ref p) s') :
    wpAny (model P w) A (call (.builtin "sorted") [.ref a]) Q E s := by
  obtain ⟨es, ep, t, ⟨⟨o, h1, h2, h3⟩, el, is_, lt, fits, sz, ris, led⟩⟩ := hs
  subst sz
  refine call_function_entry_kw kind_sorted plain_sorted entry_sorted (args_sorted1 _) ?_
  unfold Builtin.«sorted»
  refine wpAny_bind (m := checkCount "sorted" 1 1 _) (wpAny_pure ?_)
  refine wpAny_bind (collect_set (A := A.in1) hA ⟨o, h1, h2.1, h3⟩ fits lt ris led fun s1 vs kp1 sz1 g1 os1 pm => ?_)
  have vl : vs.length = es.size := by
    have := pm.length_eq
    simpa using this
  have isS : ∀ v ∈ vs, ∃ x t, v = Value.str x t := fun v hv => by
    obtain ⟨e, he, rfl⟩ := List.mem_map.mp (pm.mem_iff.mp hv)
    obtain ⟨⟨k, hk, _⟩, _⟩ := el e he
    obtain ⟨t, ht⟩ := isStr_of hk
    exact ⟨k, t, ht⟩
  have hz : vs.length ≤ sizeLine := by rw [vl]; exact fits_of_scanBound lt
  refine wpAny_bind (wpAny_newList ?_ hz)
  have hoL : (s1.heap.push (seqObj "list" vs.toArray 0)).get? s1.heap.objs.size = some (seqObj "list" vs.toArray 0) := Heap.get?_push_size _ rfl
  refine wpAny_bind (wpAny_holding (wpAny_call_entry_kw slot_list_sort ⟨_, hoL, rfl⟩ entry_list_sort ?_ (args_list_sort _)))
  rw [plain_rev]
  refine SrtR.list_sort_ordR (s := { s1 with heap := s1.heap.push (seqObj "list" vs.toArray 0) }) (b := false) (ltv := ltSv) swo_str hoL hz (fun h2 => strs_sortable (strsAre_map vs isS) h2) fun out hs hb => ⟨_, rfl, ?_⟩
  refine wpAny_pure ⟨_, rfl, ?_⟩
  have pm2 : out.Perm vs := by
    have := hb.perm
    rwa [if_neg (by decide)] at this
  have isO : ∀ v ∈ out, ∃ x t, v = Value.str x t := fun v hv => isS v (pm2.mem_iff.mp hv)
  refine q _ _ (out.map strOf) out (fun b u e => ?_) g1 os1 sz1 (sortedHeap_at hoL) (strsAre_map out isO) (fun z => ?_) ?_ (srtd_map hs)
  · have k1 := kp1 b u e
    exact (sortedHeap_old (Nat.ne_of_lt (Heap.lt_size k1)) (Heap.lt_size (Heap.get?_push_of_some _ k1))).trans (Heap.get?_push_of_some _ k1)
  · rw [is_ z]
    constructor
    · intro h
      obtain ⟨v, hv, rfl⟩ := List.mem_map.mp h
      obtain ⟨e, he, rfl⟩ := List.mem_map.mp (pm.mem_iff.mp (pm2.mem_iff.mp hv))
      obtain ⟨⟨k, hk, _⟩, _⟩ := el e he
      obtain ⟨t, ht⟩ := isStr_of hk
      refine ⟨e, he, ?_⟩
      rw [ht] at hk ⊢
      exact hk
    · rintro ⟨e, he, hk⟩
      obtain ⟨t, ht⟩ := isStr_of hk
      refine List.mem_map.mpr ⟨e.2, pm2.mem_iff.mpr (pm.mem_iff.mpr (List.mem_map.mpr ⟨e, he, rfl⟩)), ?_⟩
      rw [ht]
      rfl
  · rw [List.length_map, pm2.length_eq, vl]
end
def SetS (P : Program) (w : World) (a : Addr) (S : Str → Bool) (n : Nat) : HO := .ext fun h => StrSet P w h a S n
theorem setS_ok {P : Program} {w : World} {H : Hp} {h : Heap} {a : Addr} {S : Str → Bool} {n : Nat} (st : StrSet P w h a S n) : ObjOk P w H h a (SetS P w a S n) :=
  ⟨st, (let ⟨_, _, _, ⟨⟨o, e, _⟩, _, _, _, _, _, _, _⟩⟩ := st; ⟨o, e⟩), fun h1 h2 x k => StrSet.keep x k⟩
section
variable {X : Cx}
/-- set(xs), xs a list of texts -/
def rSetOfS (K : PySem.W.Frag) (P : Program) (w : World) : List V → Hp → VK → Prop := fun xs H Q => ∃ (l : Addr) (zs : List Str), xs = [V.ref l] ∧ SqL K H l (zs.map V.str) ∧ zs.length ≤ 1000 ∧ ∀ (p : Addr) (n : Nat), H p = none → n ≤ dcz zs zs.length → Q (.ref p) (upd H p (SetS P w p (hasZ zs zs.length) n))
theorem cr_setOfS (hc : X.calm = true) : CallR X (.type "set") (rSetOfS X.K X.prog X.w) := by
  intro pins s σ H xs us Q I r h
  obtain ⟨l, zs, rfl, hS, hz, q⟩ := h
  obtain rfl := Vals.ref1 r
  obtain ⟨its, r', pl, hz'⟩ := I.list hS
  have h1 := strs_of_vals r'
  refine call_set_strs (items := its.toArray) (xs := zs) (I.ok.hd hc) pl.isList (by simpa using h1) (by show zs.length + 1 < 4096; omega) fun h' tk m hm ss kp => ?_
  have hf : H s.heap.objs.size = none := I.hok.fresh (Nat.le_refl _)
  exact ⟨.ref s.heap.objs.size, _, I.laid (t' := tk) kp (Nat.le_refl _) (setS_ok ss), rfl, q _ m hf hm⟩
/-- sorted(s), s a set of texts -/
def rSortedSS (P : Program) (w : World) : List V → Hp → VK → Prop := fun vs H Q => ∃ (a : Addr) (S : Str → Bool) (n : Nat), vs = [V.ref a] ∧ H a = some (SetS P w a S n) ∧ n ≤ 1000 ∧ ∀ (ys : List Str) (l : Addr), Srtd ltZ ys → (∀ z, z ∈ ys ↔ S z = true) → ys.length = n → H l = none → Q (.ref l) (upd H l (.lst (ys.map V.str)))
theorem cr_sortedSS (hc : X.calm = true) : CallR X (.builtin "sorted") (rSortedSS X.prog X.w) := by
  intro pins s σ H xs us Q I r h
  obtain ⟨a, S, n, rfl, ha, hn, q⟩ := h
  obtain rfl := Vals.ref1 r
  have ss : StrSet X.prog X.w s.heap a S n := (show ObjOk X.prog X.w H s.heap a (SetS X.prog X.w a S n) from I.hok a _ ha).1
  refine sorted_strS ss (I.ok.hd hc) fun s' p ys out kp g1 os1 hp hat hys hmem hlen hsrt => ?_
  obtain ⟨c, hat⟩ := hat
  have hf : H p = none := I.hok.fresh hp
  have hlen2 : (ys.map V.str).length ≤ sizeLine := by rw [List.length_map, hlen, sizeLine_eq]; omega
  have ok : ObjOk X.prog X.w (upd H p (.lst (ys.map V.str))) s'.heap p (.lst (ys.map V.str)) := ⟨hlen2, out, c, vals_of_strs hys, hat⟩
  obtain ⟨h', g', d', tk', os'⟩ := s'
  dsimp only at g1 os1 kp hat ok
  subst g1 os1
  exact ⟨.ref p, _, I.call (ch := []) (Un.laid kp hp hf) (I.hok.laid kp hp ok) I.bare (fun _ h => nomatch h), rfl, q ys p hsrt hmem hlen hf⟩
end
theorem memlen : ∀ {l m : List Str}, l.Nodup → (∀ x ∈ l, x ∈ m) → l.length ≤ m.length
  | [], _, _, _ => Nat.zero_le _
  | x :: l, m, nd, h => by
    rw [List.nodup_cons] at nd
    have hx := h x List.mem_cons_self
    have ih := memlen (l := l) (m := m.erase x) nd.2 fun y hy => (List.mem_erase_of_ne (fun z => nd.1 (by rw [← z]; exact hy))).mpr (h y (List.mem_cons_of_mem _ hy))
    rw [List.length_erase_of_mem hx] at ih
    have := List.length_pos_of_mem hx
    show l.length + 1 ≤ m.length
    omega
theorem memnd : ∀ {l m : List Str}, l.Nodup → (∀ x ∈ l, x ∈ m) → m.length ≤ l.length → m.Nodup
  | [], m, _, _, h => by
    have : m = [] := List.eq_nil_of_length_eq_zero (Nat.le_zero.mp h)
    rw [this]
    exact List.nodup_nil
  | x :: l, m, nd, h, hl => by
    have nd' := nd
    rw [List.nodup_cons] at nd
    have hx := h x List.mem_cons_self
    have hsub : ∀ y ∈ l, y ∈ m.erase x := fun y hy => (List.mem_erase_of_ne (fun z => nd.1 (by rw [← z]; exact hy))).mpr (h y (List.mem_cons_of_mem _ hy))
    have hle := List.length_erase_of_mem hx
    have hl' : m.length ≤ l.length + 1 := hl
    have ih := memnd (l := l) (m := m.erase x) nd.2 hsub (by omega)
    have hno : x ∉ m.erase x := fun z => by
      have := memlen (l := x :: l) (m := m.erase x) nd' fun y hy => by
        rcases List.mem_cons.mp hy with rfl | hy
        · exact z
        · exact hsub y hy
      have h0 : l.length + 1 ≤ (m.erase x).length := this
      have := List.length_pos_of_mem hx
      omega
    exact (List.perm_cons_erase hx).nodup_iff.mpr (List.nodup_cons.mpr ⟨hno, ih⟩)
/-- the unlike ones, each once -/
theorem dcz_list (xs : List Str) : ∀ i, i ≤ xs.length → ∃ l : List Str, l.Nodup ∧ l.length = dcz xs i ∧ ∀ z, z ∈ l ↔ hasZ xs i z = true
  | 0, _ => ⟨[], List.nodup_nil, rfl, fun z => by unfold hasZ; simp⟩
  | i + 1, h => by
    obtain ⟨l, nd, hl, hm⟩ := dcz_list xs i (by omega)
    have hx : xs[i]? = some xs[i] := List.getElem?_eq_getElem (by omega)
    generalize xs[i] = x at hx
    have hs := hasZ_snoc hx
    have hd := dcz_snoc hx
    cases e : hasZ xs i x with
    | true =>
      rw [e, if_pos rfl] at hd
      refine ⟨l, nd, by omega, fun z => ?_⟩
      rw [hm, hs, Bool.or_eq_true]
      constructor
      · exact .inl
      · rintro (h | h)
        · exact h
        · rw [of_decide_eq_true h]
          exact e
    | false =>
      rw [e, if_neg (by decide)] at hd
      refine ⟨x :: l, List.nodup_cons.mpr ⟨fun z => ?_, nd⟩, by rw [List.length_cons]; omega, fun z => ?_⟩
      · rw [hm, e] at z
        cases z
      · rw [List.mem_cons, hm, hs, Bool.or_eq_true, decide_eq_true_eq]
        exact Or.comm
theorem dcz_nd {xs ys : List Str} (h : ∀ z, z ∈ ys ↔ hasZ xs xs.length z = true) (hl : ys.length ≤ dcz xs xs.length) : ys.Nodup := by
  obtain ⟨l, nd, h1, h2⟩ := dcz_list xs xs.length (Nat.le_refl _)
  exact memnd nd (fun z hz => (h z).mpr ((h2 z).mp hz)) (by omega)
theorem hasZ_all (xs : List Str) (z : Str) : hasZ xs xs.length z = true ↔ z ∈ xs := by
  unfold hasZ
  rw [List.take_length, List.any_eq_true]
  constructor
  · rintro ⟨x, hx, e⟩
    rw [← of_decide_eq_true e]
    exact hx
  · intro h
    exact ⟨z, h, decide_eq_true rfl⟩
end L2

namespace Kb
open PySem PySem.Spec PyProof.Rows L2 SrtZ SrtO FlX LamX RZ
abbrev struths : Stmt := topS 37
abbrev Ntruths : List Str := ["_law_sketch_here", "_law_named", "_law_deals", "_law_kept", "_law_names", "_law_name", "_law_later", "_law_taken", "_law_left", "_law_found", "_law_parts_here", "_law_counts", "_law_k", "_law_one", "_law_pair"]
theorem sctruths : FnScope ["_law_sketch_here", "_law_named", "_law_deals", "_law_kept", "_law_names", "_law_name", "_law_later", "_law_taken", "_law_left", "_law_found", "_law_parts_here", "_law_counts", "_law_k", "_law_one", "_law_pair"] ["_law_sketch_here", "_law_named"] (defScope struths) := ⟨rfl, rfl, rfl, by decide +kernel, rfl, by decide +kernel, by decide +kernel⟩
abbrev Dntruths (K : PySem.W.Frag) (mg : Str → Option Value) := Dn K mg "_law_truths" struths ["_law_sketch_here", "_law_named"]
/-- pairs, sorted -/
theorem srt_pairs {H : Hp} {vs us : List Addr} {C : Ct} (hvs : Paired (PrT H) vs C) (nd : NdZ C) (pm : us.Perm vs) (so : Srtd lexZ (us.map (rdP H))) : Paired (PrT H) us (srtZ C) := by
  obtain ⟨r1, r2⟩ := paired_rd hvs
  have pm2 : (us.map (rdP H)).Perm C := by
    have := pm.map (rdP H)
    rwa [r1] at this
  rw [← srtZ_of (asc_of so pm2 nd) pm2 nd]
  have gen : ∀ ws : List Addr, (∀ t ∈ ws, t ∈ vs) → Paired (PrT H) ws (ws.map (rdP H)) := by
    intro ws
    induction ws with
    | nil => exact fun _ => .nil
    | cons t ws ih => exact fun h => .cons (r2 t (h t List.mem_cons_self)) (ih fun x hx => h x (List.mem_cons_of_mem _ hx))
  exact gen us fun t ht => pm.mem_iff.mp ht
theorem seqLS {K : PySem.W.Frag} {H H' : Hp} {a : Addr} {xs : List V} (h : SqL K H a xs) (s : Same H H') : SqL K H' a xs := by
  rcases h with (h | ⟨o, h⟩) | h
  · exact .inl (.inl (s _ _ h))
  · exact .inl (.inr ⟨o, s _ _ h⟩)
  · exact .inr h
/-- a deal on the heap -/
def DlAt (H : Hp) (p : Addr) (d : List Nat × Nat) : Prop := ∃ k, H p = some (.tup [.ref k, .int (d.2 : Int)]) ∧ NtAt H k d.1
theorem DlAt.same {H H' : Hp} {p : Addr} {d : List Nat × Nat} (h : DlAt H p d) (s : Same H H') : DlAt H' p d := by
  obtain ⟨k, h1, h2⟩ := h
  exact ⟨k, s _ _ h1, h2.same s⟩
theorem DlAt.putL {H : Hp} {p D : Addr} {d : List Nat × Nat} {xs : List V} {u : HO} (h : DlAt H p d) (hD : H D = some (.lst xs)) : DlAt (upd H D u) p d := by
  obtain ⟨k, h1, h2⟩ := h
  exact ⟨k, by rw [upd_ne (ne_of h1 hD (by intro z; cases z))]; exact h1, h2.putL hD⟩
theorem prt_putL {H : Hp} {D : Addr} {ts : List Addr} {ys : Ct} {xs : List V} {u : HO} (h : Paired (PrT H) ts ys) (hD : H D = some (.lst xs)) : Paired (PrT (upd H D u)) ts ys := paired_imp (fun t e h => by
  show _ = _
  rw [upd_ne (ne_of h hD (by intro z; cases z))]
  exact h) h
theorem TupC.putL {H : Hp} {p k : Addr} {ys : Ct} {xs : List V} {u : HO} (h : TupC H k ys) (hp : H p = some (.lst xs)) : TupC (upd H p u) k ys := by
  obtain ⟨us, ⟨ob, g1, g2⟩, g3⟩ := h.ob
  exact ⟨us, ⟨ob, by rw [upd_ne (ne_of g1 hp (by intro z; cases z))]; exact g1, g2⟩, prt_putL g3 hp⟩
/-- pairs, with their numbers above 0 -/
theorem posC_snoc (l : Ct) (e : Str × Int) : posC (l ++ [e]) = if 0 < e.2 then posC l ++ [e] else posC l := by
  unfold posC
  rw [List.filter_append]
  by_cases h : 0 < e.2
  · rw [if_pos h, List.filter_cons_of_pos (by simpa using h), List.filter_nil]
  · rw [if_neg h, List.filter_cons_of_neg (by simpa using h), List.filter_nil, List.append_nil]
/-- all that is listed -/
def listZ (kvs : Ct) (ns : List Str) (off lost : Nat) : List Ct := (dealsZ off lost ns.length).flatMap fun d => (partsF 12 d.2 off).map fun e => srtZ (posC (rawC kvs ns d.1 e))
theorem parts_fewJ : ∀ j, j < 13 → ∀ l, l < 12 → ∀ m, m < 4 → (partsF j l m).length ≤ 16 := by decide +kernel
theorem zzN_str {i : Nat} (h : i < 26) : Str.ofString "zz" ++ (⟨#[97 + i]⟩ : Str) = zzN i := by
  have h1 : cs (Str.ofString "zz" ++ (⟨#[97 + i]⟩ : Str)) = [122, 122, 97 + i] := by
    rw [cs_app]
    rfl
  have h2 : cs (zzN i) = [122, 122, 97 + i] := cs_S _
  exact str_of (h1.trans h2.symm)
section
variable {P : Program} {w : World} {K : PySem.W.Frag} {mg : Str → Option Value} {base : Heap}
def spTruths (K : PySem.W.Frag) : Sp := fun vs H Q _ => ∃ (s nm : Addr) (r : Int) (x : Tl) (zs bs : List Str) (off lost : Nat), vs = [.ref s, .ref nm] ∧ SkAt H s r x ∧ TlOk r x ∧ x.c.length ≤ 5 ∧ x.o = (off : Int) ∧ off ≤ 3 ∧ x.m - sumC x.c = (lost : Int) ∧ lost < 12 ∧
  (SqL K H nm (zs.map V.str) ∨ SqT K H nm (zs.map V.str)) ∧ zs.length ≤ 100 ∧ bs.length ≤ 5 ∧ (∀ e ∈ x.c, e.1 ∈ bs) ∧ (∀ z ∈ zs, z ∈ bs) ∧ (∀ z ∈ bs, Nm z ∧ ∀ i, z ≠ zzN i) ∧
  ∀ H' p ks ns, Same H H' → H p = none → H' p = some (.lst (ks.map V.ref)) → NsOk (srtZ x.c) ns → (∀ z ∈ ns, z ∈ bs) → (∀ z ∈ zs, z ∈ ns) → Paired (TupC H') ks (listZ (srtZ x.c) ns off lost) → ks.length ≤ 20000 → Q (.ref p) H'
theorem ok_truths (T : Blt mg) (dlost : Dnlost K mg) (dparts : Dnparts K mg) (d : Dntruths K mg) : FnOk P w K mg base CX0 14 d.f d.fd ["_law_sketch_here", "_law_named"] (spTruths K) := by
  have Glost : FnOk P w K mg base CX0 1 dlost.f dlost.fd ["_law_sketch_here"] spLost := ok_lost T dlost
  have Gparts : FnOk P w K mg base CX0 13 dparts.f dparts.fd ["_law_left", "_law_most"] (spParts 12) := ok_parts T dparts 12
  refine d.F.ok sctruths (fun vs H Q E h => ?_) (fun cdv A outer s H vs Q E hr h => ?_)
  · obtain ⟨s, nm, r, x, zs, bs, off, lost, rfl, _⟩ := h
    rfl
  · obtain ⟨sk, nm, r, x, zs, bs, off, lost, rfl, hs, ok, xl, ho, ho3, hlost, hl12, hnm, zl, bl, hxb, hzb, hbok, q⟩ := h
    have hu := hu_of hr
    obtain ⟨k, ts, hs0, hk, hp⟩ := id hs
    have ndk : NdZ (srtZ x.c) := srtZ_nd ok.nd
    refine ⟨_, (pss_cons (ps_set (i := 2) sctruths.nd rfl (Or.inl rfl) (pe_lst (pa_cons (pe_tup (pa_cons (pe_tupF pa_nil) (pa_cons (pe_call Glost (hr.mono (by omega)) (by rfl) dlost.g dlost.F.kp dlost.b .nil pass0 (pa_cons (pv 0) pa_nil)) pa_nil))) pa_nil)))
    (pss_cons (ps_asg (pe_callTy (call_dictPT rfl) (by rfl) T.n_dict (by decide +kernel) (pa_cons (pe_ix ix_tup (pv 0) pe_int (fun _ _ => rfl)) pa_nil)) (pg_name (i := 3) sctruths.nd rfl (Or.inr rfl)))
    (pss_cons (ps_asg (pe_callB (cr_sortedSS rfl) (by rfl) T.n_sorted (by decide +kernel) (pa_cons (pe_callTy (cr_setOfS rfl) (by rfl) T.n_set (by decide +kernel) (pa_cons (pe_op op_cat (pe_callTy (call_list_dK rfl) (by rfl) T.n_list (by decide +kernel) (pa_cons (pv 3) pa_nil)) (pe_callTy call_list_of (by rfl) T.n_list (by decide +kernel) (pa_cons (pv 1) pa_nil))) pa_nil)) pa_nil)) (pg_name (i := 4) sctruths.nd rfl (Or.inr rfl)))
    (pss_cons (ps_for PassesOwn.never rfl (pi_list (pv 4)) (pg_name (i := 5) sctruths.nd rfl (Or.inl rfl))
      (pss_cons (ps_set (i := 6) sctruths.nd rfl (Or.inl rfl) (pe_lst pa_nil))
      (pss_cons (ps_for PassesOwn.never rfl (pi_list (pv 2)) (pg_tup (by rfl) (pgs_cons (pg_name (i := 7) sctruths.nd rfl (Or.inr rfl)) (pgs_cons (pg_name (i := 8) sctruths.nd rfl (Or.inr rfl)) pgs_nil)))
        (pss_one (ps_expr (pe_bm PySem.F.plainAttrs_list PySem.F.slot_list_extend PySem.F.type_list_extend mt_extend (pv 6) (pa_cons (pe_lc (own := [("_law_one", 13)]) (g := gName 13) (tt := tYes) rfl sctruths.nd (pi_range1 (by rfl) T.n_range (pa_cons (pe_op op_add (pe_callB (call_min2 rfl) (by rfl) T.n_min (by decide +kernel) (pa_cons (pe_ix ix_tup (pv 0) pe_int (fun _ _ => rfl)) (pa_cons (pv 8) pa_nil))) pe_int) pa_nil)) (blkOk_by (N := Ntruths) (sc := defScope struths) (by decide +kernel)) (fun _ _ _ _ _ => pg_name (i := 13) sctruths.nd rfl (Or.inl rfl)) (fun _ _ _ _ _ => pts_nil) (fun _ _ _ _ _ => (pe_tup (pa_cons (pe_op (r := rCatP K) op_catP (pv 7) (pe_tupF (pa_cons (pv 13) pa_nil))) (pa_cons (pe_op op_sub (pv 8) (pv 13)) pa_nil))))) pa_nil)))))
      (pss_one (ps_set (i := 2) sctruths.nd rfl (Or.inl rfl) (pv 6))))))
    (pss_cons (ps_set (i := 9) sctruths.nd rfl (Or.inl rfl) (pe_lst pa_nil))
    (pss_cons (ps_for PassesOwn.never rfl (pi_list (pv 2)) (pg_tup (by rfl) (pgs_cons (pg_name (i := 7) sctruths.nd rfl (Or.inr rfl)) (pgs_cons (pg_name (i := 8) sctruths.nd rfl (Or.inr rfl)) pgs_nil)))
      (pss_one (ps_for PassesOwn.never rfl (pi_list (pe_call Gparts (hr.mono (by omega)) (by rfl) dparts.g dparts.F.kp dparts.b .nil pass0 (pa_cons (pv 8) (pa_cons (pe_ix ix_tup (pv 0) pe_int (fun _ _ => rfl)) pa_nil)))) (pg_name (i := 10) sctruths.nd rfl (Or.inr rfl))
        (pss_cons (ps_setLc (i := 11) (own := [("_law_k", 12)]) (g := gName 12) (tt := tYes) rfl sctruths.nd rfl rfl (sw_true rfl rfl rfl (by decide +kernel)) (pi_range1 (by rfl) T.n_range (pa_cons (pe_callB call_len_seq (by rfl) T.n_len (by decide +kernel) (pa_cons (pv 4) pa_nil)) pa_nil)) (blkOk_by (N := Ntruths) (sc := defScope struths) (by decide +kernel)) (fun _ _ _ _ _ => pg_name (i := 12) sctruths.nd rfl (Or.inl rfl)) (fun _ _ _ _ _ => pts_nil) (fun _ _ _ _ _ => (pe_tup (pa_cons (pe_ix (r := rIxL K) ix_list (pv 4) (pv 12) (fun _ _ => rfl)) (pa_cons (pe_op op_add (pe_dget2 hu (pv 3) (pe_ix (r := rIxL K) ix_list (pv 4) (pv 12) (fun _ _ => rfl)) pe_int ⟨rfl, rfl, rfl, rfl⟩) (pe_ix (r := rIxT K) ix_tup (pv 7) (pv 12) (fun _ _ => rfl))) pa_nil)))))
        (pss_cons (ps_set (i := 11) sctruths.nd rfl (Or.inl rfl) (pe_op op_cat (pv 11) (pe_lc (own := [("_law_k", 12)]) (g := gName 12) (tt := tYes) rfl sctruths.nd (pi_range1 (by rfl) T.n_range (pa_cons (pe_callB call_len_seq (by rfl) T.n_len (by decide +kernel) (pa_cons (pv 10) pa_nil)) pa_nil)) (blkOk_by (N := Ntruths) (sc := defScope struths) (by decide +kernel)) (fun _ _ _ _ _ => pg_name (i := 12) sctruths.nd rfl (Or.inl rfl)) (fun _ _ _ _ _ => pts_nil) (fun _ _ _ _ _ => (pe_tup (pa_cons (pe_op op_add_str pe_str (pe_ix ix_str pe_str (pv 12) (fun _ _ => rfl))) (pa_cons (pe_ix (r := rIxT K) ix_tup (pv 10) (pv 12) (fun _ _ => rfl)) pa_nil)))))))
        (pss_one (ps_expr (pe_bm PySem.F.plainAttrs_list PySem.F.slot_list_append PySem.F.type_list_append mt_append (pv 9) (pa_cons (pe_callTy call_tupleF (by rfl) T.n_tuple (by decide +kernel) (pa_cons (pe_callB cr_sortedPZ (by rfl) T.n_sorted (by decide +kernel) (pa_cons (pe_lc (own := [("_law_pair", 14)]) (g := gName 14) rfl sctruths.nd (pi_list (pv 11)) (blkOk_by (N := Ntruths) (sc := defScope struths) (by decide +kernel)) (fun _ _ _ _ _ => pg_name (i := 14) sctruths.nd rfl (Or.inl rfl)) (fun _ _ _ _ _ => pts_one (pt_cmpR op_gt (pe_ix (r := rIxT K) ix_tup (pv 14) pe_int (fun _ _ => rfl)) pe_int (nomark _))) (fun _ _ _ _ _ => (pv 14))) pa_nil)) pa_nil)) pa_nil)))))))))
    (pss_one (ps_ret (pv 9))))))))), ?_⟩
    -- the first deal
    refine ⟨(by show 0 ≤ sizeLine; decide), fun p0 o0 np0 ho0 => ?_⟩
    have s1 := same_upd (o := .frz o0 (.tup [])) np0
    have hp1 : NtAt (upd H p0 (.frz o0 (.tup []))) p0 [] := ⟨o0, upd_same, ho0⟩
    generalize upd H p0 (.frz o0 (.tup [])) = H1 at s1 hp1 ⊢
    refine ⟨.ref sk, rfl, sk, r, x, rfl, hs.same s1, by omega, fun H2 s2 => ⟨(by show 2 ≤ sizeLine; decide), fun t2 nt2 => ⟨(by show 1 ≤ sizeLine; decide), fun D nD => ?_⟩⟩⟩
    rw [hlost] at nD ⊢
    have s3 : Same H (upd (upd H2 t2 (.tup [.ref p0, .int (lost : Int)])) D (.lst [.ref t2])) := ((s1.trans s2).trans (same_upd nt2)).trans (same_upd nD)
    have hp3 := ((hp1.same s2).same (same_upd (o := .tup [.ref p0, .int (lost : Int)]) nt2)).same (same_upd (o := .lst [.ref t2]) nD)
    have ht3 : (upd (upd H2 t2 (.tup [.ref p0, .int (lost : Int)])) D (.lst [.ref t2])) t2 = some (.tup [.ref p0, .int (lost : Int)]) := same_upd nD _ _ upd_same
    have hD3 : (upd (upd H2 t2 (.tup [.ref p0, .int (lost : Int)])) D (.lst [.ref t2])) D = some (.lst [.ref t2]) := upd_same
    generalize upd (upd H2 t2 (.tup [.ref p0, .int (lost : Int)])) D (.lst [.ref t2]) = H3 at s3 hp3 ht3 hD3 ⊢
    -- what is kept
    refine ⟨.ref sk, rfl, sk, _, _, _, rfl, rfl, .inl (.inl (s3 _ _ hs0)), atI_nat (j := 3) rfl, k, ts, (srtZ x.c).map entZ, rfl, hk.same s3, ents_paired (paired_imp (fun t e h => .inl (.inl (s3 _ _ h))) hp), fun dk ndk4 => ?_⟩
    rw [show mergeK [] ((srtZ x.c).map entZ) = (srtZ x.c).map entZ from mergeZ (srtZ x.c) [] (by rw [List.nil_append]; exact ndk)]
    have mS : ∀ e, e ∈ srtZ x.c ↔ e ∈ x.c := fun e => (srtZ_perm x.c).mem_iff
    have lS : (srtZ x.c).length = x.c.length := (srtZ_perm x.c).length_eq
    generalize hkv : srtZ x.c = kvs at q hp ndk mS lS ndk4 ⊢
    have kpos : ∀ e ∈ kvs, 1 ≤ e.2 := fun e he => ok.pos e ((mS e).mp he)
    have kb : ∀ e ∈ kvs, e.1 ∈ bs := fun e he => hxb e ((mS e).mp he)
    have s4 := same_upd (o := .dK (kvs.map entZ)) ndk4
    have hdk4 : (upd H3 dk (.dK (kvs.map entZ))) dk = some (.dK (kvs.map entZ)) := upd_same
    generalize upd H3 dk (.dK (kvs.map entZ)) = H4 at s4 hdk4 ⊢
    -- the names
    refine ⟨.ref dk, rfl, dk, _, rfl, hdk4, fun L1 nL1 => ?_⟩
    have s5 := same_upd (o := .lst ((kvs.map entZ).map fun kv => kV kv.1)) nL1
    have hL1 : (upd H4 L1 (.lst ((kvs.map entZ).map fun kv => kV kv.1))) L1 = some (.lst ((kvs.map (·.1)).map V.str)) := by
      rw [upd_same, List.map_map, List.map_map]
      rfl
    generalize upd H4 L1 (.lst ((kvs.map entZ).map fun kv => kV kv.1)) = H5 at s5 hL1 ⊢
    have s05 : Same H H5 := (s3.trans s4).trans s5
    refine ⟨.ref nm, rfl, nm, _, rfl, hnm.elim (fun h => .inl (seqLS h s05)) (fun h => .inr (seqT h s05)), fun L2 nL2 => ?_⟩
    have s6 := same_upd (o := .lst (zs.map V.str)) nL2
    have hL2 : (upd H5 L2 (.lst (zs.map V.str))) L2 = some (.lst (zs.map V.str)) := upd_same
    generalize upd H5 L2 (.lst (zs.map V.str)) = H6 at s6 hL2 ⊢
    refine ⟨L1, L2, _, _, rfl, rfl, s6 _ _ hL1, hL2, by rw [List.length_map, List.length_map, List.length_map, sizeLine_eq]; omega, fun L3 nL3 => ?_⟩
    have s7 := same_upd (o := .lst ((kvs.map (·.1)).map V.str ++ zs.map V.str)) nL3
    have hL3 : (upd H6 L3 (.lst ((kvs.map (·.1)).map V.str ++ zs.map V.str))) L3 = some (.lst ((kvs.map (·.1) ++ zs).map V.str)) := by rw [upd_same, List.map_append]
    generalize upd H6 L3 (.lst ((kvs.map (·.1)).map V.str ++ zs.map V.str)) = H7 at s7 hL3 ⊢
    have alb : ∀ z ∈ kvs.map (·.1) ++ zs, z ∈ bs := fun z hz => by
      rcases List.mem_append.mp hz with hz | hz
      · obtain ⟨e, he, rfl⟩ := List.mem_map.mp hz
        exact kb e he
      · exact hzb z hz
    have all : (kvs.map (·.1) ++ zs).length ≤ 105 := by rw [List.length_append, List.length_map]; omega
    have allk : ∀ e ∈ kvs, e.1 ∈ kvs.map (·.1) ++ zs := fun e he => List.mem_append_left _ (List.mem_map.mpr ⟨e, he, rfl⟩)
    have allz : ∀ z ∈ zs, z ∈ kvs.map (·.1) ++ zs := fun z hz => List.mem_append_right _ hz
    generalize kvs.map (·.1) ++ zs = al at hL3 alb all allk allz
    have hdc := dcz_le al al.length
    refine ⟨L3, al, rfl, sql hL3, by omega, fun st n nst hn => ⟨st, _, n, rfl, upd_same, by omega, fun ns N hsrt hmem hlen nN => ?_⟩⟩
    generalize SetS _ _ st (hasZ al al.length) n = so at nN ⊢
    have s8 : Same H7 (upd (upd H7 st so) N (.lst (ns.map V.str))) := Same.new (same_upd nst) nN
    have hN8 : (upd (upd H7 st so) N (.lst (ns.map V.str))) N = some (.lst (ns.map V.str)) := upd_same
    have nsd : ns.Nodup := dcz_nd hmem (by omega)
    have nsb : ∀ z ∈ ns, z ∈ bs := fun z hz => alb z ((hasZ_all al z).mp ((hmem z).mp hz))
    have nsa : ∀ z ∈ al, z ∈ ns := fun z hz => (hmem z).mpr ((hasZ_all al z).mpr hz)
    have nl5 : ns.length ≤ 5 := by
      have := nodup_len nsd nsb
      omega
    have nok : NsOk kvs ns := ⟨nsd, fun e he => nsa _ (allk e he), ndk, kpos, fun z hz => (hbok z (nsb z hz)).1, fun z hz => (hbok z (nsb z hz)).2⟩
    have nsz : ∀ z ∈ zs, z ∈ ns := fun z hz => nsa z (allz z hz)
    generalize upd (upd H7 st so) N (.lst (ns.map V.str)) = H8 at s8 hN8 ⊢
    have s38 : Same H3 H8 := (((s4.trans s5).trans s6).trans s7).trans s8
    have s08 : Same H H8 := s3.trans s38
    have hdk8 := s8 _ _ (s7 _ _ (s6 _ _ (s5 _ _ hdk4)))
    have hd8 : DlAt H8 t2 ([], lost) := ⟨p0, s38 _ _ ht3, hp3.same s38⟩
    have hD8 := s38 _ _ hD3
    have hs8 := s08 _ _ hs0
    -- all deals
    refine ⟨.ref N, rfl, N, rfl, ⟨_, sql hN8⟩, for_list (xs := ns.map V.str) (fun i σ H9 => ∃ (Di : Addr) (y5 y6 y7 y8 y9 y10 y11 y12 y13 y14 : Option V) (es : List Addr), σ = [some (.ref sk), some (.ref nm), some (.ref Di), some (.ref dk), some (.ref N), y5, y6, y7, y8, y9, y10, y11, y12, y13, y14] ∧ Same H8 H9 ∧ H9 Di = some (.lst (es.map V.ref)) ∧ Paired (DlAt H9) es (dealsZ off lost i))
      ⟨D, none, none, none, none, none, none, none, none, none, none, [t2], rfl, (fun _ _ e => e), hD8, .cons hd8 .nil⟩ (fun i σ H9 _ ⟨_, _, _, _, _, _, _, _, _, _, _, _, _, s9, _⟩ => sql (s9 _ _ hN8)) ?_ ?_⟩
    · rintro i v σ H9 hi ⟨Di, y5, y6, y7, y8, y9, y10, y11, y12, y13, y14, es, rfl, s9, hDi, hes⟩
      obtain ⟨z, hz, rfl⟩ := map_at hi
      have hil := (List.getElem?_eq_some_iff.mp hz).1
      refine ⟨(by show 0 ≤ sizeLine; decide), fun E nE => ?_⟩
      have ndi := deals_few (lost := lost) ho3 i
      have ndi1 := deals_few (lost := lost) ho3 (i + 1)
      have p4 : 4 ^ (i + 1) ≤ 4 ^ 5 := Nat.pow_le_pow_right (by decide) (by omega)
      have les := Paired.length hes
      refine ⟨.ref Di, rfl, Di, rfl, ⟨_, sql (same_upd nE _ _ hDi)⟩, for_list (xs := es.map V.ref) (fun j σ H10 => ∃ (y7 y8 y13 : Option V) (fs : List Addr), σ = [some (.ref sk), some (.ref nm), some (.ref Di), some (.ref dk), some (.ref N), some (.str z), some (.ref E), y7, y8, y9, y10, y11, y12, y13, y14] ∧ Same H9 H10 ∧ H10 E = some (.lst (fs.map V.ref)) ∧ Paired (DlAt H10) fs (((dealsZ off lost i).take j).flatMap (stepD off)))
        ⟨y7, y8, y13, [], rfl, same_upd nE, upd_same, .nil⟩ (fun j σ H10 _ ⟨_, _, _, _, _, s10, _⟩ => sql (s10 _ _ hDi)) ?_ ?_⟩
      · rintro j v σ H10 hj ⟨y7, y8, y13, fs, rfl, s10, hE10, hfs⟩
        obtain ⟨t, ht, rfl⟩ := map_at hj
        obtain ⟨d, hd, hat⟩ := paired_at hes ht
        obtain ⟨kt, hdt, hkt⟩ := hat.same s10
        have hjl := (List.getElem?_eq_some_iff.mp hd).1
        obtain ⟨dlen, dto, dsum⟩ := deals_sound (List.mem_of_getElem? hd)
        have em : (if (d.2 : Int) < (off : Int) then (d.2 : Int) else (off : Int)) = ((min off d.2 : Nat) : Int) := by
          split <;> omega
        have hs10 := s10 _ _ (s9 _ _ hs8)
        refine ⟨t, _, rfl, .inl (.inl hdt), rfl, _, _, rfl, _, _, rfl, rfl, .ref E, rfl, .inl ⟨rfl, _, sql hE10⟩, .ref sk, rfl, sk, _, _, _, rfl, rfl, .inl (.inl hs10), atI_nat (j := 2) rfl, .int (d.2 : Int), rfl, x.o, (d.2 : Int), rfl, _, _, rfl, rfl, ?_⟩
        rw [ho, em]
        refine ⟨((min off d.2 : Nat) : Int) + 1, rfl, by omega, by omega, fun F nF => ?_⟩
        rw [show (((min off d.2 : Nat) : Int) + 1).toNat = min off d.2 + 1 by omega]
        refine lc_range (lo := 0) (n := min off d.2 + 1) (fun m H11 => Same H10 H11 ∧ ∃ us : List Addr, H11 F = some (.lst (us.map V.ref)) ∧ Paired (DlAt H11) us ((List.range m).map fun i => (d.1 ++ [i], d.2 - i))) ⟨same_upd nF, [], upd_same, .nil⟩ (fun m H11 hm h11 => ?_) (fun H11 h11 => ?_)
        · obtain ⟨s11, us, hF11, hus⟩ := h11
          refine ⟨rfl, .ref kt, rfl, .int (0 + (m : Int)), rfl, (by show 1 ≤ sizeLine; decide), fun p1 o np1 ho1 => ?_⟩
          rw [Int.zero_add]
          have s12 := same_upd (o := .frz o (.tup [.int (m : Int)])) np1
          have hp12 : Ptp (upd H11 p1 (.frz o (.tup [.int (m : Int)]))) p1 [.int (m : Int)] := ⟨o, upd_same, ho1⟩
          generalize upd H11 p1 (.frz o (.tup [.int (m : Int)])) = H12 at s12 hp12 ⊢
          refine ⟨kt, p1, _, _, rfl, rfl, (hkt.same s11).same s12, hp12, (by rw [List.length_map, sizeLine_eq]; show d.1.length + 1 ≤ _; omega), fun p2 H13 s13 hp2 => ?_⟩
          refine ⟨.int (d.2 : Int), rfl, .int (m : Int), rfl, _, _, rfl, rfl, (by show 2 ≤ sizeLine; decide), fun p3 np3 => ?_⟩
          have e2 : (d.2 : Int) - (m : Int) = ((d.2 - m : Nat) : Int) := by omega
          dsimp only
          rw [e2]
          have s14 := same_upd (o := .tup [.ref p2, .int ((d.2 - m : Nat) : Int)]) np3
          have hp14 : (upd H13 p3 (.tup [.ref p2, .int ((d.2 - m : Nat) : Int)])) p3 = some (.tup [.ref p2, .int ((d.2 - m : Nat) : Int)]) := upd_same
          have hp2' := hp2.same s14
          generalize upd H13 p3 (.tup [.ref p2, .int ((d.2 - m : Nat) : Int)]) = H14 at s14 hp14 hp2' ⊢
          have s1114 := (s12.trans s13).trans s14
          have hF14 := s1114 _ _ hF11
          have lus := Paired.length hus
          rw [List.length_map, List.length_range] at lus
          refine ⟨_, hF14, by rw [List.length_map, lus, sizeLine_eq]; omega, Same.put (s11.trans s1114) nF, us ++ [p3], by rw [upd_same, List.map_append]; rfl, ?_⟩
          rw [List.range_succ, List.map_append]
          refine paired_snoc (paired_imp (fun _ _ h => DlAt.putL (h.same s1114) hF14) hus) (DlAt.putL (xs := us.map V.ref) ⟨p2, hp14, ?_⟩ hF14)
          show Ptp H14 p2 ((d.1 ++ [m]).map fun x : Nat => V.int (x : Int))
          rw [List.map_append]
          exact hp2'
        · obtain ⟨s11, us, hF11, hus⟩ := h11
          have lus := Paired.length hus
          rw [List.length_map, List.length_range] at lus
          have hE11 := s11 _ _ hE10
          have lfs := Paired.length hfs
          have lfl : (((dealsZ off lost i).take j).flatMap (stepD off)).length ≤ j * 4 := by
            have := fl_len (f := stepD off) (b := 4) (l := (dealsZ off lost i).take j) fun d _ => by
              unfold stepD
              rw [List.length_map, List.length_range]
              omega
            rw [List.length_take] at this
            omega
          refine ⟨E, F, _, _, rfl, rfl, hE11, hF11, (by rw [List.length_map, List.length_map, sizeLine_eq]; omega), ?_⟩
          refine ⟨_, _, _, fs ++ us, rfl, Same.put (s10.trans s11) nE, by rw [upd_same, List.map_append], ?_⟩
          rw [List.take_add_one, hd, List.flatMap_append]
          refine paired_app (paired_imp (fun _ _ h => DlAt.putL (h.same s11) hE11) hfs) (paired_imp (fun _ _ h => DlAt.putL h hE11) ?_)
          show Paired _ us ([d].flatMap (stepD off))
          rw [List.flatMap_cons, List.flatMap_nil, List.append_nil]
          exact hus
      · rintro σ H10 ⟨y7, y8, y13, fs, rfl, s10, hE10, hfs⟩
        rw [List.length_map, les, List.take_length] at hfs
        exact ⟨.ref E, rfl, E, _, _, _, _, _, _, _, _, _, _, fs, rfl, s9.trans s10, hE10, hfs⟩
    · rintro σ H9 ⟨Di, y5, y6, y7, y8, y9, y10, y11, y12, y13, y14, es, rfl, s9, hDi, hes⟩
      rw [List.length_map] at hes
      have s09 : Same H H9 := s08.trans s9
      have hN9 := s9 _ _ hN8
      have hdk9 := s9 _ _ hdk8
      have les := Paired.length hes
      have few := deals_few (lost := lost) ho3 ns.length
      have p4 : 4 ^ ns.length ≤ 4 ^ 5 := Nat.pow_le_pow_right (by decide) nl5
      refine ⟨(by show 0 ≤ sizeLine; decide), fun G nG => ?_⟩
      have fewP : ∀ j, j ≤ 12 → ∀ l, l < 12 → ∀ m, m < 4 → (partsF j l m).length ≤ 16 := fun j hj => parts_fewJ j (by omega)
      have bigL : ∀ j, (((dealsZ off lost ns.length).take j).flatMap fun d => (partsF 12 d.2 off).map fun e => srtZ (posC (rawC kvs ns d.1 e))).length ≤ 16384 := fun j => by
        have := fl_len (f := fun d : List Nat × Nat => (partsF 12 d.2 off).map fun e => srtZ (posC (rawC kvs ns d.1 e))) (b := 16) (l := (dealsZ off lost ns.length).take j) fun d hd => by
          obtain ⟨_, _, ds⟩ := deals_sound (List.mem_of_mem_take hd)
          rw [List.length_map]
          exact fewP 12 (Nat.le_refl _) _ (by omega) _ (by omega)
        have lt := List.length_take (i := j) (l := dealsZ off lost ns.length)
        omega
      refine ⟨.ref Di, rfl, Di, rfl, ⟨_, sql (same_upd nG _ _ hDi)⟩, for_list (xs := es.map V.ref) (fun j σ H10 => ∃ (y7 y8 y10 y11 y12 y13 y14 : Option V) (gs : List Addr), σ = [some (.ref sk), some (.ref nm), some (.ref Di), some (.ref dk), some (.ref N), y5, y6, y7, y8, some (.ref G), y10, y11, y12, y13, y14] ∧ Same H9 H10 ∧ H10 G = some (.lst (gs.map V.ref)) ∧ Paired (TupC H10) gs (((dealsZ off lost ns.length).take j).flatMap fun d => (partsF 12 d.2 off).map fun e => srtZ (posC (rawC kvs ns d.1 e))))
        ⟨y7, y8, y10, y11, y12, y13, y14, [], rfl, same_upd nG, upd_same, .nil⟩ (fun j σ H10 _ ⟨_, _, _, _, _, _, _, _, _, s10, _⟩ => sql (s10 _ _ hDi)) ?_ ?_⟩
      · rintro j v σ H10 hj ⟨y7, y8, y10, y11, y12, y13, y14, gs, rfl, s10, hG10, hgs⟩
        obtain ⟨t, ht, rfl⟩ := map_at hj
        obtain ⟨d, hd, hat⟩ := paired_at hes ht
        obtain ⟨kt, hdt, hkt⟩ := hat.same s10
        have hjl := (List.getElem?_eq_some_iff.mp hd).1
        obtain ⟨dlen, dto, dsum⟩ := deals_sound (List.mem_of_getElem? hd)
        have hs10 := s10 _ _ (s09 _ _ hs0)
        refine ⟨t, _, rfl, .inl (.inl hdt), rfl, _, _, rfl, _, _, rfl, rfl, .int (d.2 : Int), rfl, .ref sk, rfl, sk, _, _, _, rfl, rfl, .inl (.inl hs10), atI_nat (j := 2) rfl, d.2, off, (by rw [ho]; rfl), by omega, by omega, ho3, fewP, fun H11 L ps s11 nL hL hps => ?_⟩
        have lps := Paired.length hps
        have fewd := fewP 12 (Nat.le_refl _) d.2 (by omega) off (by omega)
        have hG11 := s11 _ _ hG10
        have bl1 := bigL j
        have lgs := Paired.length hgs
        refine ⟨L, rfl, ⟨_, sql hL⟩, for_list (xs := ps.map V.ref) (fun m σ H12 => ∃ (y10 y11 y12 y13 y14 : Option V) (hs : List Addr), σ = [some (.ref sk), some (.ref nm), some (.ref Di), some (.ref dk), some (.ref N), y5, y6, some (.ref kt), some (.int (d.2 : Int)), some (.ref G), y10, y11, y12, y13, y14] ∧ (∀ b u, b ≠ G → H11 b = some u → H12 b = some u) ∧ H12 G = some (.lst ((gs ++ hs).map V.ref)) ∧ Paired (TupC H12) (gs ++ hs) ((((dealsZ off lost ns.length).take j).flatMap fun d => (partsF 12 d.2 off).map fun e => srtZ (posC (rawC kvs ns d.1 e))) ++ ((partsF 12 d.2 off).take m).map fun e => srtZ (posC (rawC kvs ns d.1 e))))
          ⟨y10, y11, y12, y13, y14, [], rfl, (fun _ _ _ e => e), by rw [List.append_nil]; exact hG11, by rw [List.append_nil, List.take_zero, List.map_nil, List.append_nil]; exact paired_imp (fun _ _ h => h.same s11) hgs⟩ (fun m σ H12 _ ⟨_, _, _, _, _, _, _, k12, _⟩ => sql (k12 _ _ (ne_of_none hG10 nL).symm hL)) ?_ ?_⟩
        · rintro m v σ H12 hm ⟨y10, y11, y12, y13, y14, hs', rfl, k12, hG12, hhs⟩
          obtain ⟨kp, hkp, rfl⟩ := map_at hm
          obtain ⟨e, he, hate⟩ := paired_at hps hkp
          have hml := (List.getElem?_eq_some_iff.mp he).1
          have nG' : ∀ {b : Addr} {u : HO}, H11 b = some u → (∀ xs, u ≠ .lst xs) → H12 b = some u := fun {b u} h n => k12 b u (ne_of h hG11 (n _)) h
          have hN12 : H12 N = some (.lst (ns.map V.str)) := k12 _ _ (ne_of_none (s9 _ _ hN8) nG) (s11 _ _ (s10 _ _ hN9))
          have hdk12 : H12 dk = some (.dK (kvs.map entZ)) := nG' (s11 _ _ (s10 _ _ hdk9)) (by intro _ z; cases z)
          have hkt12 : NtAt H12 kt d.1 := by
            obtain ⟨o, h1, h2⟩ := hkt
            exact ⟨o, nG' (s11 _ _ h1) (by intro _ z; cases z), h2⟩
          have hkp12 : NtAt H12 kp e := by
            obtain ⟨o, h1, h2⟩ := hate
            exact ⟨o, nG' h1 (by intro _ z; cases z), h2⟩
          obtain ⟨ep, es2⟩ := parts_sound (List.mem_of_getElem? he)
          have el : e.length ≤ 11 := by
            have := sum_len (e := e) fun x hx => (ep x hx).1
            omega
          -- counts of names
          refine ⟨.ref N, rfl, N, _, rfl, .inl (sql hN12), (ns.length : Int), (by rw [List.length_map]), by omega, by omega, fun C nC => ?_⟩
          rw [Int.toNat_natCast]
          refine lc_range (lo := 0) (n := ns.length) (fun a H13 => Same H12 H13 ∧ ∃ us : List Addr, H13 C = some (.lst (us.map V.ref)) ∧ Paired (PrT H13) us ((dealC kvs ns d.1).take a)) ⟨same_upd nC, [], upd_same, .nil⟩ (fun a H13 ha h13 => ?_) (fun H13 h13 => ?_)
          · obtain ⟨s13, us, hC13, hus⟩ := h13
            obtain ⟨z, hz⟩ : ∃ z, ns[a]? = some z := ⟨_, List.getElem?_eq_getElem ha⟩
            obtain ⟨tn, htn⟩ : ∃ tn, d.1[a]? = some tn := ⟨_, List.getElem?_eq_getElem (by omega)⟩
            have a1 : atI (ns.map V.str) (0 + (a : Int)) = some (.str z) := by
              rw [Int.zero_add]
              exact atI_nat (by rw [List.getElem?_map, hz]; rfl)
            have a2 : atI (d.1.map fun x : Nat => V.int (x : Int)) (0 + (a : Int)) = some (.int (tn : Int)) := by
              rw [Int.zero_add]
              exact atI_nat (by rw [List.getElem?_map, htn]; rfl)
            have a3 : (dealC kvs ns d.1)[a]? = some (z, gd kvs z + (tn : Int)) := by
              unfold dealC
              rw [List.getElem?_map, List.getElem?_zip_eq_some (z := (z, tn)) |>.mpr ⟨hz, htn⟩]
              rfl
            have hN13 := s13 _ _ hN12
            refine ⟨rfl, .ref N, rfl, .int (0 + (a : Int)), rfl, N, _, _, _, rfl, rfl, sql hN13, a1, .ref dk, rfl, dk, rfl, .inl ⟨_, .inl (s13 _ _ hdk12)⟩, .ref N, rfl, .int (0 + (a : Int)), rfl, N, _, _, _, rfl, rfl, sql hN13, a1, _, dg_open (s13 _ _ hdk12) z, .ref kt, rfl, .int (0 + (a : Int)), rfl, kt, _, _, _, rfl, rfl, (hkt12.same s13).seq, a2, gd kvs z, (tn : Int), (by unfold gd; cases getZ kvs z <;> rfl), rfl, (by show 2 ≤ sizeLine; decide), fun p np => ?_⟩
            dsimp only
            have s14 := same_upd (o := .tup [.str z, .int (gd kvs z + (tn : Int))]) np
            have hp14 : (upd H13 p (.tup [.str z, .int (gd kvs z + (tn : Int))])) p = some (.tup [.str z, .int (gd kvs z + (tn : Int))]) := upd_same
            generalize upd H13 p (.tup [.str z, .int (gd kvs z + (tn : Int))]) = H14 at s14 hp14 ⊢
            have hC14 := s14 _ _ hC13
            have lus := Paired.length hus
            rw [List.length_take] at lus
            refine ⟨_, hC14, by rw [List.length_map, sizeLine_eq]; omega, Same.put (s13.trans s14) nC, us ++ [p], by rw [upd_same, List.map_append]; rfl, ?_⟩
            rw [List.take_add_one, a3]
            exact paired_snoc (prt_putL (xs := us.map V.ref) (prt_same hus s14) hC14) (by
              show _ = _
              rw [upd_ne (ne_of hp14 hC14 (by intro z; cases z))]
              exact hp14)
          obtain ⟨s13, us, hC13, hus⟩ := h13
          rw [List.take_of_length_le (by rw [← List.length_map (f := (·.1)), deal_keys kvs dlen]; exact Nat.le_refl _)] at hus
          -- counts of new names
          refine ⟨.ref C, rfl, .ref kp, rfl, kp, _, rfl, .inr (hkp12.same s13).seq, (e.length : Int), (by rw [List.length_map]), by omega, by omega, fun C2 nC2 => ?_⟩
          rw [Int.toNat_natCast]
          refine lc_range (lo := 0) (n := e.length) (fun a H14 => Same H13 H14 ∧ ∃ us : List Addr, H14 C2 = some (.lst (us.map V.ref)) ∧ Paired (PrT H14) us ((zzC e).take a)) ⟨same_upd nC2, [], upd_same, .nil⟩ (fun a H14 ha h14 => ?_) (fun H14 h14 => ?_)
          · obtain ⟨s14, vs, hC14, hvs⟩ := h14
            obtain ⟨tn, htn⟩ : ∃ tn, e[a]? = some tn := ⟨_, List.getElem?_eq_getElem ha⟩
            have a1 : atI (Str.ofString "abcdefghijklmnopqrstuvwxyz").cps.toList (0 + (a : Int)) = some (97 + a) := by
              rw [Int.zero_add]
              exact atI_nat (abc_at ⟨a, by omega⟩)
            have a2 : atI (e.map fun x : Nat => V.int (x : Int)) (0 + (a : Int)) = some (.int (tn : Int)) := by
              rw [Int.zero_add]
              exact atI_nat (by rw [List.getElem?_map, htn]; rfl)
            have a3 : (zzC e)[a]? = some (zzN a, (tn : Int)) := by
              unfold zzC
              rw [List.getElem?_map, List.getElem?_zip_eq_some (z := (a, tn)) |>.mpr ⟨by rw [List.getElem?_range ha], htn⟩]
              rfl
            have hzl : (Str.ofString "abcdefghijklmnopqrstuvwxyz").length ≤ sizeLine := by decide
            refine ⟨rfl, .int (0 + (a : Int)), rfl, _, _, _, rfl, rfl, hzl, a1, _, _, rfl, rfl, (by show 2 + 1 ≤ sizeLine; decide), .ref kp, rfl, .int (0 + (a : Int)), rfl, kp, _, _, _, rfl, rfl, ((hkp12.same s13).same s14).seq, a2, (by show 2 ≤ sizeLine; decide), fun p np => ?_⟩
            dsimp only
            rw [zzN_str (show a < 26 by omega)]
            have s15 := same_upd (o := .tup [.str (zzN a), .int (tn : Int)]) np
            have hp15 : (upd H14 p (.tup [.str (zzN a), .int (tn : Int)])) p = some (.tup [.str (zzN a), .int (tn : Int)]) := upd_same
            generalize upd H14 p (.tup [.str (zzN a), .int (tn : Int)]) = H15 at s15 hp15 ⊢
            have hC15 := s15 _ _ hC14
            have lvs := Paired.length hvs
            rw [List.length_take] at lvs
            refine ⟨_, hC15, by rw [List.length_map, sizeLine_eq]; omega, Same.put (s14.trans s15) nC2, vs ++ [p], by rw [upd_same, List.map_append]; rfl, ?_⟩
            rw [List.take_add_one, a3]
            exact paired_snoc (prt_putL (xs := vs.map V.ref) (prt_same hvs s15) hC15) (by
              show _ = _
              rw [upd_ne (ne_of hp15 hC15 (by intro z; cases z))]
              exact hp15)
          obtain ⟨s14, vs, hC14, hvs⟩ := h14
          have zl2 : (zzC e).length = e.length := by rw [← List.length_map (f := (·.1)), zz_keys, List.length_map, List.length_range]
          rw [List.take_of_length_le (by omega)] at hvs
          have lus := Paired.length hus
          have lvs := Paired.length hvs
          have dl2 : (dealC kvs ns d.1).length = ns.length := by rw [← List.length_map (f := (·.1)), deal_keys kvs dlen]
          refine ⟨C, C2, _, _, rfl, rfl, s14 _ _ hC13, hC14, by rw [List.length_map, List.length_map, sizeLine_eq]; omega, fun C3 nC3 => ?_⟩
          have s15 := same_upd (o := .lst (us.map V.ref ++ vs.map V.ref)) nC3
          have hC15 : (upd H14 C3 (.lst (us.map V.ref ++ vs.map V.ref))) C3 = some (.lst ((us ++ vs).map V.ref)) := by rw [upd_same, List.map_append]
          have hraw : Paired (PrT (upd H14 C3 (.lst (us.map V.ref ++ vs.map V.ref)))) (us ++ vs) (rawC kvs ns d.1 e) := prt_same (paired_app (prt_same hus s14) hvs) s15
          have rnd : NdZ (rawC kvs ns d.1 e) := raw_nd nok dlen
          have rl : (rawC kvs ns d.1 e).length ≤ 16 := by
            unfold rawC
            rw [List.length_append, dl2, zl2]
            omega
          generalize upd H14 C3 (.lst (us.map V.ref ++ vs.map V.ref)) = H15 at s15 hC15 hraw ⊢
          generalize us ++ vs = ws at hC15 hraw
          generalize hR : rawC kvs ns d.1 e = R at hraw rnd rl
          have lws := Paired.length hraw
          have s1215 : Same H12 H15 := (s13.trans s14).trans s15
          have hG15 := s1215 _ _ hG12
          -- those above 0, sorted
          refine ⟨.ref G, rfl, .inl ⟨rfl, _, sql hG15⟩, .ref C3, rfl, C3, rfl, ⟨_, sql hC15⟩, fun P nP => ?_⟩
          refine lc_list (xs := ws.map V.ref) (fun a H16 => Same H15 H16 ∧ ∃ us : List Addr, H16 P = some (.lst (us.map V.ref)) ∧ Paired (PrT H15) us (posC (R.take a))) ⟨same_upd nP, [], upd_same, .nil⟩ (fun a H16 _ h => sql (h.1 _ _ hC15)) (fun a v H16 hv h16 => ?_) (fun H16 h16 => ?_)
          · obtain ⟨w1, hw1, rfl⟩ := map_at hv
            obtain ⟨f, hf, hatf⟩ := paired_at hraw hw1
            obtain ⟨s16, us2, hP16, hus2⟩ := h16
            have hal := (List.getElem?_eq_some_iff.mp hf).1
            have tk : R.take (a + 1) = R.take a ++ [f] := by rw [List.take_add_one, hf]; rfl
            have lus2 := Paired.length hus2
            have lpo : (posC (R.take a)).length ≤ a := Nat.le_trans (List.length_filter_le _ _) (by rw [List.length_take]; omega)
            refine ⟨rfl, .ref w1, rfl, w1, _, _, _, rfl, rfl, .inl (.inl (s16 _ _ hatf)), atI_nat (j := 1) rfl, _, _, rfl, rfl, decide (0 < f.2), rfl, ?_⟩
            rw [tk, posC_snoc]
            refine ite2 (fun h0 => ?_) fun h0 => ?_
            · rw [if_pos (of_decide_eq_true h0)]
              exact ⟨.ref w1, rfl, _, hP16, by rw [List.length_map, sizeLine_eq]; omega, Same.put s16 nP, us2 ++ [w1], by rw [upd_same, List.map_append]; rfl, paired_snoc hus2 hatf⟩
            · rw [if_neg (fun z => h0 (decide_eq_true z))]
              exact ⟨s16, us2, hP16, hus2⟩
          obtain ⟨s16, us2, hP16, hus2⟩ := h16
          rw [List.length_map, lws, List.take_length] at hus2
          have hus3 := prt_same hus2 s16
          have ndp : NdZ (posC R) := rnd.sublist (List.Sublist.map _ List.filter_sublist)
          have lpo : (posC R).length ≤ 16 := Nat.le_trans (List.length_filter_le _ _) rl
          obtain ⟨r1, r2⟩ := paired_rd hus3
          refine ⟨P, us2, rdP H16, rfl, sql hP16, r2, fun us3 l2 pm so nl => ⟨l2, _, rfl, sql upd_same, fun kt2 ob nk hob => ?_⟩⟩
          have hsr := srt_pairs hus3 ndp pm so
          have s17 : Same H16 (upd (upd H16 l2 (.lst (us3.map V.ref))) kt2 (.frz ob (.tup (us3.map V.ref)))) := Same.new (same_upd nl) nk
          have hk17 : TupC (upd (upd H16 l2 (.lst (us3.map V.ref))) kt2 (.frz ob (.tup (us3.map V.ref)))) kt2 (srtZ (posC R)) := ⟨⟨us3, ⟨ob, upd_same, hob⟩, prt_same hsr s17⟩⟩
          generalize upd (upd H16 l2 (.lst (us3.map V.ref))) kt2 (.frz ob (.tup (us3.map V.ref))) = H17 at s17 hk17 ⊢
          have s1217 : Same H12 H17 := s1215.trans (s16.trans s17)
          have hG17 := s1217 _ _ hG12
          have lhs := Paired.length hhs
          rw [List.length_append, List.length_append, List.length_map, List.length_take] at lhs
          refine ⟨G, _, _, rfl, rfl, hG17, by rw [List.length_map, List.length_append, sizeLine_eq]; omega, ?_⟩
          refine ⟨_, _, _, _, _, hs' ++ [kt2], rfl, fun b u n h => by rw [upd_ne n]; exact s1217 _ _ (k12 b u n h), by rw [upd_same, List.map_append, List.map_append, List.map_append, List.append_assoc]; rfl, ?_⟩
          have tk : ((partsF 12 d.2 off).take (m + 1)).map (fun e => srtZ (posC (rawC kvs ns d.1 e))) = ((partsF 12 d.2 off).take m).map (fun e => srtZ (posC (rawC kvs ns d.1 e))) ++ [srtZ (posC (rawC kvs ns d.1 e))] := by
            rw [List.take_add_one, he, List.map_append]
            rfl
          rw [tk, ← List.append_assoc, ← List.append_assoc]
          refine paired_snoc (paired_imp (fun _ _ h => TupC.putL (h.same s1217) hG17) hhs) (TupC.putL (xs := (gs ++ hs').map V.ref) ?_ hG17)
          rw [hR]
          exact hk17
        · rintro σ H12 ⟨y10, y11, y12, y13, y14, hs', rfl, k12, hG12, hhs⟩
          rw [List.length_map, lps, List.take_length] at hhs
          refine ⟨_, _, _, _, _, _, _, gs ++ hs', rfl, fun b u h => ?_, hG12, ?_⟩
          · exact k12 b u (ne_of_none h nG) (s11 _ _ (s10 _ _ h))
          · rw [List.take_add_one, hd, List.flatMap_append]
            show Paired _ _ (_ ++ [d].flatMap _)
            rw [List.flatMap_cons, List.flatMap_nil, List.append_nil]
            exact hhs
      · rintro σ H10 ⟨y7, y8, y10, y11, y12, y13, y14, gs, rfl, s10, hG10, hgs⟩
        rw [List.length_map, les, List.take_length] at hgs
        have lgs := Paired.length hgs
        have b1 := bigL (dealsZ off lost ns.length).length
        rw [List.take_length] at b1
        exact ⟨.ref G, rfl, q H10 G gs ns (s09.trans s10) (Same.gone s09 nG) hG10 nok nsb nsz hgs (by omega)⟩
end
end Kb

namespace Kb
open PySem PySem.Spec PyProof.Rows L2 SrtZ SrtO FlX LamX RZ
abbrev ssmall : Stmt := topS 35
abbrev Nsmall : List Str := ["_law_hand_here", "_law_most", "_law_room", "_law_off", "_law_lost_here", "_law_names", "_law_kept", "_law_name", "_law_count"]
theorem scsmall : FnScope ["_law_hand_here", "_law_most", "_law_room", "_law_off", "_law_lost_here", "_law_names", "_law_kept", "_law_name", "_law_count"] ["_law_hand_here", "_law_most"] (defScope ssmall) := ⟨rfl, rfl, rfl, by decide +kernel, rfl, by decide +kernel, by decide +kernel⟩
abbrev Dnsmall (K : PySem.W.Frag) (mg : Str → Option Value) := Dn K mg "_law_small" ssmall ["_law_hand_here", "_law_most"]
theorem pool_zz {P : List Nat} {n i : Nat} (hP : Pre P) (hn : n ≤ 26) {z : Str} (h : z ∈ poolL P n) : z ≠ zzN i := fun e => by
  obtain ⟨k, hk, rfl⟩ := List.mem_map.mp h
  have hk := List.mem_range.mp hk
  have e2 := congrArg cs e
  rw [pnm_cs, if_neg (by omega), List.append_nil, show cs (zzN i) = [122, 122, 97 + i] from cs_S _] at e2
  rcases hP.is with rfl | rfl | rfl
  · have := congrArg List.length e2
    simp at this
  · injection e2 with e3 _
    cases e3
  · injection e2 with _ e3
    injection e3 with e3 _
    cases e3
/-- a small sketch -/
structure Sml (r : Int) (x : Tl) (off lost : Nat) : Prop where
  o : x.o = (off : Int)
  o3 : off ≤ 3
  lo : x.m - sumC x.c = (lost : Int)
  l12 : lost < 12
  len : x.c.length ≤ 3
  m : x.m ≤ 26
  few : ∀ e ∈ x.c, e.2 ≤ 5
  zz : ∀ e ∈ x.c, ∀ i, e.1 ≠ zzN i
section
variable {P : Program} {w : World} {K : PySem.W.Frag} {mg : Str → Option Value} {base : Heap}
def spSmall : Sp := fun vs H Q _ => ∃ (a c : Addr), vs = [.ref a, .int 11] ∧ Wl a c H ∧ ∀ H' s r x off lost, Exw a H H' → Wl a c H' → SkA H' s r x → Sml r x off lost → Q (.ref s) H'
theorem ok_small (T : Blt mg) (ddraw : Dndraw K mg) (dany : Dnany K mg) (dpool : Dnpool K mg) (d : Dnsmall K mg) : FnOk P w K mg base CX0 4 d.f d.fd ["_law_hand_here", "_law_most"] spSmall := by
  have Gdraw : FnOk P w K mg base CX0 1 ddraw.f ddraw.fd ["_law_hand_here", "_law_many"] spDraw := ok_draw T ddraw
  have Gpool : FnOk P w K mg base CX0 3 dpool.f dpool.fd ["_law_hand_here", "_law_many"] spPool := ok_pool T ddraw dany dpool
  refine d.F.ok scsmall (fun vs H Q E h => ?_) (fun cdv A outer s H vs Q E hr h => ?_)
  · obtain ⟨a, c, rfl, _⟩ := h
    rfl
  · obtain ⟨a, c, rfl, w0, q⟩ := h
    refine ⟨_, (pss_cons (ps_set (i := 2) scsmall.nd rfl (Or.inl rfl) (pe_op op_add pe_int (pe_call Gdraw (hr.mono (by omega)) (by rfl) ddraw.g ddraw.F.kp ddraw.b .nil pass0 (pa_cons (pv 0) (pa_cons pe_int pa_nil)))))
    (pss_cons (ps_set (i := 3) scsmall.nd rfl (Or.inl rfl) (pe_call Gdraw (hr.mono (by omega)) (by rfl) ddraw.g ddraw.F.kp ddraw.b .nil pass0 (pa_cons (pv 0) (pa_cons pe_int pa_nil))))
    (pss_cons (ps_while PassesOwn.never (PW.pt (pw_and (pt_cmpR op_gt (pv 3) pe_int (nomark _)) (pw_and1 (pt_cmpR op_gt (pe_op op_mul (pe_op op_add (pv 2) pe_int) (pv 3)) (pv 1) (nomark _)))))
      (pss_one (ps_set (i := 3) scsmall.nd rfl (Or.inl rfl) (pe_op op_sub (pv 3) pe_int))))
    (pss_cons (ps_set (i := 4) scsmall.nd rfl (Or.inl rfl) (pe_op op_add (pe_op op_mul (pe_op op_add (pv 2) pe_int) (pv 3)) (pe_call Gdraw (hr.mono (by omega)) (by rfl) ddraw.g ddraw.F.kp ddraw.b .nil pass0 (pa_cons (pv 0) (pa_cons (pe_op op_add (pe_op op_mul (pe_op op_sub (pv 2) pe_int) (pv 3)) pe_int) pa_nil)))))
    (pss_cons (ps_set (i := 4) scsmall.nd rfl (Or.inl rfl) (pe_callB (call_min2 rfl) (by rfl) T.n_min (by decide +kernel) (pa_cons (pv 4) (pa_cons (pe_callB (call_max2 rfl) (by rfl) T.n_max (by decide +kernel) (pa_cons (pv 1) (pa_cons (pe_op op_mul (pe_op op_add (pv 2) pe_int) (pv 3)) pa_nil))) pa_nil))))
    (pss_cons (ps_set (i := 5) scsmall.nd rfl (Or.inl rfl) (pe_callB cr_sortedSL (by rfl) T.n_sorted (by decide +kernel) (pa_cons (pe_call Gpool (hr.mono (by omega)) (by rfl) dpool.g dpool.F.kp dpool.b .nil pass0 (pa_cons (pv 0) (pa_cons pe_int pa_nil))) pa_nil)))
    (pss_cons (ps_set (i := 6) scsmall.nd rfl (Or.inl rfl) (pe_callTy call_tupleF (by rfl) T.n_tuple (by decide +kernel) (pa_cons (pe_lc (own := [("_law_name", 7)]) (g := gName 7) rfl scsmall.nd (pi_list (pe_slice sl_list (pv 5) po_none (po_some (pv 2)))) (blkOk_by (N := Nsmall) (sc := defScope ssmall) (by decide +kernel)) (fun _ _ _ _ _ => pg_name (i := 7) scsmall.nd rfl (Or.inl rfl)) (fun _ _ _ _ _ => pts_one (pt_cmpR op_gt (pe_call Gdraw (hr.mono (by omega)) (by rfl) ddraw.g ddraw.F.kp ddraw.b .nil pass0 (pa_cons (pv 0) (pa_cons pe_int pa_nil))) pe_int (nomark _))) (fun _ _ _ _ _ => (pe_tup (pa_cons (pv 7) (pa_cons (pe_op op_add pe_int (pe_call Gdraw (hr.mono (by omega)) (by rfl) ddraw.g ddraw.F.kp ddraw.b .nil pass0 (pa_cons (pv 0) (pa_cons pe_int pa_nil)))) pa_nil))))) pa_nil)))
    (pss_one (ps_ret (pe_tup (pa_cons (pv 2) (pa_cons (pe_op op_add (pv 4) (pe_callB (cr_sum rfl) (by rfl) T.n_sum (by decide +kernel) (pa_cons (pe_lc (own := [("_law_name", 7), ("_law_count", 8)]) (g := gTup K 2 (gCons (gName 7) (gCons (gName 8) gNil))) (tt := tYes) rfl scsmall.nd (pi_tup (pv 6)) (blkOk_by (N := Nsmall) (sc := defScope ssmall) (by decide +kernel)) (fun _ _ _ _ _ => pg_tup (by rfl) (pgs_cons (pg_name (i := 7) scsmall.nd rfl (Or.inl rfl)) (pgs_cons (pg_name (i := 8) scsmall.nd rfl (Or.inl rfl)) pgs_nil))) (fun _ _ _ _ _ => pts_nil) (fun _ _ _ _ _ => (pv 8))) pa_nil))) (pa_cons (pv 3) (pa_cons (pv 6) pa_nil)))))))))))))), ?_⟩
    refine ⟨.ref a, rfl, a, c, 3, rfl, w0, (by decide), (by decide), fun H1 r x1 w1 r0 r1 => ⟨_, _, rfl, rfl, ?_⟩⟩
    refine ⟨.ref a, rfl, a, c, 4, rfl, w1, (by decide), (by decide), fun H2 o x2 w2 o0 o1 => ?_⟩
    have x02 := x1.trans x2
    refine ⟨fun μ σ H3 => ∃ n : Nat, μ = n ∧ n ≤ 3 ∧ σ = [some (.ref a), some (.int 11), some (.int (1 + r)), some (.int (n : Int)), none, none, none, none, none] ∧ H3 = H2, ⟨_, o.toNat, rfl, by omega, by rw [Int.toNat_of_nonneg o0]; rfl, rfl⟩, ?_⟩
    rintro n σ H3 ⟨_, rfl, hn3, rfl, rfl⟩
    have test : ∀ {KK : Bool → Hp → Prop}, KK (decide ((0 : Int) < (n : Int)) && decide (11 < (1 + r + 1) * (n : Int))) H3 → tAnd (tTest (tOp (rI0 fun i j => V.bl (decide (j < i))) (tVar 3) (tC (V.int 0)))) (tTest (tOp (rI0 fun i j => V.bl (decide (j < i))) (tOp (rI CMul fun i j => V.int (i * j)) (tOp (rI0 fun i j => V.int (i + j)) (tVar 2) (tC (V.int 1))) (tVar 3)) (tVar 1))) [some (.ref a), some (.int 11), some (.int (1 + r)), some (.int (n : Int)), none, none, none, none, none] H3 KK := fun {KK} h => by
      refine ⟨.int (n : Int), rfl, _, _, rfl, rfl, _, rfl, ite2 (fun h1 => ?_) fun h1 => ?_⟩
      · refine ⟨.int (1 + r), rfl, _, _, rfl, rfl, .int (n : Int), rfl, _, _, rfl, rfl, cmulR (by omega) (by omega), .int 11, rfl, _, _, rfl, rfl, _, rfl, ?_⟩
        rw [h1, Bool.true_and] at h
        exact h
      · rw [show decide ((0 : Int) < (n : Int)) = false by simpa using h1, Bool.false_and] at h
        exact h
    refine test (ite2 (fun hgt => ?_) fun hgt => ?_)
    · rw [Bool.and_eq_true, decide_eq_true_iff, decide_eq_true_iff] at hgt
      refine ⟨fun σ' H' => σ' = [some (.ref a), some (.int 11), some (.int (1 + r)), some (.int ((n : Int) - 1)), none, none, none, none, none] ∧ H' = H3, fun σ' H' ⟨h1, h2⟩ => ⟨n - 1, by omega, n - 1, rfl, by omega, by rw [h1, show ((n - 1 : Nat) : Int) = (n : Int) - 1 by omega], h2⟩, ?_⟩
      exact ⟨.int (n : Int), rfl, _, _, rfl, rfl, rfl, rfl⟩
    have hle : (1 + r + 1) * (n : Int) ≤ 11 := by
      rw [Bool.and_eq_true, decide_eq_true_iff, decide_eq_true_iff] at hgt
      by_cases h0 : n = 0
      · rw [h0]
        omega
      · have h1 : (0 : Int) < (n : Int) := by omega
        have : ¬ 11 < (1 + r + 1) * (n : Int) := fun z => hgt ⟨h1, z⟩
        omega
    have hr0 : 0 ≤ (1 + r - 1) * (n : Int) := Int.mul_nonneg (by omega) (by omega)
    have hr1 : (1 + r - 1) * (n : Int) ≤ 2 * 3 := Int.mul_le_mul (by omega) (by omega) (by omega) (by decide)
    have hr3 : 0 ≤ (1 + r + 1) * (n : Int) := Int.mul_nonneg (by omega) (by omega)
    refine ⟨.int (1 + r), rfl, _, _, rfl, rfl, .int (n : Int), rfl, _, _, rfl, rfl, cmulR (by omega) (by omega), .ref a, rfl, .int (1 + r), rfl, _, _, rfl, rfl, .int (n : Int), rfl, _, _, rfl, rfl, cmulR (by omega) (by omega), _, _, rfl, rfl, a, c, _, rfl, w2, (by omega), (by omega), fun H5 b x5 w5 b0 b1 => ⟨_, _, rfl, rfl, ?_⟩⟩
    have x05 := x02.trans x5
    refine ⟨.int ((1 + r + 1) * (n : Int) + b), rfl, .int 11, rfl, .int (1 + r), rfl, _, _, rfl, rfl, .int (n : Int), rfl, _, _, rfl, rfl, cmulR (by omega) (by omega), _, _, rfl, _, _, rfl, ?_⟩
    obtain ⟨lost, hlost⟩ : ∃ lost : Nat, (if (if (1 + r + 1) * (n : Int) > 11 then (1 + r + 1) * (n : Int) else 11) < (1 + r + 1) * (n : Int) + b then (if (1 + r + 1) * (n : Int) > 11 then (1 + r + 1) * (n : Int) else 11) else (1 + r + 1) * (n : Int) + b) = (lost : Int) ∧ lost < 12 ∧ (1 + r + 1) * (n : Int) ≤ (lost : Int) ∧ (lost : Int) ≤ (1 + r + 1) * (n : Int) + (1 + r - 1) * (n : Int) := by
      rw [if_neg (show ¬ (1 + r + 1) * (n : Int) > 11 by omega)]
      split
      · exact ⟨11, rfl, by decide, by omega, by omega⟩
      · exact ⟨((1 + r + 1) * (n : Int) + b).toNat, by omega, by omega, by omega, by omega⟩
    obtain ⟨hl1, hl2, hl3, hl4⟩ := hlost
    rw [hl1]
    -- the names
    refine ⟨.ref a, rfl, a, c, 6, rfl, w5, (by decide), fun H6 p PP x6 w6 np pa pc hp hP => ?_⟩
    refine ⟨p, _, rfl, sql hp, fun ys l perm srtd nl => ?_⟩
    have s7 : Same H6 (upd H6 l (.lst (ys.map V.str))) := same_upd nl
    have hl7 : (upd H6 l (.lst (ys.map V.str))) l = some (.lst (ys.map V.str)) := upd_same
    have la := w6.ne2 nl
    generalize upd H6 l (.lst (ys.map V.str)) = H7 at s7 hl7 ⊢
    have w7 := w6.same s7
    have x07 := (x05.trans x6).same s7
    have yl : ys.length = 6 := by rw [perm.length_eq]; unfold poolL; rw [List.length_map, List.length_range]
    have yasc := asc_strs srtd (perm.nodup_iff.mpr (poolL_nd PP 6))
    have ynm : ∀ z ∈ ys, Nm z := fun z hz => poolL_nm hP (by decide) (perm.mem_iff.mp hz)
    have yzz : ∀ z ∈ ys, ∀ i, z ≠ zzN i := fun z hz i => pool_zz hP (by decide) (perm.mem_iff.mp hz)
    obtain ⟨rN, rfl⟩ := Int.eq_ofNat_of_zero_le r0
    have ec : ∀ xs : List V, cutV xs none (some (1 + (rN : Int))) = xs.take (1 + rN) := fun xs => by
      unfold cutV
      rw [show (1 + (rN : Int)) = ((1 + rN : Nat) : Int) by omega]
      rw [show HT.sIx xs.length xs.length (some ((1 + rN : Nat) : Int)) = min (1 + rN) xs.length from HT.sIx_nat _ _ (1 + rN), HT.sIx_none, List.drop_zero, Nat.sub_zero]
      by_cases h : 1 + rN ≤ xs.length
      · rw [Nat.min_eq_left h]
      · rw [Nat.min_eq_right (by omega), List.take_length, List.take_of_length_le (by omega)]
    refine ⟨.ref l, rfl, .int (1 + (rN : Int)), rfl, 1 + (rN : Int), rfl, l, _, rfl, sql hl7, fun l8 nl8 => ?_⟩
    rw [ec, ← List.map_take]
    have s8 := same_upd (o := .lst ((ys.take (1 + rN)).map V.str)) nl8
    have hl8 : (upd H7 l8 (.lst ((ys.take (1 + rN)).map V.str))) l8 = some (.lst ((ys.take (1 + rN)).map V.str)) := upd_same
    have l8a := w7.ne2 nl8
    generalize upd H7 l8 (.lst ((ys.take (1 + rN)).map V.str)) = H8 at s8 hl8 ⊢
    have w8 := w7.same s8
    have x08 := x07.same s8
    have ynm : ∀ z ∈ ys.take (1 + rN), Nm z := fun z hz => ynm z (List.mem_of_mem_take hz)
    have yzz : ∀ z ∈ ys.take (1 + rN), ∀ i, z ≠ zzN i := fun z hz => yzz z (List.mem_of_mem_take hz)
    have yasc := yasc.sublist (List.take_sublist (1 + rN) ys)
    have yl : (ys.take (1 + rN)).length ≤ 1 + rN := by rw [List.length_take]; exact Nat.min_le_left _ _
    generalize ys.take (1 + rN) = zs at hl8 ynm yzz yasc yl
    -- what is kept
    refine ⟨l8, rfl, ⟨_, sql hl8⟩, fun G nG => ?_⟩
    have Ga := w8.ne2 nG
    refine lc_list (xs := zs.map V.str) (fun j H9 => Exw a H8 H9 ∧ Wl a c H9 ∧ ∃ (us : List Addr) (kv : Ct), H9 G = some (.lst (us.map V.ref)) ∧ Paired (PrT H9) us kv ∧ (kv.map (·.1)).Sublist (zs.take j) ∧ ∀ e ∈ kv, 1 ≤ e.2 ∧ e.2 ≤ 5) ⟨Same.exw (same_upd nG), w8.same (same_upd nG), [], [], upd_same, .nil, List.nil_sublist _, fun _ h => nomatch h⟩ (fun j H9 _ h => sql (h.1 _ _ l8a.1 hl8)) (fun j v H9 hv h => ?_) (fun H9 h => ?_)
    · obtain ⟨z, hz, rfl⟩ := map_at hv
      obtain ⟨x9, w9, us, kv, hG9, hus, hk, hv9⟩ := h
      have hj := (List.getElem?_eq_some_iff.mp hz).1
      have tk : zs.take (j + 1) = zs.take j ++ [z] := by rw [List.take_add_one, hz]; rfl
      have lus := Paired.length hus
      have lkv := hk.length_le
      rw [List.length_map, List.length_take] at lkv
      refine ⟨rfl, .ref a, rfl, a, c, 4, rfl, w9, (by decide), (by decide), fun H10 v x10 w10 _ _ => ⟨_, _, rfl, rfl, _, rfl, ite2 (fun _ => ?_) fun _ => ?_⟩⟩
      · refine ⟨.str z, rfl, .ref a, rfl, a, c, 5, rfl, w10, (by decide), (by decide), fun H11 v2 x11 w11 v0 v1 => ⟨_, _, rfl, rfl, (by show 2 ≤ sizeLine; decide), fun u nu => ?_⟩⟩
        have hG11 := x11 _ _ Ga.1 (x10 _ _ Ga.1 hG9)
        have uG : G ≠ u := ne_of_none hG11 nu
        have hus11 : Paired (PrT H11) us kv := paired_imp (fun t e h => x11.at w10 (x10.at w9 h (by intro _ z; cases z)) (by intro _ z; cases z)) hus
        refine ⟨_, by rw [upd_ne uG]; exact hG11, by rw [List.length_map, sizeLine_eq]; omega, (((x9.trans x10).trans x11).new nu).put nG, (w11.same (same_upd nu)).put Ga, us ++ [u], kv ++ [(z, 1 + v2)], by rw [upd_same, List.map_append]; rfl, ?_, ?_, fun e he => ?_⟩
        · refine paired_snoc (paired_imp (fun t' e' h => ?_) hus11) ?_
          · show _ = _
            rw [upd_ne (ne_of h hG11 (by intro z; cases z)), upd_ne (ne_of_none h nu)]
            exact h
          · show _ = _
            rw [upd_ne uG.symm]
            exact upd_same
        · rw [List.map_append, tk]
          exact hk.append (List.Sublist.refl _)
        · rcases List.mem_append.mp he with he | he
          · exact hv9 e he
          · rw [List.mem_singleton.mp he]
            dsimp only
            omega
      · refine ⟨x9.trans x10, w10, us, kv, x10 _ _ Ga.1 hG9, paired_imp (fun t e h => x10.at w9 h (by intro _ z; cases z)) hus, ?_, hv9⟩
        rw [tk]
        exact hk.trans (List.sublist_append_left _ _)
    obtain ⟨x9, w9, us, kv, hG9, hus, hk, hv9⟩ := h
    rw [List.length_map, List.take_length] at hk
    have lkv := hk.length_le
    rw [List.length_map] at lkv
    have lus := Paired.length hus
    refine ⟨G, _, rfl, sql hG9, fun k ob nk ho => ?_⟩
    have s10 : Same H9 (upd H9 k (.frz ob (.tup (us.map V.ref)))) := same_upd nk
    have hk10 : Ptp (upd H9 k (.frz ob (.tup (us.map V.ref)))) k (us.map V.ref) := ⟨ob, upd_same, ho⟩
    generalize upd H9 k (.frz ob (.tup (us.map V.ref))) = H10 at s10 hk10 ⊢
    have hus10 := prt_same hus s10
    -- the sketch
    refine ⟨.int (1 + (rN : Int)), rfl, .int _, rfl, .ref k, rfl, k, rfl, ⟨_, hk10.seq⟩, fun M nM => ?_⟩
    refine lc_tup (xs := us.map V.ref) (fun j H11 => Same H10 H11 ∧ H11 M = some (.lst (((kv.take j).map (·.2)).map V.int))) ⟨same_upd nM, upd_same⟩ (fun j H11 _ h => (hk10.same h.1).seq) (fun j v H11 hv h => ?_) (fun H11 h => ?_)
    · obtain ⟨t, ht, rfl⟩ := map_at hv
      obtain ⟨e, he, hat⟩ := paired_at hus10 ht
      obtain ⟨s11, hM⟩ := h
      have hj := (List.getElem?_eq_some_iff.mp he).1
      refine ⟨t, _, rfl, .inl (.inl (s11 _ _ hat)), rfl, _, _, rfl, _, _, rfl, rfl, rfl, .int e.2, rfl, _, hM, by rw [List.length_map, List.length_map, List.length_take, sizeLine_eq]; omega, Same.put s11 nM, ?_⟩
      rw [upd_same, List.take_add_one, he, List.map_append, List.map_append]
      rfl
    obtain ⟨s11, hM⟩ := h
    rw [List.length_map, lus, List.take_length] at hM
    refine ⟨M, _, rfl, sql hM, _, _, rfl, rfl, .int (n : Int), rfl, .ref k, rfl, (by show 4 ≤ sizeLine; decide), fun s ns => ?_⟩
    have hsum : (kv.map (·.2)).sum = sumC kv := rfl
    rw [hsum]
    have s12 := same_upd (o := .tup [.int (1 + (rN : Int)), .int ((lost : Int) + sumC kv), .int (n : Int), .ref k]) ns
    have s92 : Same H9 (upd H11 s (.tup [.int (1 + (rN : Int)), .int ((lost : Int) + sumC kv), .int (n : Int), .ref k])) := fun b u e => s12 _ _ (s11 _ _ (s10 _ _ e))
    have kin : ∀ e ∈ kv, e.1 ∈ zs := fun e he => hk.subset (List.mem_map.mpr ⟨e, he, rfl⟩)
    have kn : ∀ e ∈ kv, Nm e.1 := fun e he => ynm e.1 (kin e he)
    have kasc : Asc kv := by
      have := yasc.sublist hk
      rw [List.pairwise_map] at this
      exact this
    have knd := asc_nd kasc
    have esrt : srtZ kv = kv := (srtZ_of kasc (List.Perm.refl _) knd).symm
    have sm0 : 0 ≤ sumC kv := sumC_nn fun e he => by have := (hv9 e he).1; omega
    have sm1 : sumC kv ≤ 5 * (kv.length : Int) := by
      have gen : ∀ l : Ct, (∀ e ∈ l, 1 ≤ e.2 ∧ e.2 ≤ 5) → sumC l ≤ 5 * (l.length : Int) := by
        intro l
        induction l with
        | nil => exact fun _ => Int.le_refl _
        | cons e l ih =>
          intro h
          have := (h e List.mem_cons_self).2
          have := ih fun x hx => h x (List.mem_cons_of_mem _ hx)
          rw [sumC_cons', List.length_cons]
          push_cast
          omega
      exact gen kv hv9
    have hs12 : SkAt (upd H11 s (.tup [.int (1 + (rN : Int)), .int ((lost : Int) + sumC kv), .int (n : Int), .ref k])) s (1 + (rN : Int)) ⟨(lost : Int) + sumC kv, (n : Int), kv⟩ := ⟨k, us, upd_same, (hk10.same s11).same s12, by
      show Paired _ us (srtZ kv)
      rw [esrt]
      exact prt_same (prt_same hus10 s11) s12⟩
    have big : ((lost : Int) + sumC kv) ≤ 26 := by omega
    refine q _ s _ ⟨(lost : Int) + sumC kv, (n : Int), kv⟩ n lost ((x08.trans x9).same s92) (w9.same s92) ⟨hs12, ⟨knd, by show (kv.length : Int) ≤ _; omega, fun e he => (hv9 e he).1, kn⟩, ?_⟩ ⟨rfl, hn3, by show (lost : Int) + sumC kv - sumC kv = _; omega, hl2, by show kv.length ≤ 3; omega, big, fun e he => (hv9 e he).2, fun e he => yzz e.1 (kin e he)⟩
    show SkG _ ((lost : Int) + sumC kv) (n : Int) (srtZ kv)
    rw [esrt]
    refine ⟨by omega, by omega, by omega, by omega, ⟨kn, fun e he => (hv9 e he).1, kasc⟩, by omega, by omega, ?_, ?_⟩
    · have e1 : 2 * (1 + (rN : Int)) * (n : Int) = (1 + (rN : Int) + 1) * (n : Int) + (1 + (rN : Int) - 1) * (n : Int) := by
        rw [← Int.add_mul]
        congr 1
        omega
      rw [e1]
      omega
    · have : (26 : Int) < 2 ^ 100 := by decide
      omega
end
end Kb

namespace PySem
open Sem (wp)
/-! own rule: max(list of ints, default=..) -/
section
variable {prog : Program} {w : World} {A : Around} {E : Value → Shared → Prop} {s : Shared}
theorem kw_tree {id : String} {b : Builtin} {args : List Value} {kw : List (Str × Value)} {Q : Value → Shared → Prop} (hk : builtinKind id = none) (hp : plainId id = true) (hb : entryFor table id = some b) (ha : argsOk id ⟨args, kw⟩)
    (hc : wpAny (model prog w) A.in1 (b ⟨args, kw⟩) (fun fin s' => match fin with
      | .done f => (match (Except.ok f : Result) with | .ok (.ret v) => Q v s' | .ok _ => False | .error e => E e s')
      | .again c' => c'.quiet = true ∧ codeAny (model prog w) A c' (fun r s' => match r with | .ok (.ret v) => Q v s' | .ok _ => False | .error e => E e s') s') E s) :
    wpAny (model prog w) A (call (.builtin id) args kw) Q E s := by
  refine wpAny_call (codeAny_call_builtin hp hb ?_)
  simp only [checkBuiltinCall, hk]
  cases hsig : Manifest.signature? id with
  | none => exact wpAny_pure hc
  | some sig =>
    have ha' : Bind.checkArgs id sig ⟨args, kw⟩ = pure () := by simpa only [argsOk, hsig] using ha
    simp only [ha']
    exact wpAny_pure hc
end
section
variable {prog : Program} {w : World} {A : Around} {R : Result → Shared → Prop} {I : Addr} {fp wr : List Addr} {n : Nat} {P : Nat → Value → Prop} {St : Nat → Heap → Prop} {dv : Value}
/-- where a list of two is, the greatest so far and its like -/
def twoAt (h : Heap) (S : Addr) (v : Value) : Prop := ∃ c, h.get? S = some { cls := .type "list", dict := none, data := .seq #[v, v] c, slots := #[] }
theorem maxd_go (W : Walks prog w A.in1 I fp wr n P St) (bt : Nat → Nat → Bool) (hcmp : CmpOf prog w A.in1 .Gt P bt) (S : Addr) (hSf : S ∉ fp) :
    ∀ (k j : Nat) (s : Shared) (vb : Value), n = j + 1 + k → St (j + 1) s.heap → P (argBest bt j) vb → twoAt s.heap S vb →
    (∀ v h' tk, P (argBest bt (n - 1)) v → (∀ b o, b ∉ wr → b ≠ S → s.heap.get? b = some o → h'.get? b = some o) → R (.ok (.ret v)) { s with heap := h', toks := tk }) →
    codeAny (model prog w) A (.builtin "max.loop" ⟨[.ref I, .none, .ref S], [("default", dv)]⟩) R s := by
  have hSw : S ∉ wr := fun h => hSf (W.sub _ h)
  have hname : (toString "max" ++ toString ".loop" : String) = "max.loop" := by decide
  intro k
  induction k with
  | zero =>
    rintro j s vb hk hst hPb ⟨c, hS⟩ hR
    refine codeAny_builtin F.entry_max_loop ?_
    rw [Around.under_plainId F.plain_max_loop _]
    show wpAny _ A.in1 (seqItems? (.ref S) >>= _) _ _ s
    refine wpAny_bind (wpAny_seqItems hS rfl ?_)
    show wpAny _ A.in1 (tryCatch (pyNext (.ref I)) _ >>= _) _ _ s
    refine wpAny_bind (wpAny_tryCatch (W.done s _ _ (by rw [hk]; exact hst) fun h' tk hk' => ?_))
    have hS' := hk' S _ hSw hS
    show wpAny _ A.in1 (updateSeq S (fun _ => #[]) >>= _) _ _ _
    refine wpAny_bind ?_
    refine wpAny_updateSeq hS' rfl (wpAny_bind (wpAny_letGo (wpAny_pure ?_)))
    exact hR vb _ tk (by rw [hk]; exact hPb) fun b o hbw hbS e => (Heap.get?_update_other _ _ (Ne.symm hbS)).trans (hk' b o hbw e)
  | succ k ih =>
    rintro j s vb hk hst hPb ⟨c, hS⟩ hR
    refine codeAny_builtin F.entry_max_loop ?_
    rw [Around.under_plainId F.plain_max_loop _]
    show wpAny _ A.in1 (seqItems? (.ref S) >>= _) _ _ s
    refine wpAny_bind (wpAny_seqItems hS rfl ?_)
    show wpAny _ A.in1 (tryCatch (pyNext (.ref I)) _ >>= _) _ _ s
    refine wpAny_bind (wpAny_tryCatch (W.item (j + 1) s _ _ (by omega) hst fun v h' tk hP hst' hk' => ?_))
    have hS' := hk' S _ hSw hS
    show wpAny _ A.in1 (tryCatch (holding [v, v] (richCompare .Gt v vb >>= _)) _ >>= _) _ _ _
    refine wpAny_bind (wpAny_tryCatch (wpAny_holding (wpAny_bind (hcmp (j + 1) (argBest bt j) v vb _ _ _ hP hPb ?_))))
    refine wpAny_bind (wpAny_holding (wpAny_truthy_bool ?_))
    refine wpAny_bind (wpAny_letGo (wpAny_pure ?_))
    cases hb : bt (j + 1) (argBest bt j) with
    | true =>
      simp only [if_true]
      refine wpAny_bind ?_
      refine wpAny_updateSeq hS' rfl (wpAny_bind (wpAny_letGo ?_))
      rw [hname]
      refine wpAny_pure ⟨plainId_quiet F.plain_max_loop _, ih (j + 1) _ v (by omega) (W.frame _ _ _ hst' fun b hbf o e => (Heap.get?_update_other _ _ (fun h : S = b => hSf (by rw [h]; exact hbf))).trans e) (by simp only [argBest, hb, if_true]; exact hP) ⟨_, Heap.get?_update_self _ hS' rfl⟩ fun v' h'' tk'' hP' hk'' => ?_⟩
      exact hR v' h'' tk'' hP' fun b o hbw hbS e => hk'' b o hbw hbS ((Heap.get?_update_other _ _ (Ne.symm hbS)).trans (hk' b o hbw e))
    | false =>
      simp only [Bool.false_eq_true, if_false]
      refine wpAny_bind (wpAny_letGo ?_)
      rw [hname]
      refine wpAny_pure ⟨plainId_quiet F.plain_max_loop _, ih (j + 1) _ vb (by omega) hst' (by simp only [argBest, hb, Bool.false_eq_true, if_false]; exact hPb) ⟨c, hS'⟩ fun v' h'' tk'' hP' hk'' => ?_⟩
      exact hR v' h'' tk'' hP' fun b o hbw hbS e => hk'' b o hbw hbS (hk' b o hbw e)
theorem maxd_start (W : Walks prog w A.in1 I fp wr n P St) (bt : Nat → Nat → Bool) (hcmp : CmpOf prog w A.in1 .Gt P bt) (S : Addr) (hSf : S ∉ fp) {s : Shared} {c : Nat} (hst : St 0 s.heap)
    (hS : s.heap.get? S = some { cls := .type "list", dict := none, data := .seq #[] c, slots := #[] })
    (hR : ∀ v h' tk, (n = 0 ∧ v = dv ∨ 0 < n ∧ P (argBest bt (n - 1)) v) → (∀ b o, b ∉ wr → b ≠ S → s.heap.get? b = some o → h'.get? b = some o) → R (.ok (.ret v)) { s with heap := h', toks := tk }) :
    codeAny (model prog w) A (.builtin "max.loop" ⟨[.ref I, .none, .ref S], [("default", dv)]⟩) R s := by
  have hSw : S ∉ wr := fun h => hSf (W.sub _ h)
  have hname : (toString "max" ++ toString ".loop" : String) = "max.loop" := by decide
  refine codeAny_builtin F.entry_max_loop ?_
  rw [Around.under_plainId F.plain_max_loop _]
  show wpAny _ A.in1 (seqItems? (.ref S) >>= _) _ _ s
  refine wpAny_bind (wpAny_seqItems hS rfl ?_)
  show wpAny _ A.in1 (tryCatch (pyNext (.ref I)) _ >>= _) _ _ s
  cases n with
  | zero =>
    refine wpAny_bind (wpAny_tryCatch (W.done s _ _ hst fun h' tk hk' => ?_))
    show wpAny _ A.in1 (rule _ >>= _) _ _ _
    exact wpAny_bind (wpAny_rule (wpAny_pure (hR dv h' tk (.inl ⟨rfl, rfl⟩) fun b o hbw _ e => hk' b o hbw e)))
  | succ n =>
    refine wpAny_bind (wpAny_tryCatch (W.item 0 s _ _ (Nat.succ_pos n) hst fun v h' tk hP hst' hk' => ?_))
    have hS' := hk' S _ hSw hS
    show wpAny _ A.in1 (updateSeq S (fun _ => #[v, v]) >>= _) _ _ _
    refine wpAny_bind ?_
    refine wpAny_updateSeq hS' rfl ?_
    rw [hname]
    refine wpAny_pure ⟨plainId_quiet F.plain_max_loop _, maxd_go W bt hcmp S hSf n 0 _ v (by omega) (W.frame _ _ _ hst' fun b hbf o e => (Heap.get?_update_other _ _ (fun h : S = b => hSf (by rw [h]; exact hbf))).trans e) hP ⟨_, Heap.get?_update_self _ hS' rfl⟩ fun v' h'' tk'' hP' hk'' => ?_⟩
    exact hR v' h'' tk'' (.inr ⟨Nat.succ_pos n, hP'⟩) fun b o hbw hbS e => hk'' b o hbw hbS ((Heap.get?_update_other _ _ (Ne.symm hbS)).trans (hk' b o hbw e))
end
section
variable {prog : Program} {w : World} {A : Around} {E : Value → Shared → Prop} {s : Shared} {l : Addr} {xs : Array (Int × Tok)} {dv : Value}
theorem args_maxd (a d : Value) : argsOk "max" ⟨[a], [("default", d)]⟩ := by unfold argsOk; kernel_rfl
theorem maxd_ints {Q : Value → Shared → Prop} (hh : A.handled = none) (hl : s.heap.IsList l (intItems xs))
    (h : ∀ v h' tk, (xs.size = 0 ∧ v = dv ∨ 0 < xs.size ∧ (intItems xs)[argBest (fun i j => decide (numAt xs i > numAt xs j)) (xs.size - 1)]? = some v) → (∀ b o, s.heap.get? b = some o → h'.get? b = some o) → Q v { s with heap := h', toks := tk }) :
    wpAny (model prog w) A (call (.builtin "max") [.ref l] [("default", dv)]) Q E s := by
  have hname : (toString "max" ++ toString ".loop" : String) = "max.loop" := by decide
  refine kw_tree F.kind_max F.plain_max F.entry_max (args_maxd _ _) ?_
  show wpAny _ A.in1 (Builtin.Builtins.bindParams "max" ["key", "default"] 0 ⟨[], [("default", dv)]⟩ >>= _) _ _ s
  refine wpAny_bind (wpAny_of_eq (show Builtin.Builtins.bindParams "max" ["key", "default"] 0 ⟨[], [("default", dv)]⟩ = pure [none, some dv] from rfl) ?_)
  refine wpAny_bind (wpAny_pure ?_)
  refine wpAny_bind (iter_intList hl fun s₂ e st hfp hlI => ?_)
  subst e
  refine wpAny_bind (wpAny_newObj_type ?_)
  have W := Walks.list (prog := prog) (w := w) (A := A.in1) hh _ l hlI (intItems xs)
  rw [hname]
  refine wpAny_pure ⟨plainId_quiet F.plain_max_loop _, maxd_start W _ (CmpOf.ints_gt (numAt xs) (fun _ _ => intItems_at)) _ (fun hm => Nat.lt_irrefl _ (hfp _ hm)) (W.frame _ _ _ st fun b _ o e => Heap.get?_push_of_some _ e) (Heap.get?_push_size _ rfl) fun v h' tk hP hk => ?_⟩
  exact h v h' tk (by simpa [intItems] using hP) (old_kept fun b o hbw e => hk b o hbw (Nat.ne_of_lt (Heap.lt_size e)) (Heap.get?_push_of_some _ e))
end
end PySem
namespace L2
open PySem PySem.Spec PyProof.Rows
variable {X : Cx}
/-- max(xs, default=d), xs a list of ints -/
def rMaxDf (K : PySem.W.Frag) : List V → List V → Hp → VK → Prop := fun vs zs H Q => ∃ (a : Addr) (ns : List Int) (d : V), vs = [V.ref a] ∧ zs = [d] ∧ SqL K H a (ns.map V.int) ∧ (ns = [] → Q d H) ∧ ∀ m, m ∈ ns → (∀ y, y ∈ ns → y ≤ m) → Q (.int m) H
theorem cr_maxDf (hc : X.calm = true) : CallRK X (.builtin "max") [Str.ofString "default"] (rMaxDf X.K) := by
  intro pins s σ H vs zs us ws Q I r rz h
  obtain ⟨a, ns, d, rfl, rfl, hs, q0, q⟩ := h
  obtain ⟨its, rv, hl, _⟩ := I.list hs
  obtain rfl := Vals.ref1 r
  obtain ⟨w1, rfl, e1⟩ := vals1 rz
  have hi := rv.ints
  obtain ⟨xs, e⟩ := hi.allInts.items
  have hn : numsOf (intItems xs).toList = ns := by rw [← e]; exact hi.numsOf
  rw [nums_intItems] at hn
  subst hn
  have hl2 := hl.isList
  rw [e] at hl2
  refine PySem.maxd_ints (dv := w1) (I.ok.hd hc) hl2 fun v h' tk hv hk => ?_
  rcases hv with ⟨h0, rfl⟩ | ⟨h0, hv⟩
  · exact ⟨d, H, I.kept hk, e1, q0 (by rw [List.map_eq_nil_iff]; exact List.eq_nil_of_length_eq_zero (by simpa using h0))⟩
  · obtain ⟨t, rfl⟩ := intItems_at hv
    obtain ⟨h1, h2⟩ := argBest_gt (numAt xs) (xs.size - 1)
    refine ⟨.int _, H, I.kept hk, ⟨_, rfl⟩, q _ ?_ fun b hb => ?_⟩
    · rw [numAt_eq]; exact PySem.getD_mem (by rw [List.length_map, Array.length_toList]; omega)
    · obtain ⟨j, hj, rfl⟩ := mem_getD hb
      rw [List.length_map, Array.length_toList] at hj
      rw [← numAt_eq]; exact h2 j (by omega)
/-! generators within a comprehension, K told -/
theorem pi_tupK {K : PySem.W.Frag} {tg l : Expr} {tl : TE} (hK : X.K = K) (hl : PE X l tl) : PI X tg l (iTup K tl) := by
  subst hK
  exact pi_tup hl
theorem pi_listK {K : PySem.W.Frag} {tg l : Expr} {tl : TE} (hK : X.K = K) (hl : PE X l tl) : PI X tg l (iList K tl) := by
  subst hK
  exact pi_list hl
theorem op_notInK {K : PySem.W.Frag} (hK : X.K = K) : OpR X (compareOp .NotIn) (rIn K true) := by
  subst hK
  exact op_notIn_seq
theorem op_inK {K : PySem.W.Frag} (hK : X.K = K) : OpR X (compareOp .In) (rIn K false) := by
  subst hK
  exact op_in_seq
theorem op_eqDK {K : PySem.W.Frag} (hK : X.K = K) (hu : X.A.units + 64 < cLine) : OpR X (compareOp .Eq) (rEqD K) := by
  subst hK
  exact op_eqD hu
end L2

namespace Kb
open PySem PySem.Spec PyProof.Rows L2 SrtZ SrtO FlX LamX RZ
abbrev sP_surely_above : Stmt := topS 20
abbrev NP_surely_above : List Str := ["sketch", "most", "name", "count"]
theorem scP_surely_above : FnScope ["sketch", "most", "name", "count"] ["sketch", "most"] (defScope sP_surely_above) := ⟨rfl, rfl, rfl, by decide +kernel, rfl, by decide +kernel, by decide +kernel⟩
abbrev DnSurelyAbove (K : PySem.W.Frag) (mg : Str → Option Value) := Dn K mg "surely_above" sP_surely_above ["sketch", "most"]
abbrev sP_perhaps_above : Stmt := topS 21
abbrev NP_perhaps_above : List Str := ["sketch", "most", "off", "name", "count"]
theorem scP_perhaps_above : FnScope ["sketch", "most", "off", "name", "count"] ["sketch", "most"] (defScope sP_perhaps_above) := ⟨rfl, rfl, rfl, by decide +kernel, rfl, by decide +kernel, by decide +kernel⟩
abbrev DnPerhapsAbove (K : PySem.W.Frag) (mg : Str → Option Value) := Dn K mg "perhaps_above" sP_perhaps_above ["sketch", "most"]
/-- names whose counts are as asked -/
def nmsZ (f : Int → Bool) (kvs : Ct) : List Str := (kvs.filter fun e => f e.2).map (·.1)
theorem nmsZ_snoc (f : Int → Bool) (kvs : Ct) (e : Str × Int) : nmsZ f (kvs ++ [e]) = if f e.2 = true then nmsZ f kvs ++ [e.1] else nmsZ f kvs := by
  unfold nmsZ
  rw [List.filter_append, List.map_append]
  by_cases h : f e.2 = true
  · rw [if_pos h, List.filter_cons_of_pos (p := fun e : Str × Int => f e.2) h]
    rfl
  · rw [if_neg h, List.filter_cons_of_neg (p := fun e : Str × Int => f e.2) h, List.filter_nil, List.map_nil, List.append_nil]
theorem nmsZ_len (f : Int → Bool) (kvs : Ct) : (nmsZ f kvs).length ≤ kvs.length := by
  unfold nmsZ
  rw [List.length_map]
  exact List.length_filter_le _ _
/-- what the defs of first names want -/
structure DefsA (K : PySem.W.Frag) (mg : Str → Option Value) (base : Heap) where
  T : Blt mg
  cM : Cst mg "MOST_ROOM" (.int 64)
  cL : Cst mg "LONGEST_NAME" (.int 8)
  F : Flr K mg base
  dP_is_int : DnIsInt K mg
  dP_is_number : DnIsNumber K mg
  dP_is_room : DnIsRoom K mg
  dP_is_name : DnIsName K mg
  dP_is_counted : DnIsCounted K mg
  dP_are_counts : DnAreCounts K mg
  dP_lost_of : DnLostOf K mg
  dP_is_sketch : DnIsSketch K mg
section
variable {P : Program} {w : World} {K : PySem.W.Frag} {mg : Str → Option Value} {base : Heap}
def spSurelyAbove (K : PySem.W.Frag) : Sp := fun vs H Q _ => ∃ (s : Addr) (r m off : Int) (kvs : Ct) (n : Int), vs = [.ref s, .int n] ∧ SkC K H s r m off kvs ∧ SkG r m off kvs ∧ 0 ≤ n ∧ ∀ H' p, Same H H' → Ptp H' p ((nmsZ (fun c => decide (n < c)) kvs).map V.str) → Q (.ref p) H'
theorem ok_surely_above (D : DefsA K mg base) (d : DnSurelyAbove K mg) : FnOk P w K mg base CX0 5 d.f d.fd ["sketch", "most"] (spSurelyAbove K) := by
  have T := D.T
  have GP_is_number : FnOk P w K mg base CX0 2 D.dP_is_number.f D.dP_is_number.fd ["thing"] spIsNumber := ok_is_number T D.dP_is_int D.dP_is_number
  have GP_is_sketch : FnOk P w K mg base CX0 4 D.dP_is_sketch.f D.dP_is_sketch.fd ["thing"] (spIsSketch K) := ok_is_sketch D.T D.cM D.cL D.dP_is_int D.dP_is_number D.dP_is_room D.dP_is_name D.dP_is_counted D.dP_are_counts D.dP_lost_of D.dP_is_sketch
  refine d.F.ok scP_surely_above (fun vs H Q E h => ?_) (fun cdv A outer s H vs Q E hr h => ?_)
  · obtain ⟨s, r, m, off, kvs, n, rfl, _⟩ := h
    rfl
  · obtain ⟨sk, r, m, off, kvs, n, rfl, hs, hg, n0, k⟩ := h
    refine ⟨_, (pss_cons (ps_if (pt_not (pt_val (pe_call GP_is_sketch (hr.mono (by omega)) (by rfl) D.dP_is_sketch.g D.dP_is_sketch.F.kp D.dP_is_sketch.b .nil pass0 (pa_cons (pv 0) pa_nil))))
      (pss_one ps_never)
      pss_nil)
    (pss_cons (ps_if (pt_not (pt_val (pe_call GP_is_number (hr.mono (by omega)) (by rfl) D.dP_is_number.g D.dP_is_number.F.kp D.dP_is_number.b .nil pass0 (pa_cons (pv 1) pa_nil))))
      (pss_one ps_never)
      pss_nil)
    (pss_one (ps_ret (pe_callTy call_tupleF (by rfl) T.n_tuple (by decide +kernel) (pa_cons (pe_lc (own := [("name", 2), ("count", 3)]) (g := gTup K 2 (gCons (gName 2) (gCons (gName 3) gNil))) rfl scP_surely_above.nd (pi_tup (pe_ix ix_tup (pv 0) pe_int (fun _ _ => rfl))) (blkOk_by (N := NP_surely_above) (sc := defScope sP_surely_above) (by decide +kernel)) (fun _ _ _ _ _ => pg_tup (by rfl) (pgs_cons (pg_name (i := 2) scP_surely_above.nd rfl (Or.inl rfl)) (pgs_cons (pg_name (i := 3) scP_surely_above.nd rfl (Or.inl rfl)) pgs_nil))) (fun _ _ _ _ _ => pts_one (pt_cmpR op_gt (pv 3) (pv 1) (nomark _))) (fun _ _ _ _ _ => (pv 2))) pa_nil)))))), ?_⟩
    obtain ⟨kk, ts, h1, h2, h3⟩ := hs.ob
    have hlen := hg.len
    have hr64 := hg.r64
    have lts := Paired.length h3
    refine ⟨.ref sk, rfl, sk, kk, r, m, off, kvs, rfl, h1, ⟨ts, h2.seq, h3⟩, hg.cts, by omega, fun H1 s1 => ?_⟩
    rw [hg.yes]
    refine ⟨true, rfl, iteF ⟨.int n, rfl, n, rfl, decide (0 ≤ n), rfl, ?_⟩⟩
    rw [decide_eq_true n0]
    refine iteF ⟨.ref sk, rfl, sk, _, _, _, rfl, rfl, seqT h1 s1, atI_nat (j := 3) rfl, kk, rfl, ⟨_, (h2.same s1).seq⟩, fun D1 nD1 => ?_⟩
    refine lc_tup (xs := ts.map V.ref) (fun i H2 => Same H1 H2 ∧ H2 D1 = some (.lst ((nmsZ (fun c => decide (n < c)) (kvs.take i)).map V.str))) ⟨same_upd nD1, upd_same⟩ (fun i H2 _ h => ((h2.same s1).same h.1).seq) (fun i v H2 hv h => ?_) (fun H2 h => ?_)
    · obtain ⟨t, ht, rfl⟩ := map_at hv
      obtain ⟨e, he, hat⟩ := paired_at h3 ht
      obtain ⟨s2, hD2⟩ := h
      have hi := (List.getElem?_eq_some_iff.mp he).1
      have tk : kvs.take (i + 1) = kvs.take i ++ [e] := by rw [List.take_add_one, he]; rfl
      have nl := nmsZ_len (fun c => decide (n < c)) (kvs.take i)
      rw [List.length_take] at nl
      refine ⟨t, _, rfl, seqT hat (s1.trans s2), rfl, _, _, rfl, _, _, rfl, rfl, rfl, .int e.2, rfl, .int n, rfl, _, _, rfl, rfl, decide (n < e.2), rfl, ?_⟩
      rw [tk, nmsZ_snoc]
      refine ite2 (fun h0 => ?_) fun h0 => ?_
      · rw [if_pos h0]
        exact ⟨.str e.1, rfl, _, hD2, by rw [List.length_map, sizeLine_eq]; omega, Same.put s2 nD1, by rw [upd_same, List.map_append]; rfl⟩
      · rw [if_neg h0]
        exact ⟨s2, hD2⟩
    obtain ⟨s2, hD2⟩ := h
    rw [List.length_map, lts, List.take_length] at hD2
    exact ⟨D1, _, rfl, sql hD2, fun l o nl ho => k _ l ((s1.trans s2).trans (same_upd nl)) ⟨o, upd_same, ho⟩⟩
def spPerhapsAbove (K : PySem.W.Frag) : Sp := fun vs H Q _ => ∃ (s : Addr) (r m off : Int) (kvs : Ct) (n : Int), vs = [.ref s, .int n] ∧ SkC K H s r m off kvs ∧ SkG r m off kvs ∧ 0 ≤ n ∧ ∀ H' p t, Same H H' → H' p = some (.tup [.ref t, .bl (decide (n < off))]) → Ptp H' t ((nmsZ (fun c => decide (n < c + off)) kvs).map V.str) → Q (.ref p) H'
theorem ok_perhaps_above (D : DefsA K mg base) (d : DnPerhapsAbove K mg) : FnOk P w K mg base CX0 5 d.f d.fd ["sketch", "most"] (spPerhapsAbove K) := by
  have T := D.T
  have GP_is_number : FnOk P w K mg base CX0 2 D.dP_is_number.f D.dP_is_number.fd ["thing"] spIsNumber := ok_is_number T D.dP_is_int D.dP_is_number
  have GP_is_sketch : FnOk P w K mg base CX0 4 D.dP_is_sketch.f D.dP_is_sketch.fd ["thing"] (spIsSketch K) := ok_is_sketch D.T D.cM D.cL D.dP_is_int D.dP_is_number D.dP_is_room D.dP_is_name D.dP_is_counted D.dP_are_counts D.dP_lost_of D.dP_is_sketch
  refine d.F.ok scP_perhaps_above (fun vs H Q E h => ?_) (fun cdv A outer s H vs Q E hr h => ?_)
  · obtain ⟨s, r, m, off, kvs, n, rfl, _⟩ := h
    rfl
  · obtain ⟨sk, r, m, off, kvs, n, rfl, hs, hg, n0, k⟩ := h
    refine ⟨_, (pss_cons (ps_if (pt_not (pt_val (pe_call GP_is_sketch (hr.mono (by omega)) (by rfl) D.dP_is_sketch.g D.dP_is_sketch.F.kp D.dP_is_sketch.b .nil pass0 (pa_cons (pv 0) pa_nil))))
      (pss_one ps_never)
      pss_nil)
    (pss_cons (ps_if (pt_not (pt_val (pe_call GP_is_number (hr.mono (by omega)) (by rfl) D.dP_is_number.g D.dP_is_number.F.kp D.dP_is_number.b .nil pass0 (pa_cons (pv 1) pa_nil))))
      (pss_one ps_never)
      pss_nil)
    (pss_cons (ps_asg (pe_ix ix_tup (pv 0) pe_int (fun _ _ => rfl)) (pg_name (i := 2) scP_perhaps_above.nd rfl (Or.inr rfl)))
    (pss_one (ps_ret (pe_tup (pa_cons (pe_callTy call_tupleF (by rfl) T.n_tuple (by decide +kernel) (pa_cons (pe_lc (own := [("name", 3), ("count", 4)]) (g := gTup K 2 (gCons (gName 3) (gCons (gName 4) gNil))) rfl scP_perhaps_above.nd (pi_tup (pe_ix ix_tup (pv 0) pe_int (fun _ _ => rfl))) (blkOk_by (N := NP_perhaps_above) (sc := defScope sP_perhaps_above) (by decide +kernel)) (fun _ _ _ _ _ => pg_tup (by rfl) (pgs_cons (pg_name (i := 3) scP_perhaps_above.nd rfl (Or.inl rfl)) (pgs_cons (pg_name (i := 4) scP_perhaps_above.nd rfl (Or.inl rfl)) pgs_nil))) (fun _ _ _ _ _ => pts_one (pt_cmpR op_gt (pe_op op_add (pv 4) (pv 2)) (pv 1) (nomark _))) (fun _ _ _ _ _ => (pv 3))) pa_nil)) (pa_cons (pe_cmpR op_gt (pv 2) (pv 1) (nomark _)) pa_nil)))))))), ?_⟩
    obtain ⟨kk, ts, h1, h2, h3⟩ := hs.ob
    have hlen := hg.len
    have hr64 := hg.r64
    have lts := Paired.length h3
    refine ⟨.ref sk, rfl, sk, kk, r, m, off, kvs, rfl, h1, ⟨ts, h2.seq, h3⟩, hg.cts, by omega, fun H1 s1 => ?_⟩
    rw [hg.yes]
    refine ⟨true, rfl, iteF ⟨.int n, rfl, n, rfl, decide (0 ≤ n), rfl, ?_⟩⟩
    rw [decide_eq_true n0]
    refine iteF ⟨.ref sk, rfl, sk, _, _, _, rfl, rfl, seqT h1 s1, atI_nat (j := 2) rfl, ?_⟩
    refine ⟨.ref sk, rfl, sk, _, _, _, rfl, rfl, seqT h1 s1, atI_nat (j := 3) rfl, kk, rfl, ⟨_, (h2.same s1).seq⟩, fun D1 nD1 => ?_⟩
    refine lc_tup (xs := ts.map V.ref) (fun i H2 => Same H1 H2 ∧ H2 D1 = some (.lst ((nmsZ (fun c => decide (n < c + off)) (kvs.take i)).map V.str))) ⟨same_upd nD1, upd_same⟩ (fun i H2 _ h => ((h2.same s1).same h.1).seq) (fun i v H2 hv h => ?_) (fun H2 h => ?_)
    · obtain ⟨t, ht, rfl⟩ := map_at hv
      obtain ⟨e, he, hat⟩ := paired_at h3 ht
      obtain ⟨s2, hD2⟩ := h
      have hi := (List.getElem?_eq_some_iff.mp he).1
      have tk : kvs.take (i + 1) = kvs.take i ++ [e] := by rw [List.take_add_one, he]; rfl
      have nl := nmsZ_len (fun c => decide (n < c + off)) (kvs.take i)
      rw [List.length_take] at nl
      refine ⟨t, _, rfl, seqT hat (s1.trans s2), rfl, _, _, rfl, _, _, rfl, rfl, rfl, .int e.2, rfl, .int off, rfl, _, _, rfl, rfl, .int n, rfl, _, _, rfl, rfl, decide (n < e.2 + off), rfl, ?_⟩
      rw [tk, nmsZ_snoc]
      refine ite2 (fun h0 => ?_) fun h0 => ?_
      · rw [if_pos h0]
        exact ⟨.str e.1, rfl, _, hD2, by rw [List.length_map, sizeLine_eq]; omega, Same.put s2 nD1, by rw [upd_same, List.map_append]; rfl⟩
      · rw [if_neg h0]
        exact ⟨s2, hD2⟩
    obtain ⟨s2, hD2⟩ := h
    rw [List.length_map, lts, List.take_length] at hD2
    refine ⟨D1, _, rfl, sql hD2, fun l o nl ho => ⟨.int off, rfl, .int n, rfl, _, _, rfl, rfl, (by show 2 ≤ sizeLine; decide), fun p np => ?_⟩⟩
    have s3 := same_upd (o := .frz o (.tup ((nmsZ (fun c => decide (n < c + off)) kvs).map V.str))) nl
    exact k _ p l (((s1.trans s2).trans s3).trans (same_upd np)) upd_same (Ptp.same ⟨o, upd_same, ho⟩ (same_upd np))
end
end Kb

namespace Kb
open PySem PySem.Spec PyProof.Rows L2 SrtZ SrtO FlX LamX RZ
abbrev sP_surely_first : Stmt := topS 22
abbrev NP_surely_first : List Str := ["sketch", "off", "names", "counts", "second"]
theorem scP_surely_first : FnScope ["sketch", "off", "names", "counts", "second"] ["sketch"] (defScope sP_surely_first) := ⟨rfl, rfl, rfl, by decide +kernel, rfl, by decide +kernel, by decide +kernel⟩
abbrev DnSurelyFirst (K : PySem.W.Frag) (mg : Str → Option Value) := Dn K mg "surely_first" sP_surely_first ["sketch"]
abbrev sP_perhaps_first : Stmt := topS 23
abbrev NP_perhaps_first : List Str := ["sketch", "off", "most", "_", "count", "name"]
theorem scP_perhaps_first : FnScope ["sketch", "off", "most", "_", "count", "name"] ["sketch"] (defScope sP_perhaps_first) := ⟨rfl, rfl, rfl, by decide +kernel, rfl, by decide +kernel, by decide +kernel⟩
abbrev DnPerhapsFirst (K : PySem.W.Frag) (mg : Str → Option Value) := Dn K mg "perhaps_first" sP_perhaps_first ["sketch"]
/-- the greatest count, or 0 -/
def IsMx (kvs : Ct) (M : Int) : Prop := (kvs = [] ∧ M = 0) ∨ (M ∈ kvs.map (·.2) ∧ ∀ y ∈ kvs.map (·.2), y ≤ M)
/-- the name surely first, of falling counts -/
def sureV (off : Int) : Ct → V
  | [] => .non
  | [e] => if 0 + off < e.2 then .str e.1 else .non
  | e :: f :: _ => if f.2 + off < e.2 then .str e.1 else .non
theorem seqT_ext {K : PySem.W.Frag} {P : Addr} {H H' : Hp} {q : Str} {t : Addr} {xs : List V} (h : SqT K H t xs) (T : TabS H P q) (x : ExT P q H H') : SqT K H' t xs := by
  rcases h with (h | ⟨o, h⟩) | h
  · exact .inl (.inl (x.at T h (by intro _ z; cases z)))
  · exact .inl (.inr ⟨o, x.at T h (by intro _ z; cases z)⟩)
  · exact .inr h
theorem ptp_ext {P : Addr} {H H' : Hp} {q : Str} {t : Addr} {xs : List V} (h : Ptp H t xs) (T : TabS H P q) (x : ExT P q H H') : Ptp H' t xs := by
  obtain ⟨o, h1, h2⟩ := h
  exact ⟨o, x.at T h1 (by intro _ z; cases z), h2⟩
section
variable {P : Program} {w : World} {K : PySem.W.Frag} {mg : Str → Option Value} {base : Heap}
def spSurelyFirst (K : PySem.W.Frag) (Pt : Addr) : Sp := fun vs H Q _ => ∃ (s : Addr) (r m off : Int) (kvs : Ct), vs = [.ref s] ∧ SkC K H s r m off kvs ∧ SkG r m off kvs ∧ TabS H Pt qFall ∧ ∀ H', ExT Pt qFall H H' → Q (sureV off (fallBy (·.2) kvs)) H'
theorem ok_surely_first (D : DefsA K mg base) (d : DnSurelyFirst K mg) : FnOk P w K mg base CX0 5 d.f d.fd ["sketch"] (spSurelyFirst K D.F.P) := by
  have T := D.T
  have GP_is_sketch : FnOk P w K mg base CX0 4 D.dP_is_sketch.f D.dP_is_sketch.fd ["thing"] (spIsSketch K) := ok_is_sketch D.T D.cM D.cL D.dP_is_int D.dP_is_number D.dP_is_room D.dP_is_name D.dP_is_counted D.dP_are_counts D.dP_lost_of D.dP_is_sketch
  have GP_falling : FnOk P w K mg base CX0 1 D.F.d.f D.F.d.fd ["kept"] (spFalling K D.F.P) := ok_falling T D.F
  refine d.F.ok scP_surely_first (fun vs H Q E h => ?_) (fun cdv A outer s H vs Q E hr h => ?_)
  · obtain ⟨s, r, m, off, kvs, rfl, _⟩ := h
    rfl
  · obtain ⟨sk, r, m, off, kvs, rfl, hs, hg, hT, k⟩ := h
    have hu := hu_of hr
    refine ⟨_, (pss_cons (ps_if (pt_not (pt_val (pe_call GP_is_sketch (hr.mono (by omega)) (by rfl) D.dP_is_sketch.g D.dP_is_sketch.F.kp D.dP_is_sketch.b .nil pass0 (pa_cons (pv 0) pa_nil))))
      (pss_one ps_never)
      pss_nil)
    (pss_cons (ps_set (i := 1) scP_surely_first.nd rfl (Or.inl rfl) (pe_ix ix_tup (pv 0) pe_int (fun _ _ => rfl)))
    (pss_cons (ps_set (i := 2) scP_surely_first.nd rfl (Or.inl rfl) (pe_call GP_falling (hr.mono (by omega)) (by rfl) D.F.d.g D.F.d.F.kp D.F.d.b .nil pass0 (pa_cons (pe_ix ix_tup (pv 0) pe_int (fun _ _ => rfl)) pa_nil)))
    (pss_cons (ps_if (pt_not (pt_truth (pv 2) (by intro _; rfl)))
      (pss_one (ps_ret pe_non))
      pss_nil)
    (pss_cons (ps_set (i := 3) scP_surely_first.nd rfl (Or.inl rfl) (pe_callTy (call_dictPT rfl) (by rfl) T.n_dict (by decide +kernel) (pa_cons (pe_ix ix_tup (pv 0) pe_int (fun _ _ => rfl)) pa_nil)))
    (pss_cons (ps_set (i := 4) scP_surely_first.nd rfl (Or.inl rfl) (pe_ifExp (pt_cmpR op_gt (pe_callB call_len_seq (by rfl) T.n_len (by decide +kernel) (pa_cons (pv 2) pa_nil)) pe_int (nomark _)) (pe_dget hu (pv 3) (pe_ix ix_list (pv 2) pe_int (fun _ _ => rfl)) (fun _ _ => rfl)) pe_int))
    (pss_one (ps_ret (pe_ifExp (pt_cmpR op_gt (pe_dget hu (pv 3) (pe_ix ix_list (pv 2) pe_int (fun _ _ => rfl)) (fun _ _ => rfl)) (pe_op op_add (pv 4) (pv 1)) (nomark _)) (pe_ix ix_list (pv 2) pe_int (fun _ _ => rfl)) pe_non))))))))), ?_⟩
    obtain ⟨kk, ts, h1, h2, h3⟩ := hs.ob
    have hlen := hg.len
    have hr64 := hg.r64
    have ndk : NdZ kvs := asc_nd hg.cts.asc
    refine ⟨.ref sk, rfl, sk, kk, r, m, off, kvs, rfl, h1, ⟨ts, h2.seq, h3⟩, hg.cts, by omega, fun H1 s1 => ?_⟩
    rw [hg.yes]
    have T1 := tabS_same hT s1
    refine ⟨true, rfl, iteF ⟨.ref sk, rfl, sk, _, _, _, rfl, rfl, seqT h1 s1, atI_nat (j := 2) rfl, ?_⟩⟩
    refine ⟨.ref sk, rfl, sk, _, _, _, rfl, rfl, seqT h1 s1, atI_nat (j := 3) rfl, kk, ts, kvs, rfl, (h2.same s1).seq, paired_imp (fun t e h => seqT h s1) h3, by omega, T1, fun H2 p x2 np hp => ?_⟩
    have pm : (fallBy (·.2) kvs).Perm kvs := List.mergeSort_perm _ _
    have gk : ∀ e ∈ fallBy (·.2) kvs, getZ kvs e.1 = some e.2 := fun e he => getZ_self ndk (List.getElem?_of_mem (pm.mem_iff.mp he)).choose_spec
    generalize fallBy (·.2) kvs = fs at hp pm gk k
    have x02 := (FlX.Same.exT s1 hT).trans x2
    have h1' := seqT_ext (seqT h1 s1) T1 x2
    have h2' := ptp_ext (h2.same s1) T1 x2
    have h3' : Paired (PrAt K H2) ts kvs := paired_imp (fun t e h => seqT_ext (seqT h s1) T1 x2) h3
    have T2 := x2.tab
    cases fs with
    | nil =>
      refine ⟨.ref p, rfl, false, .inl ⟨[], sql hp, rfl⟩, iteT ?_⟩
      exact k H2 x02
    | cons e es =>
    refine ⟨.ref p, rfl, true, .inl ⟨_, sql hp, rfl⟩, iteF ?_⟩
    refine ⟨.ref sk, rfl, sk, _, _, _, rfl, rfl, h1', atI_nat (j := 3) rfl, kk, ts, kvs.map entZ, rfl, h2', ents_paired h3', fun dd nd => ?_⟩
    rw [show mergeK [] (kvs.map entZ) = kvs.map entZ from mergeZ kvs [] (by rw [List.nil_append]; exact ndk)]
    have s3 := same_upd (o := .dK (kvs.map entZ)) nd
    have hd3 : (upd H2 dd (.dK (kvs.map entZ))) dd = some (.dK (kvs.map entZ)) := upd_same
    have hp3 := s3 _ _ hp
    generalize upd H2 dd (.dK (kvs.map entZ)) = H3 at s3 hd3 hp3 ⊢
    have kk3 := k H3 (x02.trans (FlX.Same.exT s3 T2))
    have ge := dget_of hd3 (gk e List.mem_cons_self)
    cases es with
    | nil =>
      refine ⟨.ref p, rfl, p, _, rfl, .inl (sql hp3), _, _, rfl, rfl, false, rfl, iteF ?_⟩
      refine ⟨.ref dd, rfl, .ref p, rfl, p, _, _, _, rfl, rfl, sql hp3, atI_nat (j := 0) rfl, dd, .int e.2, rfl, ge, .int 0, rfl, .int off, rfl, _, _, rfl, rfl, _, _, rfl, rfl, decide (0 + off < e.2), rfl, ?_⟩
      refine ite2 (fun h => ?_) fun h => ?_
      · have kk3 : Q (if 0 + off < e.2 then V.str e.1 else .non) H3 := kk3
        rw [if_pos (of_decide_eq_true h)] at kk3
        exact ⟨.ref p, rfl, p, _, _, _, rfl, rfl, sql hp3, atI_nat (j := 0) rfl, kk3⟩
      · have kk3 : Q (if 0 + off < e.2 then V.str e.1 else .non) H3 := kk3
        rw [if_neg (fun z => h (decide_eq_true z))] at kk3
        exact kk3
    | cons f es =>
      have gf := dget_of hd3 (gk f (List.mem_cons_of_mem _ List.mem_cons_self))
      refine ⟨.ref p, rfl, p, _, rfl, .inl (sql hp3), _, _, rfl, rfl, true, congrArg V.bl (decide_eq_true (by show (1 : Int) < ((((e :: f :: es).map (·.1)).map V.str).length : Nat); rw [List.length_map, List.length_map, List.length_cons, List.length_cons]; omega)), iteT ?_⟩
      refine ⟨.ref dd, rfl, .ref p, rfl, p, _, _, _, rfl, rfl, sql hp3, atI_nat (j := 1) rfl, dd, .int f.2, rfl, gf, ?_⟩
      refine ⟨.ref dd, rfl, .ref p, rfl, p, _, _, _, rfl, rfl, sql hp3, atI_nat (j := 0) rfl, dd, .int e.2, rfl, ge, .int f.2, rfl, .int off, rfl, _, _, rfl, rfl, _, _, rfl, rfl, decide (f.2 + off < e.2), rfl, ?_⟩
      refine ite2 (fun h => ?_) fun h => ?_
      · have kk3 : Q (if f.2 + off < e.2 then V.str e.1 else .non) H3 := kk3
        rw [if_pos (of_decide_eq_true h)] at kk3
        exact ⟨.ref p, rfl, p, _, _, _, rfl, rfl, sql hp3, atI_nat (j := 0) rfl, kk3⟩
      · have kk3 : Q (if f.2 + off < e.2 then V.str e.1 else .non) H3 := kk3
        rw [if_neg (fun z => h (decide_eq_true z))] at kk3
        exact kk3
def spPerhapsFirst (K : PySem.W.Frag) : Sp := fun vs H Q _ => ∃ (s : Addr) (r m off : Int) (kvs : Ct), vs = [.ref s] ∧ SkC K H s r m off kvs ∧ SkG r m off kvs ∧ ∀ H' p t M, Same H H' → IsMx kvs M → H' p = some (.tup [.ref t, .bl (decide (0 < off) && decide (M ≤ off))]) → Ptp H' t ((nmsZ (fun c => decide (M ≤ c + off)) kvs).map V.str) → Q (.ref p) H'
theorem ok_perhaps_first (D : DefsA K mg base) (d : DnPerhapsFirst K mg) : FnOk P w K mg base CX0 5 d.f d.fd ["sketch"] (spPerhapsFirst K) := by
  have T := D.T
  have GP_is_sketch : FnOk P w K mg base CX0 4 D.dP_is_sketch.f D.dP_is_sketch.fd ["thing"] (spIsSketch K) := ok_is_sketch D.T D.cM D.cL D.dP_is_int D.dP_is_number D.dP_is_room D.dP_is_name D.dP_is_counted D.dP_are_counts D.dP_lost_of D.dP_is_sketch
  refine d.F.ok scP_perhaps_first (fun vs H Q E h => ?_) (fun cdv A outer s H vs Q E hr h => ?_)
  · obtain ⟨s, r, m, off, kvs, rfl, _⟩ := h
    rfl
  · obtain ⟨sk, r, m, off, kvs, rfl, hs, hg, k⟩ := h
    refine ⟨_, (pss_cons (ps_if (pt_not (pt_val (pe_call GP_is_sketch (hr.mono (by omega)) (by rfl) D.dP_is_sketch.g D.dP_is_sketch.F.kp D.dP_is_sketch.b .nil pass0 (pa_cons (pv 0) pa_nil))))
      (pss_one ps_never)
      pss_nil)
    (pss_cons (ps_asg (pe_ix ix_tup (pv 0) pe_int (fun _ _ => rfl)) (pg_name (i := 1) scP_perhaps_first.nd rfl (Or.inr rfl)))
    (pss_cons (ps_asg (pe_callBK (cr_maxDf rfl) (by rfl) T.n_max (by decide +kernel) (pa_cons (pe_lc (own := [("_", 3), ("count", 4)]) (g := gTup K 2 (gCons (gName 3) (gCons (gName 4) gNil))) (tt := tYes) rfl scP_perhaps_first.nd (pi_tup (pe_ix ix_tup (pv 0) pe_int (fun _ _ => rfl))) (blkOk_by (N := NP_perhaps_first) (sc := defScope sP_perhaps_first) (by decide +kernel)) (fun _ _ _ _ _ => pg_tup (by rfl) (pgs_cons (pg_name (i := 3) scP_perhaps_first.nd rfl (Or.inl rfl)) (pgs_cons (pg_name (i := 4) scP_perhaps_first.nd rfl (Or.inl rfl)) pgs_nil))) (fun _ _ _ _ _ => pts_nil) (fun _ _ _ _ _ => (pv 4))) pa_nil) (pk_cons pe_int pk_nil)) (pg_name (i := 2) scP_perhaps_first.nd rfl (Or.inr rfl)))
    (pss_one (ps_ret (pe_tup (pa_cons (pe_callTy call_tupleF (by rfl) T.n_tuple (by decide +kernel) (pa_cons (pe_lc (own := [("name", 5), ("count", 4)]) (g := gTup K 2 (gCons (gName 5) (gCons (gName 4) gNil))) rfl scP_perhaps_first.nd (pi_tup (pe_ix ix_tup (pv 0) pe_int (fun _ _ => rfl))) (blkOk_by (N := NP_perhaps_first) (sc := defScope sP_perhaps_first) (by decide +kernel)) (fun _ _ _ _ _ => pg_tup (by rfl) (pgs_cons (pg_name (i := 5) scP_perhaps_first.nd rfl (Or.inl rfl)) (pgs_cons (pg_name (i := 4) scP_perhaps_first.nd rfl (Or.inl rfl)) pgs_nil))) (fun _ _ _ _ _ => pts_one (pt_cmpR op_ge (pe_op op_add (pv 4) (pv 1)) (pv 2) (nomark _))) (fun _ _ _ _ _ => (pv 5))) pa_nil)) (pa_cons (pe_and (pe_cmpR op_gt (pv 1) pe_int (nomark _)) (pe_one (pe_cmpR op_ge (pv 1) (pv 2) (nomark _)))) pa_nil)))))))), ?_⟩
    obtain ⟨kk, ts, h1, h2, h3⟩ := hs.ob
    have hlen := hg.len
    have hr64 := hg.r64
    have lts := Paired.length h3
    refine ⟨.ref sk, rfl, sk, kk, r, m, off, kvs, rfl, h1, ⟨ts, h2.seq, h3⟩, hg.cts, by omega, fun H1 s1 => ?_⟩
    rw [hg.yes]
    refine ⟨true, rfl, iteF ⟨.ref sk, rfl, sk, _, _, _, rfl, rfl, seqT h1 s1, atI_nat (j := 2) rfl, ?_⟩⟩
    refine ⟨.ref sk, rfl, sk, _, _, _, rfl, rfl, seqT h1 s1, atI_nat (j := 3) rfl, kk, rfl, ⟨_, (h2.same s1).seq⟩, fun D1 nD1 => ?_⟩
    refine lc_tup (xs := ts.map V.ref) (fun i H2 => Same H1 H2 ∧ H2 D1 = some (.lst (((kvs.take i).map (·.2)).map V.int))) ⟨same_upd nD1, upd_same⟩ (fun i H2 _ h => ((h2.same s1).same h.1).seq) (fun i v H2 hv h => ?_) (fun H2 h => ?_)
    · obtain ⟨t, ht, rfl⟩ := map_at hv
      obtain ⟨e, he, hat⟩ := paired_at h3 ht
      obtain ⟨s2, hD2⟩ := h
      have hi := (List.getElem?_eq_some_iff.mp he).1
      refine ⟨t, _, rfl, seqT hat (s1.trans s2), rfl, _, _, rfl, _, _, rfl, rfl, rfl, .int e.2, rfl, _, hD2, by rw [List.length_map, List.length_map, List.length_take, sizeLine_eq]; omega, Same.put s2 nD1, ?_⟩
      rw [upd_same, List.take_add_one, he, List.map_append, List.map_append]
      rfl
    obtain ⟨s2, hD2⟩ := h
    rw [List.length_map, lts, List.take_length] at hD2
    have s02 := s1.trans s2
    obtain ⟨test⟩ : Nonempty (∀ {R : V → Hp → Prop}, (∀ M, IsMx kvs M → R (.int M) H2) → rMaxDf K [.ref D1] [.int 0] H2 R) := ⟨fun {R} h => ⟨D1, kvs.map (·.2), .int 0, rfl, rfl, sql hD2, fun e => h 0 (.inl ⟨List.map_eq_nil_iff.mp e, rfl⟩), fun M m1 m2 => h M (.inr ⟨m1, m2⟩)⟩⟩
    refine test fun M hM => ?_
    refine ⟨.ref sk, rfl, sk, _, _, _, rfl, rfl, seqT h1 s02, atI_nat (j := 3) rfl, kk, rfl, ⟨_, (h2.same s02).seq⟩, fun D3 nD3 => ?_⟩
    refine lc_tup (xs := ts.map V.ref) (fun i H3 => Same H2 H3 ∧ H3 D3 = some (.lst ((nmsZ (fun c => decide (M ≤ c + off)) (kvs.take i)).map V.str))) ⟨same_upd nD3, upd_same⟩ (fun i H3 _ h => ((h2.same s02).same h.1).seq) (fun i v H3 hv h => ?_) (fun H3 h => ?_)
    · obtain ⟨t, ht, rfl⟩ := map_at hv
      obtain ⟨e, he, hat⟩ := paired_at h3 ht
      obtain ⟨s3, hD3⟩ := h
      have hi := (List.getElem?_eq_some_iff.mp he).1
      have tk : kvs.take (i + 1) = kvs.take i ++ [e] := by rw [List.take_add_one, he]; rfl
      have nl := nmsZ_len (fun c => decide (M ≤ c + off)) (kvs.take i)
      rw [List.length_take] at nl
      refine ⟨t, _, rfl, seqT hat (s02.trans s3), rfl, _, _, rfl, _, _, rfl, rfl, rfl, .int e.2, rfl, .int off, rfl, _, _, rfl, rfl, .int M, rfl, _, _, rfl, rfl, decide (M ≤ e.2 + off), rfl, ?_⟩
      rw [tk, nmsZ_snoc]
      refine ite2 (fun h0 => ?_) fun h0 => ?_
      · rw [if_pos h0]
        exact ⟨.str e.1, rfl, _, hD3, by rw [List.length_map, sizeLine_eq]; omega, Same.put s3 nD3, by rw [upd_same, List.map_append]; rfl⟩
      · rw [if_neg h0]
        exact ⟨s3, hD3⟩
    obtain ⟨s3, hD3⟩ := h
    rw [List.length_map, lts, List.take_length] at hD3
    refine ⟨D3, _, rfl, sql hD3, fun l o nl ho => ?_⟩
    have s4 := same_upd (o := .frz o (.tup ((nmsZ (fun c => decide (M ≤ c + off)) kvs).map V.str))) nl
    have s14 := (s02.trans s3).trans s4
    have fin : ∀ b, b = (decide (0 < off) && decide (M ≤ off)) → ∀ p, (upd H3 l (.frz o (.tup ((nmsZ (fun c => decide (M ≤ c + off)) kvs).map V.str)))) p = none → Q (.ref p) (upd (upd H3 l (.frz o (.tup ((nmsZ (fun c => decide (M ≤ c + off)) kvs).map V.str)))) p (.tup [.ref l, .bl b])) := fun b eb p np => by
      rw [eb]
      exact k _ p l M (s14.trans (same_upd np)) hM upd_same (Ptp.same ⟨o, upd_same, ho⟩ (same_upd np))
    refine ⟨.int off, rfl, _, _, rfl, rfl, decide (0 < off), rfl, ?_⟩
    refine ite2 (fun h0 => ?_) fun h0 => ?_
    · refine ⟨.int off, rfl, .int M, rfl, _, _, rfl, rfl, (by show 2 ≤ sizeLine; decide), fun p np => fin _ ?_ p np⟩
      rw [h0, Bool.true_and]
    · refine ⟨(by show 2 ≤ sizeLine; decide), fun p np => fin _ ?_ p np⟩
      rw [show decide (0 < off) = false by simpa using h0, Bool.false_and]
end
end Kb

namespace Kb
open PySem PySem.Spec PyProof.Rows L2 SrtZ SrtO FlX LamX RZ
abbrev stops : Stmt := topS 38
abbrev Ntops : List Str := ["_law_truth_here", "_law_name", "_law_count", "_law_one", "_law_other"]
theorem sctops : FnScope ["_law_truth_here", "_law_name", "_law_count", "_law_one", "_law_other"] ["_law_truth_here"] (defScope stops) := ⟨rfl, rfl, rfl, by decide +kernel, rfl, by decide +kernel, by decide +kernel⟩
abbrev Dntops (K : PySem.W.Frag) (mg : Str → Option Value) := Dn K mg "_law_tops" stops ["_law_truth_here"]
abbrev cstops : Scope := { kind := ScopeKind.function, names := [(Str.ofString ".0", NameKind.local), (Str.ofString "_law_name", NameKind.local), (Str.ofString "_law_count", NameKind.local), (Str.ofString "max", NameKind.globalImplicit), (Str.ofString "_law_truth_here", NameKind.free)], isGenerator := false, isCoroutine := false }
/-- a block in a block -/
theorem lookup_re {env : Env} {x : Str} {k0 : NameKind} : ∀ {names : List (Str × NameKind)}, names.lookup x = some k0 → (k0 = .cell ∨ k0 = .free) →
    (names.map fun (n, k) => if (k == NameKind.free && env.scope.kind == .function && env.kindOf n == some .cell) then (n, NameKind.cell) else (n, k)).lookup x = some .cell ∨
    (names.map fun (n, k) => if (k == NameKind.free && env.scope.kind == .function && env.kindOf n == some .cell) then (n, NameKind.cell) else (n, k)).lookup x = some .free
  | [], h, _ => by simp at h
  | (n, k) :: r, h, hk => by
    rw [List.lookup_cons] at h
    rw [List.map_cons]
    by_cases hx : (x == n) = true
    · rw [hx] at h
      cases h
      have e2 : ∀ k1 : NameKind, List.lookup x ((n, k1) :: (r.map fun (n, k) => if (k == NameKind.free && env.scope.kind == .function && env.kindOf n == some .cell) then (n, NameKind.cell) else (n, k))) = some k1 := fun k1 => by rw [List.lookup_cons, hx]
      by_cases hc : (k0 == NameKind.free && env.scope.kind == .function && env.kindOf n == some .cell) = true
      · left
        show List.lookup x ((if (k0 == NameKind.free && env.scope.kind == .function && env.kindOf n == some .cell) = true then (n, NameKind.cell) else (n, k0)) :: _) = _
        rw [if_pos hc, e2]
      · show List.lookup x ((if (k0 == NameKind.free && env.scope.kind == .function && env.kindOf n == some .cell) = true then (n, NameKind.cell) else (n, k0)) :: _) = _ ∨ List.lookup x ((if (k0 == NameKind.free && env.scope.kind == .function && env.kindOf n == some .cell) = true then (n, NameKind.cell) else (n, k0)) :: _) = _
        rw [if_neg hc, e2]
        rcases hk with rfl | rfl
        · exact .inl rfl
        · exact .inr rfl
    · have hx : (x == n) = false := by simpa using hx
      rw [hx] at h
      have ih := lookup_re (env := env) h hk
      have e2 : ∀ k1 : NameKind, List.lookup x ((n, k1) :: (r.map fun (n, k) => if (k == NameKind.free && env.scope.kind == .function && env.kindOf n == some .cell) then (n, NameKind.cell) else (n, k))) = List.lookup x (r.map fun (n, k) => if (k == NameKind.free && env.scope.kind == .function && env.kindOf n == some .cell) then (n, NameKind.cell) else (n, k)) := fun k1 => by rw [List.lookup_cons, hx]
      by_cases hc : (k == NameKind.free && env.scope.kind == .function && env.kindOf n == some .cell) = true
      · show List.lookup x ((if (k == NameKind.free && env.scope.kind == .function && env.kindOf n == some .cell) = true then (n, NameKind.cell) else (n, k)) :: _) = _ ∨ List.lookup x ((if (k == NameKind.free && env.scope.kind == .function && env.kindOf n == some .cell) = true then (n, NameKind.cell) else (n, k)) :: _) = _
        rw [if_pos hc, e2]
        exact ih
      · show List.lookup x ((if (k == NameKind.free && env.scope.kind == .function && env.kindOf n == some .cell) = true then (n, NameKind.cell) else (n, k)) :: _) = _ ∨ List.lookup x ((if (k == NameKind.free && env.scope.kind == .function && env.kindOf n == some .cell) = true then (n, NameKind.cell) else (n, k)) :: _) = _
        rw [if_neg hc, e2]
        exact ih
theorem blkOk_re {N : List Str} {sc scope : Scope} {own : List (Str × Nat)} {env : Env} (h : BlkOk N sc scope own) : BlkOk N (relabel sc env) scope own :=
  ⟨h.kind, h.uniq, h.ix, fun y hy e => by
    rcases h.free y hy e with q | q
    · exact lookup_re q (.inl rfl)
    · exact lookup_re q (.inr rfl), h.own⟩
/-- below no other count -/
def topB (T : Ct) (c : Int) : Bool := T.all fun f => decide (f.2 ≤ c)
def topsZ (T : Ct) : List Str := nmsZ (topB T) T
theorem topB_mx {T : Ct} {c M : Int} (hc : c ∈ T.map (·.2)) (m1 : M ∈ T.map (·.2)) (m2 : ∀ y ∈ T.map (·.2), y ≤ M) : decide (V.int c = V.int M) = topB T c := by
  by_cases h : topB T c = true
  · rw [h]
    refine decide_eq_true (congrArg V.int ?_)
    obtain ⟨f, hf, rfl⟩ := List.mem_map.mp m1
    have := of_decide_eq_true (List.all_eq_true.mp h f hf)
    have := m2 c hc
    omega
  · rw [show topB T c = false by simpa using h]
    refine decide_eq_false fun e => h (List.all_eq_true.mpr fun f hf => decide_eq_true ?_)
    injection e with e
    rw [e]
    exact m2 _ (List.mem_map.mpr ⟨f, hf, rfl⟩)
section
variable {P : Program} {w : World} {K : PySem.W.Frag} {mg : Str → Option Value} {base : Heap}
def spTops (K : PySem.W.Frag) : Sp := fun vs H Q _ => ∃ (t : Addr) (T : Ct), vs = [.ref t] ∧ TupC H t T ∧ T.length ≤ 1000 ∧ ∀ H' p, Same H H' → H p = none → H' p = some (.lst ((topsZ T).map V.str)) → Q (.ref p) H'
theorem ok_tops (T : Blt mg) (d : Dntops K mg) : FnOk P w K mg base CX0 1 d.f d.fd ["_law_truth_here"] (spTops K) := by
  refine d.F.ok sctops (fun vs H Q E h => ?_) (fun cdv A outer s H vs Q E hr h => ?_)
  · obtain ⟨t, T, rfl, _⟩ := h
    rfl
  · obtain ⟨t, Y, rfl, ht, hl, k⟩ := h
    refine ⟨_, (pss_one (ps_ret (pe_lc (own := [("_law_name", 1), ("_law_count", 2)]) (g := gTup K 2 (gCons (gName 1) (gCons (gName 2) gNil))) rfl sctops.nd (pi_tup (pv 0)) (blkOk_by (N := Ntops) (sc := defScope stops) (by decide +kernel)) (fun _ _ _ _ _ => pg_tup (by rfl) (pgs_cons (pg_name (i := 1) sctops.nd rfl (Or.inl rfl)) (pgs_cons (pg_name (i := 2) sctops.nd rfl (Or.inl rfl)) pgs_nil))) (fun _ _ _ _ _ => pts_one (pt_cmpR op_eq (pv 2) (pe_callB (r := rMax K) (cr_max rfl) (by rfl) T.n_max (show bootBuiltins (Str.ofString "max") = some (Value.builtin "max") by decide +kernel) (pa_cons (pe_lc (own := [("_law_one", 3), ("_law_other", 4)]) (g := gTup K 2 (gCons (gName 3) (gCons (gName 4) gNil))) (tt := tYes) rfl sctops.nd (pi_tupK (K := K) rfl (pv 0)) (blkOk_re (blkOk_by (N := Ntops) (sc := cstops) (by decide +kernel))) (fun _ _ _ _ _ => pg_tup (by rfl) (pgs_cons (pg_name (i := 3) sctops.nd rfl (Or.inl rfl)) (pgs_cons (pg_name (i := 4) sctops.nd rfl (Or.inl rfl)) pgs_nil))) (fun _ _ _ _ _ => pts_nil) (fun _ _ _ _ _ => (pv 4))) pa_nil)) (nomark _))) (fun _ _ _ _ _ => (pv 1))))), ?_⟩
    obtain ⟨us, hpt, hpr⟩ := ht.ob
    have lus := Paired.length hpr
    refine ⟨.ref t, rfl, t, rfl, ⟨_, hpt.seq⟩, fun D nD => ?_⟩
    refine lc_tup (xs := us.map V.ref) (fun i H3 => Same H H3 ∧ H3 D = some (.lst ((nmsZ (topB Y) (Y.take i)).map V.str))) ⟨same_upd nD, upd_same⟩ (fun i H3 _ h => (hpt.same h.1).seq) (fun i v H3 hv h => ?_) (fun H3 h => ?_)
    · obtain ⟨u, hu, rfl⟩ := map_at hv
      obtain ⟨e, he, hat⟩ := paired_at hpr hu
      obtain ⟨s3, hD3⟩ := h
      have hi := (List.getElem?_eq_some_iff.mp he).1
      have tk : Y.take (i + 1) = Y.take i ++ [e] := by rw [List.take_add_one, he]; rfl
      have nl := nmsZ_len (topB Y) (Y.take i)
      rw [List.length_take] at nl
      refine ⟨u, _, rfl, .inl (.inl (s3 _ _ hat)), rfl, _, _, rfl, _, _, rfl, rfl, rfl, .int e.2, rfl, .ref t, rfl, t, rfl, ⟨_, (hpt.same s3).seq⟩, fun G nG => ?_⟩
      refine lc_tup (xs := us.map V.ref) (fun j H4 => Same H3 H4 ∧ H4 G = some (.lst (((Y.take j).map (·.2)).map V.int))) ⟨same_upd nG, upd_same⟩ (fun j H4 _ h => ((hpt.same s3).same h.1).seq) (fun j v H4 hv h => ?_) (fun H4 h => ?_)
      · obtain ⟨u2, hu2, rfl⟩ := map_at hv
        obtain ⟨f, hf, hatf⟩ := paired_at hpr hu2
        obtain ⟨s4, hG4⟩ := h
        have hj := (List.getElem?_eq_some_iff.mp hf).1
        refine ⟨u2, _, rfl, .inl (.inl (s4 _ _ (s3 _ _ hatf))), rfl, _, _, rfl, _, _, rfl, rfl, rfl, .int f.2, rfl, _, hG4, by rw [List.length_map, List.length_map, List.length_take, sizeLine_eq]; omega, Same.put s4 nG, ?_⟩
        rw [upd_same, List.take_add_one, hf, List.map_append, List.map_append]
        rfl
      obtain ⟨s4, hG4⟩ := h
      rw [List.length_map, lus, List.take_length] at hG4
      have hc : e.2 ∈ Y.map (·.2) := List.mem_map.mpr ⟨e, List.mem_of_getElem? he, rfl⟩
      refine ⟨G, _, rfl, sql hG4, List.length_pos_of_mem hc, fun M m1 m2 => ⟨rfl, topB Y e.2, congrArg V.bl (topB_mx hc m1 m2), ?_⟩⟩
      have s34 := s3.trans s4
      have hD4 := s4 _ _ hD3
      rw [tk, nmsZ_snoc]
      refine ite2 (fun h0 => ?_) fun h0 => ?_
      · rw [if_pos h0]
        exact ⟨.str e.1, rfl, _, hD4, by rw [List.length_map, sizeLine_eq]; omega, Same.put s34 nD, by rw [upd_same, List.map_append]; rfl⟩
      · rw [if_neg h0]
        exact ⟨s34, hD4⟩
    · obtain ⟨s3, hD3⟩ := h
      rw [List.length_map, lus, List.take_length] at hD3
      exact k H3 D s3 nD hD3
end
end Kb

namespace Kb
open PySem PySem.Spec PyProof.Rows L2 SrtZ SrtO FlX LamX RZ
abbrev sabove : Stmt := topS 39
abbrev Nabove : List Str := ["_law_sketch_here", "_law_most", "_law_every", "_law_kept", "_law_surely", "_law_perhaps", "_law_new", "_law_name", "_law_count", "_law_truth_here"]
theorem scabove : FnScope ["_law_sketch_here", "_law_most", "_law_every", "_law_kept", "_law_surely", "_law_perhaps", "_law_new", "_law_name", "_law_count", "_law_truth_here"] ["_law_sketch_here", "_law_most", "_law_every"] (defScope sabove) := ⟨rfl, rfl, rfl, by decide +kernel, rfl, by decide +kernel, by decide +kernel⟩
abbrev Dnabove (K : PySem.W.Frag) (mg : Str → Option Value) := Dn K mg "_law_above" sabove ["_law_sketch_here", "_law_most", "_law_every"]
def rDictK (K : PySem.W.Frag) : List V → Hp → VK → Prop := fun xs H Q => ∃ (a : Addr) (ps : List Addr) (kvs : List (Key × V)), xs = [.ref a] ∧ Ptp H a (ps.map V.ref) ∧ Paired (fun p kv => SqT K H p [kV kv.1, kv.2]) ps kvs ∧
    ∀ p, H p = none → Q (.ref p) (upd H p (.dK (mergeK [] kvs)))
theorem call_dictK {X : Cx} {K : PySem.W.Frag} (hK : X.K = K) (hc : X.calm = true) : CallR X (.type "dict") (rDictK K) := by
  subst hK
  exact call_dictPT hc
abbrev csA : Scope := { kind := ScopeKind.function, names := [(Str.ofString ".0", NameKind.local), (Str.ofString "_law_name", NameKind.cell), (Str.ofString "all", NameKind.globalImplicit), (Str.ofString "_law_every", NameKind.free), (Str.ofString "_law_most", NameKind.free)], isGenerator := false, isCoroutine := false }
abbrev csB : Scope := { kind := ScopeKind.function, names := [(Str.ofString ".0", NameKind.local), (Str.ofString "_law_name", NameKind.cell), (Str.ofString "any", NameKind.globalImplicit), (Str.ofString "_law_every", NameKind.free), (Str.ofString "_law_most", NameKind.free)], isGenerator := false, isCoroutine := false }
abbrev csC : Scope := { kind := ScopeKind.function, names := [(Str.ofString ".0", NameKind.local), (Str.ofString "_law_truth_here", NameKind.local), (Str.ofString "any", NameKind.globalImplicit), (Str.ofString "_law_kept", NameKind.free), (Str.ofString "_law_most", NameKind.free)], isGenerator := false, isCoroutine := false }
theorem inV_strs (z : Str) : ∀ l : List Str, inV (.str z) (l.map V.str) = decide (z ∈ l)
  | [] => rfl
  | y :: l => by
    show (eqV (.str y) (.str z) || inV (.str z) (l.map V.str)) = _
    rw [inV_strs z l]
    show (decide (y = z) || _) = _
    by_cases h : y = z
    · subst h
      rw [decide_eq_true rfl, decide_eq_true List.mem_cons_self]
      rfl
    · rw [decide_eq_false h, Bool.false_or]
      by_cases h2 : z ∈ l
      · rw [decide_eq_true h2, decide_eq_true (List.mem_cons_of_mem _ h2)]
      · rw [decide_eq_false h2, decide_eq_false fun m => (List.mem_cons.mp m).elim (fun e => h e.symm) h2]
theorem getZ_gd {T : Ct} {z : Str} (h : z ∈ T.map (·.1)) : getZ T z = some (gd T z) := by
  cases hz : getZ T z with
  | none => exact absurd h (getZ_none.mp hz)
  | some v =>
    unfold gd
    rw [hz]
    rfl
theorem filt_snoc {α : Type} (f : α → Bool) (l : List α) (e : α) : (l ++ [e]).filter f = if f e = true then l.filter f ++ [e] else l.filter f := by
  rw [List.filter_append]
  by_cases h : f e = true
  · rw [if_pos h, List.filter_cons_of_pos h]
    rfl
  · rw [if_neg h, List.filter_cons_of_neg h, List.filter_nil, List.append_nil]
theorem strs_flat : ∀ l : List Str, (l.map V.str).all flatV = true
  | [] => rfl
  | _ :: l => strs_flat l
section
variable {P : Program} {w : World} {K : PySem.W.Frag} {mg : Str → Option Value} {base : Heap}
/-- what all truths say above a number -/
def allA (Ts : List Ct) (n : Int) (z : Str) : Bool := (Ts.map fun T => decide (n < gd T z)).all id
def anyA (Ts : List Ct) (n : Int) (z : Str) : Bool := (Ts.map fun T => decide (n < gd T z)).any id
def newA (keys : List Str) (Ts : List Ct) (n : Int) : Bool := (Ts.map fun T => ((T.filter fun e => !decide (e.1 ∈ keys)).map fun e => decide (n < e.2)).any id).any id
def spAbove (K : PySem.W.Frag) : Sp := fun vs H Q _ => ∃ (s : Addr) (r m off : Int) (kvs : Ct) (n : Int) (ev : Addr) (ks : List Addr) (Ts : List Ct), vs = [.ref s, .int n, .ref ev] ∧ SkC K H s r m off kvs ∧ kvs.length ≤ 64 ∧ H ev = some (.lst (ks.map V.ref)) ∧ ks.length ≤ 20000 ∧ Paired (TupC H) ks Ts ∧
  (∀ T ∈ Ts, NdZ T ∧ T.length ≤ 1000 ∧ ∀ e ∈ kvs, e.1 ∈ T.map (·.1)) ∧
  ∀ H' p a b c, Same H H' → H' p = some (.tup [.ref a, .ref b]) → H' b = some (.tup [.ref c, .bl (newA (kvs.map (·.1)) Ts n)]) → Ptp H' a (((kvs.map (·.1)).filter (allA Ts n)).map V.str) → Ptp H' c (((kvs.map (·.1)).filter (anyA Ts n)).map V.str) → Q (.ref p) H'
theorem ok_above (T : Blt mg) (n_any : mg "any" = none) (d : Dnabove K mg) : FnOk P w K mg base CX0 1 d.f d.fd ["_law_sketch_here", "_law_most", "_law_every"] (spAbove K) := by
  refine d.F.ok scabove (fun vs H Q E h => ?_) (fun cdv A outer s H vs Q E hr h => ?_)
  · obtain ⟨s, r, m, off, kvs, n, ev, ks, Ts, rfl, _⟩ := h
    rfl
  · obtain ⟨sk, r, m, off, kvs, n, ev, ks, Ts, rfl, hs, hkl, hev, hksl, hks, hT, k⟩ := h
    have hu := hu_of hr
    refine ⟨_, (pss_cons (ps_asg (pe_lc (own := [("_law_name", 7), ("_law_count", 8)]) (g := gTup K 2 (gCons (gName 7) (gCons (gName 8) gNil))) (tt := tYes) rfl scabove.nd (pi_tup (pe_ix ix_tup (pv 0) pe_int (fun _ _ => rfl))) (blkOk_by (N := Nabove) (sc := defScope sabove) (by decide +kernel)) (fun _ _ _ _ _ => pg_tup (by rfl) (pgs_cons (pg_name (i := 7) scabove.nd rfl (Or.inl rfl)) (pgs_cons (pg_name (i := 8) scabove.nd rfl (Or.inl rfl)) pgs_nil))) (fun _ _ _ _ _ => pts_nil) (fun _ _ _ _ _ => (pv 7))) (pg_name (i := 3) scabove.nd rfl (Or.inr rfl)))
    (pss_cons (ps_set (i := 4) scabove.nd rfl (Or.inl rfl) (pe_callTy call_tupleF (by rfl) T.n_tuple (by decide +kernel) (pa_cons (pe_lc (own := [("_law_name", 7)]) (g := gName 7) rfl scabove.nd (pi_list (pv 3)) (blkOk_by (N := Nabove) (sc := defScope sabove) (by decide +kernel)) (fun _ _ _ _ _ => pg_name (i := 7) scabove.nd rfl (Or.inr rfl)) (fun _ _ _ _ _ => pts_one (pt_val (pe_callB (r := rAll K) (cr_all rfl) (by rfl) T.n_all (show bootBuiltins (Str.ofString "all") = some (Value.builtin "all") by decide +kernel) (pa_cons (pe_lc (own := [("_law_truth_here", 9)]) (g := gName 9) (tt := tYes) rfl scabove.nd (pi_listK (K := K) rfl (pv 2)) (blkOk_re (blkOk_by (N := Nabove) (sc := csA) (by decide +kernel))) (fun _ _ _ _ _ => pg_name (i := 9) scabove.nd rfl (Or.inl rfl)) (fun _ _ _ _ _ => pts_nil) (fun _ _ _ _ _ => (pe_cmpR op_gt (pe_dget hu (pe_callTy (r := rDictK K) (T := "dict") (call_dictK rfl rfl) (by rfl) T.n_dict (by decide +kernel) (pa_cons (pv 9) pa_nil)) (pv 7) (fun _ _ => rfl)) (pv 1) (nomark _)))) pa_nil)))) (fun _ _ _ _ _ => (pv 7))) pa_nil)))
    (pss_cons (ps_set (i := 5) scabove.nd rfl (Or.inl rfl) (pe_callTy call_tupleF (by rfl) T.n_tuple (by decide +kernel) (pa_cons (pe_lc (own := [("_law_name", 7)]) (g := gName 7) rfl scabove.nd (pi_list (pv 3)) (blkOk_by (N := Nabove) (sc := defScope sabove) (by decide +kernel)) (fun _ _ _ _ _ => pg_name (i := 7) scabove.nd rfl (Or.inr rfl)) (fun _ _ _ _ _ => pts_one (pt_val (pe_callB (r := rAny K) (cr_any rfl) (by rfl) n_any (show bootBuiltins (Str.ofString "any") = some (Value.builtin "any") by decide +kernel) (pa_cons (pe_lc (own := [("_law_truth_here", 9)]) (g := gName 9) (tt := tYes) rfl scabove.nd (pi_listK (K := K) rfl (pv 2)) (blkOk_re (blkOk_by (N := Nabove) (sc := csB) (by decide +kernel))) (fun _ _ _ _ _ => pg_name (i := 9) scabove.nd rfl (Or.inl rfl)) (fun _ _ _ _ _ => pts_nil) (fun _ _ _ _ _ => (pe_cmpR op_gt (pe_dget hu (pe_callTy (r := rDictK K) (T := "dict") (call_dictK rfl rfl) (by rfl) T.n_dict (by decide +kernel) (pa_cons (pv 9) pa_nil)) (pv 7) (fun _ _ => rfl)) (pv 1) (nomark _)))) pa_nil)))) (fun _ _ _ _ _ => (pv 7))) pa_nil)))
    (pss_cons (ps_set (i := 6) scabove.nd rfl (Or.inl rfl) (pe_callB (cr_any rfl) (by rfl) n_any (by decide +kernel) (pa_cons (pe_lc (own := [("_law_truth_here", 9)]) (g := gName 9) (tt := tYes) rfl scabove.nd (pi_list (pv 2)) (blkOk_by (N := Nabove) (sc := defScope sabove) (by decide +kernel)) (fun _ _ _ _ _ => pg_name (i := 9) scabove.nd rfl (Or.inl rfl)) (fun _ _ _ _ _ => pts_nil) (fun _ _ _ _ _ => (pe_callB (r := rAny K) (cr_any rfl) (by rfl) n_any (show bootBuiltins (Str.ofString "any") = some (Value.builtin "any") by decide +kernel) (pa_cons (pe_lc (own := [("_law_name", 7), ("_law_count", 8)]) (g := gTup K 2 (gCons (gName 7) (gCons (gName 8) gNil))) rfl scabove.nd (pi_tupK (K := K) rfl (pv 9)) (blkOk_re (blkOk_by (N := Nabove) (sc := csC) (by decide +kernel))) (fun _ _ _ _ _ => pg_tup (by rfl) (pgs_cons (pg_name (i := 7) scabove.nd rfl (Or.inl rfl)) (pgs_cons (pg_name (i := 8) scabove.nd rfl (Or.inl rfl)) pgs_nil))) (fun _ _ _ _ _ => pts_one (pt_cmpR (op_notInK (K := K) rfl) (pv 7) (pv 3) rfl)) (fun _ _ _ _ _ => (pe_cmpR op_gt (pv 8) (pv 1) (nomark _)))) pa_nil)))) pa_nil)))
    (pss_one (ps_ret (pe_tup (pa_cons (pv 4) (pa_cons (pe_tup (pa_cons (pv 5) (pa_cons (pv 6) pa_nil))) pa_nil))))))))), ?_⟩
    obtain ⟨kk, ts, h1, h2, h3⟩ := hs.ob
    have lts := Paired.length h3
    have lks := Paired.length hks
    -- the kept names
    refine ⟨.ref sk, rfl, sk, _, _, _, rfl, rfl, h1, atI_nat (j := 3) rfl, kk, rfl, ⟨_, h2.seq⟩, fun N nN => ?_⟩
    refine lc_tup (xs := ts.map V.ref) (fun i H3 => Same H H3 ∧ H3 N = some (.lst (((kvs.take i).map (·.1)).map V.str))) ⟨same_upd nN, upd_same⟩ (fun i H3 _ h => (h2.same h.1).seq) (fun i v H3 hv h => ?_) (fun H3 h => ?_)
    · obtain ⟨t, ht, rfl⟩ := map_at hv
      obtain ⟨e, he, hat⟩ := paired_at h3 ht
      obtain ⟨s3, hN3⟩ := h
      have hi := (List.getElem?_eq_some_iff.mp he).1
      refine ⟨t, _, rfl, seqT hat s3, rfl, _, _, rfl, _, _, rfl, rfl, rfl, .str e.1, rfl, _, hN3, by rw [List.length_map, List.length_map, List.length_take, sizeLine_eq]; omega, Same.put s3 nN, ?_⟩
      rw [upd_same, List.take_add_one, he, List.map_append, List.map_append]
      rfl
    obtain ⟨s3, hN3⟩ := h
    rw [List.length_map, lts, List.take_length] at hN3
    have kin : ∀ z ∈ kvs.map (·.1), ∀ T ∈ Ts, NdZ T ∧ T.length ≤ 1000 ∧ z ∈ T.map (·.1) := fun z hz T hT' => by
      obtain ⟨e, he, rfl⟩ := List.mem_map.mp hz
      exact ⟨(hT T hT').1, (hT T hT').2.1, (hT T hT').2.2 e he⟩
    have kl : (kvs.map (·.1)).length ≤ 64 := by rw [List.length_map]; exact hkl
    generalize kvs.map (·.1) = keys at hN3 kin kl k
    refine ⟨.ref N, rfl, N, rfl, ⟨_, sql hN3⟩, fun D nD => ?_⟩
    refine lc_list (xs := keys.map V.str) (fun i H4 => Same H3 H4 ∧ H4 D = some (.lst (((keys.take i).filter (allA Ts n)).map V.str))) ⟨same_upd nD, upd_same⟩ (fun i H4 _ h => sql (h.1 _ _ hN3)) (fun i v H4 hv h => ?_) (fun H4 h => ?_)
    · obtain ⟨z, hz, rfl⟩ := map_at hv
      obtain ⟨s4, hD4⟩ := h
      have hi := (List.getElem?_eq_some_iff.mp hz).1
      have tk : keys.take (i + 1) = keys.take i ++ [z] := by rw [List.take_add_one, hz]; rfl
      have zin := kin z (List.mem_of_getElem? hz)
      have s04 := s3.trans s4
      have fl : ((keys.take i).filter (allA Ts n)).length ≤ i := Nat.le_trans (List.length_filter_le _ _) (by rw [List.length_take]; omega)
      refine ⟨rfl, .ref ev, rfl, ev, rfl, ⟨_, sql (s04 _ _ hev)⟩, fun G nG => ?_⟩
      refine lc_list (K := K) (a := ev) (xs := ks.map V.ref) (fun j H5 => Same H4 H5 ∧ H5 G = some (.lst ((((Ts.take j).map fun T => decide (n < gd T z))).map V.bl))) ⟨same_upd nG, upd_same⟩ (fun j H5 _ h => sql (h.1 _ _ (s04 _ _ hev))) (fun j v H5 hv h => ?_) (fun H5 h => ?_)
      · obtain ⟨kT, hkT, rfl⟩ := map_at hv
        obtain ⟨Y, hY, hat⟩ := paired_at hks hkT
        obtain ⟨s5, hG5⟩ := h
        have hj := (List.getElem?_eq_some_iff.mp hY).1
        obtain ⟨ndY, lY, zY⟩ := zin Y (List.mem_of_getElem? hY)
        obtain ⟨us, hpt, hpr⟩ := (hat.same (s04.trans s5)).ob
        refine ⟨rfl, .ref kT, rfl, kT, us, Y.map entZ, rfl, hpt, ents_paired (paired_imp (fun t e h => .inl (.inl h)) hpr), fun dd nd => ?_⟩
        rw [show mergeK [] (Y.map entZ) = Y.map entZ from mergeZ Y [] (by rw [List.nil_append]; exact ndY)]
        have s6 := same_upd (o := .dK (Y.map entZ)) nd
        have hd6 : (upd H5 dd (.dK (Y.map entZ))) dd = some (.dK (Y.map entZ)) := upd_same
        generalize upd H5 dd (.dK (Y.map entZ)) = H6 at s6 hd6 ⊢
        refine ⟨.str z, rfl, dd, .int (gd Y z), rfl, dget_of hd6 (getZ_gd zY), .int n, rfl, _, _, rfl, rfl, _, s6 _ _ hG5, by rw [List.length_map, List.length_map, List.length_take, sizeLine_eq]; omega, Same.put (s5.trans s6) nG, ?_⟩
        rw [upd_same, List.take_add_one, hY, List.map_append, List.map_append]
        rfl
      obtain ⟨s5, hG5⟩ := h
      rw [List.length_map, lks, List.take_length] at hG5
      refine ⟨G, _, rfl, sql hG5, _, rfl, ?_⟩
      have s45 := s4.trans s5
      have hD5 := s5 _ _ hD4
      rw [tk, filt_snoc]
      refine ite2 (fun h0 => ?_) fun h0 => ?_
      · rw [if_pos (show allA Ts n z = true from h0)]
        exact ⟨.str z, rfl, _, hD5, by rw [List.length_map, sizeLine_eq]; omega, Same.put s45 nD, by rw [upd_same, List.map_append]; rfl⟩
      · rw [if_neg (show ¬ allA Ts n z = true from h0)]
        exact ⟨s45, hD5⟩
    obtain ⟨s4, hD4⟩ := h
    rw [List.length_map, List.take_length] at hD4
    refine ⟨D, _, rfl, sql hD4, fun l1 o1 nl1 ho1 => ?_⟩
    have s5 := same_upd (o := .frz o1 (.tup ((keys.filter (allA Ts n)).map V.str))) nl1
    have hl1 : Ptp (upd H4 l1 (.frz o1 (.tup ((keys.filter (allA Ts n)).map V.str)))) l1 ((keys.filter (allA Ts n)).map V.str) := ⟨o1, upd_same, ho1⟩
    have sX := (s3.trans s4).trans s5
    have hNX := s5 _ _ (s4 _ _ hN3)
    generalize upd H4 l1 (.frz o1 (.tup ((keys.filter (allA Ts n)).map V.str))) = HX at hl1 sX hNX ⊢
    clear s4 s5 hD4 hN3
    refine ⟨.ref N, rfl, N, rfl, ⟨_, sql hNX⟩, fun D2 nD2 => ?_⟩
    refine lc_list (xs := keys.map V.str) (fun i H4 => Same HX H4 ∧ H4 D2 = some (.lst (((keys.take i).filter (anyA Ts n)).map V.str))) ⟨same_upd nD2, upd_same⟩ (fun i H4 _ h => sql (h.1 _ _ hNX)) (fun i v H4 hv h => ?_) (fun H4 h => ?_)
    · obtain ⟨z, hz, rfl⟩ := map_at hv
      obtain ⟨s4, hD4⟩ := h
      have hi := (List.getElem?_eq_some_iff.mp hz).1
      have tk : keys.take (i + 1) = keys.take i ++ [z] := by rw [List.take_add_one, hz]; rfl
      have zin := kin z (List.mem_of_getElem? hz)
      have s04 := sX.trans s4
      have fl : ((keys.take i).filter (anyA Ts n)).length ≤ i := Nat.le_trans (List.length_filter_le _ _) (by rw [List.length_take]; omega)
      refine ⟨rfl, .ref ev, rfl, ev, rfl, ⟨_, sql (s04 _ _ hev)⟩, fun G nG => ?_⟩
      refine lc_list (K := K) (a := ev) (xs := ks.map V.ref) (fun j H5 => Same H4 H5 ∧ H5 G = some (.lst ((((Ts.take j).map fun T => decide (n < gd T z))).map V.bl))) ⟨same_upd nG, upd_same⟩ (fun j H5 _ h => sql (h.1 _ _ (s04 _ _ hev))) (fun j v H5 hv h => ?_) (fun H5 h => ?_)
      · obtain ⟨kT, hkT, rfl⟩ := map_at hv
        obtain ⟨Y, hY, hat⟩ := paired_at hks hkT
        obtain ⟨s5, hG5⟩ := h
        have hj := (List.getElem?_eq_some_iff.mp hY).1
        obtain ⟨ndY, lY, zY⟩ := zin Y (List.mem_of_getElem? hY)
        obtain ⟨us, hpt, hpr⟩ := (hat.same (s04.trans s5)).ob
        refine ⟨rfl, .ref kT, rfl, kT, us, Y.map entZ, rfl, hpt, ents_paired (paired_imp (fun t e h => .inl (.inl h)) hpr), fun dd nd => ?_⟩
        rw [show mergeK [] (Y.map entZ) = Y.map entZ from mergeZ Y [] (by rw [List.nil_append]; exact ndY)]
        have s6 := same_upd (o := .dK (Y.map entZ)) nd
        have hd6 : (upd H5 dd (.dK (Y.map entZ))) dd = some (.dK (Y.map entZ)) := upd_same
        generalize upd H5 dd (.dK (Y.map entZ)) = H6 at s6 hd6 ⊢
        refine ⟨.str z, rfl, dd, .int (gd Y z), rfl, dget_of hd6 (getZ_gd zY), .int n, rfl, _, _, rfl, rfl, _, s6 _ _ hG5, by rw [List.length_map, List.length_map, List.length_take, sizeLine_eq]; omega, Same.put (s5.trans s6) nG, ?_⟩
        rw [upd_same, List.take_add_one, hY, List.map_append, List.map_append]
        rfl
      obtain ⟨s5, hG5⟩ := h
      rw [List.length_map, lks, List.take_length] at hG5
      refine ⟨G, _, rfl, sql hG5, _, rfl, ?_⟩
      have s45 := s4.trans s5
      have hD5 := s5 _ _ hD4
      rw [tk, filt_snoc]
      refine ite2 (fun h0 => ?_) fun h0 => ?_
      · rw [if_pos (show anyA Ts n z = true from h0)]
        exact ⟨.str z, rfl, _, hD5, by rw [List.length_map, sizeLine_eq]; omega, Same.put s45 nD2, by rw [upd_same, List.map_append]; rfl⟩
      · rw [if_neg (show ¬ anyA Ts n z = true from h0)]
        exact ⟨s45, hD5⟩
    obtain ⟨s4, hD4⟩ := h
    rw [List.length_map, List.take_length] at hD4
    refine ⟨D2, _, rfl, sql hD4, fun l2 o2 nl2 ho2 => ?_⟩
    have s5 := same_upd (o := .frz o2 (.tup ((keys.filter (anyA Ts n)).map V.str))) nl2
    have hl2 : Ptp (upd H4 l2 (.frz o2 (.tup ((keys.filter (anyA Ts n)).map V.str)))) l2 ((keys.filter (anyA Ts n)).map V.str) := ⟨o2, upd_same, ho2⟩
    have sY := (sX.trans s4).trans s5
    have hl1Y := (hl1.same s4).same s5
    have hNY := s5 _ _ (s4 _ _ hNX)
    generalize upd H4 l2 (.frz o2 (.tup ((keys.filter (anyA Ts n)).map V.str))) = HY at hl2 sY hl1Y hNY ⊢
    clear s4 s5 hD4 hNX hl1 sX
    -- new names
    refine ⟨.ref ev, rfl, ev, rfl, ⟨_, sql (sY _ _ hev)⟩, fun D3 nD3 => ?_⟩
    refine lc_list (K := K) (a := ev) (xs := ks.map V.ref) (fun j H5 => Same HY H5 ∧ H5 D3 = some (.lst (((Ts.take j).map fun T => ((T.filter fun e => !decide (e.1 ∈ keys)).map fun e => decide (n < e.2)).any id).map V.bl))) ⟨same_upd nD3, upd_same⟩ (fun j H5 _ h => sql (h.1 _ _ (sY _ _ hev))) (fun j v H5 hv h => ?_) (fun H5 h => ?_)
    · obtain ⟨kT, hkT, rfl⟩ := map_at hv
      obtain ⟨Y, hY, hat⟩ := paired_at hks hkT
      obtain ⟨s5, hD5⟩ := h
      have hj := (List.getElem?_eq_some_iff.mp hY).1
      obtain ⟨us, hpt, hpr⟩ := (hat.same (sY.trans s5)).ob
      have lus := Paired.length hpr
      obtain ⟨ndY, lY, _⟩ := hT Y (List.mem_of_getElem? hY)
      refine ⟨rfl, .ref kT, rfl, kT, rfl, ⟨_, hpt.seq⟩, fun G nG => ?_⟩
      refine lc_tup (K := K) (a := kT) (xs := us.map V.ref) (fun i H6 => Same H5 H6 ∧ H6 G = some (.lst ((((Y.take i).filter fun e => !decide (e.1 ∈ keys)).map fun e => decide (n < e.2)).map V.bl))) ⟨same_upd nG, upd_same⟩ (fun i H6 _ h => (hpt.same h.1).seq) (fun i v H6 hv h => ?_) (fun H6 h => ?_)
      · obtain ⟨u, hu, rfl⟩ := map_at hv
        obtain ⟨e, he, hate⟩ := paired_at hpr hu
        obtain ⟨s6, hG6⟩ := h
        have hi := (List.getElem?_eq_some_iff.mp he).1
        have tk : Y.take (i + 1) = Y.take i ++ [e] := by rw [List.take_add_one, he]; rfl
        have fl : ((Y.take i).filter fun e => !decide (e.1 ∈ keys)).length ≤ i := Nat.le_trans (List.length_filter_le _ _) (by rw [List.length_take]; omega)
        refine ⟨u, _, rfl, .inl (.inl (s6 _ _ hate)), rfl, _, _, rfl, _, _, rfl, rfl, rfl, .str e.1, rfl, .ref N, rfl, N, _, rfl, .inl (sql (s6 _ _ (s5 _ _ hNY))), rfl, strs_flat keys, !decide (e.1 ∈ keys), congrArg (fun b => V.bl (!b)) (inV_strs e.1 keys), ?_⟩
        rw [tk, filt_snoc]
        refine ite2 (fun h0 => ?_) fun h0 => ?_
        · rw [if_pos h0]
          exact ⟨.int e.2, rfl, .int n, rfl, _, _, rfl, rfl, _, hG6, by rw [List.length_map, List.length_map, sizeLine_eq]; omega, Same.put s6 nG, by rw [upd_same, List.map_append, List.map_append]; rfl⟩
        · rw [if_neg h0]
          exact ⟨s6, hG6⟩
      obtain ⟨s6, hG6⟩ := h
      rw [List.length_map, lus, List.take_length] at hG6
      refine ⟨G, _, rfl, sql hG6, _, s6 _ _ hD5, by rw [List.length_map, List.length_map, List.length_take, sizeLine_eq]; omega, Same.put (s5.trans s6) nD3, ?_⟩
      rw [upd_same, List.take_add_one, hY, List.map_append, List.map_append]
      rfl
    obtain ⟨s5, hD5⟩ := h
    rw [List.length_map, lks, List.take_length] at hD5
    refine ⟨D3, _, rfl, sql hD5, ?_⟩
    refine ⟨.ref l1, rfl, .ref l2, rfl, .bl (newA keys Ts n), rfl, (by show 2 ≤ sizeLine; decide), fun b nb => ⟨(by show 2 ≤ sizeLine; decide), fun p np => ?_⟩⟩
    have s6 := s5.trans (same_upd (o := .tup [.ref l2, .bl (newA keys Ts n)]) nb)
    have s7 := s6.trans (same_upd (o := .tup [.ref l1, .ref b]) np)
    exact k _ p l1 b l2 (sY.trans s7) upd_same (same_upd np _ _ upd_same) (hl1Y.same s7) (hl2.same s7)
end
end Kb

namespace Kb
open PySem PySem.Spec PyProof.Rows L2 SrtZ SrtO FlX LamX RZ
abbrev sfirst : Stmt := topS 40
abbrev Nfirst : List Str := ["_law_sketch_here", "_law_every", "_law_kept", "_law_tops_here", "_law_alone", "_law_perhaps", "_law_new", "_law_name", "_law_count", "_law_truth_here", "_law_top"]
theorem scfirst : FnScope ["_law_sketch_here", "_law_every", "_law_kept", "_law_tops_here", "_law_alone", "_law_perhaps", "_law_new", "_law_name", "_law_count", "_law_truth_here", "_law_top"] ["_law_sketch_here", "_law_every"] (defScope sfirst) := ⟨rfl, rfl, rfl, by decide +kernel, rfl, by decide +kernel, by decide +kernel⟩
abbrev Dnfirst (K : PySem.W.Frag) (mg : Str → Option Value) := Dn K mg "_law_first" sfirst ["_law_sketch_here", "_law_every"]
abbrev csD : Scope := { kind := ScopeKind.function, names := [(Str.ofString ".0", NameKind.local), (Str.ofString "_law_name", NameKind.cell), (Str.ofString "all", NameKind.globalImplicit), (Str.ofString "_law_tops_here", NameKind.free)], isGenerator := false, isCoroutine := false }
abbrev csE : Scope := { kind := ScopeKind.function, names := [(Str.ofString ".0", NameKind.local), (Str.ofString "_law_name", NameKind.cell), (Str.ofString "any", NameKind.globalImplicit), (Str.ofString "_law_tops_here", NameKind.free)], isGenerator := false, isCoroutine := false }
abbrev csF : Scope := { kind := ScopeKind.function, names := [(Str.ofString ".0", NameKind.local), (Str.ofString "_law_top", NameKind.local), (Str.ofString "any", NameKind.globalImplicit), (Str.ofString "_law_kept", NameKind.free)], isGenerator := false, isCoroutine := false }
theorem eqv_strs : ∀ a b : List Str, PyData.eqvAll (a.map PyData.str) (b.map PyData.str) = true ↔ a = b
  | [], [] => ⟨fun _ => rfl, fun _ => rfl⟩
  | [], y :: b => ⟨fun h => (nomatch h), fun h => (nomatch h)⟩
  | x :: a, [] => ⟨fun h => (nomatch h), fun h => (nomatch h)⟩
  | x :: a, y :: b => by
    show ((x == y) && PyData.eqvAll (a.map PyData.str) (b.map PyData.str)) = true ↔ _
    rw [Bool.and_eq_true, eqv_strs a b, beq_iff_eq]
    constructor
    · rintro ⟨rfl, rfl⟩
      rfl
    · intro h
      injection h with h1 h2
      exact ⟨h1, h2⟩
theorem eqv_lst (a b : List Str) : PyData.eqv (.list (a.map PyData.str)) (.list (b.map PyData.str)) = decide (a = b) := by
  show PyData.eqvAll (a.map PyData.str) (b.map PyData.str) = _
  by_cases h : a = b
  · rw [decide_eq_true h]
    exact (eqv_strs a b).mpr h
  · rw [decide_eq_false h]
    cases h2 : PyData.eqvAll (a.map PyData.str) (b.map PyData.str) with
    | false => rfl
    | true => exact absurd ((eqv_strs a b).mp h2) h
theorem lst_shaped {zs : List Str} (h : ∀ z ∈ zs, Nm z) : SeqAt.shaped (.list (zs.map PyData.str)) = true := by
  obtain ⟨l1, l2⟩ := lay_strs h
  show (PyData.canLayAll0 (zs.map PyData.str) && decide (PyData.depthAll (zs.map PyData.str) + 1 ≤ 64)) = true
  rw [l1, l2]
  rfl
theorem tops_nm {T : Ct} (h : ∀ e ∈ T, Nm e.1) : ∀ z ∈ topsZ T, Nm z := fun z hz => by
  obtain ⟨e, he, rfl⟩ := List.mem_map.mp hz
  exact h e (List.mem_filter.mp he).1
section
variable {P : Program} {w : World} {K : PySem.W.Frag} {mg : Str → Option Value} {base : Heap}
/-- what all truths say of the first -/
def aloneB (Ts : List Ct) (z : Str) : Bool := (Ts.map fun T => decide (topsZ T = [z])).all id
def mayB (Ts : List Ct) (z : Str) : Bool := (Ts.map fun T => decide (z ∈ topsZ T)).any id
def newB (keys : List Str) (Ts : List Ct) : Bool := (Ts.map fun T => ((topsZ T).map fun z => !decide (z ∈ keys)).any id).any id
def headV : List Str → V
  | [] => .non
  | z :: _ => .str z
def spFirst (K : PySem.W.Frag) : Sp := fun vs H Q _ => ∃ (s : Addr) (r m off : Int) (kvs : Ct) (ev : Addr) (ks : List Addr) (Ts : List Ct), vs = [.ref s, .ref ev] ∧ SkC K H s r m off kvs ∧ kvs.length ≤ 64 ∧ (∀ e ∈ kvs, Nm e.1) ∧ H ev = some (.lst (ks.map V.ref)) ∧ ks.length ≤ 20000 ∧ Paired (TupC H) ks Ts ∧
  (∀ T ∈ Ts, T.length ≤ 1000 ∧ ∀ e ∈ T, Nm e.1) ∧
  ∀ H' p b c, Same H H' → H' p = some (.tup [headV ((kvs.map (·.1)).filter (aloneB Ts)), .ref b]) → H' b = some (.tup [.ref c, .bl (newB (kvs.map (·.1)) Ts)]) → Ptp H' c (((kvs.map (·.1)).filter (mayB Ts)).map V.str) → Q (.ref p) H'
theorem ok_first (T : Blt mg) (n_any : mg "any" = none) (dtops : Dntops K mg) (d : Dnfirst K mg) : FnOk P w K mg base CX0 2 d.f d.fd ["_law_sketch_here", "_law_every"] (spFirst K) := by
  have Gtops : FnOk P w K mg base CX0 1 dtops.f dtops.fd ["_law_truth_here"] (spTops K) := ok_tops T dtops
  refine d.F.ok scfirst (fun vs H Q E h => ?_) (fun cdv A outer s H vs Q E hr h => ?_)
  · obtain ⟨s, r, m, off, kvs, ev, ks, Ts, rfl, _⟩ := h
    rfl
  · obtain ⟨sk, r, m, off, kvs, ev, ks, Ts, rfl, hs, hkl, hkn, hev, hksl, hks, hT, k⟩ := h
    refine ⟨_, (pss_cons (ps_asg (pe_lc (own := [("_law_name", 7), ("_law_count", 8)]) (g := gTup K 2 (gCons (gName 7) (gCons (gName 8) gNil))) (tt := tYes) rfl scfirst.nd (pi_tup (pe_ix ix_tup (pv 0) pe_int (fun _ _ => rfl))) (blkOk_by (N := Nfirst) (sc := defScope sfirst) (by decide +kernel)) (fun _ _ _ _ _ => pg_tup (by rfl) (pgs_cons (pg_name (i := 7) scfirst.nd rfl (Or.inl rfl)) (pgs_cons (pg_name (i := 8) scfirst.nd rfl (Or.inl rfl)) pgs_nil))) (fun _ _ _ _ _ => pts_nil) (fun _ _ _ _ _ => (pv 7))) (pg_name (i := 2) scfirst.nd rfl (Or.inr rfl)))
    (pss_cons (ps_asg (pe_lc (own := [("_law_truth_here", 9)]) (g := gName 9) (tt := tYes) rfl scfirst.nd (pi_list (pv 1)) (blkOk_by (N := Nfirst) (sc := defScope sfirst) (by decide +kernel)) (fun _ _ _ _ _ => pg_name (i := 9) scfirst.nd rfl (Or.inl rfl)) (fun _ _ _ _ _ => pts_nil) (fun _ _ _ _ _ => (pe_call Gtops (hr.mono (by omega)) (by rfl) dtops.g dtops.F.kp dtops.b .nil pass0 (pa_cons (pv 9) pa_nil)))) (pg_name (i := 3) scfirst.nd rfl (Or.inr rfl)))
    (pss_cons (ps_setLc (i := 4) (own := [("_law_name", 7)]) (g := gName 7) rfl scfirst.nd rfl rfl (sw_true rfl rfl rfl (by decide +kernel)) (pi_list (pv 2)) (blkOk_by (N := Nfirst) (sc := defScope sfirst) (by decide +kernel)) (fun _ _ _ _ _ => pg_name (i := 7) scfirst.nd rfl (Or.inr rfl)) (fun _ _ _ _ _ => pts_one (pt_val (pe_callB (r := rAll K) (cr_all rfl) (by rfl) T.n_all (show bootBuiltins (Str.ofString "all") = some (Value.builtin "all") by decide +kernel) (pa_cons (pe_lc (own := [("_law_top", 10)]) (g := gName 10) (tt := tYes) rfl scfirst.nd (pi_listK (K := K) rfl (pv 3)) (blkOk_re (blkOk_by (N := Nfirst) (sc := csD) (by decide +kernel))) (fun _ _ _ _ _ => pg_name (i := 10) scfirst.nd rfl (Or.inl rfl)) (fun _ _ _ _ _ => pts_nil) (fun _ _ _ _ _ => (pe_cmpR (op_eqDK (K := K) rfl hr.units) (pv 10) (pe_lst (pa_cons (pv 7) pa_nil)) (nomark _)))) pa_nil)))) (fun _ _ _ _ _ => (pv 7)))
    (pss_cons (ps_set (i := 5) scfirst.nd rfl (Or.inl rfl) (pe_callTy call_tupleF (by rfl) T.n_tuple (by decide +kernel) (pa_cons (pe_lc (own := [("_law_name", 7)]) (g := gName 7) rfl scfirst.nd (pi_list (pv 2)) (blkOk_by (N := Nfirst) (sc := defScope sfirst) (by decide +kernel)) (fun _ _ _ _ _ => pg_name (i := 7) scfirst.nd rfl (Or.inr rfl)) (fun _ _ _ _ _ => pts_one (pt_val (pe_callB (r := rAny K) (cr_any rfl) (by rfl) n_any (show bootBuiltins (Str.ofString "any") = some (Value.builtin "any") by decide +kernel) (pa_cons (pe_lc (own := [("_law_top", 10)]) (g := gName 10) (tt := tYes) rfl scfirst.nd (pi_listK (K := K) rfl (pv 3)) (blkOk_re (blkOk_by (N := Nfirst) (sc := csE) (by decide +kernel))) (fun _ _ _ _ _ => pg_name (i := 10) scfirst.nd rfl (Or.inl rfl)) (fun _ _ _ _ _ => pts_nil) (fun _ _ _ _ _ => (pe_cmpR (op_inK (K := K) rfl) (pv 7) (pv 10) rfl))) pa_nil)))) (fun _ _ _ _ _ => (pv 7))) pa_nil)))
    (pss_cons (ps_set (i := 6) scfirst.nd rfl (Or.inl rfl) (pe_callB (cr_any rfl) (by rfl) n_any (by decide +kernel) (pa_cons (pe_lc (own := [("_law_top", 10)]) (g := gName 10) (tt := tYes) rfl scfirst.nd (pi_list (pv 3)) (blkOk_by (N := Nfirst) (sc := defScope sfirst) (by decide +kernel)) (fun _ _ _ _ _ => pg_name (i := 10) scfirst.nd rfl (Or.inl rfl)) (fun _ _ _ _ _ => pts_nil) (fun _ _ _ _ _ => (pe_callB (r := rAny K) (cr_any rfl) (by rfl) n_any (show bootBuiltins (Str.ofString "any") = some (Value.builtin "any") by decide +kernel) (pa_cons (pe_lc (own := [("_law_name", 7)]) (g := gName 7) (tt := tYes) rfl scfirst.nd (pi_listK (K := K) rfl (pv 10)) (blkOk_re (blkOk_by (N := Nfirst) (sc := csF) (by decide +kernel))) (fun _ _ _ _ _ => pg_name (i := 7) scfirst.nd rfl (Or.inl rfl)) (fun _ _ _ _ _ => pts_nil) (fun _ _ _ _ _ => (pe_cmpR (op_notInK (K := K) rfl) (pv 7) (pv 2) rfl))) pa_nil)))) pa_nil)))
    (pss_one (ps_ret (pe_tup (pa_cons (pe_ifExp (pt_cmpR (op_neD hr.units) (pv 4) (pe_lst pa_nil) (nomark _)) (pe_ix ix_list (pv 4) pe_int (fun _ _ => rfl)) pe_non) (pa_cons (pe_tup (pa_cons (pv 5) (pa_cons (pv 6) pa_nil))) pa_nil)))))))))), ?_⟩
    obtain ⟨kk, ts, h1, h2, h3⟩ := hs.ob
    have lts := Paired.length h3
    have lks := Paired.length hks
    -- the kept names
    refine ⟨.ref sk, rfl, sk, _, _, _, rfl, rfl, h1, atI_nat (j := 3) rfl, kk, rfl, ⟨_, h2.seq⟩, fun N nN => ?_⟩
    refine lc_tup (xs := ts.map V.ref) (fun i H3 => Same H H3 ∧ H3 N = some (.lst (((kvs.take i).map (·.1)).map V.str))) ⟨same_upd nN, upd_same⟩ (fun i H3 _ h => (h2.same h.1).seq) (fun i v H3 hv h => ?_) (fun H3 h => ?_)
    · obtain ⟨t, ht, rfl⟩ := map_at hv
      obtain ⟨e, he, hat⟩ := paired_at h3 ht
      obtain ⟨s3, hN3⟩ := h
      have hi := (List.getElem?_eq_some_iff.mp he).1
      refine ⟨t, _, rfl, seqT hat s3, rfl, _, _, rfl, _, _, rfl, rfl, rfl, .str e.1, rfl, _, hN3, by rw [List.length_map, List.length_map, List.length_take, sizeLine_eq]; omega, Same.put s3 nN, ?_⟩
      rw [upd_same, List.take_add_one, he, List.map_append, List.map_append]
      rfl
    obtain ⟨s3, hN3⟩ := h
    rw [List.length_map, lts, List.take_length] at hN3
    have kn : ∀ z ∈ kvs.map (·.1), Nm z := fun z hz => by
      obtain ⟨e, he, rfl⟩ := List.mem_map.mp hz
      exact hkn e he
    have kl : (kvs.map (·.1)).length ≤ 64 := by rw [List.length_map]; exact hkl
    generalize kvs.map (·.1) = keys at hN3 kn kl k
    -- the tops
    refine ⟨.ref ev, rfl, ev, rfl, ⟨_, sql (s3 _ _ hev)⟩, fun TL nTL => ?_⟩
    refine lc_list (xs := ks.map V.ref) (fun j H4 => Same H3 H4 ∧ ∃ tls : List Addr, H4 TL = some (.lst (tls.map V.ref)) ∧ Paired (fun (l : Addr) (T : Ct) => l ≠ TL ∧ H4 l = some (.lst ((topsZ T).map V.str))) tls (Ts.take j)) ⟨same_upd nTL, [], upd_same, .nil⟩ (fun j H4 _ h => sql (h.1 _ _ (s3 _ _ hev))) (fun j v H4 hv h => ?_) (fun H4 h => ?_)
    · obtain ⟨kT, hkT, rfl⟩ := map_at hv
      obtain ⟨Y, hY, hat⟩ := paired_at hks hkT
      obtain ⟨s4, tls, hTL4, htl⟩ := h
      have hj := (List.getElem?_eq_some_iff.mp hY).1
      have ltl := Paired.length htl
      rw [List.length_take] at ltl
      refine ⟨rfl, .ref kT, rfl, kT, Y, rfl, hat.same (s3.trans s4), (hT Y (List.mem_of_getElem? hY)).1, fun H5 l s5 nl hl => ?_⟩
      have lTL : l ≠ TL := (ne_of_none hTL4 nl).symm
      refine ⟨_, s5 _ _ hTL4, by rw [List.length_map, sizeLine_eq]; omega, Same.put (s4.trans s5) nTL, tls ++ [l], by rw [upd_same, List.map_append]; rfl, ?_⟩
      rw [List.take_add_one, hY]
      exact paired_snoc (paired_imp (fun a b h => ⟨h.1, by rw [upd_ne h.1]; exact s5 _ _ h.2⟩) htl) ⟨lTL, by rw [upd_ne lTL]; exact hl⟩
    obtain ⟨s4, tls, hTL, htl⟩ := h
    rw [List.length_map, lks, List.take_length] at htl
    have ltl := Paired.length htl
    have htl : Paired (fun (l : Addr) (T : Ct) => H4 l = some (.lst ((topsZ T).map V.str))) tls Ts := paired_imp (fun _ _ h => h.2) htl
    have s03 := s3.trans s4
    have hN4 := s4 _ _ hN3
    clear hN3 s3 s4
    generalize hH4 : H4 = HT at hTL htl s03 hN4 ⊢
    clear hH4
    have sT : Same HT HT := fun _ _ e => e
    refine ⟨.ref N, rfl, N, rfl, ⟨_, sql hN4⟩, fun D nD => ?_⟩
    refine lc_list (xs := keys.map V.str) (fun i H4 => Same HT H4 ∧ H4 D = some (.lst (((keys.take i).filter (aloneB Ts)).map V.str))) ⟨same_upd nD, upd_same⟩ (fun i H4 _ h => sql (h.1 _ _ hN4)) (fun i v H4 hv h => ?_) (fun H4 h => ?_)
    · obtain ⟨z, hz, rfl⟩ := map_at hv
      obtain ⟨s4, hD4⟩ := h
      have hi := (List.getElem?_eq_some_iff.mp hz).1
      have tk : keys.take (i + 1) = keys.take i ++ [z] := by rw [List.take_add_one, hz]; rfl
      have znm := kn z (List.mem_of_getElem? hz)
      have s04 := sT.trans s4
      have fl : ((keys.take i).filter (aloneB Ts)).length ≤ i := Nat.le_trans (List.length_filter_le _ _) (by rw [List.length_take]; omega)
      refine ⟨rfl, .ref TL, rfl, TL, rfl, ⟨_, sql (s04 _ _ hTL)⟩, fun G nG => ?_⟩
      refine lc_list (K := K) (a := TL) (xs := tls.map V.ref) (fun j H5 => Same H4 H5 ∧ H5 G = some (.lst ((((Ts.take j).map fun T => decide (topsZ T = [z]))).map V.bl))) ⟨same_upd nG, upd_same⟩ (fun j H5 _ h => sql (h.1 _ _ (s04 _ _ hTL))) (fun j v H5 hv h => ?_) (fun H5 h => ?_)
      · obtain ⟨kT, hkT, rfl⟩ := map_at hv
        obtain ⟨Y, hY, hat⟩ := paired_at htl hkT
        obtain ⟨s5, hG5⟩ := h
        have hj := (List.getElem?_eq_some_iff.mp hY).1
        obtain ⟨lY, nmY⟩ := hT Y (List.mem_of_getElem? hY)
        have hat5 := (s04.trans s5) _ _ hat
        refine ⟨rfl, .ref kT, rfl, .str z, rfl, (by show 1 ≤ sizeLine; decide), fun zl nzl => ?_⟩
        have s6 := same_upd (o := .lst [.str z]) nzl
        have hz6 : (upd H5 zl (.lst [.str z])) zl = some (.lst ([z].map V.str)) := upd_same
        generalize upd H5 zl (.lst [.str z]) = H6 at s6 hz6 ⊢
        refine ⟨.list ((topsZ Y).map PyData.str), .list ([z].map PyData.str), .lst (sql (s6 _ _ hat5)) (dp_strs _), .lst (sql hz6) (dp_strs _), lst_shaped (tops_nm nmY), lst_shaped (fun y hy => by rw [List.mem_singleton.mp hy]; exact znm), ?_⟩
        rw [eqv_lst]
        refine ⟨_, s6 _ _ hG5, by rw [List.length_map, List.length_map, List.length_take, sizeLine_eq]; omega, Same.put (s5.trans s6) nG, ?_⟩
        rw [upd_same, List.take_add_one, hY, List.map_append, List.map_append]
        rfl
      obtain ⟨s5, hG5⟩ := h
      rw [List.length_map, ltl, List.take_length] at hG5
      refine ⟨G, _, rfl, sql hG5, _, rfl, ?_⟩
      have s45 := s4.trans s5
      have hD5 := s5 _ _ hD4
      rw [tk, filt_snoc]
      refine ite2 (fun h0 => ?_) fun h0 => ?_
      · rw [if_pos (show aloneB Ts z = true from h0)]
        exact ⟨.str z, rfl, _, hD5, by rw [List.length_map, sizeLine_eq]; omega, Same.put s45 nD, by rw [upd_same, List.map_append]; rfl⟩
      · rw [if_neg (show ¬ aloneB Ts z = true from h0)]
        exact ⟨s45, hD5⟩
    obtain ⟨s4, hD4⟩ := h
    rw [List.length_map, List.take_length] at hD4
    have sX := s4
    have hNX := s4 _ _ hN4
    have hAL := hD4
    generalize hH4 : H4 = HX at sX hNX hAL ⊢
    clear hH4 s4 hD4
    refine ⟨.ref N, rfl, N, rfl, ⟨_, sql hNX⟩, fun D2 nD2 => ?_⟩
    refine lc_list (xs := keys.map V.str) (fun i H4 => Same HX H4 ∧ H4 D2 = some (.lst (((keys.take i).filter (mayB Ts)).map V.str))) ⟨same_upd nD2, upd_same⟩ (fun i H4 _ h => sql (h.1 _ _ hNX)) (fun i v H4 hv h => ?_) (fun H4 h => ?_)
    · obtain ⟨z, hz, rfl⟩ := map_at hv
      obtain ⟨s4, hD4⟩ := h
      have hi := (List.getElem?_eq_some_iff.mp hz).1
      have tk : keys.take (i + 1) = keys.take i ++ [z] := by rw [List.take_add_one, hz]; rfl
      have znm := kn z (List.mem_of_getElem? hz)
      have s04 := sX.trans s4
      have fl : ((keys.take i).filter (mayB Ts)).length ≤ i := Nat.le_trans (List.length_filter_le _ _) (by rw [List.length_take]; omega)
      refine ⟨rfl, .ref TL, rfl, TL, rfl, ⟨_, sql (s04 _ _ hTL)⟩, fun G nG => ?_⟩
      refine lc_list (K := K) (a := TL) (xs := tls.map V.ref) (fun j H5 => Same H4 H5 ∧ H5 G = some (.lst ((((Ts.take j).map fun T => decide (z ∈ topsZ T))).map V.bl))) ⟨same_upd nG, upd_same⟩ (fun j H5 _ h => sql (h.1 _ _ (s04 _ _ hTL))) (fun j v H5 hv h => ?_) (fun H5 h => ?_)
      · obtain ⟨kT, hkT, rfl⟩ := map_at hv
        obtain ⟨Y, hY, hat⟩ := paired_at htl hkT
        obtain ⟨s5, hG5⟩ := h
        have hj := (List.getElem?_eq_some_iff.mp hY).1
        obtain ⟨lY, nmY⟩ := hT Y (List.mem_of_getElem? hY)
        have hat5 := (s04.trans s5) _ _ hat
        refine ⟨rfl, .str z, rfl, .ref kT, rfl, kT, _, rfl, .inl (sql hat5), rfl, strs_flat _, ?_⟩
        rw [if_neg (by decide), inV_strs]
        refine ⟨_, hG5, by rw [List.length_map, List.length_map, List.length_take, sizeLine_eq]; omega, Same.put s5 nG, ?_⟩
        rw [upd_same, List.take_add_one, hY, List.map_append, List.map_append]
        rfl
      obtain ⟨s5, hG5⟩ := h
      rw [List.length_map, ltl, List.take_length] at hG5
      refine ⟨G, _, rfl, sql hG5, _, rfl, ?_⟩
      have s45 := s4.trans s5
      have hD5 := s5 _ _ hD4
      rw [tk, filt_snoc]
      refine ite2 (fun h0 => ?_) fun h0 => ?_
      · rw [if_pos (show mayB Ts z = true from h0)]
        exact ⟨.str z, rfl, _, hD5, by rw [List.length_map, sizeLine_eq]; omega, Same.put s45 nD2, by rw [upd_same, List.map_append]; rfl⟩
      · rw [if_neg (show ¬ mayB Ts z = true from h0)]
        exact ⟨s45, hD5⟩
    obtain ⟨s4, hD4⟩ := h
    rw [List.length_map, List.take_length] at hD4
    refine ⟨D2, _, rfl, sql hD4, fun l2 o2 nl2 ho2 => ?_⟩
    have s5 := same_upd (o := .frz o2 (.tup ((keys.filter (mayB Ts)).map V.str))) nl2
    have hl2 : Ptp (upd H4 l2 (.frz o2 (.tup ((keys.filter (mayB Ts)).map V.str)))) l2 ((keys.filter (mayB Ts)).map V.str) := ⟨o2, upd_same, ho2⟩
    have sY := (sX.trans s4).trans s5
    have hALY := s5 _ _ (s4 _ _ hAL)
    have hNY := s5 _ _ (s4 _ _ hNX)
    generalize upd H4 l2 (.frz o2 (.tup ((keys.filter (mayB Ts)).map V.str))) = HY at hl2 sY hALY hNY ⊢
    clear s4 s5 hD4 hNX hAL sX
    -- new names
    refine ⟨.ref TL, rfl, TL, rfl, ⟨_, sql (sY _ _ hTL)⟩, fun D3 nD3 => ?_⟩
    refine lc_list (K := K) (a := TL) (xs := tls.map V.ref) (fun j H5 => Same HY H5 ∧ H5 D3 = some (.lst (((Ts.take j).map fun T => ((topsZ T).map fun z => !decide (z ∈ keys)).any id).map V.bl))) ⟨same_upd nD3, upd_same⟩ (fun j H5 _ h => sql (h.1 _ _ (sY _ _ hTL))) (fun j v H5 hv h => ?_) (fun H5 h => ?_)
    · obtain ⟨kT, hkT, rfl⟩ := map_at hv
      obtain ⟨Y, hY, hat⟩ := paired_at htl hkT
      obtain ⟨s5, hD5⟩ := h
      have hj := (List.getElem?_eq_some_iff.mp hY).1
      have hat5 := (sY.trans s5) _ _ hat
      obtain ⟨lY, nmY⟩ := hT Y (List.mem_of_getElem? hY)
      have tl : (topsZ Y).length ≤ Y.length := nmsZ_len _ _
      refine ⟨rfl, .ref kT, rfl, kT, rfl, ⟨_, sql hat5⟩, fun G nG => ?_⟩
      refine lc_list (K := K) (a := kT) (xs := (topsZ Y).map V.str) (fun i H6 => Same H5 H6 ∧ H6 G = some (.lst ((((topsZ Y).take i).map fun z => !decide (z ∈ keys)).map V.bl))) ⟨same_upd nG, upd_same⟩ (fun i H6 _ h => sql (h.1 _ _ hat5)) (fun i v H6 hv h => ?_) (fun H6 h => ?_)
      · obtain ⟨z, hz, rfl⟩ := map_at hv
        obtain ⟨s6, hG6⟩ := h
        have hi := (List.getElem?_eq_some_iff.mp hz).1
        refine ⟨rfl, .str z, rfl, .ref N, rfl, N, _, rfl, .inl (sql (s6 _ _ (s5 _ _ hNY))), rfl, strs_flat keys, ?_⟩
        rw [if_pos rfl, inV_strs]
        refine ⟨_, hG6, by rw [List.length_map, List.length_map, List.length_take, sizeLine_eq]; omega, Same.put s6 nG, ?_⟩
        rw [upd_same, List.take_add_one, hz, List.map_append, List.map_append]
        rfl
      obtain ⟨s6, hG6⟩ := h
      rw [List.length_map, List.take_length] at hG6
      refine ⟨G, _, rfl, sql hG6, _, s6 _ _ hD5, by rw [List.length_map, List.length_map, List.length_take, sizeLine_eq]; omega, Same.put (s5.trans s6) nD3, ?_⟩
      rw [upd_same, List.take_add_one, hY, List.map_append, List.map_append]
      rfl
    obtain ⟨s5, hD5⟩ := h
    rw [List.length_map, ltl, List.take_length] at hD5
    refine ⟨D3, _, rfl, sql hD5, ?_⟩
    have hAL5 := s5 _ _ hALY
    have sZ := s03.trans (sY.trans s5)
    have hl5 := hl2.same s5
    refine ⟨.ref D, rfl, (by show 0 ≤ sizeLine; decide), fun E1 nE1 => ?_⟩
    have s6 := same_upd (o := .lst []) nE1
    have hE6 : (upd H5 E1 (.lst [])) E1 = some (.lst (([] : List Str).map V.str)) := upd_same
    generalize upd H5 E1 (.lst []) = H6 at s6 hE6 ⊢
    have hAL6 := s6 _ _ hAL5
    have an : ∀ z ∈ keys.filter (aloneB Ts), Nm z := fun z hz => kn z (List.mem_filter.mp hz).1
    refine ⟨.list ((keys.filter (aloneB Ts)).map PyData.str), .list (([] : List Str).map PyData.str), .lst (sql hAL6) (dp_strs _), .lst (sql hE6) (dp_strs _), lst_shaped an, lst_shaped (fun _ h => nomatch h), _, rfl, ?_⟩
    rw [eqv_lst]
    have fin : ∀ v, v = headV (keys.filter (aloneB Ts)) → ∀ b, H6 b = none → (∀ p, (upd H6 b (.tup [.ref l2, .bl (newB keys Ts)])) p = none → Q (.ref p) (upd (upd H6 b (.tup [.ref l2, .bl (newB keys Ts)])) p (.tup [v, .ref b]))) := fun v ev b nb p np => by
      subst ev
      have s7 := s6.trans (same_upd (o := .tup [.ref l2, .bl (newB keys Ts)]) nb)
      have s8 := s7.trans (same_upd (o := .tup [headV (keys.filter (aloneB Ts)), .ref b]) np)
      exact k _ p b l2 (sZ.trans s8) upd_same (same_upd np _ _ upd_same) (hl5.same s8)
    cases hal : keys.filter (aloneB Ts) with
    | nil =>
      rw [hal] at fin
      rw [decide_eq_true rfl]
      refine iteF ⟨.ref l2, rfl, .bl (newB keys Ts), rfl, (by show 2 ≤ sizeLine; decide), fun b nb => ⟨(by show 2 ≤ sizeLine; decide), fun p np => fin .non rfl b nb p np⟩⟩
    | cons z zs =>
      rw [hal] at fin hAL6
      rw [decide_eq_false (fun h => nomatch h)]
      refine iteT ⟨.ref D, rfl, D, _, _, _, rfl, rfl, sql hAL6, atI_nat (j := 0) rfl, ?_⟩
      exact ⟨.ref l2, rfl, .bl (newB keys Ts), rfl, (by show 2 ≤ sizeLine; decide), fun b nb => ⟨(by show 2 ≤ sizeLine; decide), fun p np => fin (.str z) rfl b nb p np⟩⟩
end
end Kb

namespace Kb
open PySem PySem.Spec PyProof.Rows L2 SrtZ SrtO FlX LamX RZ
theorem deal_map (kvs : Ct) (f : Str → Nat) : ∀ ns : List Str, dealC kvs ns (ns.map f) = ns.map fun n => (n, gd kvs n + (f n : Int))
  | [] => rfl
  | n :: ns => congrArg ((n, gd kvs n + (f n : Int)) :: ·) (deal_map kvs f ns)
theorem sum_rep1 : ∀ n : Nat, (List.replicate n 1).sum = n
  | 0 => rfl
  | n + 1 => by rw [List.replicate_succ, List.sum_cons, sum_rep1 n, Nat.add_comm]
theorem sum_zeroF (ns : List Str) : (ns.map fun _ => 0).sum = 0 := by
  induction ns with
  | nil => rfl
  | cons n ns ih => rw [List.map_cons, List.sum_cons, ih]
theorem sum_one {n : Str} {c : Nat} : ∀ {ns : List Str}, ns.Nodup → n ∈ ns → (ns.map fun k => if k = n then c else 0).sum = c
  | [], _, h => nomatch h
  | k :: ns, nd, h => by
    obtain ⟨h1, h2⟩ := List.nodup_cons.mp nd
    rw [List.map_cons, List.sum_cons]
    by_cases hk : k = n
    · subst hk
      have : (ns.map fun x => if x = k then c else 0).sum = 0 := by
        have e : (ns.map fun x => if x = k then c else 0) = ns.map fun _ => 0 := List.map_congr_left fun x hx => if_neg fun (z : x = k) => h1 (z ▸ hx)
        rw [e, sum_zeroF]
      rw [if_pos rfl, this]
      rfl
    · rw [if_neg hk, sum_one h2 ((List.mem_cons.mp h).resolve_left fun z => hk z.symm), Nat.zero_add]
theorem ones_fall : ∀ n : Nat, (List.replicate n 1).Pairwise (· ≥ ·)
  | 0 => .nil
  | n + 1 => by
    rw [List.replicate_succ]
    exact .cons (fun x hx => by rw [List.eq_of_mem_replicate hx]; exact Nat.le_refl _) (ones_fall n)
variable {r : Int} {x : Tl} {off lost : Nat} {ns : List Str}
theorem lst_tr (ok : TlOk r x) (sm : Sml r x off lost) (nok : NsOk (srtZ x.c) ns) {y : Ct} (h : y ∈ listZ (srtZ x.c) ns off lost) : TrOf x y := by
  obtain ⟨d, hd, h⟩ := List.mem_flatMap.mp h
  obtain ⟨e, he, rfl⟩ := List.mem_map.mp h
  obtain ⟨dl, dto, ds⟩ := deals_sound hd
  obtain ⟨ep, es⟩ := parts_sound he
  have sx : sumC (srtZ x.c) = sumC x.c := sumC_perm' (srtZ_perm x.c)
  have hm : x.m - sumC (srtZ x.c) = (lost : Int) := by rw [sx]; exact sm.lo
  have l12 := sm.l12
  obtain ⟨tz, nm⟩ := raw_tru nok ⟨dl, dto, ep, by omega⟩ hm (by omega)
  rw [← sm.o] at tz
  exact TruZ.of ok tz nm
/-- a truth told by what was taken -/
theorem wit (sm : Sml r x off lost) (nok : NsOk (srtZ x.c) ns) (f : Str → Nat) (e : List Nat) (d : DlOk off lost ns (ns.map f) e) (fall : e.Pairwise (· ≥ ·)) :
    ∃ y ∈ listZ (srtZ x.c) ns off lost, (∀ k ∈ ns, gd y k = gd (srtZ x.c) k + (f k : Int)) ∧ (∀ u ∈ zzC e, u ∈ y) ∧ ∀ u ∈ y, u.1 ∉ ns → ∃ c ∈ e, u.2 = (c : Int) := by
  have l12 := sm.l12
  have ds := d.sum
  have nd := raw_nd (e := e) nok d.len
  have nn := raw_nn (t := ns.map f) (e := e) nok
  have ndp : NdZ (posC (rawC (srtZ x.c) ns (ns.map f) e)) := nd.sublist (List.Sublist.map _ List.filter_sublist)
  have pm := srtZ_perm (posC (rawC (srtZ x.c) ns (ns.map f) e))
  refine ⟨srtZ (posC (rawC (srtZ x.c) ns (ns.map f) e)), List.mem_flatMap.mpr ⟨(ns.map f, lost - (ns.map f).sum), deals_full d.len d.to (by omega), List.mem_map.mpr ⟨e, parts_full (by show lost - (ns.map f).sum < 12; omega) fall d.eo (by show e.sum = lost - (ns.map f).sum; omega), rfl⟩⟩, fun k hk => ?_, fun u hu => ?_, fun u hu hn => ?_⟩
  · rw [gd_srt ndp]
    unfold posC
    rw [gd_pos nd nn]
    unfold rawC
    rw [gd_app1 (by rw [deal_keys _ d.len]; exact hk), deal_map, gd_map, if_pos hk]
  · refine pm.mem_iff.mpr (List.mem_filter.mpr ⟨List.mem_append_right _ hu, ?_⟩)
    obtain ⟨_, c, hc, e2⟩ := zz_mem hu
    have := (d.eo c hc).1
    exact decide_eq_true (by omega)
  · have hu2 := (posC_map _ u (pm.mem_iff.mp hu)).1
    rcases List.mem_append.mp hu2 with h | h
    · exact absurd (deal_mem h).1 hn
    · obtain ⟨_, c, hc, e2⟩ := zz_mem h
      exact ⟨c, hc, e2⟩
theorem off_lost (g : SkG r x.m x.o (srtZ x.c)) (sm : Sml r x off lost) : off ≤ lost ∧ (off = 0 → lost = 0) := by
  have sx : sumC (srtZ x.c) = sumC x.c := sumC_perm' (srtZ_perm x.c)
  have h1 := g.lo
  have h2 := g.hi
  have h3 := g.r1
  rw [sx, sm.lo, sm.o] at h1 h2
  have h4 : (1 : Int) * (off : Int) ≤ (r + 1) * (off : Int) := Int.mul_le_mul_of_nonneg_right (by omega) (by omega)
  refine ⟨by omega, fun h => ?_⟩
  rw [h] at h2
  have : 2 * r * ((0 : Nat) : Int) = 0 := Int.mul_zero _
  omega
/-- a truth that takes nothing of what is kept -/
theorem wit0 (g : SkG r x.m x.o (srtZ x.c)) (sm : Sml r x off lost) (nok : NsOk (srtZ x.c) ns) : ∃ y ∈ listZ (srtZ x.c) ns off lost, (∀ k ∈ ns, gd y k = gd (srtZ x.c) k) ∧ (0 < off → ∃ u ∈ y, u.1 ∉ ns ∧ u.2 = (off : Int)) := by
  obtain ⟨h1, h2⟩ := off_lost g sm
  have z := sum_zeroF ns
  by_cases ho : off = 0
  · obtain ⟨y, hy, a, b, c⟩ := wit sm nok (fun _ => 0) [] ⟨by rw [List.length_map], fun t ht => by obtain ⟨_, _, rfl⟩ := List.mem_map.mp ht; exact Nat.zero_le _, (fun _ h => nomatch h), by rw [z, h2 ho]; rfl⟩ .nil
    exact ⟨y, hy, fun k hk => by rw [a k hk]; exact Int.add_zero _, fun h => by omega⟩
  · obtain ⟨y, hy, a, b, c⟩ := wit sm nok (fun _ => 0) (off :: List.replicate (lost - off) 1) ⟨by rw [List.length_map], fun t ht => by obtain ⟨_, _, rfl⟩ := List.mem_map.mp ht; exact Nat.zero_le _, fun t ht => by
      rcases List.mem_cons.mp ht with rfl | ht
      · omega
      · rw [List.eq_of_mem_replicate ht]; omega, by rw [z, List.sum_cons, sum_rep1]; omega⟩ (.cons (fun t ht => by rw [List.eq_of_mem_replicate ht]; show 1 ≤ off; omega) (ones_fall _))
    refine ⟨y, hy, fun k hk => by rw [a k hk]; exact Int.add_zero _, fun _ => ⟨(zzN 0, (off : Int)), b _ ?_, fun hn => nok.zz _ hn 0 rfl, rfl⟩⟩
    unfold zzC
    rw [List.length_cons, List.range_succ_eq_map, List.zip_cons_cons, List.map_cons]
    exact List.mem_cons_self
/-- a truth that takes all it may of one kept name -/
theorem wit1 (g : SkG r x.m x.o (srtZ x.c)) (sm : Sml r x off lost) (nok : NsOk (srtZ x.c) ns) {n : Str} (hn : n ∈ ns) : ∃ y ∈ listZ (srtZ x.c) ns off lost, gd y n = gd (srtZ x.c) n + (off : Int) ∧ (∀ k ∈ ns, k ≠ n → gd y k = gd (srtZ x.c) k) ∧ ∀ u ∈ y, u.1 ∉ ns → u.2 ≤ 1 := by
  obtain ⟨h1, h2⟩ := off_lost g sm
  have z := sum_one (c := off) nok.nd hn
  obtain ⟨y, hy, a, b, c⟩ := wit sm nok (fun k => if k = n then off else 0) (List.replicate (lost - off) 1) ⟨by rw [List.length_map], fun t ht => by
      obtain ⟨k, _, rfl⟩ := List.mem_map.mp ht
      split <;> omega, fun t ht => by
      have h3 := List.eq_of_mem_replicate ht
      have h4 := List.length_pos_of_mem ht
      rw [List.length_replicate] at h4
      by_cases ho : off = 0
      · have := h2 ho
        omega
      · omega, by rw [z, sum_rep1]; omega⟩ (ones_fall _)
  refine ⟨y, hy, by rw [a n hn, if_pos rfl], fun k hk hne => by rw [a k hk, if_neg hne]; exact Int.add_zero _, fun u hu hnn => ?_⟩
  obtain ⟨q, hq, e2⟩ := c u hu hnn
  rw [List.eq_of_mem_replicate hq] at e2
  omega
end Kb

namespace Kb
open PySem PySem.Spec PyProof.Rows L2 SrtZ SrtO FlX LamX RZ
theorem filt_keys {F : Str → Bool} {f : Int → Bool} : ∀ {kvs : Ct}, (∀ e ∈ kvs, F e.1 = f e.2) → (kvs.map (·.1)).filter F = nmsZ f kvs
  | [], _ => rfl
  | e :: kvs, h => by
    have ih := filt_keys (F := F) (f := f) (kvs := kvs) fun x hx => h x (List.mem_cons_of_mem _ hx)
    have he := h e List.mem_cons_self
    unfold nmsZ at ih ⊢
    rw [List.map_cons]
    by_cases hf : f e.2 = true
    · rw [List.filter_cons_of_pos (by rw [he]; exact hf), List.filter_cons_of_pos (p := fun e : Str × Int => f e.2) hf, List.map_cons, ih]
    · rw [List.filter_cons_of_neg (by rw [he]; exact hf), List.filter_cons_of_neg (p := fun e : Str × Int => f e.2) hf, ih]
theorem one_of {α : Type} {a : α} : ∀ {l : List α}, l.Nodup → (∀ x, x ∈ l ↔ x = a) → l = [a]
  | [], _, h => absurd ((h a).mpr rfl) (fun z => nomatch z)
  | [b], _, h => by rw [(h b).mp List.mem_cons_self]
  | b :: c :: l, nd, h => by
    have e1 := (h b).mp List.mem_cons_self
    have e2 := (h c).mp (List.mem_cons_of_mem _ List.mem_cons_self)
    exact absurd (e1.trans e2.symm ▸ List.mem_cons_self) (List.nodup_cons.mp nd).1
theorem mem_tops {T : Ct} {z : Str} : z ∈ topsZ T ↔ ∃ e ∈ T, e.1 = z ∧ ∀ f ∈ T, f.2 ≤ e.2 := by
  unfold topsZ nmsZ
  rw [List.mem_map]
  constructor
  · rintro ⟨e, he, rfl⟩
    obtain ⟨h1, h2⟩ := List.mem_filter.mp he
    exact ⟨e, h1, rfl, fun f hf => of_decide_eq_true (List.all_eq_true.mp h2 f hf)⟩
  · rintro ⟨e, he, rfl, h⟩
    exact ⟨e, List.mem_filter.mpr ⟨he, List.all_eq_true.mpr fun f hf => decide_eq_true (h f hf)⟩, rfl⟩
theorem tops_nd {T : Ct} (nd : NdZ T) : (topsZ T).Nodup := nd.sublist (List.Sublist.map _ List.filter_sublist)
theorem gd_mem1 {T : Ct} {z : Str} (h : 1 ≤ gd T z) : (z, gd T z) ∈ T := by
  by_cases hz : z ∈ T.map (·.1)
  · have h2 := getZ_gd hz
    unfold getZ at h2
    obtain ⟨e, he, e2⟩ := Option.map_eq_some_iff.mp h2
    have h3 := List.find?_some he
    have h4 : e.1 = z := by simpa using h3
    have : e = (z, gd T z) := Prod.ext h4 e2
    rw [← this]
    exact List.mem_of_find?_eq_some he
  · rw [gd_notin hz] at h
    omega
/-- what the listing says, told of the sketch -/
structure Lsd (x : Tl) (off : Nat) (Ts : List Ct) : Prop where
  ok : ∃ r, TlOk r x
  tr : ∀ T ∈ Ts, TrOf x T
  o : x.o = (off : Int)
  zero : ∃ T ∈ Ts, (∀ e ∈ srtZ x.c, gd T e.1 = e.2) ∧ (0 < off → ∃ u ∈ T, u.1 ∉ (srtZ x.c).map (·.1) ∧ u.2 = (off : Int))
  one : ∀ e ∈ srtZ x.c, ∃ T ∈ Ts, gd T e.1 = e.2 + (off : Int) ∧ (∀ f ∈ srtZ x.c, f.1 ≠ e.1 → gd T f.1 = f.2) ∧ ∀ u ∈ T, u.1 ∉ (srtZ x.c).map (·.1) → u.2 ≤ 1
theorem lsd_of {r : Int} {x : Tl} {off lost : Nat} {ns : List Str} (ok : TlOk r x) (g : SkG r x.m x.o (srtZ x.c)) (sm : Sml r x off lost) (nok : NsOk (srtZ x.c) ns) (hns : ∀ z ∈ ns, z ∈ (srtZ x.c).map (·.1)) : Lsd x off (listZ (srtZ x.c) ns off lost) := by
  have ndk : NdZ (srtZ x.c) := srtZ_nd ok.nd
  have ge : ∀ e ∈ srtZ x.c, gd (srtZ x.c) e.1 = e.2 := fun e he => gd_in ndk he
  have inn : ∀ {z : Str}, z ∉ (srtZ x.c).map (·.1) → z ∉ ns := fun h z => h (hns _ z)
  refine ⟨⟨r, ok⟩, fun T hT => lst_tr ok sm nok hT, sm.o, ?_, fun e he => ?_⟩
  · obtain ⟨T, hT, a, b⟩ := wit0 g sm nok
    refine ⟨T, hT, fun e he => by rw [a _ (nok.sub e he), ge e he], fun h => ?_⟩
    obtain ⟨u, hu, u1, u2⟩ := b h
    exact ⟨u, hu, fun z => u1 (by obtain ⟨e, he, e2⟩ := List.mem_map.mp z; exact e2 ▸ nok.sub e he), u2⟩
  · obtain ⟨T, hT, a, b, c⟩ := wit1 g sm nok (nok.sub e he)
    exact ⟨T, hT, by rw [a, ge e he], fun f hf hne => by rw [b _ (nok.sub f hf) hne, ge f hf], fun u hu hn => c u hu (inn hn)⟩
section
variable {x : Tl} {off : Nat} {Ts : List Ct}
theorem Lsd.gk (L : Lsd x off Ts) (k : Str) : gd x.c k = gd (srtZ x.c) k := by
  obtain ⟨r, ok⟩ := L.ok
  exact (gd_srt ok.nd k).symm
theorem Lsd.nd (L : Lsd x off Ts) : NdZ (srtZ x.c) := by
  obtain ⟨r, ok⟩ := L.ok
  exact srtZ_nd ok.nd
theorem Lsd.pos (L : Lsd x off Ts) : ∀ e ∈ srtZ x.c, 1 ≤ e.2 := fun e he => by
  obtain ⟨r, ok⟩ := L.ok
  exact ok.pos e ((srtZ_perm _).mem_iff.mp he)
theorem Lsd.low (L : Lsd x off Ts) {T : Ct} (hT : T ∈ Ts) {e : Str × Int} (he : e ∈ srtZ x.c) : e.2 ≤ gd T e.1 ∧ gd T e.1 ≤ e.2 + (off : Int) := by
  have h1 := (L.tr T hT).lo e.1
  have h2 := (L.tr T hT).hi e.1
  rw [L.gk, gd_in L.nd he] at h1 h2
  rw [L.o] at h2
  omega
theorem Lsd.new (L : Lsd x off Ts) {T : Ct} (hT : T ∈ Ts) {u : Str × Int} (hu : u ∈ T) (h : u.1 ∉ (srtZ x.c).map (·.1)) : 1 ≤ u.2 ∧ u.2 ≤ (off : Int) := by
  have h2 := (L.tr T hT).hi u.1
  rw [L.gk, gd_notin h, gd_in (L.tr T hT).nd hu, L.o] at h2
  have := (L.tr T hT).pos u hu
  omega
theorem Lsd.inT (L : Lsd x off Ts) {T : Ct} (hT : T ∈ Ts) {e : Str × Int} (he : e ∈ srtZ x.c) : (e.1, gd T e.1) ∈ T := gd_mem1 (by
  have := (L.low hT he).1
  have := L.pos e he
  omega)
/-! above -/
theorem Lsd.allA (L : Lsd x off Ts) (n : Int) : ((srtZ x.c).map (·.1)).filter (allA Ts n) = nmsZ (fun c => decide (n < c)) (srtZ x.c) := filt_keys fun e he => by
  unfold Kb.allA
  by_cases h : n < e.2
  · rw [decide_eq_true h, List.all_map]
    exact List.all_eq_true.mpr fun T hT => decide_eq_true (by have := (L.low hT he).1; omega)
  · rw [decide_eq_false h, List.all_map]
    obtain ⟨T, hT, a, _⟩ := L.zero
    refine List.all_eq_false.mpr ⟨T, hT, ?_⟩
    show ¬ decide (n < gd T e.1) = true
    rw [a e he]
    simpa using h
theorem Lsd.anyA (L : Lsd x off Ts) (n : Int) : ((srtZ x.c).map (·.1)).filter (anyA Ts n) = nmsZ (fun c => decide (n < c + (off : Int))) (srtZ x.c) := filt_keys fun e he => by
  unfold Kb.anyA
  by_cases h : n < e.2 + (off : Int)
  · rw [decide_eq_true h, List.any_map]
    obtain ⟨T, hT, a, _⟩ := L.one e he
    exact List.any_eq_true.mpr ⟨T, hT, decide_eq_true (by rw [a]; exact h)⟩
  · rw [decide_eq_false h, List.any_map]
    refine List.any_eq_false.mpr fun T hT => ?_
    show ¬ decide (n < gd T e.1) = true
    have := (L.low hT he).2
    rw [decide_eq_true_iff]
    omega
theorem Lsd.newA (L : Lsd x off Ts) {n : Int} (n0 : 0 ≤ n) : newA ((srtZ x.c).map (·.1)) Ts n = decide (n < (off : Int)) := by
  unfold Kb.newA
  by_cases h : n < (off : Int)
  · rw [decide_eq_true h, List.any_map]
    obtain ⟨T, hT, _, b⟩ := L.zero
    obtain ⟨u, hu, u1, u2⟩ := b (by omega)
    refine List.any_eq_true.mpr ⟨T, hT, ?_⟩
    show List.any _ id = true
    rw [List.any_map]
    exact List.any_eq_true.mpr ⟨u, List.mem_filter.mpr ⟨hu, by simpa using u1⟩, decide_eq_true (by rw [u2]; exact h)⟩
  · rw [decide_eq_false h, List.any_map]
    refine List.any_eq_false.mpr fun T hT => ?_
    show ¬ List.any _ id = true
    rw [List.any_map, Bool.not_eq_true]
    refine List.any_eq_false.mpr fun u hu => ?_
    obtain ⟨h1, h2⟩ := List.mem_filter.mp hu
    have := (L.new hT h1 (by simpa using h2)).2
    show ¬ decide (n < u.2) = true
    rw [decide_eq_true_iff]
    omega
end
end Kb

namespace Kb
open PySem PySem.Spec PyProof.Rows L2 SrtZ SrtO FlX LamX RZ
section
variable {x : Tl} {off : Nat} {Ts : List Ct}
theorem Lsd.mem (L : Lsd x off Ts) {T : Ct} (hT : T ∈ Ts) {f : Str × Int} (hf : f ∈ T) : (∃ e ∈ srtZ x.c, e.1 = f.1 ∧ f.2 = gd T e.1) ∨ f.1 ∉ (srtZ x.c).map (·.1) := by
  by_cases h : f.1 ∈ (srtZ x.c).map (·.1)
  · obtain ⟨e, he, e1⟩ := List.mem_map.mp h
    exact .inl ⟨e, he, e1, by rw [e1]; exact (gd_in (L.tr T hT).nd hf).symm⟩
  · exact .inr h
theorem Lsd.mayB (L : Lsd x off Ts) {M : Int} (hM : IsMx (srtZ x.c) M) : ((srtZ x.c).map (·.1)).filter (mayB Ts) = nmsZ (fun c => decide (M ≤ c + (off : Int))) (srtZ x.c) := filt_keys fun e he => by
  have hM2 : M ∈ (srtZ x.c).map (·.2) ∧ ∀ y ∈ (srtZ x.c).map (·.2), y ≤ M := by
    rcases hM with ⟨h, _⟩ | h
    · rw [h] at he
      cases he
    · exact h
  obtain ⟨m1, m2⟩ := hM2
  unfold Kb.mayB
  by_cases h : M ≤ e.2 + (off : Int)
  · rw [decide_eq_true h, List.any_map]
    obtain ⟨T, hT, a, b, c⟩ := L.one e he
    refine List.any_eq_true.mpr ⟨T, hT, decide_eq_true (mem_tops.mpr ⟨_, L.inT hT he, rfl, fun f hf => ?_⟩)⟩
    show f.2 ≤ gd T e.1
    rw [a]
    have p := L.pos e he
    rcases L.mem hT hf with ⟨e', he', e1, e2⟩ | hn
    · by_cases hee : e'.1 = e.1
      · rw [e2, hee, a]
        exact Int.le_refl _
      · rw [e2, b e' he' hee]
        have := m2 e'.2 (List.mem_map.mpr ⟨e', he', rfl⟩)
        omega
    · have := c f hf hn
      omega
  · rw [decide_eq_false h, List.any_map]
    refine List.any_eq_false.mpr fun T hT hz => h ?_
    obtain ⟨e', he', e1, top⟩ := mem_tops.mp (of_decide_eq_true hz)
    obtain ⟨f, hf, rfl⟩ := List.mem_map.mp m1
    have h1 := (L.low hT hf).1
    have h2 := top _ (L.inT hT hf)
    have h3 : e'.2 = gd T e.1 := by rw [← e1]; exact (gd_in (L.tr T hT).nd he').symm
    have h4 := (L.low hT he).2
    have h2 : gd T f.1 ≤ e'.2 := h2
    omega
theorem Lsd.newB (L : Lsd x off Ts) {M : Int} (hM : IsMx (srtZ x.c) M) : newB ((srtZ x.c).map (·.1)) Ts = (decide ((0 : Int) < (off : Int)) && decide (M ≤ (off : Int))) := by
  unfold Kb.newB
  by_cases h : (0 : Int) < (off : Int) ∧ M ≤ (off : Int)
  · rw [decide_eq_true h.1, decide_eq_true h.2, List.any_map]
    obtain ⟨T, hT, a, b⟩ := L.zero
    obtain ⟨u, hu, u1, u2⟩ := b (by omega)
    refine List.any_eq_true.mpr ⟨T, hT, ?_⟩
    show List.any _ id = true
    rw [List.any_map]
    refine List.any_eq_true.mpr ⟨u.1, mem_tops.mpr ⟨u, hu, rfl, fun f hf => ?_⟩, by show (!decide (u.1 ∈ _)) = true; rw [decide_eq_false u1]; rfl⟩
    rw [u2]
    rcases L.mem hT hf with ⟨e', he', e1, e2⟩ | hn
    · rw [e2, a e' he']
      rcases hM with ⟨h0, _⟩ | ⟨_, m2⟩
      · rw [h0] at he'
        cases he'
      · have := m2 e'.2 (List.mem_map.mpr ⟨e', he', rfl⟩)
        omega
    · exact (L.new hT hf hn).2
  · have e0 : (decide ((0 : Int) < (off : Int)) && decide (M ≤ (off : Int))) = false := by
      cases hb : (decide ((0 : Int) < (off : Int)) && decide (M ≤ (off : Int))) with
      | false => rfl
      | true =>
        rw [Bool.and_eq_true, decide_eq_true_iff, decide_eq_true_iff] at hb
        exact absurd hb h
    rw [e0, List.any_map]
    refine List.any_eq_false.mpr fun T hT => ?_
    show ¬ List.any _ id = true
    rw [List.any_map, Bool.not_eq_true]
    refine List.any_eq_false.mpr fun z hz hzn => h ?_
    have hzn : z ∉ (srtZ x.c).map (·.1) := by simpa using hzn
    obtain ⟨e, he, rfl, top⟩ := mem_tops.mp hz
    obtain ⟨h1, h2⟩ := L.new hT he hzn
    refine ⟨by omega, ?_⟩
    rcases hM with ⟨_, rfl⟩ | ⟨m1, _⟩
    · omega
    · obtain ⟨f, hf, rfl⟩ := List.mem_map.mp m1
      have h3 := (L.low hT hf).1
      have h4 : gd T f.1 ≤ e.2 := top _ (L.inT hT hf)
      omega
/-- surely the first -/
def Fst (kvs : Ct) (off : Nat) (e : Str × Int) : Prop := (∀ f ∈ kvs, f.1 ≠ e.1 → f.2 + (off : Int) < e.2) ∧ (off : Int) < e.2
theorem Lsd.alone (L : Lsd x off Ts) {e : Str × Int} (he : e ∈ srtZ x.c) : aloneB Ts e.1 = true ↔ Fst (srtZ x.c) off e := by
  unfold Kb.aloneB
  rw [List.all_map, List.all_eq_true]
  have p := L.pos e he
  constructor
  · intro h
    have h : ∀ T ∈ Ts, topsZ T = [e.1] := fun T hT => of_decide_eq_true (h T hT)
    refine ⟨fun f hf hne => ?_, ?_⟩
    · obtain ⟨T, hT, a, b, c⟩ := L.one f hf
      have ht := h T hT
      obtain ⟨e', he', e1, top⟩ := mem_tops.mp (show e.1 ∈ topsZ T by rw [ht]; exact List.mem_cons_self)
      have h3 : e'.2 = e.2 := by
        have := (gd_in (L.tr T hT).nd he').symm
        rw [e1, b e he fun z => hne z.symm] at this
        exact this
      have h4 : gd T f.1 ≤ e'.2 := top _ (L.inT hT hf)
      rw [a, h3] at h4
      rcases Int.lt_or_eq_of_le h4 with h5 | h5
      · exact h5
      · have : f.1 ∈ topsZ T := mem_tops.mpr ⟨_, L.inT hT hf, rfl, fun g hg => by
          show g.2 ≤ gd T f.1
          rw [a, h5, ← h3]
          exact top g hg⟩
        rw [ht] at this
        exact absurd (List.mem_singleton.mp this) hne
    · by_cases h0 : 0 < off
      · obtain ⟨T, hT, a, b⟩ := L.zero
        obtain ⟨u, hu, u1, u2⟩ := b h0
        have ht := h T hT
        obtain ⟨e', he', e1, top⟩ := mem_tops.mp (show e.1 ∈ topsZ T by rw [ht]; exact List.mem_cons_self)
        have h3 : e'.2 = e.2 := by
          have := (gd_in (L.tr T hT).nd he').symm
          rw [e1, a e he] at this
          exact this
        have h4 := top u hu
        rw [u2, h3] at h4
        rcases Int.lt_or_eq_of_le h4 with h5 | h5
        · exact h5
        · have : u.1 ∈ topsZ T := mem_tops.mpr ⟨u, hu, rfl, fun g hg => by
            rw [u2, h5, ← h3]
            exact top g hg⟩
          rw [ht] at this
          exact absurd (by rw [List.mem_singleton.mp this]; exact List.mem_map.mpr ⟨e, he, rfl⟩) u1
      · omega
  · rintro ⟨h1, h2⟩ T hT
    refine decide_eq_true (one_of (tops_nd (L.tr T hT).nd) fun y => ?_)
    have low := (L.low hT he).1
    have less : ∀ f ∈ T, f.1 ≠ e.1 → f.2 < gd T e.1 := fun f hf hne => by
      rcases L.mem hT hf with ⟨e', he', e1, e2⟩ | hn
      · have h3 := h1 e' he' (by rw [e1]; exact hne)
        have h4 := (L.low hT he').2
        rw [e2]
        omega
      · have := (L.new hT hf hn).2
        omega
    constructor
    · intro hy
      obtain ⟨f, hf, rfl, top⟩ := mem_tops.mp hy
      by_cases hne : f.1 = e.1
      · exact hne
      · have h3 := less f hf hne
        have h4 : gd T e.1 ≤ f.2 := top _ (L.inT hT he)
        omega
    · rintro rfl
      refine mem_tops.mpr ⟨_, L.inT hT he, rfl, fun f hf => ?_⟩
      show f.2 ≤ gd T e.1
      by_cases hne : f.1 = e.1
      · rw [← hne, gd_in (L.tr T hT).nd hf]
        exact Int.le_refl _
      · have := less f hf hne
        omega
theorem Lsd.sure (L : Lsd x off Ts) : headV (((srtZ x.c).map (·.1)).filter (aloneB Ts)) = sureV (off : Int) (fallBy (·.2) (srtZ x.c)) := by
  have pm : (fallBy (·.2) (srtZ x.c)).Perm (srtZ x.c) := List.mergeSort_perm _ _
  have fall := fallB_fall (srtZ x.c)
  have ndk := L.nd
  have ndf : NdZ (fallBy (·.2) (srtZ x.c)) := (pm.map (·.1)).nodup_iff.mpr ndk
  have hin : ∀ z, z ∈ ((srtZ x.c).map (·.1)).filter (aloneB Ts) ↔ ∃ e ∈ srtZ x.c, e.1 = z ∧ Fst (srtZ x.c) off e := fun z => by
    rw [List.mem_filter]
    constructor
    · rintro ⟨h1, h2⟩
      obtain ⟨e, he, rfl⟩ := List.mem_map.mp h1
      exact ⟨e, he, rfl, (L.alone he).mp h2⟩
    · rintro ⟨e, he, rfl, h⟩
      exact ⟨List.mem_map.mpr ⟨e, he, rfl⟩, (L.alone he).mpr h⟩
  have ndl : (((srtZ x.c).map (·.1)).filter (aloneB Ts)).Nodup := ndk.sublist List.filter_sublist
  have pos := L.pos
  generalize ((srtZ x.c).map (·.1)).filter (aloneB Ts) = al at hin ndl
  generalize srtZ x.c = kvs at pm fall ndf hin pos ndk
  generalize fallBy (·.2) kvs = fs at pm fall ndf
  have mf : ∀ e, e ∈ fs ↔ e ∈ kvs := fun e => pm.mem_iff
  unfold Fall at fall
  rw [List.pairwise_map] at fall
  have nil_of : (∀ z, z ∉ al) → al = [] := fun h => by
    cases al with
    | nil => rfl
    | cons z _ => exact absurd List.mem_cons_self (h z)
  cases fs with
  | nil =>
    rw [nil_of fun z hz => by
      obtain ⟨e, he, _⟩ := (hin z).mp hz
      exact nomatch (mf e).mpr he]
    rfl
  | cons e es =>
    obtain ⟨f1, f2⟩ := List.pairwise_cons.mp fall
    have hek := (mf e).mp List.mem_cons_self
    have pe := pos e hek
    have only : ∀ z, z ∈ al → z = e.1 := fun z hz => by
      obtain ⟨g, hg, rfl, G1, G2⟩ := (hin z).mp hz
      by_cases h : g.1 = e.1
      · exact h
      · have h1 := G1 e hek fun z => h z.symm
        rcases List.mem_cons.mp ((mf g).mpr hg) with rfl | h2
        · exact absurd rfl h
        · have := f1 g h2
          omega
    have yes : Fst kvs off e → headV al = .str e.1 := fun h => by
      rw [one_of (a := e.1) ndl fun y => ⟨only y, fun hy => (hin y).mpr ⟨e, hek, hy.symm, h⟩⟩]
      rfl
    have no : ¬ Fst kvs off e → headV al = .non := fun h => by
      rw [nil_of fun z hz => by
        have h0 := only z hz
        obtain ⟨g, hg, g1, G⟩ := (hin z).mp hz
        have : g = e := by
          have e2 : g.1 = e.1 := g1.trans h0
          have h3 := gd_in ndk hg
          have h4 := gd_in ndk hek
          rw [e2, h4] at h3
          exact Prod.ext e2 h3.symm
        exact h (this ▸ G)]
      rfl
    cases es with
    | nil =>
      show _ = if 0 + (off : Int) < e.2 then V.str e.1 else .non
      by_cases h : 0 + (off : Int) < e.2
      · rw [if_pos h]
        refine yes ⟨fun f hf hne => ?_, by omega⟩
        rw [List.mem_singleton.mp ((mf f).mpr hf)] at hne
        exact absurd rfl hne
      · rw [if_neg h]
        exact no fun z => h (by have := z.2; omega)
    | cons f es =>
      show _ = if f.2 + (off : Int) < e.2 then V.str e.1 else .non
      have hfk := (mf f).mp (List.mem_cons_of_mem _ List.mem_cons_self)
      have pf := pos f hfk
      have fe : f.1 ≠ e.1 := fun z => by
        have := (List.nodup_cons.mp (show (e.1 :: (f :: es).map (·.1)).Nodup from ndf)).1
        exact this (by rw [List.map_cons, z]; exact List.mem_cons_self)
      obtain ⟨f3, _⟩ := List.pairwise_cons.mp f2
      by_cases h : f.2 + (off : Int) < e.2
      · rw [if_pos h]
        refine yes ⟨fun g hg hne => ?_, by omega⟩
        rcases List.mem_cons.mp ((mf g).mpr hg) with rfl | h2
        · exact absurd rfl hne
        · rcases List.mem_cons.mp h2 with rfl | h2
          · exact h
          · have := f3 g h2
            omega
      · rw [if_neg h]
        exact no fun z => h (z.1 f hfk fe)
end
end Kb

namespace Kb
open PySem PySem.Spec PyProof.Rows L2 SrtZ SrtO
/-- each tally of the pile within its bounds, beside its true counts; together they are those of the tree -/
theorem runL_true {r : Int} (hr : 1 ≤ r) : ∀ {l : List Stp} {st : List Tl} {fs : List (Str → Int)} {kc : Ct} {m : Int}, (∀ zs, .put zs ∈ l → ∀ z ∈ zs, Nm z) → (∀ x ∈ st, TlOk r x ∧ Bd r x) → Paired TruF fs st → (∀ k, (fs.map fun f => f k).sum = gd kc k) → (st.map (·.m)).sum = m →
    ∃ gs, Paired TruF gs (l.foldl (stepL r) st) ∧ (∀ x ∈ l.foldl (stepL r) st, Bd r x) ∧ (∀ k, (gs.map fun f => f k).sum = gd (l.foldl cntS kc) k) ∧ ((l.foldl (stepL r) st).map (·.m)).sum = l.foldl cS m
  | [], st, fs, kc, m, _, h, p, s, e => ⟨fs, p, fun x hx => (h x hx).2, s, e⟩
  | t :: l, st, fs, kc, m, hn, h, p, s, e => by
    have hn' : ∀ zs, .put zs ∈ l → ∀ z ∈ zs, Nm z := fun zs hz => hn zs (List.mem_cons_of_mem _ hz)
    cases t with
    | put zs =>
      have hz := hn zs List.mem_cons_self
      have ok := feedsT_ok hr (tl0_ok hr) hz
      obtain ⟨b1, b2⟩ := bd_stream hr hz
      refine runL_true hr (l := l) (st := feedsT r zs tl0 :: st) (fs := (fun k => gd (cntZ zs []) k) :: fs) (kc := cntZ zs kc) (m := m + (zs.length : Nat)) hn' (fun x hx => ?_) (.cons (tru_stream hr (tl0_ok hr) tru0 hz) p) (fun k => ?_) ?_
      · rcases List.mem_cons.mp hx with rfl | hx
        · exact ⟨ok, b1⟩
        · exact h x hx
      · rw [List.map_cons, List.sum_cons, s k, gd_cntZ zs kc k]
        exact Int.add_comm _ _
      · rw [List.map_cons, List.sum_cons, e, b2]
        omega
    | pour =>
      match st, fs, p, h, s, e with
      | [], fs, p, h, s, e => exact runL_true hr (l := l) hn' h p s e
      | [_], fs, p, h, s, e => exact runL_true hr (l := l) hn' h p s e
      | a :: b :: st, _, .cons pa (.cons pb p), h, s, e =>
        rename_i fa fb fs
        obtain ⟨oa, ba⟩ := h a List.mem_cons_self
        obtain ⟨ob, bb⟩ := h b (List.mem_cons_of_mem _ List.mem_cons_self)
        have em : (pourT r a b).m = b.m + a.m := by
          unfold pourT
          dsimp only
          split <;> rfl
        refine runL_true hr (l := l) (st := pourT r a b :: st) (fs := (fun k => fb k + fa k) :: fs) (kc := kc) (m := m) hn' (fun x hx => ?_) (.cons (tru_pour hr ob oa pb pa) p) (fun k => ?_) ?_
        · rcases List.mem_cons.mp hx with rfl | hx
          · exact ⟨pourT_ok ob oa (by omega), bd_pour hr ob oa bb ba⟩
          · exact h x (List.mem_cons_of_mem _ (List.mem_cons_of_mem _ hx))
        · have := s k
          rw [List.map_cons, List.map_cons, List.sum_cons, List.sum_cons] at this
          rw [List.map_cons, List.sum_cons]
          show fb k + fa k + (fs.map fun f => f k).sum = gd kc k
          omega
        · rw [List.map_cons, List.map_cons, List.sum_cons, List.sum_cons] at e
          rw [List.map_cons, List.sum_cons, em]
          omega
theorem cntZ_in {Pn : Str → Prop} : ∀ {zs : List Str} {kc : Ct}, (∀ z ∈ zs, Pn z) → (∀ e ∈ kc, 1 ≤ e.2 ∧ Pn e.1) → ∀ e ∈ cntZ zs kc, 1 ≤ e.2 ∧ Pn e.1
  | [], _, _, h => h
  | z :: zs, kc, hz, h => cntZ_in (zs := zs) (kc := addZ kc z 1) (fun y hy => hz y (List.mem_cons_of_mem _ hy)) fun e he => by
    refine ⟨addZ_pos (fun e he => (h e he).1) (by decide) e he, ?_⟩
    rcases putZ_mem he with he | rfl
    · exact (h e he).2
    · exact hz z List.mem_cons_self
theorem cntT_in {Pn : Str → Prop} : ∀ {l : List Stp} {kc : Ct}, (∀ zs, .put zs ∈ l → ∀ z ∈ zs, Pn z) → (∀ e ∈ kc, 1 ≤ e.2 ∧ Pn e.1) → ∀ e ∈ l.foldl cntS kc, 1 ≤ e.2 ∧ Pn e.1
  | [], _, _, h => h
  | .put zs :: l, kc, hn, h => cntT_in (l := l) (kc := cntZ zs kc) (fun zs hz => hn zs (List.mem_cons_of_mem _ hz)) (cntZ_in (hn zs List.mem_cons_self) h)
  | .pour :: l, kc, hn, h => cntT_in (l := l) (kc := kc) (fun zs hz => hn zs (List.mem_cons_of_mem _ hz)) h
/-- what a drawn tree leads to -/
structure Out (r : Int) (ns : List Str) (st : List Stp) (x x' : Tl) : Prop where
  rt : runT r st = [x]
  rl : runL r st = [x']
  sk : skT x = skT x'
  ok : TlOk r x'
  bd : Bd r x'
  tr : TrOf x' (srtZ (cntT st))
  inn : ∀ e ∈ x'.c, e.1 ∈ ns
  few : x'.m ≤ 40 * 9
theorem tree_out {r : Int} {ns : List Str} {st : List Stp} {i : Nat} (hr : 1 ≤ r) (hns : ∀ z ∈ ns, Nm z) (g : Gr (· ∈ ns) i 1 st) (hi : i ≤ 9) : ∃ x x', Out r ns st x x' := by
  have tr := gr_tree g (by omega)
  have hN : ∀ zs, .put zs ∈ st → ∀ z ∈ zs, Nm z := fun zs hz z hzz => hns z (g.nm zs hz z hzz)
  have hl := run_len (r := r) tr.two st.length (Nat.le_refl _)
  rw [List.take_length, tr.one] at hl
  have hlL := runL_lenT hr hN
  obtain ⟨x, hx⟩ : ∃ x, runT r st = [x] := by
    match h : runT r st, hl with
    | [x], _ => exact ⟨x, rfl⟩
    | [], hl => exact absurd hl (by decide)
    | _ :: _ :: _, hl => exact absurd hl (by simp only [List.length_cons]; omega)
  obtain ⟨x', hx'⟩ : ∃ x, runL r st = [x] := by
    rw [hx] at hlL
    match h : runL r st, hlL with
    | [x], _ => exact ⟨x, rfl⟩
    | [], hl => exact absurd hl (by simp)
    | _ :: _ :: _, hl => exact absurd hl (by simp)
  have hs := runTL (r := r) hr (l := st) (st := []) (st' := []) hN (fun _ h => nomatch h) (fun _ h => nomatch h) rfl
  have hs2 : (runT r st).map skT = (runL r st).map skT := hs
  rw [hx, hx'] at hs2
  injection hs2 with hs2 _
  have ok : TlOk r x' := runL_ok (l := st) (st := []) hr hN (fun _ h => nomatch h) x' (by show x' ∈ runL r st; rw [hx']; exact List.mem_cons_self)
  obtain ⟨gs, p, bd, sm, mm⟩ := runL_true hr (l := st) (st := []) (fs := []) (kc := []) (m := 0) hN (fun _ h => nomatch h) .nil (fun k => rfl) rfl
  have hfl : st.foldl (stepL r) [] = [x'] := hx'
  rw [hfl] at p bd mm
  have cin := cntT_in (Pn := (· ∈ ns)) (l := st) (kc := []) g.nm (fun _ h => nomatch h)
  have ndc := cntT_nd st
  have mx : x'.m = mny st := by
    have : x'.m + 0 = st.foldl cS 0 := mm
    show x'.m = st.foldl cS 0
    omega
  cases p with
  | cons pf pt =>
    rename_i f _
    cases pt
    have hf : ∀ k, f k = gd (cntT st) k := fun k => by
      have : f k + 0 = gd (st.foldl cntS []) k := sm k
      show f k = gd (st.foldl cntS []) k
      omega
    have gS : ∀ k, gd (srtZ (cntT st)) k = gd (cntT st) k := gd_srt ndc
    refine ⟨x, x', hx, hx', hs2, ok, bd x' List.mem_cons_self, ⟨srtZ_asc ndc, srtZ_nd ndc, fun e he => (cin e ((srtZ_perm _).mem_iff.mp he)).1, fun e he => hns _ (cin e ((srtZ_perm _).mem_iff.mp he)).2, fun k => ?_, fun k => ?_, ?_⟩, fun e he => ?_, ?_⟩
    · have := (pf k).1
      rw [hf] at this
      rw [gS]
      omega
    · have := (pf k).2
      rw [hf] at this
      rw [gS]
      exact this
    · rw [sumC_perm' (srtZ_perm _), mx]
      exact sum_cnt st [] 0 List.nodup_nil rfl
    · have h1 := (pf e.1).1
      rw [hf] at h1
      have hg : gd x'.c e.1 = e.2 := by
        unfold gd
        rw [getZ_mem ok.nd he]
        rfl
      have h2 := ok.pos e he
      have h3 : 1 ≤ gd (cntT st) e.1 := by omega
      unfold gd at h3
      cases hz : getZ (cntT st) e.1 with
      | none =>
        rw [hz] at h3
        exact absurd h3 (by decide)
      | some v => exact (cin _ (getZ_in hz)).2
    · rw [mx]
      have := g.few
      omega
theorem Bd.yes {r : Int} {x : Tl} (b : Bd r x) (ok : TlOk r x) (h1 : 1 ≤ r) (h2 : r ≤ 64) : skB r x.m x.o (srtZ x.c) = true := by
  unfold skB
  have hl : (((srtZ x.c).length : Nat) : Int) ≤ r := by
    have := ok.len
    have := (srtZ_perm x.c).length_eq
    omega
  rw [sumC_perm' (srtZ_perm x.c), decide_eq_true h1, decide_eq_true h2, decide_eq_true b.many, decide_eq_true b.off, decide_eq_true hl, decide_eq_true b.low, decide_eq_true b.high]
  rfl
/-! names that are fresh -/
def frL (P P2 : List Nat) (n : Nat) : List Str := S (cs (pnm P 0) ++ [120]) :: (List.range n).map fun k => S ([122, 122] ++ cs (pnm P2 k))
theorem frL_len (P P2 : List Nat) (n : Nat) : (frL P P2 n).length = n + 1 := by
  unfold frL
  rw [List.length_cons, List.length_map, List.length_range]
theorem frL_nm {P P2 : List Nat} {n : Nat} (hP : Pre P) (hP2 : Pre P2) (hn : n ≤ 702) : ∀ z ∈ frL P P2 n, Nm z := fun z hz => by
  rcases List.mem_cons.mp hz with rfl | hz
  · have l0 := pnm_len (k := 0) hP
    refine nm_of (cs_S _) (by rw [List.length_append]; omega) (by rw [List.length_append]; show _ + 1 ≤ 8; omega) fun c hc => ?_
    rcases List.mem_append.mp hc with hc | hc
    · exact pnm_abc hP (by decide) c hc
    · rw [List.mem_singleton.mp hc]
      decide
  · obtain ⟨k, hk, rfl⟩ := List.mem_map.mp hz
    have hk := List.mem_range.mp hk
    have l0 := pnm_len (k := k) hP2
    refine nm_of (cs_S _) (by rw [List.length_append]; show 1 ≤ 2 + _; omega) (by rw [List.length_append]; show 2 + _ ≤ 8; omega) fun c hc => ?_
    rcases List.mem_append.mp hc with hc | hc
    · rcases List.mem_cons.mp hc with rfl | hc
      · decide
      · rw [List.mem_singleton.mp hc]
        decide
    · exact pnm_abc hP2 (by omega) c hc
theorem fr_zz {P : List Nat} (hP : Pre P) {j : Nat} {t : List Nat} : cs (pnm P j) ≠ [122, 122] ++ t ∨ t.length = 0 := by
  rw [pnm_cs]
  by_cases h : t.length = 0
  · exact .inr h
  refine .inl fun e => ?_
  have hl := congrArg List.length e
  rcases hP.is with rfl | rfl | rfl
  · rw [List.length_append, List.length_append, List.length_append] at hl
    split at hl <;> simp only [List.length_append, List.length_cons, List.length_nil] at hl <;> omega
  · simp at e
  · simp at e
theorem frL_nd {P P2 : List Nat} {n : Nat} (hP : Pre P) : (frL P P2 n).Nodup := by
  unfold frL
  rw [List.nodup_cons]
  constructor
  · intro hz
    obtain ⟨k, _, e⟩ := List.mem_map.mp hz
    have e2 := congrArg cs e
    rw [cs_S, cs_S, pnm_cs P 0] at e2
    rcases hP.is with rfl | rfl | rfl
    · simp at e2
    · simp at e2
    · simp at e2
  · rw [List.Nodup, List.pairwise_map]
    refine (List.nodup_range (n := n)).imp fun {a b} h e => h ?_
    have e2 := congrArg cs e
    rw [cs_S, cs_S] at e2
    have e3 := List.append_cancel_left e2
    exact pnm_inj (cs_inj e3)
theorem fr_out {P P2 : List Nat} {n m : Nat} (hP : Pre P) (hP2 : Pre P2) (hm : m ≤ 600) {z : Str} (h1 : z ∈ poolL P m) : z ∉ frL P P2 n := fun h2 => by
  obtain ⟨j, hj, rfl⟩ := List.mem_map.mp h1
  have hj := List.mem_range.mp hj
  rcases List.mem_cons.mp h2 with e | h2
  · have e2 := congrArg cs e
    rw [cs_S, pnm_cs, pnm_cs, show (if 25 < 0 then [97 + (0 / 26 - 1)] else []) = ([] : List Nat) from rfl, List.append_nil, List.append_assoc, List.append_assoc] at e2
    have e3 := List.append_cancel_left e2
    by_cases h25 : 25 < j
    · rw [if_pos h25] at e3
      injection e3 with e4 e5
      injection e5 with e6 _
      omega
    · rw [if_neg h25] at e3
      injection e3 with e4 e5
      cases e5
  · obtain ⟨k, _, e⟩ := List.mem_map.mp h2
    have e2 := congrArg cs e
    rw [cs_S] at e2
    have l2 := pnm_len (k := k) hP2
    rcases fr_zz hP (j := j) (t := cs (pnm P2 k)) with h | h
    · exact h e2.symm
    · omega
end Kb

namespace Kb
open PySem PySem.Spec PyProof.Rows L2 SrtZ SrtO FlX LamX RZ
theorem nm_yy : Nm (Str.ofString "yy") := nm_of (l := [121, 121]) (by decide +kernel) (by decide) (by decide) fun c hc => by
  simp only [List.mem_cons, List.not_mem_nil, or_false] at hc
  omega
/-- names that are in no pool -/
def zzL (P : List Nat) (n : Nat) : List Str := (poolL P n).map fun z => Str.ofString "zz" ++ z
theorem zz_cs (z : Str) : cs (Str.ofString "zz" ++ z) = [122, 122] ++ cs z := by rw [cs_app]; rfl
theorem fs_ok {PP P2 : List Nat} {n m : Nat} (hP : Pre PP) (hP2 : Pre P2) (hn : n ≤ 702) (hm : m ≤ 26) : (zzL P2 n ++ [Str.ofString "yy"]).Nodup ∧ (∀ z ∈ zzL P2 n ++ [Str.ofString "yy"], Nm z) ∧ ∀ z ∈ poolL PP m, z ∉ zzL P2 n ++ [Str.ofString "yy"] := by
  have hyy : cs (Str.ofString "yy") = [121, 121] := rfl
  refine ⟨?_, fun z hz => ?_, fun z hz hf => ?_⟩
  · rw [List.nodup_append]
    refine ⟨?_, by simp, fun a ha b hb e => ?_⟩
    · unfold zzL List.Nodup
      rw [List.pairwise_map]
      exact (poolL_nd P2 n).imp fun {a b} h e => h (cs_inj (by
        have := congrArg cs e
        rw [zz_cs, zz_cs] at this
        exact List.append_cancel_left this))
    · obtain ⟨y, _, rfl⟩ := List.mem_map.mp ha
      rw [List.mem_singleton.mp hb] at e
      have := congrArg cs e
      rw [zz_cs, hyy] at this
      simp at this
  · rcases List.mem_append.mp hz with hz | hz
    · obtain ⟨y, hy, rfl⟩ := List.mem_map.mp hz
      obtain ⟨k, hk, rfl⟩ := List.mem_map.mp hy
      have hk := List.mem_range.mp hk
      obtain ⟨l1, l2⟩ := pnm_len (k := k) hP2
      refine nm_of (zz_cs _) (by rw [List.length_append]; omega) (by rw [List.length_append]; show 2 + _ ≤ 8; omega) fun c hc => ?_
      rcases List.mem_append.mp hc with hc | hc
      · simp at hc
        omega
      · exact pnm_abc hP2 (by omega) c hc
    · rw [List.mem_singleton.mp hz]
      exact nm_yy
  · obtain ⟨k, hk, rfl⟩ := List.mem_map.mp hz
    have hk := List.mem_range.mp hk
    rcases List.mem_append.mp hf with hf | hf
    · obtain ⟨y, hy, e⟩ := List.mem_map.mp hf
      obtain ⟨j, hj, rfl⟩ := List.mem_map.mp hy
      have e := congrArg cs e
      rw [zz_cs] at e
      obtain ⟨l1, l2⟩ := pnm_len (k := j) hP2
      rcases fr_zz hP (j := k) (t := cs (pnm P2 j)) with h | h
      · exact h e.symm
      · omega
    · have e := congrArg cs (List.mem_singleton.mp hf)
      rw [pnm_cs, hyy, if_neg (by omega)] at e
      rcases hP.is with rfl | rfl | rfl
      · have := congrArg List.length e
        simp at this
      · simp at e
      · simp at e


/-! what stays -/
section
variable {K : PySem.W.Frag} {a c P : Addr} {H H' : Hp}
structure EnvG (a c P sk : Addr) (r : Int) (x : Tl) (H : Hp) : Prop where
  w : Wl a c H
  tab : TabS H P qFall
  sk : SkA H sk r x
variable {sk : Addr} {r : Int} {x : Tl}
theorem EnvG.exw (E : EnvG a c P sk r x H) (y : Exw a H H') (w' : Wl a c H') : EnvG a c P sk r x H' := ⟨w', tabS_exw E.tab y E.w, ⟨E.sk.at_.exw y E.w, E.sk.ok, E.sk.g⟩⟩
theorem EnvG.ext (E : EnvG a c P sk r x H) (y : ExT P qFall H H') : EnvG a c P sk r x H' := ⟨E.w.ext E.tab y, y.tab, ⟨E.sk.at_.extT E.tab y, E.sk.ok, E.sk.g⟩⟩
theorem EnvG.same (E : EnvG a c P sk r x H) (y : Same H H') : EnvG a c P sk r x H' := E.ext (FlX.Same.exT y E.tab)
structure EnvV (a c P sk : Addr) (r : Int) (x : Tl) (ev : Addr) (ks : List Addr) (Ts : List Ct) (H : Hp) : Prop where
  g : EnvG a c P sk r x H
  eva : ev ≠ a
  ev : H ev = some (.lst (ks.map V.ref))
  all : Paired (TupC H) ks Ts
variable {ev : Addr} {ks : List Addr} {Ts : List Ct}
theorem EnvV.exw (E : EnvV a c P sk r x ev ks Ts H) (y : Exw a H H') (w' : Wl a c H') : EnvV a c P sk r x ev ks Ts H' := ⟨E.g.exw y w', E.eva, y _ _ E.eva E.ev, paired_imp (fun _ _ h => h.exw y E.g.w) E.all⟩
theorem EnvV.ext (E : EnvV a c P sk r x ev ks Ts H) (y : ExT P qFall H H') : EnvV a c P sk r x ev ks Ts H' := ⟨E.g.ext y, E.eva, y.at E.g.tab E.ev (by intro _ z; cases z), paired_imp (fun _ _ h => h.extT E.g.tab y) E.all⟩
theorem EnvV.same (E : EnvV a c P sk r x ev ks Ts H) (y : Same H H') : EnvV a c P sk r x ev ks Ts H' := E.ext (FlX.Same.exT y E.g.tab)
end
/-! the data that are compared -/
abbrev dN (l : List Str) : PyData := .tuple (l.map PyData.str)
abbrev dB (l : List Str) (b : Bool) : PyData := .tuple [dN l, .bool b]
theorem dp_N {K : PySem.W.Frag} {H : Hp} {p : Addr} {l : List Str} (h : Ptp H p (l.map V.str)) : Dp K H (.ref p) (dN l) := .tup h.seq (dp_strs l)
theorem dp_B {K : PySem.W.Frag} {H : Hp} {p t : Addr} {l : List Str} {b : Bool} (h : H p = some (.tup [.ref t, .bl b])) (ht : Ptp H t (l.map V.str)) : Dp K H (.ref p) (dB l b) := .tup (.inl (.inl h)) (.cons (dp_N ht) (.cons (.bl b) .nil))
theorem eqvAll_strs : ∀ l : List Str, PyData.eqvAll (l.map PyData.str) (l.map PyData.str) = true := fun l => (eqv_strs l l).mpr rfl
theorem eqv_B (l : List Str) (b : Bool) : PyData.eqv (dB l b) (dB l b) = true := by
  show (PyData.eqvAll (l.map PyData.str) (l.map PyData.str) && ((b == b) && true)) = true
  rw [eqvAll_strs, beq_self_eq_true]
  rfl
theorem shaped_two {d : PyData} {l : List Str} {b : Bool} (h : ∀ z ∈ l, Nm z) (h1 : PyData.canLay0 d = true) (h2 : PyData.depth d ≤ 1) : SeqAt.shaped (.tuple [d, dB l b]) = true := by
  obtain ⟨l1, l2⟩ := lay_strs h
  show ((PyData.canLay0 d && (((PyData.canLayAll0 (l.map PyData.str) && (true && true)) && true))) && decide (max (PyData.depth d) (max (max (PyData.depthAll (l.map PyData.str) + 1) (max 0 0) + 1) 0) + 1 ≤ 64)) = true
  rw [h1, l1, l2, decide_eq_true (by omega)]
  rfl
end Kb

namespace Kb
open PySem PySem.Spec PyProof.Rows L2 SrtZ SrtO FlX LamX RZ
abbrev slaw : Stmt := topS 41
abbrev Nlaw : List Str := ["_law_script", "_law_hand_here", "_law_turn", "_law_sketch_here", "_law_every", "_law_most", "_law_room", "_law_great", "_law_fresh", "_law_again", "_law_truth_here", "_law_names", "_law_others", "_law_above_here", "_law_kept", "_law_name", "_law_count"]
theorem sclaw : FnScope ["_law_script", "_law_hand_here", "_law_turn", "_law_sketch_here", "_law_every", "_law_most", "_law_room", "_law_great", "_law_fresh", "_law_again", "_law_truth_here", "_law_names", "_law_others", "_law_above_here", "_law_kept", "_law_name", "_law_count"] ["_law_script"] (defScope slaw) := ⟨rfl, rfl, rfl, by decide +kernel, rfl, by decide +kernel, by decide +kernel⟩
abbrev Dnlaw (K : PySem.W.Frag) (mg : Str → Option Value) := Dn K mg "law" slaw ["_law_script"]
theorem same_two {d : PyData} {l : List Str} {b : Bool} (h : PyData.eqv d d = true) : PyData.eqv (.tuple [d, dB l b]) (.tuple [d, dB l b]) = true := by
  show (PyData.eqv d d && (PyData.eqv (dB l b) (dB l b) && true)) = true
  rw [h, eqv_B]
  rfl
theorem eqv_N (l : List Str) : PyData.eqv (dN l) (dN l) = true := eqvAll_strs l
theorem shaped_N {l1 l : List Str} {b : Bool} (h1 : ∀ z ∈ l1, Nm z) (h : ∀ z ∈ l, Nm z) : SeqAt.shaped (.tuple [dN l1, dB l b]) = true := by
  obtain ⟨a1, a2⟩ := lay_strs h1
  exact shaped_two h a1 (by show PyData.depthAll (l1.map PyData.str) + 1 ≤ 1; omega)
structure Defs (K : PySem.W.Frag) (mg : Str → Option Value) (base : Heap) where
  A : DefsA K mg base
  n_any : mg "any" = none
  dP_surely_above : DnSurelyAbove K mg
  dP_perhaps_above : DnPerhapsAbove K mg
  dP_surely_first : DnSurelyFirst K mg
  dP_perhaps_first : DnPerhapsFirst K mg
  dhand : Dnhand K mg
  ddraw : Dndraw K mg
  dany : Dnany K mg
  dpool : Dnpool K mg
  dfed : Dnfed K mg
  dpoured : Dnpoured K mg
  dsketch : Dnsketch K mg
  dtree : Dntree K mg
  dlost : Dnlost K mg
  dtruth : Dntruth K mg
  dsmall : Dnsmall K mg
  dparts : Dnparts K mg
  dtruths : Dntruths K mg
  dtops : Dntops K mg
  dabove : Dnabove K mg
  dfirst : Dnfirst K mg
def spLaw (K : PySem.W.Frag) (Pt : Addr) : Sp := fun vs H Q _ => ∃ (a : Addr) (ns : List Int), vs = [.ref a] ∧ SqL K H a (ns.map V.int) ∧ ns.length ≤ 63 ∧ TabS H Pt qFall ∧ ∀ H', Q (.bl true) H'
section
variable {P : Program} {w : World} {K : PySem.W.Frag} {mg : Str → Option Value} {base : Heap}
theorem ok_law (F : Defs K mg base) (d : Dnlaw K mg) : FnOk P w K mg base CX0 15 d.f d.fd ["_law_script"] (spLaw K F.A.F.P) := by
  obtain ⟨A0, n_any, dP_surely_above, dP_perhaps_above, dP_surely_first, dP_perhaps_first, dhand, ddraw, dany, dpool, dfed, dpoured, dsketch, dtree, dlost, dtruth, dsmall, dparts, dtruths, dtops, dabove, dfirst⟩ := F
  dsimp only
  have T := A0.T
  have Ghand : FnOk P w K mg base CX0 1 dhand.f dhand.fd ["_law_script"] (spHand K) := ok_hand T dhand
  have Gdraw : FnOk P w K mg base CX0 1 ddraw.f ddraw.fd ["_law_hand_here", "_law_many"] spDraw := ok_draw T ddraw
  have Gpool : FnOk P w K mg base CX0 3 dpool.f dpool.fd ["_law_hand_here", "_law_many"] spPool := ok_pool T ddraw dany dpool
  have Gtree : FnOk P w K mg base CX0 3 dtree.f dtree.fd ["_law_hand_here", "_law_pool_here", "_law_streams", "_law_most"] (spTree K) := ok_tree T ddraw dany dtree
  have Gsketch : FnOk P w K mg base CX0 2 dsketch.f dsketch.fd ["_law_room", "_law_tree_here"] (spSketchL K) := ok_sketchL T dfed dpoured dsketch
  have Glost : FnOk P w K mg base CX0 1 dlost.f dlost.fd ["_law_sketch_here"] spLost := ok_lost T dlost
  have Gtruth : FnOk P w K mg base CX0 3 dtruth.f dtruth.fd ["_law_hand_here", "_law_sketch_here", "_law_fresh"] spTruth := ok_truth T ddraw dany dlost dtruth
  have Gsmall : FnOk P w K mg base CX0 4 dsmall.f dsmall.fd ["_law_hand_here", "_law_most"] spSmall := ok_small T ddraw dany dpool dsmall
  have Gtruths : FnOk P w K mg base CX0 14 dtruths.f dtruths.fd ["_law_sketch_here", "_law_named"] (spTruths K) := ok_truths T dlost dparts dtruths
  have Gabove : FnOk P w K mg base CX0 1 dabove.f dabove.fd ["_law_sketch_here", "_law_most", "_law_every"] (spAbove K) := ok_above T n_any dabove
  have Gfirst : FnOk P w K mg base CX0 2 dfirst.f dfirst.fd ["_law_sketch_here", "_law_every"] (spFirst K) := ok_first T n_any dtops dfirst
  have GP_surely_above : FnOk P w K mg base CX0 5 dP_surely_above.f dP_surely_above.fd ["sketch", "most"] (spSurelyAbove K) := ok_surely_above A0 dP_surely_above
  have GP_perhaps_above : FnOk P w K mg base CX0 5 dP_perhaps_above.f dP_perhaps_above.fd ["sketch", "most"] (spPerhapsAbove K) := ok_perhaps_above A0 dP_perhaps_above
  have GP_surely_first : FnOk P w K mg base CX0 5 dP_surely_first.f dP_surely_first.fd ["sketch"] (spSurelyFirst K A0.F.P) := ok_surely_first A0 dP_surely_first
  have GP_perhaps_first : FnOk P w K mg base CX0 5 dP_perhaps_first.f dP_perhaps_first.fd ["sketch"] (spPerhapsFirst K) := ok_perhaps_first A0 dP_perhaps_first
  refine d.F.ok sclaw (fun vs H Q X h => ?_) (fun cdv A outer s H vs Q X hr h => ?_)
  · obtain ⟨a, ns, rfl, _⟩ := h
    rfl
  · obtain ⟨sc, nsc, rfl, hSc, hscl, T0, q⟩ := h
    have hu := hu_of hr
    refine ⟨_, (pss_cons (ps_set (i := 1) sclaw.nd rfl (Or.inl rfl) (pe_call Ghand (hr.mono (by omega)) (by rfl) dhand.g dhand.F.kp dhand.b .nil pass0 (pa_cons (pv 0) pa_nil)))
    (pss_cons (ps_for PassesOwn.never rfl (pi_range1 (by rfl) T.n_range (pa_cons pe_int pa_nil)) (pg_name (i := 2) sclaw.nd rfl (Or.inl rfl))
      (pss_cons (ps_set (i := 3) sclaw.nd rfl (Or.inl rfl) (pe_call Gsmall (hr.mono (by omega)) (by rfl) dsmall.g dsmall.F.kp dsmall.b .nil pass0 (pa_cons (pv 1) (pa_cons pe_int pa_nil))))
      (pss_cons (ps_set (i := 4) sclaw.nd rfl (Or.inl rfl) (pe_call Gtruths (hr.mono (by omega)) (by rfl) dtruths.g dtruths.F.kp dtruths.b .nil pass0 (pa_cons (pv 3) (pa_cons (pe_lst pa_nil) pa_nil))))
      (pss_cons (ps_for PassesOwn.never rfl (pi_range1 (by rfl) T.n_range (pa_cons (pe_call Gdraw (hr.mono (by omega)) (by rfl) ddraw.g ddraw.F.kp ddraw.b .nil pass0 (pa_cons (pv 1) (pa_cons pe_int pa_nil))) pa_nil)) (pg_name (i := 5) sclaw.nd rfl (Or.inr rfl))
        (pss_one (ps_if (pt_cmpR (op_neD hr.units) (pe_tup (pa_cons (pe_call GP_surely_above (hr.mono (by omega)) (by rfl) dP_surely_above.g dP_surely_above.F.kp dP_surely_above.b .nil pass0 (pa_cons (pv 3) (pa_cons (pv 5) pa_nil))) (pa_cons (pe_call GP_perhaps_above (hr.mono (by omega)) (by rfl) dP_perhaps_above.g dP_perhaps_above.F.kp dP_perhaps_above.b .nil pass0 (pa_cons (pv 3) (pa_cons (pv 5) pa_nil))) pa_nil))) (pe_call Gabove (hr.mono (by omega)) (by rfl) dabove.g dabove.F.kp dabove.b .nil pass0 (pa_cons (pv 3) (pa_cons (pv 5) (pa_cons (pv 4) pa_nil)))) (nomark _))
          (pss_one (ps_ret pe_bl))
          pss_nil)))
      (pss_cons (ps_if (pt_cmpR (op_neD hr.units) (pe_tup (pa_cons (pe_call GP_surely_first (hr.mono (by omega)) (by rfl) dP_surely_first.g dP_surely_first.F.kp dP_surely_first.b .nil pass0 (pa_cons (pv 3) pa_nil)) (pa_cons (pe_call GP_perhaps_first (hr.mono (by omega)) (by rfl) dP_perhaps_first.g dP_perhaps_first.F.kp dP_perhaps_first.b .nil pass0 (pa_cons (pv 3) pa_nil)) pa_nil))) (pe_call Gfirst (hr.mono (by omega)) (by rfl) dfirst.g dfirst.F.kp dfirst.b .nil pass0 (pa_cons (pv 3) (pa_cons (pv 4) pa_nil))) (nomark _))
        (pss_one (ps_ret pe_bl))
        pss_nil)
      (pss_cons (ps_set (i := 6) sclaw.nd rfl (Or.inl rfl) (pe_op op_add pe_int (pe_call Gdraw (hr.mono (by omega)) (by rfl) ddraw.g ddraw.F.kp ddraw.b .nil pass0 (pa_cons (pv 1) (pa_cons pe_int pa_nil)))))
      (pss_cons (ps_set (i := 7) sclaw.nd rfl (Or.inl rfl) (pe_call Gsketch (hr.mono (by omega)) (by rfl) dsketch.g dsketch.F.kp dsketch.b .nil pass0 (pa_cons (pv 6) (pa_cons (pe_call Gtree (hr.mono (by omega)) (by rfl) dtree.g dtree.F.kp dtree.b .nil pass0 (pa_cons (pv 1) (pa_cons (pe_call Gpool (hr.mono (by omega)) (by rfl) dpool.g dpool.F.kp dpool.b .nil pass0 (pa_cons (pv 1) (pa_cons (pe_op op_add pe_int (pe_call Gdraw (hr.mono (by omega)) (by rfl) ddraw.g ddraw.F.kp ddraw.b .nil pass0 (pa_cons (pv 1) (pa_cons (pe_op op_mul pe_int (pv 6)) pa_nil)))) pa_nil))) (pa_cons pe_int (pa_cons pe_int pa_nil))))) pa_nil))))
      (pss_cons (ps_setLc (i := 8) (own := [("_law_name", 15)]) (g := gName 15) (tt := tYes) rfl sclaw.nd rfl rfl (sw_true rfl rfl rfl (by decide +kernel)) (pi_list (pe_call Gpool (hr.mono (by omega)) (by rfl) dpool.g dpool.F.kp dpool.b .nil pass0 (pa_cons (pv 1) (pa_cons (pe_op op_add pe_int (pe_call Glost (hr.mono (by omega)) (by rfl) dlost.g dlost.F.kp dlost.b .nil pass0 (pa_cons (pv 7) pa_nil))) pa_nil)))) (blkOk_by (N := Nlaw) (sc := defScope slaw) (by decide +kernel)) (fun _ _ _ _ _ => pg_name (i := 15) sclaw.nd rfl (Or.inl rfl)) (fun _ _ _ _ _ => pts_nil) (fun _ _ _ _ _ => (pe_op op_add_str pe_str (pv 15))))
      (pss_cons (ps_asg (pe_call Gdraw (hr.mono (by omega)) (by rfl) ddraw.g ddraw.F.kp ddraw.b .nil pass0 (pa_cons (pv 1) (pa_cons pe_int pa_nil))) (pg_name (i := 5) sclaw.nd rfl (Or.inr rfl)))
      (pss_one (ps_for PassesOwn.never rfl (pi_range1 (by rfl) T.n_range (pa_cons pe_int pa_nil)) (pg_name (i := 9) sclaw.nd rfl (Or.inl rfl))
        (pss_cons (ps_asg (pe_callTy (call_dictPT rfl) (by rfl) T.n_dict (by decide +kernel) (pa_cons (pe_call Gtruth (hr.mono (by omega)) (by rfl) dtruth.g dtruth.F.kp dtruth.b .nil pass0 (pa_cons (pv 1) (pa_cons (pv 7) (pa_cons (pv 8) pa_nil)))) pa_nil)) (pg_name (i := 10) sclaw.nd rfl (Or.inr rfl)))
        (pss_cons (ps_asg (pe_call GP_perhaps_above (hr.mono (by omega)) (by rfl) dP_perhaps_above.g dP_perhaps_above.F.kp dP_perhaps_above.b .nil pass0 (pa_cons (pv 7) (pa_cons (pv 5) pa_nil))) (pg_tup (by rfl) (pgs_cons (pg_name (i := 11) sclaw.nd rfl (Or.inr rfl)) (pgs_cons (pg_name (i := 12) sclaw.nd rfl (Or.inr rfl)) pgs_nil))))
        (pss_cons (ps_lock (ps_asg (pe_lc (own := [("_law_name", 15)]) (g := gName 15) rfl sclaw.nd (pi_keys (pv 10)) (blkOk_by (N := Nlaw) (sc := defScope slaw) (by decide +kernel)) (fun _ _ _ _ _ => pg_name (i := 15) sclaw.nd rfl (Or.inl rfl)) (fun _ _ _ _ _ => pts_one (pt_cmpR op_gt (pe_dget hu (pv 10) (pv 15) (fun _ _ => rfl)) (pv 5) (nomark _))) (fun _ _ _ _ _ => (pv 15))) (pg_name (i := 13) sclaw.nd rfl (Or.inr rfl))))
        (pss_cons (ps_asg (pe_lc (own := [("_law_name", 15), ("_law_count", 16)]) (g := gTup K 2 (gCons (gName 15) (gCons (gName 16) gNil))) (tt := tYes) rfl sclaw.nd (pi_tup (pe_ix ix_tup (pv 7) pe_int (fun _ _ => rfl))) (blkOk_by (N := Nlaw) (sc := defScope slaw) (by decide +kernel)) (fun _ _ _ _ _ => pg_tup (by rfl) (pgs_cons (pg_name (i := 15) sclaw.nd rfl (Or.inl rfl)) (pgs_cons (pg_name (i := 16) sclaw.nd rfl (Or.inl rfl)) pgs_nil))) (fun _ _ _ _ _ => pts_nil) (fun _ _ _ _ _ => (pv 15))) (pg_name (i := 14) sclaw.nd rfl (Or.inr rfl)))
        (pss_cons (ps_if (pt_not (pt_val (pe_callB (cr_all rfl) (by rfl) T.n_all (by decide +kernel) (pa_cons (pe_lc (own := [("_law_name", 15)]) (g := gName 15) (tt := tYes) rfl sclaw.nd (pi_tup (pe_call GP_surely_above (hr.mono (by omega)) (by rfl) dP_surely_above.g dP_surely_above.F.kp dP_surely_above.b .nil pass0 (pa_cons (pv 7) (pa_cons (pv 5) pa_nil)))) (blkOk_by (N := Nlaw) (sc := defScope slaw) (by decide +kernel)) (fun _ _ _ _ _ => pg_name (i := 15) sclaw.nd rfl (Or.inl rfl)) (fun _ _ _ _ _ => pts_nil) (fun _ _ _ _ _ => (pe_cmpR (op_inK (K := K) rfl) (pv 15) (pv 13) rfl))) pa_nil))))
          (pss_one (ps_ret pe_bl))
          pss_nil)
        (pss_one (ps_if (pt_not (pt_val (pe_callB (cr_all rfl) (by rfl) T.n_all (by decide +kernel) (pa_cons (pe_lc (own := [("_law_name", 15)]) (g := gName 15) (tt := tYes) rfl sclaw.nd (pi_list (pv 13)) (blkOk_by (N := Nlaw) (sc := defScope slaw) (by decide +kernel)) (fun _ _ _ _ _ => pg_name (i := 15) sclaw.nd rfl (Or.inl rfl)) (fun _ _ _ _ _ => pts_nil) (fun _ _ _ _ _ => (pe_ifExp (pt_cmpR (op_inK (K := K) rfl) (pv 15) (pv 14) rfl) (pe_cmpR (op_inK (K := K) rfl) (pv 15) (pv 11) rfl) (pv 12)))) pa_nil))))
          (pss_one (ps_ret pe_bl))
          pss_nil))))))))))))))))))
    (pss_one (ps_ret pe_bl)))), ?_⟩
    refine ⟨.ref sc, rfl, sc, nsc, rfl, hSc, hscl, fun H1 a c s1 _ w1 => ?_⟩
    have T1 := tabS_same T0 s1
    refine ⟨3, rfl, by decide, by decide, ?_⟩
    refine for_range (lo := 0) (n := 3) (fun i σ H2 => ∃ y2 y3 y4 y5 y6 y7 y8 y9 y10 y11 y12 y13 y14 y15 y16 : Option V, σ = [some (.ref sc), some (.ref a), y2, y3, y4, y5, y6, y7, y8, y9, y10, y11, y12, y13, y14, y15, y16] ∧ Wl a c H2 ∧ TabS H2 A0.F.P qFall)
      ⟨_, _, _, _, _, _, _, _, _, _, _, _, _, _, _, rfl, w1, T1⟩ ?_ ?_
    · rintro i σ H2 hi ⟨y2, y3, y4, y5, y6, y7, y8, y9, y10, y11, y12, y13, y14, y15, y16, rfl, w2, T2⟩
      clear w1 T1
      refine ⟨.ref a, rfl, a, c, rfl, w2, fun H3 sk r x off lost x3 w3 ska sm => ?_⟩
      have E3 : EnvG a c A0.F.P sk r x H3 := ⟨w3, tabS_exw T2 x3 w2, ska⟩
      have ok := ska.ok
      have g := ska.g
      have r64 := g.r64
      have cl := sm.len
      have sl : (srtZ x.c).length = x.c.length := (srtZ_perm x.c).length_eq
      have mS : ∀ e, e ∈ srtZ x.c ↔ e ∈ x.c := fun e => (srtZ_perm x.c).mem_iff
      clear w2 T2 x3 w3 ska
      -- all truths
      refine ⟨.ref sk, rfl, (by show 0 ≤ sizeLine; decide), fun L0 nL0 => ?_⟩
      have E4 := E3.same (same_upd (o := .lst []) nL0)
      have hL0 : (upd H3 L0 (.lst [])) L0 = some (.lst (([] : List Str).map V.str)) := upd_same
      generalize upd H3 L0 (.lst []) = H4 at E4 hL0 ⊢
      refine ⟨sk, L0, r, x, [], x.c.map (·.1), off, lost, rfl, E4.sk.at_, ok, by omega, sm.o, sm.o3, sm.lo, sm.l12, .inl (sql hL0), by decide, by rw [List.length_map]; omega, fun e he => List.mem_map.mpr ⟨e, he, rfl⟩, (fun _ h => nomatch h), fun z hz => (by obtain ⟨e, he, rfl⟩ := List.mem_map.mp hz; exact ⟨ok.nm e he, sm.zz e he⟩), fun H5 ev ks ns s5 nev hev nok nsb _ hks few => ?_⟩
      have L := lsd_of ok g sm nok fun z hz => (by obtain ⟨e, he, rfl⟩ := List.mem_map.mp (nsb z hz); exact List.mem_map.mpr ⟨e, (mS e).mpr he, rfl⟩)
      generalize listZ (srtZ x.c) ns off lost = Ts at hks L
      have E5 : EnvV a c A0.F.P sk r x ev ks Ts H5 := ⟨E4.same s5, (E4.w.ne2 nev).1, hev, hks⟩
      clear E3 E4 hL0 nok nsb hev hks s5 nev
      have len : ∀ T ∈ Ts, T.length ≤ 1000 := fun T hT => by
        have h := L.tr T hT
        have h1 := len_le_sum h.pos
        rw [h.sum] at h1
        have := sm.m
        omega
      have kn : ∀ e ∈ srtZ x.c, Nm e.1 := fun e he => ok.nm e ((mS e).mp he)
      have hTs : ∀ T ∈ Ts, NdZ T ∧ T.length ≤ 1000 ∧ ∀ e ∈ srtZ x.c, e.1 ∈ T.map (·.1) := fun T hT => ⟨(L.tr T hT).nd, len T hT, fun e he => List.mem_map.mpr ⟨_, L.inT hT he, rfl⟩⟩
      have hTn : ∀ T ∈ Ts, T.length ≤ 1000 ∧ ∀ e ∈ T, Nm e.1 := fun T hT => ⟨len T hT, (L.tr T hT).nm⟩
      have nmZ : ∀ f : Int → Bool, ∀ z ∈ nmsZ f (srtZ x.c), Nm z := fun f z hz => by
        obtain ⟨e, he, rfl⟩ := List.mem_map.mp hz
        exact kn e (List.mem_filter.mp he).1
      -- above
      refine ⟨.ref a, rfl, a, c, 9, rfl, E5.g.w, (by decide), (by decide), fun H6 n x6 w6 n0 n1 => ⟨n, rfl, by omega, by omega, ?_⟩⟩
      have E6 := E5.exw x6 w6
      clear E5 x6 w6
      refine for_range (lo := 0) (n := n.toNat) (fun j σ H7 => ∃ y5 : Option V, σ = [some (.ref sc), some (.ref a), some (.int (0 + (i : Int))), some (.ref sk), some (.ref ev), y5, y6, y7, y8, y9, y10, y11, y12, y13, y14, y15, y16] ∧ EnvV a c A0.F.P sk r x ev ks Ts H7)
        ⟨_, rfl, E6⟩ ?_ ?_
      · rintro j σ H7 hj ⟨y5, rfl, E7⟩
        clear E6
        obtain ⟨nj, hnj⟩ : ∃ nj : Int, nj = 0 + (j : Int) := ⟨_, rfl⟩
        rw [← hnj]
        have nj0 : 0 ≤ nj := by omega
        refine ⟨.ref sk, rfl, .int nj, rfl, sk, r, x.m, x.o, srtZ x.c, nj, rfl, SkC.of E7.g.sk.at_, g, nj0, fun H8 p1 s8 hp1 => ?_⟩
        have E8 := E7.same s8
        refine ⟨.ref sk, rfl, .int nj, rfl, sk, r, x.m, x.o, srtZ x.c, nj, rfl, SkC.of E8.g.sk.at_, g, nj0, fun H9 p2 t2 s9 hp2 ht2 => ⟨(by show 2 ≤ sizeLine; decide), fun p3 np3 => ?_⟩⟩
        have E9 := E8.same s9
        have s10 := same_upd (o := .tup [.ref p1, .ref p2]) np3
        have hp3 : (upd H9 p3 (.tup [.ref p1, .ref p2])) p3 = some (.tup [.ref p1, .ref p2]) := upd_same
        generalize upd H9 p3 (.tup [.ref p1, .ref p2]) = H10 at s10 hp3 ⊢
        have E10 := E9.same s10
        have hp1' := (hp1.same s9).same s10
        have hp2' := s10 _ _ hp2
        have ht2' := ht2.same s10
        refine ⟨.ref sk, rfl, .int nj, rfl, .ref ev, rfl, sk, r, x.m, x.o, srtZ x.c, nj, ev, ks, Ts, rfl, SkC.of E10.g.sk.at_, by omega, E10.ev, few, E10.all, hTs, fun H11 p4 a4 b4 c4 s11 hp4 hb4 ha4 hc4 => ?_⟩
        rw [L.newA nj0] at hb4
        rw [L.allA] at ha4
        rw [L.anyA] at hc4
        rw [L.o] at hp2' ht2'
        refine ⟨.tuple [dN (nmsZ (fun c => decide (nj < c)) (srtZ x.c)), dB (nmsZ (fun c => decide (nj < c + (off : Int))) (srtZ x.c)) (decide (nj < (off : Int)))], .tuple [dN (nmsZ (fun c => decide (nj < c)) (srtZ x.c)), dB (nmsZ (fun c => decide (nj < c + (off : Int))) (srtZ x.c)) (decide (nj < (off : Int)))], .tup (.inl (.inl (s11 _ _ hp3))) (.cons (dp_N (hp1'.same s11)) (.cons (dp_B (s11 _ _ hp2') (ht2'.same s11)) .nil)), .tup (.inl (.inl hp4)) (.cons (dp_N ha4) (.cons (dp_B hb4 hc4) .nil)), ?_⟩
        refine ⟨shaped_N (nmZ _) (nmZ _), shaped_N (nmZ _) (nmZ _), _, rfl, ?_⟩
        rw [same_two (eqv_N _)]
        exact iteF ⟨_, rfl, E10.same s11⟩
      · rintro σ H7 ⟨y5, rfl, E7⟩
        clear E6
        -- first
        refine ⟨.ref sk, rfl, sk, r, x.m, x.o, srtZ x.c, rfl, SkC.of E7.g.sk.at_, g, E7.g.tab, fun H8 x8 => ?_⟩
        have E8 := E7.ext x8
        refine ⟨.ref sk, rfl, sk, r, x.m, x.o, srtZ x.c, rfl, SkC.of E8.g.sk.at_, g, fun H9 p2 t2 M s9 hM hp2 ht2 => ⟨(by show 2 ≤ sizeLine; decide), fun p3 np3 => ?_⟩⟩
        have E9 := E8.same s9
        have hvv : sureV x.o (fallBy (·.2) (srtZ x.c)) = .non ∨ ∃ z, sureV x.o (fallBy (·.2) (srtZ x.c)) = .str z ∧ Nm z := by
          rw [L.o, ← L.sure]
          cases hal : ((srtZ x.c).map (·.1)).filter (aloneB Ts) with
          | nil => exact .inl rfl
          | cons z zs =>
            refine .inr ⟨z, rfl, ?_⟩
            have hz : z ∈ ((srtZ x.c).map (·.1)).filter (aloneB Ts) := by rw [hal]; exact List.mem_cons_self
            obtain ⟨e, he, rfl⟩ := List.mem_map.mp (List.mem_filter.mp hz).1
            exact kn e he
        have hsv := L.sure
        rw [← L.o] at hsv
        generalize sureV x.o (fallBy (·.2) (srtZ x.c)) = v at hvv hsv np3 ⊢
        have s10 := same_upd (o := .tup [v, .ref p2]) np3
        have hp3 : (upd H9 p3 (.tup [v, .ref p2])) p3 = some (.tup [v, .ref p2]) := upd_same
        generalize upd H9 p3 (.tup [v, .ref p2]) = H10 at s10 hp3 ⊢
        have E10 := E9.same s10
        have hp2' := s10 _ _ hp2
        have ht2' := ht2.same s10
        refine ⟨.ref sk, rfl, .ref ev, rfl, sk, r, x.m, x.o, srtZ x.c, ev, ks, Ts, rfl, SkC.of E10.g.sk.at_, by omega, kn, E10.ev, few, E10.all, hTn, fun H11 p4 b4 c4 s11 hp4 hb4 hc4 => ?_⟩
        rw [hsv] at hp4
        rw [L.newB hM] at hb4
        rw [L.mayB hM] at hc4
        rw [L.o] at hp2' ht2'
        have E11 := E10.same s11
        obtain ⟨dv, dv1, dv2, dv3, dv4⟩ : ∃ dv : PyData, (∀ H : Hp, Dp K H v dv) ∧ PyData.canLay0 dv = true ∧ PyData.depth dv ≤ 1 ∧ PyData.eqv dv dv = true := by
          rcases hvv with rfl | ⟨z, rfl, hz⟩
          · exact ⟨.none, fun _ => .non, rfl, by decide, rfl⟩
          · exact ⟨.str z, fun _ => .str z, strOk_nm hz, Nat.zero_le _, by show (z == z) = true; exact beq_self_eq_true z⟩
        refine ⟨.tuple [dv, dB (nmsZ (fun c => decide (M ≤ c + (off : Int))) (srtZ x.c)) (decide ((0 : Int) < (off : Int)) && decide (M ≤ (off : Int)))], .tuple [dv, dB (nmsZ (fun c => decide (M ≤ c + (off : Int))) (srtZ x.c)) (decide ((0 : Int) < (off : Int)) && decide (M ≤ (off : Int)))], .tup (.inl (.inl (s11 _ _ hp3))) (.cons (dv1 _) (.cons (dp_B (s11 _ _ hp2') (ht2'.same s11)) .nil)), .tup (.inl (.inl hp4)) (.cons (dv1 _) (.cons (dp_B hb4 hc4) .nil)), shaped_two (nmZ _) dv2 dv3, shaped_two (nmZ _) dv2 dv3, _, rfl, ?_⟩
        rw [same_two dv4]
        refine iteF ?_
        have w11 := E11.g.w
        have T11 := E11.g.tab
        clear E7 E8 E9 E10 E11 x8 hp4 hb4 hc4 ht2 ht2' hp2 hp2' hp3
        -- a greater sketch
        refine ⟨.ref a, rfl, a, c, 9, rfl, w11, (by decide), (by decide), fun H12 r1 x12 w12 r10 r11 => ⟨_, _, rfl, rfl, ?_⟩⟩
        obtain ⟨rm, hrm, rm1, rm2⟩ : ∃ rm : Int, 1 + r1 = rm ∧ 1 ≤ rm ∧ rm ≤ 9 := ⟨1 + r1, rfl, by omega, by omega⟩
        show gName 6 (V.int (1 + r1)) _ _ _
        rw [hrm]
        have T12 := tabS_exw T11 x12 w11
        refine ⟨.int rm, rfl, .ref a, rfl, .ref a, rfl, .ref a, rfl, .int rm, rfl, _, _, rfl, rfl, cmulL (by decide) (by decide), a, c, _, rfl, w12, (by omega), (by omega), fun H13 r4 x13 w13 r40 r41 => ⟨_, _, rfl, rfl, ?_⟩⟩
        obtain ⟨r4, rfl⟩ := Int.eq_ofNat_of_zero_le r40
        have hn4 : 2 + r4 ≤ 20 := by omega
        refine ⟨a, c, 2 + r4, (by rw [Int.natCast_add]; rfl), w13, by omega, fun H14 l PP x14 w14 nl la lc hl hP => ?_⟩
        have T14 := tabS_exw (tabS_exw T12 x13 w12) x14 w13
        have hns : ∀ z ∈ poolL PP (2 + r4), Nm z := fun z hz => poolL_nm hP (by omega) hz
        have hpl : (poolL PP (2 + r4)).length = 2 + r4 := by unfold poolL; rw [List.length_map, List.length_range]
        refine ⟨a, c, l, poolL PP (2 + r4), 6, 40, rfl, w14, la, hl, (by omega), (by omega), hns, (by decide), (by decide), (by decide), (by decide), fun H15 t ti st x15 w15 nt htree gr hti => ?_⟩
        obtain ⟨x0, x', out⟩ := tree_out (r := rm) rm1 hns gr (by omega)
        have trT := gr_tree gr (by omega)
        have hN : ∀ zs, .put zs ∈ st → ∀ z ∈ zs, Nm z := fun zs hz z hzz => hns z (gr.nm zs hz z hzz)
        have T15 := tabS_exw T14 x15 w14
        refine ⟨rm, t, st, x', rfl, rm1, by omega, htree, trT, hN, out.rl, fun H16 gk s16 hgk => ?_⟩
        have ok' := out.ok
        have bd := out.bd
        have mf := out.few
        have sx : sumC (srtZ x'.c) = sumC x'.c := sumC_perm' (srtZ_perm x'.c)
        have mS' : ∀ e, e ∈ srtZ x'.c ↔ e ∈ x'.c := fun e => (srtZ_perm x'.c).mem_iff
        have g' : SkG rm x'.m x'.o (srtZ x'.c) := ⟨rm1, by omega, bd.many, bd.off, cts_of ok', by rw [(srtZ_perm x'.c).length_eq]; exact ok'.len, by rw [sx]; exact bd.low, by rw [sx]; exact bd.high, by
          have : (360 : Int) < 2 ^ 100 := by decide
          omega⟩
        have E16 : EnvG a c A0.F.P gk rm x' H16 := ⟨w15.same s16, tabS_same T15 s16, ⟨hgk, ok', g'⟩⟩
        clear T11 T12 T14 T15 w11 w12 w13 w14 w15 x12 x13 x14 x15 htree s16 hgk hl
        have o0 := bd.off
        have olow := bd.low
        have ol0 : 0 ≤ (rm + 1) * x'.o := Int.mul_nonneg (by omega) o0
        have sm0 : 0 ≤ sumC x'.c := sumC_nn fun e he => by have := ok'.pos e he; omega
        obtain ⟨LN, hLN⟩ : ∃ LN : Nat, x'.m - sumC x'.c = (LN : Int) := ⟨(x'.m - sumC x'.c).toNat, by omega⟩
        have hcl := ok'.len
        refine ⟨.ref a, rfl, .ref gk, rfl, gk, rm, x', rfl, E16.sk.at_, by omega, fun H17 s17 => ⟨_, _, rfl, rfl, ?_⟩⟩
        have E17 := E16.same s17
        refine ⟨a, c, 1 + LN, by rw [hLN, Int.natCast_add]; rfl, E17.w, by omega, fun H18 lp P2 x18 w18 nlp lpa lpc hlp hP2 => ⟨lp, rfl, ⟨_, sql hlp⟩, fun F nF => ?_⟩⟩
        have E18 := E17.exw x18 w18
        have pl2 : (poolL P2 (1 + LN)).length = 1 + LN := by unfold poolL; rw [List.length_map, List.length_range]
        refine lc_list (xs := (poolL P2 (1 + LN)).map V.str) (fun j H19 => Same H18 H19 ∧ H19 F = some (.lst ((((poolL P2 (1 + LN)).take j).map fun z => Str.ofString "zz" ++ z).map V.str))) ⟨same_upd nF, upd_same⟩ (fun j H19 _ h => sql (h.1 _ _ hlp)) (fun j v H19 hv h => ?_) (fun H19 h => ?_)
        · obtain ⟨z, hz, rfl⟩ := map_at hv
          obtain ⟨s19, hF19⟩ := h
          have hj := (List.getElem?_eq_some_iff.mp hz).1
          have hzm := List.mem_of_getElem? hz
          obtain ⟨k, hk, hke⟩ := List.mem_map.mp hzm
          have pl := pnm_len (k := k) hP2
          refine ⟨rfl, .str z, rfl, _, _, rfl, rfl, ?_, _, hF19, by rw [List.length_map, List.length_map, List.length_take, sizeLine_eq]; omega, Same.put s19 nF, ?_⟩
          · show 2 + z.length ≤ _
            rw [sizeLine_eq, ← hke, ← cs_len]
            omega
          · rw [upd_same, List.take_add_one, hz, List.map_append, List.map_append]
            rfl
        obtain ⟨s19, hF19⟩ := h
        rw [List.length_map, List.take_length] at hF19
        have E19 := E18.same s19
        have Fa : F ≠ a := (E18.w.ne2 nF).1
        obtain ⟨fnd0, fnm0, fout0⟩ := fs_ok (n := 1 + LN) (m := 2 + r4) hP hP2 (by omega) (by omega)
        have hF19 : H19 F = some (.lst ((zzL P2 (1 + LN)).map V.str)) := hF19
        have fnd : (zzL P2 (1 + LN)).Nodup := (List.nodup_append.mp fnd0).1
        have fnm : ∀ z ∈ zzL P2 (1 + LN), Nm z := fun z hz => fnm0 z (List.mem_append_left _ hz)
        have fout : ∀ z ∈ poolL PP (2 + r4), z ∉ zzL P2 (1 + LN) := fun z hz h => fout0 z hz (List.mem_append_left _ h)
        have flen : (zzL P2 (1 + LN)).length = LN + 1 := by
          unfold zzL
          rw [List.length_map, pl2]
          omega
        generalize zzL P2 (1 + LN) = fs at hF19 fnd fnm fout flen
        have allnd : ((srtZ x'.c).map (·.1) ++ fs).Nodup := by
          rw [List.nodup_append]
          refine ⟨srtZ_nd ok'.nd, fnd, fun u hu v hv e => ?_⟩
          subst e
          obtain ⟨e, he, rfl⟩ := List.mem_map.mp hu
          exact fout _ (out.inn e ((mS' _).mp he)) hv
        have lostle : x'.m - sumC x'.c ≤ (((srtZ x'.c).map (·.1) ++ fs).length : Nat) * x'.o := by
          by_cases e : x'.o = 0
          · have := bd.high
            rw [e, Int.mul_zero] at this
            rw [e, Int.mul_zero]
            exact this
          · have hl : (LN : Int) ≤ ((((srtZ x'.c).map (·.1) ++ fs).length : Nat) : Int) := by
              have := List.length_append (as := (srtZ x'.c).map (·.1)) (bs := fs)
              omega
            have h1 : (LN : Int) * 1 ≤ ((((srtZ x'.c).map (·.1) ++ fs).length : Nat) : Int) * x'.o := Int.mul_le_mul hl (by omega) (by decide) (by omega)
            rw [hLN]
            omega
        have ole : x'.o ≤ x'.m - sumC x'.c := by
          have : 1 * x'.o ≤ (rm + 1) * x'.o := Int.mul_le_mul_of_nonneg_right (by omega) o0
          omega
        clear E16 E17 E18 s19 s17 x18 w18 hlp nF
        -- a number
        refine ⟨.ref a, rfl, a, c, 30, rfl, E19.w, (by decide), (by decide), fun H20 n2 x20 w20 n20 n21 => ?_⟩
        have E20 := E19.exw x20 w20
        have hF20 := x20 _ _ Fa hF19
        clear E19 x20 w20 hF19
        refine ⟨3, rfl, by decide, by decide, ?_⟩
        refine for_range (lo := 0) (n := 3) (fun j σ H21 => ∃ y9 y10 y11 y12 y13 y14 y15 y16 : Option V, σ = [some (.ref sc), some (.ref a), some (.int (0 + (i : Int))), some (.ref sk), some (.ref ev), some (.int n2), some (.int rm), some (.ref gk), some (.ref F), y9, y10, y11, y12, y13, y14, y15, y16] ∧ EnvG a c A0.F.P gk rm x' H21 ∧ H21 F = some (.lst (fs.map V.str)))
          ⟨_, _, _, _, _, _, _, _, rfl, E20, hF20⟩ ?_ ?_
        · rintro j σ H21 hj ⟨y9, y10, y11, y12, y13, y14, y15, y16, rfl, E21, hF21⟩
          -- a truth
          refine ⟨.ref a, rfl, .ref gk, rfl, .ref F, rfl, a, c, gk, F, rm, x', fs, rfl, E21.w, E21.sk.at_, ok', by omega, Fa, hF21, by omega, allnd, fnm, o0, by omega, by omega, lostle, fun H22 k ts ys x22 w22 nk ptk prk ofy yl => ?_⟩
          have E22 := E21.exw x22 w22
          have hF22 := x22 _ _ Fa hF21
          have ndy := ofy.nd
          refine ⟨k, ts, ys.map entZ, rfl, ptk, ents_paired (paired_imp (fun t e h => .inl (.inl h)) prk), fun dd ndd => ?_⟩
          rw [show mergeK [] (ys.map entZ) = ys.map entZ from mergeZ ys [] (by rw [List.nil_append]; exact ndy)]
          have s23 := same_upd (o := .dK (ys.map entZ)) ndd
          have hd23 : (upd H22 dd (.dK (ys.map entZ))) dd = some (.dK (ys.map entZ)) := upd_same
          generalize upd H22 dd (.dK (ys.map entZ)) = H23 at s23 hd23 ⊢
          have E23 := E22.same s23
          have hF23 := s23 _ _ hF22
          clear E21 E22 hF21 hF22 x22 w22 s23 prk ptk
          -- what may be above
          refine ⟨.ref gk, rfl, .int n2, rfl, gk, rm, x'.m, x'.o, srtZ x'.c, n2, rfl, SkC.of E23.sk.at_, g', n20, fun H24 p t s24 hp ht => ⟨p, _, rfl, .inl (.inl hp), rfl, _, _, rfl, _, _, rfl, rfl, ?_⟩⟩
          have E24 := E23.same s24
          have hF24 := s24 _ _ hF23
          have hd24 := s24 _ _ hd23
          clear E23 hF23 hd23 s24 hp
          -- what is above
          refine ⟨dd, _, hd24, trivial, fun od => ⟨.ref dd, rfl, dd, od, rfl, .inl ⟨_, upd_same, fun B nB => ?_⟩⟩⟩
          have dB' : dd ≠ B := ne_of_none upd_same nB
          generalize hHl : upd H24 dd (.frz od (.dK (ys.map entZ))) = Hl at nB ⊢
          have hlc : Hl dd = some (.frz od (.dK (ys.map entZ))) := by rw [← hHl]; exact upd_same
          refine lc_it (walk_keys (kvs := ys.map entZ)) (fun m H25 => Same Hl H25 ∧ H25 B = some (.lst ((nmsZ (fun c => decide (n2 < c)) (ys.take m)).map V.str)))
            ⟨same_upd nB, upd_same⟩ (fun m H25 _ h => h.1 _ _ hlc) (fun m y H25 H26 hm h yy => ?_) (fun H25 h => ?_)
          · obtain ⟨rfl, kk, v', hkv', rfl⟩ := yy
            obtain ⟨e, he, hkv2⟩ := map_at hkv'
            cases hkv2
            obtain ⟨s25, hB25⟩ := h
            have hmi := (List.getElem?_eq_some_iff.mp he).1
            have tk : ys.take (m + 1) = ys.take m ++ [e] := by rw [List.take_add_one, he]; rfl
            have nl := nmsZ_len (fun c => decide (n2 < c)) (ys.take m)
            rw [List.length_take] at nl
            refine ⟨rfl, .ref dd, rfl, .str e.1, rfl, dd, .int e.2, rfl, ?_, .int n2, rfl, _, _, rfl, rfl, decide (n2 < e.2), rfl, ?_⟩
            · have := dg_lock (s25 _ _ hlc) e.1
              rw [getZ_self ndy he] at this
              exact this
            rw [tk, nmsZ_snoc]
            refine ite2 (fun h0 => ?_) fun h0 => ?_
            · rw [if_pos h0]
              exact ⟨.str e.1, rfl, _, hB25, by rw [List.length_map, sizeLine_eq]; omega, Same.put s25 nB, by rw [upd_same, List.map_append]; rfl⟩
            · rw [if_neg h0]
              exact ⟨s25, hB25⟩
          obtain ⟨s25, hB25⟩ := h
          rw [List.length_map, List.take_length] at hB25
          refine ⟨s25 _ _ hlc, ?_⟩
          have s26 : Same H24 (upd H25 dd (.dK (ys.map entZ))) := unlk hd24 (by rw [hHl]; exact s25)
          have hB26 : (upd H25 dd (.dK (ys.map entZ))) B = some (.lst ((nmsZ (fun c => decide (n2 < c)) ys).map V.str)) := by rw [upd_ne dB'.symm]; exact hB25
          generalize upd H25 dd (.dK (ys.map entZ)) = H26 at s26 hB26 ⊢
          have E26 := E24.same s26
          have hF26 := s26 _ _ hF24
          have ht26 := ht.same s26
          clear E24 hF24 hHl hlc s25 hB25 hd24 ht s26
          -- the kept names
          obtain ⟨kk, us, g1, g2, g3⟩ := id E26.sk.at_
          have lus := Paired.length g3
          have gl : ((srtZ x'.c).length : Int) ≤ rm := g'.len
          refine ⟨.ref gk, rfl, gk, _, _, _, rfl, rfl, .inl (.inl g1), atI_nat (j := 3) rfl, kk, rfl, ⟨_, g2.seq⟩, fun N nN => ?_⟩
          refine lc_tup (xs := us.map V.ref) (fun m H27 => Same H26 H27 ∧ H27 N = some (.lst ((((srtZ x'.c).take m).map (·.1)).map V.str))) ⟨same_upd nN, upd_same⟩ (fun m H27 _ h => (g2.same h.1).seq) (fun m v H27 hv h => ?_) (fun H27 h => ?_)
          · obtain ⟨u, hu, rfl⟩ := map_at hv
            obtain ⟨e, he, hat⟩ := paired_at g3 hu
            obtain ⟨s27, hN27⟩ := h
            have hmi := (List.getElem?_eq_some_iff.mp he).1
            refine ⟨u, _, rfl, .inl (.inl (s27 _ _ hat)), rfl, _, _, rfl, _, _, rfl, rfl, rfl, .str e.1, rfl, _, hN27, by rw [List.length_map, List.length_map, List.length_take, sizeLine_eq]; omega, Same.put s27 nN, ?_⟩
            rw [upd_same, List.take_add_one, he, List.map_append, List.map_append]
            rfl
          obtain ⟨s27, hN27⟩ := h
          rw [List.length_map, lus, List.take_length] at hN27
          have E27 := E26.same s27
          have hF27 := s27 _ _ hF26
          have hB27 := s27 _ _ hB26
          have ht27 := ht26.same s27
          clear E26 hF26 hB26 ht26 s27 g1 g2 g3
          -- surely above: in the truth too
          have ndk' : NdZ (srtZ x'.c) := srtZ_nd ok'.nd
          have gX : ∀ z, gd (srtZ x'.c) z = gd x'.c z := gd_srt ok'.nd
          have mem_nms : ∀ {f : Int → Bool} {kv : Ct} {z : Str}, z ∈ nmsZ f kv ↔ ∃ e ∈ kv, e.1 = z ∧ f e.2 = true := fun {f kv z} => by
            unfold nmsZ
            rw [List.mem_map]
            constructor
            · rintro ⟨e, he, rfl⟩
              obtain ⟨h1, h2⟩ := List.mem_filter.mp he
              exact ⟨e, h1, rfl, h2⟩
            · rintro ⟨e, he, rfl, h⟩
              exact ⟨e, List.mem_filter.mpr ⟨he, h⟩, rfl⟩
          refine ⟨.ref gk, rfl, .int n2, rfl, gk, rm, x'.m, x'.o, srtZ x'.c, n2, rfl, SkC.of E27.sk.at_, g', n20, fun H28 p2 s28 hp2 => ⟨p2, rfl, ⟨_, hp2.seq⟩, fun D nD => ?_⟩⟩
          have E28 := E27.same s28
          have hB28 := s28 _ _ hB27
          have sl2 : (nmsZ (fun c => decide (n2 < c)) (srtZ x'.c)).length ≤ 64 := by
            have := nmsZ_len (fun c => decide (n2 < c)) (srtZ x'.c)
            omega
          refine lc_tup (K := K) (a := p2) (xs := (nmsZ (fun c => decide (n2 < c)) (srtZ x'.c)).map V.str) (fun m H29 => Same H28 H29 ∧ H29 D = some (.lst ((((nmsZ (fun c => decide (n2 < c)) (srtZ x'.c)).take m).map fun _ => true).map V.bl))) ⟨same_upd nD, upd_same⟩ (fun m H29 _ h => (hp2.same h.1).seq) (fun m v H29 hv h => ?_) (fun H29 h => ?_)
          · obtain ⟨z, hz, rfl⟩ := map_at hv
            obtain ⟨s29, hD29⟩ := h
            have hmi := (List.getElem?_eq_some_iff.mp hz).1
            have zin : z ∈ nmsZ (fun c => decide (n2 < c)) ys := by
              obtain ⟨e, he, rfl, h0⟩ := mem_nms.mp (List.mem_of_getElem? hz)
              have h0 := of_decide_eq_true h0
              have lo := ofy.lo e.1
              rw [← gX, gd_in ndk' he] at lo
              have := ok'.pos e ((mS' e).mp he)
              exact mem_nms.mpr ⟨_, gd_mem1 (T := ys) (z := e.1) (by omega), rfl, decide_eq_true (by show n2 < gd ys e.1; omega)⟩
            refine ⟨rfl, .str z, rfl, .ref B, rfl, B, _, rfl, .inl (sql (s29 _ _ hB28)), rfl, strs_flat _, ?_⟩
            rw [if_neg (by decide), inV_strs, decide_eq_true zin]
            refine ⟨_, hD29, by rw [List.length_map, List.length_map, List.length_take, sizeLine_eq]; omega, Same.put s29 nD, ?_⟩
            rw [upd_same, List.take_add_one, hz, List.map_append, List.map_append]
            rfl
          obtain ⟨s29, hD29⟩ := h
          rw [List.length_map, List.take_length] at hD29
          refine ⟨D, _, rfl, sql hD29, _, rfl, ?_⟩
          rw [show ((nmsZ (fun c => decide (n2 < c)) (srtZ x'.c)).map fun _ => true).all id = true by rw [List.all_map]; exact List.all_eq_true.mpr fun _ _ => rfl]
          refine iteF ?_
          have s2829 := s28.trans s29
          have E29 := E27.same s2829
          have hF29 := s2829 _ _ hF27
          have hB29 := s2829 _ _ hB27
          have hN29 := s2829 _ _ hN27
          have ht29 := ht27.same s2829
          clear E27 E28 hF27 hB27 hB28 hN27 ht27 s28 s29 s2829 hp2 hD29
          -- above in the truth: perhaps above
          have yl2 : (nmsZ (fun c => decide (n2 < c)) ys).length ≤ 900 := by
            have := nmsZ_len (fun c => decide (n2 < c)) ys
            omega
          refine ⟨.ref B, rfl, B, rfl, ⟨_, sql hB29⟩, fun G nG => ?_⟩
          refine lc_list (K := K) (a := B) (xs := (nmsZ (fun c => decide (n2 < c)) ys).map V.str) (fun m H30 => Same H29 H30 ∧ H30 G = some (.lst ((((nmsZ (fun c => decide (n2 < c)) ys).take m).map fun _ => true).map V.bl))) ⟨same_upd nG, upd_same⟩ (fun m H30 _ h => sql (h.1 _ _ hB29)) (fun m v H30 hv h => ?_) (fun H30 h => ?_)
          · obtain ⟨z, hz, rfl⟩ := map_at hv
            obtain ⟨s30, hG30⟩ := h
            have hmi := (List.getElem?_eq_some_iff.mp hz).1
            obtain ⟨e, he, ez, h0⟩ := mem_nms.mp (List.mem_of_getElem? hz)
            have h0 := of_decide_eq_true h0
            have hi := ofy.hi z
            rw [← gX, ← ez, gd_in ndy he, ez] at hi
            have fin : ∃ acc, H30 G = some (.lst acc) ∧ acc.length < sizeLine ∧ (Same H29 (upd H30 G (.lst (acc ++ [V.bl true]))) ∧ (upd H30 G (.lst (acc ++ [V.bl true]))) G = some (.lst ((((nmsZ (fun c => decide (n2 < c)) ys).take (m + 1)).map fun _ => true).map V.bl))) := by
              refine ⟨_, hG30, by rw [List.length_map, List.length_map, List.length_take, sizeLine_eq]; omega, Same.put s30 nG, ?_⟩
              rw [upd_same, List.take_add_one, hz, List.map_append, List.map_append]
              rfl
            refine ⟨rfl, .str z, rfl, .ref N, rfl, N, _, rfl, .inl (sql (s30 _ _ hN29)), rfl, strs_flat _, decide (z ∈ (srtZ x'.c).map fun e : Str × Int => e.1), congrArg V.bl ((if_neg (by decide)).trans (inV_strs z _)), ?_⟩
            refine ite2 (fun hk => ?_) fun hk => ?_
            · have hk := of_decide_eq_true hk
              obtain ⟨f, hf, f1⟩ := List.mem_map.mp hk
              have zin : z ∈ nmsZ (fun c => decide (n2 < c + x'.o)) (srtZ x'.c) := by
                refine mem_nms.mpr ⟨f, hf, f1, decide_eq_true ?_⟩
                rw [← f1, gd_in ndk' hf] at hi
                omega
              refine ⟨.str z, rfl, .ref t, rfl, t, _, rfl, .inr (ht29.same s30).seq, rfl, strs_flat _, ?_⟩
              rw [if_neg (by decide), inV_strs, decide_eq_true zin]
              exact fin
            · have hk : z ∉ (srtZ x'.c).map (·.1) := fun h => hk (decide_eq_true h)
              rw [gd_notin hk] at hi
              refine ⟨_, rfl, ?_⟩
              rw [show decide (n2 < x'.o) = true from decide_eq_true (by omega)]
              exact fin
          obtain ⟨s30, hG30⟩ := h
          rw [List.length_map, List.take_length] at hG30
          refine ⟨G, _, rfl, sql hG30, _, rfl, ?_⟩
          rw [show ((nmsZ (fun c => decide (n2 < c)) ys).map fun _ => true).all id = true by rw [List.all_map]; exact List.all_eq_true.mpr fun _ _ => rfl]
          exact iteF ⟨_, _, _, _, _, _, _, _, rfl, E29.same s30, s30 _ _ hF29⟩
        · rintro σ H21 ⟨y9, y10, y11, y12, y13, y14, y15, y16, rfl, E21, hF21⟩
          exact ⟨_, _, _, _, _, _, _, _, _, _, _, _, _, _, _, rfl, E21.w, E21.tab⟩
    · rintro σ H2 ⟨y2, y3, y4, y5, y6, y7, y8, y9, y10, y11, y12, y13, y14, y15, y16, rfl, w2, T2⟩
      exact q H2
end
end Kb

namespace Kb
open PySem PySem.Spec PyProof.Rows L2 FlX LamX
/-- a def as the top has left it -/
def dn_of {K : PySem.W.Frag} {h : Heap} {mg : Str → Option Value} {nm : Str} {st : Stmt} {ps : List Str} {f : Addr} {oc : Value} {od an : Option Addr} {osl : Array (Option Value)} {kV doc pm cdv ct : Value} (X : K.In h) (G : h.Ns mainGlobals mg)
    (fa : PySem.W.nsIn K mainGlobals nm = some (some (.ref f))) (fl : K.lookup f = some ⟨oc, od, .func (PySem.W.fnOf nm nm (defArgs st) (defBody st) (defScope st) .none kV doc pm an cdv ct), osl⟩) (fc : PySem.W.codeIn K cdv nm = true) (fk : PySem.W.keepIn K (.ref f) = true)
    (fb : ∀ (kV doc pm : Value) (an : Option Addr) (cdv ct : Value) (us : List Value), us.length = ps.length → bindArgs (PySem.W.fnOf nm nm (defArgs st) (defBody st) (defScope st) .none kV doc pm an cdv ct) ⟨us, []⟩ = pure (ps.zip us)) : Dn K mg nm st ps :=
  ⟨f, _, fun_mk fl fc fk, PySem.W.mg_of X G fa, (fun_mk fl fc fk).binds fb⟩
def cst_of {K : PySem.W.Frag} {h : Heap} {mg : Str → Option Value} {nm : Str} {i : Int} {t : Tok} (X : K.In h) (G : h.Ns mainGlobals mg) (fa : PySem.W.nsIn K mainGlobals nm = some (some (.int i t))) : Cst mg nm (.int i) := ⟨_, PySem.W.mg_of X G fa, ⟨_, rfl⟩⟩
theorem law_end {l : PySem.W.OpenLaw} {w : World} {K : PySem.W.Frag} {h : Heap} {mg : Str → Option Value} {fa f : Addr} (X : K.In h) (G : h.Ns mainGlobals mg) (hfa : mg "law" = some (.ref fa))
    {od an : Option Addr} {osl : Array (Option Value)} {oc kV doc pm cdv ct : Value} {c P fF : Addr} {odF anF : Option Addr} {oslF : Array (Option Value)} {ocF kVF docF pmF ctF : Value}
    (a0 : PySem.W.nsIn K mainGlobals "law" = some (some (.ref f))) (l0 : K.lookup f = some ⟨oc, od, .func (PySem.W.fnOf "law" "law" (defArgs slaw) (defBody slaw) (defScope slaw) .none kV doc pm an cdv ct), osl⟩) (c0 : PySem.W.codeIn K cdv "law" = true) (k0 : PySem.W.keepIn K (.ref f) = true)
    (aF : PySem.W.nsIn K mainGlobals "falling" = some (some (.ref fF))) (lF : K.lookup fF = some ⟨ocF, odF, .func (PySem.W.fnOf "falling" "falling" (defArgs sP_falling) (defBody sP_falling) (defScope sP_falling) .none kVF docF pmF anF (.ref c) ctF), oslF⟩) (cF : PySem.W.codeIn K (.ref c) "falling" = true) (kF : PySem.W.keepIn K (.ref fF) = true)
    (hT : h.get? P = some { cls := .none, data := .fields #[] }) (nT : K.lookup P = none) (hC : PySem.W.codeHdIn K c P = true)
    (T : Blt mg) (n_any : mg "any" = none) (cM : Cst mg "MOST_ROOM" (.int 64)) (cL : Cst mg "LONGEST_NAME" (.int 8))  (dP_is_int : DnIsInt K mg) (dP_is_number : DnIsNumber K mg) (dP_is_room : DnIsRoom K mg) (dP_is_name : DnIsName K mg) (dP_are_counts : DnAreCounts K mg) (dP_is_counted : DnIsCounted K mg) (dP_lost_of : DnLostOf K mg) (dP_is_sketch : DnIsSketch K mg) (dP_surely_above : DnSurelyAbove K mg) (dP_perhaps_above : DnPerhapsAbove K mg) (dP_surely_first : DnSurelyFirst K mg) (dP_perhaps_first : DnPerhapsFirst K mg) (dhand : Dnhand K mg) (ddraw : Dndraw K mg) (dany : Dnany K mg) (dpool : Dnpool K mg) (dfed : Dnfed K mg) (dpoured : Dnpoured K mg) (dsketch : Dnsketch K mg) (dtree : Dntree K mg) (dlost : Dnlost K mg) (dtruth : Dntruth K mg) (dsmall : Dnsmall K mg) (dparts : Dnparts K mg) (dtruths : Dntruths K mg) (dtops : Dntops K mg) (dabove : Dnabove K mg) (dfirst : Dnfirst K mg) :
    LamX.LawAtS l w K CX0 15 63 "_law_script" mg fa h := by
  have e := hfa.symm.trans (PySem.W.mg_of X G a0)
  cases e
  refine ⟨PySem.W.fnOf "law" "law" (defArgs slaw) (defBody slaw) (defScope slaw) .none kV doc pm an cdv ct, [(c, P)], spLaw K P, fun p hp => ?_, fun p hp => ?_, fun p hp => ?_, fun s v => .of_eq rfl, fun H a ns hl _ hH hS => ⟨a, ns, rfl, hS, hl, TabS.nil (hH (c, P) List.mem_cons_self), fun _ => rfl⟩, fun base _ _ tb => ?_⟩
  · rw [List.mem_singleton.mp hp]
    exact hT
  · rw [List.mem_singleton.mp hp]
    exact nT
  · rw [List.mem_singleton.mp hp]
    exact PySem.W.codeHd_of_K X hC
  exact ok_law (base := base) { A := { T := T, cM := cM, cL := cL, F := ⟨dn_of X G aF lF cF kF (fun _ _ _ _ _ _ us hl => match us, hl with | [_], _ => rfl), c, P, rfl, tb (c, P) List.mem_cons_self⟩, dP_is_int := dP_is_int, dP_is_number := dP_is_number, dP_is_room := dP_is_room, dP_is_name := dP_is_name, dP_is_counted := dP_is_counted, dP_are_counts := dP_are_counts, dP_lost_of := dP_lost_of, dP_is_sketch := dP_is_sketch }, n_any := n_any, dP_surely_above := dP_surely_above, dP_perhaps_above := dP_perhaps_above, dP_surely_first := dP_surely_first, dP_perhaps_first := dP_perhaps_first, dhand := dhand, ddraw := ddraw, dany := dany, dpool := dpool, dfed := dfed, dpoured := dpoured, dsketch := dsketch, dtree := dtree, dlost := dlost, dtruth := dtruth, dsmall := dsmall, dparts := dparts, dtruths := dtruths, dtops := dtops, dabove := dabove, dfirst := dfirst }
    ⟨_, _, fun_mk l0 c0 k0, PySem.W.mg_of X G a0, (fun_mk l0 c0 k0).binds fun _ _ _ _ _ _ us hl => match us, hl with | [_], _ => rfl⟩
end Kb
open PySem PySem.W PyProof.Rows
theorem PySem.Challenge.cw_knownends_k45_whole_names_that_are_surel_holds : PySem.Challenge.rw_knownends_k45_whole_names_that_are_surel.Holds := by
  w_on; o_law; k_head; (case hw => w_witness2)
  k_fill
  refine LamX.walk_ofTs (l := PySem.Challenge.rw_knownends_k45_whole_names_that_are_surel) (n := 63) (k := 15) (x := "_law_script") (CX := fun _ => L2.CX0) rfl (by decide) rfl ⟨rfl, by decide, by decide⟩ (fun w h Y => PySem.W.km_in_of Y) ?F (fun _ _ _ _ _ h => h)
  case F =>
    intro w mg fa h Y KX G hmg
    have hT8 := PySem.W.km_tabs_of Y
    refine' Kb.law_end (P := 105) KX G hmg ?a0 ?l0 ?c0 ?k0 ?aF ?lF ?cF ?kF (hT8 _ ?hT) ?nT ?hC ?T ?n_any ?cM ?cL ?dP_is_int ?dP_is_number ?dP_is_room ?dP_is_name ?dP_are_counts ?dP_is_counted ?dP_lost_of ?dP_is_sketch ?dP_surely_above ?dP_perhaps_above ?dP_surely_first ?dP_perhaps_first ?dhand ?ddraw ?dany ?dpool ?dfed ?dpoured ?dsketch ?dtree ?dlost ?dtruth ?dsmall ?dparts ?dtruths ?dtops ?dabove ?dfirst
    (case a0 => k_is); (case l0 => k_is); (case c0 => k_is); (case k0 => k_is)
    (case aF => k_is); (case lF => k_is); (case cF => k_is); (case kF => k_is); (case hT => simp); (case nT => kernel_rfl); (case hC => kernel_rfl)
    (case T => exact ⟨PySem.W.mg_none_of KX G (by k_is), PySem.W.mg_none_of KX G (by k_is), PySem.W.mg_none_of KX G (by k_is), PySem.W.mg_none_of KX G (by k_is), PySem.W.mg_none_of KX G (by k_is), PySem.W.mg_none_of KX G (by k_is), PySem.W.mg_none_of KX G (by k_is), PySem.W.mg_none_of KX G (by k_is), PySem.W.mg_none_of KX G (by k_is), PySem.W.mg_none_of KX G (by k_is), PySem.W.mg_none_of KX G (by k_is), PySem.W.mg_none_of KX G (by k_is), PySem.W.mg_none_of KX G (by k_is), PySem.W.mg_none_of KX G (by k_is), PySem.W.mg_none_of KX G (by k_is), PySem.W.mg_none_of KX G (by k_is)⟩)
    (case n_any => exact PySem.W.mg_none_of KX G (by k_is))
    (case cM => refine' Kb.cst_of KX G ?a_cM; (case a_cM => k_is))
    (case cL => refine' Kb.cst_of KX G ?a_cL; (case a_cL => k_is))
    (case dP_is_int => refine' Kb.dn_of KX G ?a_dP_is_int ?l_dP_is_int ?c_dP_is_int ?k_dP_is_int ?b_dP_is_int; (case a_dP_is_int => k_is); (case l_dP_is_int => k_is); (case c_dP_is_int => k_is); (case k_dP_is_int => k_is); (case b_dP_is_int => exact fun _ _ _ _ _ _ us hl => match us, hl with | [_], _ => rfl))
    (case dP_is_number => refine' Kb.dn_of KX G ?a_dP_is_number ?l_dP_is_number ?c_dP_is_number ?k_dP_is_number ?b_dP_is_number; (case a_dP_is_number => k_is); (case l_dP_is_number => k_is); (case c_dP_is_number => k_is); (case k_dP_is_number => k_is); (case b_dP_is_number => exact fun _ _ _ _ _ _ us hl => match us, hl with | [_], _ => rfl))
    (case dP_is_room => refine' Kb.dn_of KX G ?a_dP_is_room ?l_dP_is_room ?c_dP_is_room ?k_dP_is_room ?b_dP_is_room; (case a_dP_is_room => k_is); (case l_dP_is_room => k_is); (case c_dP_is_room => k_is); (case k_dP_is_room => k_is); (case b_dP_is_room => exact fun _ _ _ _ _ _ us hl => match us, hl with | [_], _ => rfl))
    (case dP_is_name => refine' Kb.dn_of KX G ?a_dP_is_name ?l_dP_is_name ?c_dP_is_name ?k_dP_is_name ?b_dP_is_name; (case a_dP_is_name => k_is); (case l_dP_is_name => k_is); (case c_dP_is_name => k_is); (case k_dP_is_name => k_is); (case b_dP_is_name => exact fun _ _ _ _ _ _ us hl => match us, hl with | [_], _ => rfl))
    (case dP_are_counts => refine' Kb.dn_of KX G ?a_dP_are_counts ?l_dP_are_counts ?c_dP_are_counts ?k_dP_are_counts ?b_dP_are_counts; (case a_dP_are_counts => k_is); (case l_dP_are_counts => k_is); (case c_dP_are_counts => k_is); (case k_dP_are_counts => k_is); (case b_dP_are_counts => exact fun _ _ _ _ _ _ us hl => match us, hl with | [_], _ => rfl))
    (case dP_is_counted => refine' Kb.dn_of KX G ?a_dP_is_counted ?l_dP_is_counted ?c_dP_is_counted ?k_dP_is_counted ?b_dP_is_counted; (case a_dP_is_counted => k_is); (case l_dP_is_counted => k_is); (case c_dP_is_counted => k_is); (case k_dP_is_counted => k_is); (case b_dP_is_counted => exact fun _ _ _ _ _ _ us hl => match us, hl with | [_], _ => rfl))
    (case dP_lost_of => refine' Kb.dn_of KX G ?a_dP_lost_of ?l_dP_lost_of ?c_dP_lost_of ?k_dP_lost_of ?b_dP_lost_of; (case a_dP_lost_of => k_is); (case l_dP_lost_of => k_is); (case c_dP_lost_of => k_is); (case k_dP_lost_of => k_is); (case b_dP_lost_of => exact fun _ _ _ _ _ _ us hl => match us, hl with | [_], _ => rfl))
    (case dP_is_sketch => refine' Kb.dn_of KX G ?a_dP_is_sketch ?l_dP_is_sketch ?c_dP_is_sketch ?k_dP_is_sketch ?b_dP_is_sketch; (case a_dP_is_sketch => k_is); (case l_dP_is_sketch => k_is); (case c_dP_is_sketch => k_is); (case k_dP_is_sketch => k_is); (case b_dP_is_sketch => exact fun _ _ _ _ _ _ us hl => match us, hl with | [_], _ => rfl))
    (case dP_surely_above => refine' Kb.dn_of KX G ?a_dP_surely_above ?l_dP_surely_above ?c_dP_surely_above ?k_dP_surely_above ?b_dP_surely_above; (case a_dP_surely_above => k_is); (case l_dP_surely_above => k_is); (case c_dP_surely_above => k_is); (case k_dP_surely_above => k_is); (case b_dP_surely_above => exact fun _ _ _ _ _ _ us hl => match us, hl with | [_, _], _ => rfl))
    (case dP_perhaps_above => refine' Kb.dn_of KX G ?a_dP_perhaps_above ?l_dP_perhaps_above ?c_dP_perhaps_above ?k_dP_perhaps_above ?b_dP_perhaps_above; (case a_dP_perhaps_above => k_is); (case l_dP_perhaps_above => k_is); (case c_dP_perhaps_above => k_is); (case k_dP_perhaps_above => k_is); (case b_dP_perhaps_above => exact fun _ _ _ _ _ _ us hl => match us, hl with | [_, _], _ => rfl))
    (case dP_surely_first => refine' Kb.dn_of KX G ?a_dP_surely_first ?l_dP_surely_first ?c_dP_surely_first ?k_dP_surely_first ?b_dP_surely_first; (case a_dP_surely_first => k_is); (case l_dP_surely_first => k_is); (case c_dP_surely_first => k_is); (case k_dP_surely_first => k_is); (case b_dP_surely_first => exact fun _ _ _ _ _ _ us hl => match us, hl with | [_], _ => rfl))
    (case dP_perhaps_first => refine' Kb.dn_of KX G ?a_dP_perhaps_first ?l_dP_perhaps_first ?c_dP_perhaps_first ?k_dP_perhaps_first ?b_dP_perhaps_first; (case a_dP_perhaps_first => k_is); (case l_dP_perhaps_first => k_is); (case c_dP_perhaps_first => k_is); (case k_dP_perhaps_first => k_is); (case b_dP_perhaps_first => exact fun _ _ _ _ _ _ us hl => match us, hl with | [_], _ => rfl))
    (case dhand => refine' Kb.dn_of KX G ?a_dhand ?l_dhand ?c_dhand ?k_dhand ?b_dhand; (case a_dhand => k_is); (case l_dhand => k_is); (case c_dhand => k_is); (case k_dhand => k_is); (case b_dhand => exact fun _ _ _ _ _ _ us hl => match us, hl with | [_], _ => rfl))
    (case ddraw => refine' Kb.dn_of KX G ?a_ddraw ?l_ddraw ?c_ddraw ?k_ddraw ?b_ddraw; (case a_ddraw => k_is); (case l_ddraw => k_is); (case c_ddraw => k_is); (case k_ddraw => k_is); (case b_ddraw => exact fun _ _ _ _ _ _ us hl => match us, hl with | [_, _], _ => rfl))
    (case dany => refine' Kb.dn_of KX G ?a_dany ?l_dany ?c_dany ?k_dany ?b_dany; (case a_dany => k_is); (case l_dany => k_is); (case c_dany => k_is); (case k_dany => k_is); (case b_dany => exact fun _ _ _ _ _ _ us hl => match us, hl with | [_, _], _ => rfl))
    (case dpool => refine' Kb.dn_of KX G ?a_dpool ?l_dpool ?c_dpool ?k_dpool ?b_dpool; (case a_dpool => k_is); (case l_dpool => k_is); (case c_dpool => k_is); (case k_dpool => k_is); (case b_dpool => exact fun _ _ _ _ _ _ us hl => match us, hl with | [_, _], _ => rfl))
    (case dfed => refine' Kb.dn_of KX G ?a_dfed ?l_dfed ?c_dfed ?k_dfed ?b_dfed; (case a_dfed => k_is); (case l_dfed => k_is); (case c_dfed => k_is); (case k_dfed => k_is); (case b_dfed => exact fun _ _ _ _ _ _ us hl => match us, hl with | [_, _], _ => rfl))
    (case dpoured => refine' Kb.dn_of KX G ?a_dpoured ?l_dpoured ?c_dpoured ?k_dpoured ?b_dpoured; (case a_dpoured => k_is); (case l_dpoured => k_is); (case c_dpoured => k_is); (case k_dpoured => k_is); (case b_dpoured => exact fun _ _ _ _ _ _ us hl => match us, hl with | [_, _], _ => rfl))
    (case dsketch => refine' Kb.dn_of KX G ?a_dsketch ?l_dsketch ?c_dsketch ?k_dsketch ?b_dsketch; (case a_dsketch => k_is); (case l_dsketch => k_is); (case c_dsketch => k_is); (case k_dsketch => k_is); (case b_dsketch => exact fun _ _ _ _ _ _ us hl => match us, hl with | [_, _], _ => rfl))
    (case dtree => refine' Kb.dn_of KX G ?a_dtree ?l_dtree ?c_dtree ?k_dtree ?b_dtree; (case a_dtree => k_is); (case l_dtree => k_is); (case c_dtree => k_is); (case k_dtree => k_is); (case b_dtree => exact fun _ _ _ _ _ _ us hl => match us, hl with | [_, _, _, _], _ => rfl))
    (case dlost => refine' Kb.dn_of KX G ?a_dlost ?l_dlost ?c_dlost ?k_dlost ?b_dlost; (case a_dlost => k_is); (case l_dlost => k_is); (case c_dlost => k_is); (case k_dlost => k_is); (case b_dlost => exact fun _ _ _ _ _ _ us hl => match us, hl with | [_], _ => rfl))
    (case dtruth => refine' Kb.dn_of KX G ?a_dtruth ?l_dtruth ?c_dtruth ?k_dtruth ?b_dtruth; (case a_dtruth => k_is); (case l_dtruth => k_is); (case c_dtruth => k_is); (case k_dtruth => k_is); (case b_dtruth => exact fun _ _ _ _ _ _ us hl => match us, hl with | [_, _, _], _ => rfl))
    (case dsmall => refine' Kb.dn_of KX G ?a_dsmall ?l_dsmall ?c_dsmall ?k_dsmall ?b_dsmall; (case a_dsmall => k_is); (case l_dsmall => k_is); (case c_dsmall => k_is); (case k_dsmall => k_is); (case b_dsmall => exact fun _ _ _ _ _ _ us hl => match us, hl with | [_, _], _ => rfl))
    (case dparts => refine' Kb.dn_of KX G ?a_dparts ?l_dparts ?c_dparts ?k_dparts ?b_dparts; (case a_dparts => k_is); (case l_dparts => k_is); (case c_dparts => k_is); (case k_dparts => k_is); (case b_dparts => exact fun _ _ _ _ _ _ us hl => match us, hl with | [_, _], _ => rfl))
    (case dtruths => refine' Kb.dn_of KX G ?a_dtruths ?l_dtruths ?c_dtruths ?k_dtruths ?b_dtruths; (case a_dtruths => k_is); (case l_dtruths => k_is); (case c_dtruths => k_is); (case k_dtruths => k_is); (case b_dtruths => exact fun _ _ _ _ _ _ us hl => match us, hl with | [_, _], _ => rfl))
    (case dtops => refine' Kb.dn_of KX G ?a_dtops ?l_dtops ?c_dtops ?k_dtops ?b_dtops; (case a_dtops => k_is); (case l_dtops => k_is); (case c_dtops => k_is); (case k_dtops => k_is); (case b_dtops => exact fun _ _ _ _ _ _ us hl => match us, hl with | [_], _ => rfl))
    (case dabove => refine' Kb.dn_of KX G ?a_dabove ?l_dabove ?c_dabove ?k_dabove ?b_dabove; (case a_dabove => k_is); (case l_dabove => k_is); (case c_dabove => k_is); (case k_dabove => k_is); (case b_dabove => exact fun _ _ _ _ _ _ us hl => match us, hl with | [_, _, _], _ => rfl))
    (case dfirst => refine' Kb.dn_of KX G ?a_dfirst ?l_dfirst ?c_dfirst ?k_dfirst ?b_dfirst; (case a_dfirst => k_is); (case l_dfirst => k_is); (case c_dfirst => k_is); (case k_dfirst => k_is); (case b_dfirst => exact fun _ _ _ _ _ _ us hl => match us, hl with | [_, _], _ => rfl))

