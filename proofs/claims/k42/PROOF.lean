import PyProof.Rows.All
import HandS.ForMost
import HandS.ForExc
import HandS.SortKw
import HandS.SortRule
import HandS.DictTup
import HandS.DictComp
import HandS.ListItems
import HandS.Conv
import HandS.IsInst
import HandS.Codes
import HandS.Walk
import HandS.Style
import KE.KDictSum
import KE.KSortTupAny
import KE.KDictPairs
import HandS.ExcValue
import PySem.Challenge.RW_knownends_k42_whole_rooms_for_told_error
import HandS.CallLocal
import HandS.TupLe
import HandS.TupAny
import HandS.Wide
import HandS.SetFor
import PyProof.Rows.CountFlat
import PyProof.Rows.StrMul
import HandS.Lambda
import HandS.EndTab
import KE.SortKeyHeap
import HandS.NoneIn
import HandS.Zip
import KE.KRevSl
import HandS.Flt
import HandS.Flow
import HandS.Strs
import HandS.TupSets
import HandS.SetKeys
import HandS.List
import PyProof.EqKinds
import PyProof.EqAt
import HandS.ExcField
import HandS.ExcInit
import HandS.ExcIs
import PyProof.NeData
set_option Elab.async false
set_option linter.all false
set_option maxRecDepth 100000
set_option maxHeartbeats 0
/-! own rules: sorted of pairs (text, int), of views -/
namespace SrtZ
open PySem PyProof.Rows Srt SrtO PySem.W
abbrev ltZ (x y : Str) : Bool := decide (x.cps.toList < y.cps.toList)
theorem str_of {x y : Str} (h : x.cps.toList = y.cps.toList) : x = y := by
  cases x; cases y
  simp at h
  rw [h]
theorem ltZ_irr (x : Str) : ltZ x x = false := decide_eq_false (List.lt_irrefl _)
theorem ltZ_asym {x y : Str} (h : ltZ x y = true) : ltZ y x = false := decide_eq_false (List.lt_asymm (of_decide_eq_true h))
theorem ltZ_trans {x y z : Str} (h : ltZ x y = true) (k : ltZ y z = true) : ltZ x z = true := decide_eq_true (List.lt_trans (of_decide_eq_true h) (of_decide_eq_true k))
theorem ltZ_tri {x y : Str} (h : ltZ x y = false) (k : ltZ y x = false) : x = y :=
  str_of (List.le_antisymm (List.not_lt.mp (of_decide_eq_false k)) (List.not_lt.mp (of_decide_eq_false h)))
def lexZ (p q : Str × Int) : Bool := if p.1 = q.1 then decide (p.2 < q.2) else ltZ p.1 q.1
theorem lexZ_eq {p q : Str × Int} (e : p.1 = q.1) : lexZ p q = decide (p.2 < q.2) := if_pos e
theorem lexZ_ne {p q : Str × Int} (e : ¬ p.1 = q.1) : lexZ p q = ltZ p.1 q.1 := if_neg e
theorem swo_Z : Swo lexZ := by
  refine ⟨fun x y h => ?_, fun x y z h1 h2 => ?_⟩
  · by_cases e : x.1 = y.1
    · rw [lexZ_eq e, decide_eq_true_eq] at h
      rw [lexZ_eq e.symm]
      exact decide_eq_false (by omega)
    · rw [lexZ_ne e] at h
      rw [lexZ_ne (fun z => e z.symm)]
      exact ltZ_asym h
  · by_cases e : x.1 = y.1
    · rw [lexZ_eq e.symm, decide_eq_false_iff_not] at h1
      by_cases f : y.1 = z.1
      · rw [lexZ_eq f.symm, decide_eq_false_iff_not] at h2
        rw [lexZ_eq (e.trans f).symm]
        exact decide_eq_false (by omega)
      · rw [lexZ_ne (fun q => f q.symm)] at h2
        rw [lexZ_ne (fun q => f (e.symm.trans q.symm)), e]
        exact h2
    · rw [lexZ_ne (fun q => e q.symm)] at h1
      by_cases f : y.1 = z.1
      · rw [lexZ_ne (fun q => e (q.symm.trans f.symm)), ← f]
        exact h1
      · rw [lexZ_ne (fun q => f q.symm)] at h2
        have g1 : ltZ x.1 y.1 = true := by
          rcases bcase (ltZ x.1 y.1) with q | q
          · exact q
          · exact absurd (ltZ_tri q h1) e
        have g2 : ltZ y.1 z.1 = true := by
          rcases bcase (ltZ y.1 z.1) with q | q
          · exact q
          · exact absurd (ltZ_tri q h2) f
        have g := ltZ_trans g1 g2
        have ne : ¬ z.1 = x.1 := fun q => by
          rw [q, ltZ_irr] at g
          cases g
        rw [lexZ_ne ne]
        exact ltZ_asym g
/-- a tuple (text, int) -/
def IsPZ (h : Heap) (v : Value) (p : Str × Int) : Prop := ∃ a o t u n, v = .ref a ∧ h.get? a = some o ∧ o.cls = .type "tuple" ∧ o.data = .seq #[.str p.1 t, .int p.2 u] n
theorem IsPZ.keeps {h h' : Heap} {v : Value} {p : Str × Int} (x : IsPZ h v p) (k : ∀ b o, h.get? b = some o → o.cls = .type "tuple" → h'.get? b = some o) : IsPZ h' v p := by
  obtain ⟨a, o, t, u, n, e, ho, hc, hd⟩ := x
  exact ⟨a, o, t, u, n, e, k _ _ ho hc, hc, hd⟩
section
variable {prog : Program} {w : World} {A : Around} {E : Value → Shared → Prop} {s : Shared}
theorem firstsZ {h : Heap} : ∀ {vs : List Value}, (∀ v ∈ vs, ∃ p, IsPZ h v p) → ∃ fs : List Value, KatTups h vs fs ∧ fs.length = vs.length ∧ ∀ f ∈ fs, ∃ x t, f = Value.str x t
  | [], _ => ⟨[], KatTups.nil, rfl, fun _ hm => by simp at hm⟩
  | v :: vs, hp => by
    obtain ⟨fs, h1, h2, h3⟩ := firstsZ (vs := vs) fun v' hm => hp v' (List.mem_cons_of_mem _ hm)
    obtain ⟨p, a, o, t, u, n, e, ho, hc, hd⟩ := hp v List.mem_cons_self
    subst e
    refine ⟨.str p.1 t :: fs, KatTups.cons ho hc hd rfl h1, by rw [List.length_cons, List.length_cons, h2], fun f hm => ?_⟩
    rcases List.mem_cons.mp hm with rfl | hm
    · exact ⟨_, t, rfl⟩
    · exact h3 f hm
theorem pairZ_cmp {vs : List Value} {k : Value → Str × Int} (hp : ∀ v ∈ vs, IsPZ s.heap v (k v)) : Cmp prog w A s (tuples' true) (fun p => p.1 ∈ vs) (lt2 fun v u => lexZ (k v) (k u)) := by
  intro p q hm hm'
  have h1 := hp _ hm
  have h2 := hp _ hm'
  show wpAny (model prog w) A (keyLt' (tuples' true) p.1 q.1) (fun r s' => s' = s ∧ r = lexZ (k p.1) (k q.1)) (fun _ _ => False) s
  generalize k p.1 = x at h1 ⊢
  generalize k q.1 = y at h2 ⊢
  obtain ⟨a, o, t, u, n, e, ho, hc, hd⟩ := h1
  obtain ⟨a', o', t', u', n', e', ho', hc', hd'⟩ := h2
  rw [e, e']
  refine kat_lt ho hd ho' hd' ?_
  show KatLex prog w A true (decide (2 < 2)) _ [(.str x.1 t, .str y.1 t'), (.int x.2 u, .int y.2 u')] 0 s
  refine kat_cons (wpAny_eqBool_str ?_)
  refine kat_go (fun e1 => ?_) (fun e1 => ?_)
  · have ex : x.1 = y.1 := of_decide_eq_true e1
    refine kat_yes (kat_cons (wpAny_eqBool_int ?_))
    refine kat_go (fun e2 => ?_) (fun e2 => ?_)
    · have ey : x.2 = y.2 := by simpa using e2
      refine kat_yes (kat_nil ⟨rfl, ?_⟩)
      rw [lexZ_eq ex, ey]
      exact (decide_eq_false (Int.lt_irrefl _)).symm
    · exact kat_no (oneLt_any_int ⟨rfl, (lexZ_eq ex).symm⟩)
  · have ex : ¬ x.1 = y.1 := of_decide_eq_false e1
    exact kat_no (oneLt_any_str ⟨rfl, (lexZ_ne ex).symm⟩)
theorem pairsZ_sortable {a : Addr} {vs : List Value} {k : Value → Str × Int} (h0 : 0 < vs.length) (hp : ∀ v ∈ vs, IsPZ s.heap v (k v)) (ha : ∀ o, s.heap.get? a = some o → o.cls ≠ .type "tuple") : SortableO prog w A s a vs fun v u => lexZ (k v) (k u) := by
  intro h' keep
  have hp' : ∀ v ∈ vs, IsPZ h' v (k v) := fun v hm => (hp v hm).keeps fun b o e c => keep b o (fun z => by subst z; exact ha o e c) e
  obtain ⟨fs, h1, h2, h3⟩ := firstsZ fun v hm => ⟨_, hp' v hm⟩
  refine ⟨tuples' true, fun Q E hq => ?_, pairZ_cmp hp'⟩
  refine kat_kind (T := .type "str") h1 (by omega) (fun f hm => ?_) (by rfl) ?_
  · obtain ⟨x, t, rfl⟩ := h3 f hm
    exact Looks.now
  · have e : (Value.type "str" != Value.type "tuple") = true := by first | decide +kernel | rfl | decide
    rw [e]
    exact hq
theorem plain_rev (a : Addr) : Builtin.«list.sort» ⟨[.ref a], []⟩ = Builtin.«list.sort» ⟨[.ref a], [(Str.ofString "reverse", .bool false)]⟩ := by
  rw [list_sort_rev]
  first | rfl | kernel_rfl
/-- sorted(x, ..) over what is collected of x -/
theorem sorted_col {x : Value} {b : Bool} {kw : List (Str × Value)} {ltv : Heap → Value → Value → Bool} {Q : Value → Shared → Prop} {P : Heap → Nat → List Value → Prop}
    (hk : ∀ a, Builtin.«list.sort» ⟨[.ref a], kw⟩ = Builtin.«list.sort» ⟨[.ref a], [(Str.ofString "reverse", .bool b)]⟩) (ha1 : argsOk "sorted" ⟨[x], kw⟩) (ha2 : ∀ a, argsOk "list.sort" ⟨[a], kw⟩)
    (hcol : ∀ R : List Value → Shared → Prop, (∀ h' tk vs, (∀ b o, s.heap.get? b = some o → h'.get? b = some o) → P h' tk vs → R vs { s with heap := h', toks := tk }) → wpAny (model prog w) A.in1 (collect x) R E s)
    (O : ∀ h' tk vs, P h' tk vs → Swo (ltv h')) (hz : ∀ h' tk vs, P h' tk vs → vs.length ≤ sizeLine)
    (hS : ∀ h' tk vs, P h' tk vs → 2 ≤ vs.length → ∀ (h₁ : Heap) (a : Addr), h₁.get? a = some (seqObj "list" vs.toArray 0) → (∀ b o, h'.get? b = some o → b ≠ a ∧ h₁.get? b = some o) → SortableO prog w A.in1.in1 { s with heap := h₁, toks := tk } a vs (ltv h'))
    (h : ∀ h' tk vs out h2, (∀ b o, s.heap.get? b = some o → h'.get? b = some o) → P h' tk vs → Srtd (ltv h') out → Stb (ltv h') out (if b = true then vs.reverse else vs) → (∀ c o, h'.get? c = some o → h2.get? c = some o) →
      (∃ n, h2.get? h'.objs.size = some (seqObj "list" (if b = true then out.toArray.reverse else out.toArray) n)) → Q (.ref h'.objs.size) { s with heap := h2, toks := tk }) :
    wpAny (model prog w) A (call (.builtin "sorted") [x] kw) Q E s := by
  refine call_function_entry_kw kind_sorted plain_sorted entry_sorted ha1 ?_
  unfold Builtin.«sorted»
  refine wpAny_bind (m := checkCount "sorted" 1 1 _) (wpAny_pure ?_)
  refine wpAny_bind (hcol _ fun h' tk vs hkp hP => ?_)
  refine wpAny_bind (wpAny_newList ?_ (hz _ _ _ hP))
  have hoL : (h'.push (seqObj "list" vs.toArray 0)).get? h'.objs.size = some (seqObj "list" vs.toArray 0) := Heap.get?_push_size _ rfl
  have keep : ∀ b o, h'.get? b = some o → b ≠ h'.objs.size ∧ (h'.push (seqObj "list" vs.toArray 0)).get? b = some o := fun b o q => ⟨Nat.ne_of_lt (Heap.lt_size q), Heap.get?_push_of_some _ q⟩
  show wpAny _ _ _ _ _ { s with heap := h'.push (seqObj "list" vs.toArray 0), toks := tk }
  refine wpAny_bind (wpAny_holding (wpAny_call_entry_kw slot_list_sort ⟨_, hoL, rfl⟩ entry_list_sort ?_ (ha2 _)))
  rw [hk]
  refine SrtR.list_sort_ordR (s := { s with heap := h'.push (seqObj "list" vs.toArray 0), toks := tk }) (O _ _ _ hP) hoL (hz _ _ _ hP) (fun h2 => hS _ _ _ hP h2 _ _ hoL keep) fun out hs hb => ⟨_, rfl, ?_⟩
  refine wpAny_pure ⟨_, rfl, h h' tk vs out _ hkp hP hs hb (fun c o q => ?_) ?_⟩
  · exact (sortedHeap_old (keep c o q).1 (Heap.lt_size (keep c o q).2)).trans (keep c o q).2
  · exact sortedHeap_at hoL
end
end SrtZ

namespace L2
open PySem PySem.Spec PyProof.Rows SrtO SrtZ
/-- counts as a dict's pairs -/
abbrev entZ (e : Str × Int) : Key × V := (Sum.inr e.1, V.int e.2)
section
variable {X : Cx}
/-- d.items() -/
def rItemsK : V → List V → Hp → VK → Prop := fun x xs H Q => ∃ (a : Addr) (kvs : List (Key × V)), x = .ref a ∧ xs = [] ∧ H a = some (.dK kvs) ∧ ∀ p, H p = none → Q (.ref p) (upd H p (DX.itemsO p a))
theorem mt_itemsK : MtR X "dict.items" rItemsK := by
  intro pins s σ H x xs v us Q I rx rxs h
  obtain ⟨a, kvs, rfl, rfl, ha, q⟩ := h
  cases rx
  cases rxs
  obtain ⟨z, hd, vs, kv, o, es, ep, ho, hx, hdat, _⟩ := dk_of I.hok ha
  refine DT.callItems (es := es) (ep := ep) hd ⟨o, ho, hx, hdat⟩ ?_
  have hf : H s.heap.objs.size = none := I.hok.fresh (Nat.le_refl _)
  exact ⟨.ref s.heap.objs.size, upd H s.heap.objs.size (DX.itemsO s.heap.objs.size a), I.laid (t' := s.toks) (fun b u e => Heap.get?_push_of_some _ e) (Nat.le_refl _) (DX.itemsO_ok (Heap.get?_push_size _ rfl)), rfl, q _ hf⟩
/-- d.values() -/
def valuesO (p d : Addr) : HO := .ext fun h => h.IsValuesView p d
theorem valuesO_ok {P : Program} {w : World} {H : Hp} {h : Heap} {p d : Addr} (e : h.get? p = some { cls := .type "dict_values", data := .fields #[.ref d] }) : ObjOk P w H h p (valuesO p d) :=
  ⟨⟨_, e, rfl, rfl⟩, ⟨_, e⟩, fun h1 h2 x k => let ⟨o, ho, r⟩ := x; ⟨o, k o ho, r⟩⟩
def rValuesK : V → List V → Hp → VK → Prop := fun x xs H Q => ∃ (a : Addr) (kvs : List (Key × V)), x = .ref a ∧ xs = [] ∧ H a = some (.dK kvs) ∧ ∀ p, H p = none → Q (.ref p) (upd H p (valuesO p a))
theorem mt_valuesK : MtR X "dict.values" rValuesK := by
  intro pins s σ H x xs v us Q I rx rxs h
  obtain ⟨a, kvs, rfl, rfl, ha, q⟩ := h
  cases rx
  cases rxs
  obtain ⟨z, hd, vs, kv, dd⟩ := dk_of I.hok ha
  have hf : H s.heap.objs.size = none := I.hok.fresh (Nat.le_refl _)
  refine call_meetsIn PySem.F.slot_dict_values dd.typeIs PySem.F.entry_dict_values (PySem.F.args_dict_values_1 _) (meets_dict_values (mixKind X.prog X.w) a hd) ⟨⟨vs, dd⟩, ?_⟩
  exact ⟨.ref s.heap.objs.size, upd H s.heap.objs.size (valuesO s.heap.objs.size a), I.laid (t' := s.toks) (fun b u e => Heap.get?_push_of_some _ e) (Nat.le_refl _) (valuesO_ok (Heap.get?_push_size _ rfl)), rfl, q _ hf⟩
end
end L2

namespace L2
open PySem PySem.Spec PyProof.Rows SrtO SrtZ
theorem ent_paired {xs' : List (Key × Value)} : ∀ {ks : List (Str × Int)}, KV (ks.map entZ) xs' → ∀ {j : Nat} {x : Key × Value}, xs'[j]? = some x → ∃ e t, ks[j]? = some e ∧ x = (Sum.inr e.1, Value.int e.2 t) := fun {ks} h {j x} hx => by
  obtain ⟨y, hy, r1, r2⟩ := DX.pget h hx
  rw [List.getElem?_map] at hy
  cases e : ks[j]? with
  | none => rw [e] at hy; cases hy
  | some p =>
    rw [e] at hy
    have hy' : entZ p = y := Option.some.inj hy
    subst hy'
    obtain ⟨t, et⟩ := (show ∃ t, x.2 = Value.int p.2 t from r2)
    refine ⟨p, t, rfl, ?_⟩
    obtain ⟨x1, x2⟩ := x
    have r1' : Sum.inr p.1 = x1 := r1
    have et' : x2 = Value.int p.2 t := et
    rw [← r1', et']
section
variable {X : Cx}
/-- sorted(d.items()), keys texts, values ints, any number of them -/
def rSortedIZ : List V → Hp → VK → Prop := fun vs H Q => ∃ (p d : Addr) (ks : List (Str × Int)), vs = [V.ref p] ∧ H p = some (DX.itemsO p d) ∧ H d = some (.dK (ks.map entZ)) ∧
  ∀ (H' : Hp) (l : Addr) (ys : List (Str × Int)) (ts : List Addr), Same H H' → H l = none → (∀ t ∈ ts, H t = none) → l ∉ ts → ys.Perm ks → Srtd lexZ ys → H' l = some (.lst (ts.map V.ref)) → Paired (fun (t : Addr) (y : Str × Int) => H' t = some (.tup [.str y.1, .int y.2])) ts ys → Q (.ref l) H'
theorem paired_of {α β : Type} {F : α → β → Prop} {l : List (α × β)} (h : ∀ z ∈ l, F z.1 z.2) : Paired F (l.map (·.1)) (l.map (·.2)) := by
  induction l with
  | nil => exact .nil
  | cons a l ih => exact .cons (h a List.mem_cons_self) (ih fun z hz => h z (List.mem_cons_of_mem _ hz))
/-- a tuple's key, read off the heap -/
def keyZ (h : Heap) : Value → Str × Int
  | .ref a => match h.get? a with
    | some o => match o.data with
      | .seq xs _ => match xs.toList with
        | [.str x _, .int y _] => (x, y)
        | _ => (⟨#[]⟩, 0)
      | _ => (⟨#[]⟩, 0)
    | none => (⟨#[]⟩, 0)
  | _ => (⟨#[]⟩, 0)
theorem keyZ_of {h : Heap} {v : Value} {p : Str × Int} (x : IsPZ h v p) : keyZ h v = p := by
  obtain ⟨a, o, t, u, n, rfl, ho, hc, hd⟩ := x
  simp only [keyZ, ho, hd]
theorem swo_key (h : Heap) : Swo fun v u => lexZ (keyZ h v) (keyZ h u) := ⟨fun x y => swo_Z.asym _ _, fun x y z => swo_Z.tr _ _ _⟩
def adr : Value → Addr
  | .ref a => a
  | _ => 0
theorem adr_refs : ∀ as : List Addr, (as.map Value.ref).map adr = as
  | [] => rfl
  | a :: as => congrArg (List.cons a) (adr_refs as)
theorem refs_adr : ∀ out : List Value, (∀ v ∈ out, ∃ a, v = Value.ref a) → (out.map adr).map Value.ref = out
  | [], _ => rfl
  | v :: out, h => by
    obtain ⟨a, rfl⟩ := h v List.mem_cons_self
    show Value.ref a :: (out.map adr).map Value.ref = Value.ref a :: out
    rw [refs_adr out fun u hu => h u (List.mem_cons_of_mem _ hu)]
/-- pairs that were laid and sorted are tracked: a list of them at l, the tuples at ts -/
theorem sortZ_end {pins : List (Addr × Obj)} {σ : St} {H : Hp} {s : Shared} {h' h2 : Heap} {tk l n : Nat} {as : List Addr} {ks : List (Str × Int)} {out : List Value} {Q : VK} (I : Inv X pins σ H s)
    (hk : ∀ b o, s.heap.get? b = some o → h'.get? b = some o) (hk2 : ∀ b o, h'.get? b = some o → h2.get? b = some o) (hl : s.heap.objs.size ≤ l) (hle : as.length ≤ sizeLine) (hlas : ∀ t ∈ as, t ≠ l) (nd : as.Nodup) (ha : ∀ t ∈ as, s.heap.objs.size ≤ t) (hn : H l = none)
    (hks : as.map (fun t => keyZ h' (.ref t)) = ks) (hp : ∀ t ∈ as, ∃ p, IsPZ h' (.ref t) p) (hat : h2.get? l = some (seqObj "list" out.toArray n)) (h1 : Srtd (fun v u => lexZ (keyZ h' v) (keyZ h' u)) out) (hb : out.Perm (as.map Value.ref))
    (q : ∀ (H' : Hp) (ys : List (Str × Int)) (ts : List Addr), Same H H' → H l = none → (∀ t ∈ ts, H t = none) → l ∉ ts → ys.Perm ks → Srtd lexZ ys → H' l = some (.lst (ts.map V.ref)) → Paired (fun (t : Addr) (y : Str × Int) => H' t = some (.tup [.str y.1, .int y.2])) ts ys → Q (.ref l) H') :
    EP X pins σ Q (.ref l) { s with heap := h2, toks := tk } := by
  have isr : ∀ v ∈ out, ∃ a, v = Value.ref a := fun v hv => by
    obtain ⟨a, _, e⟩ := List.mem_map.mp (hb.mem_iff.mp hv)
    exact ⟨a, e.symm⟩
  have eo := refs_adr out isr
  generalize ets : out.map adr = ts at eo
  have pt : ts.Perm as := by
    have := hb.map adr
    rwa [adr_refs, ets] at this
  have kS : ∀ b o, s.heap.get? b = some o → h2.get? b = some o := fun b o e => hk2 b o (hk b o e)
  have I1 : Inv X pins σ H { s with heap := h2, toks := tk } := I.kept (t' := tk) kS
  have hlen : (ts.map V.ref).length ≤ sizeLine := by rw [List.length_map, pt.length_eq]; exact hle
  have rv : Vals (ts.map V.ref) out := by
    rw [← eo]
    exact LiI.vals_refs ts
  have I2 : Inv X pins σ (upd H l (.lst (ts.map V.ref))) { s with heap := h2, toks := tk } := I1.take (h' := h2) (t' := tk) (fun b ob _ e => e) (I.fpOk hl hn) ⟨hlen, out, n, rv, hat⟩
  obtain ⟨H2, I3, g, qt⟩ := DX.takeT (P := fun b vs => vs = [.str (keyZ h' (.ref b)).1, .int (keyZ h' (.ref b)).2]) I as _ I2 nd fun b hb' => by
    obtain ⟨p, hp'⟩ := hp b hb'
    have ek := keyZ_of hp'
    obtain ⟨a, o, t, u, m, e, ho, hc, hd⟩ := hp'
    cases e
    refine ⟨ha b hb', ?_, [.str (keyZ h' (.ref b)).1, .int (keyZ h' (.ref b)).2], rfl, fun H3 => ⟨(by rw [sizeLine_eq]; show 2 ≤ 16777216; omega), [Value.str p.1 t, Value.int p.2 u], by rw [ek]; exact .cons ⟨_, rfl⟩ (.cons ⟨_, rfl⟩ .nil), ⟨o, hk2 _ _ ho, hc, m, hd⟩⟩⟩
    rw [upd_ne (hlas b hb')]
    exact I.hok.fresh (ha b hb')
  have gr : Same H H2 := fun b o e => g b o (by rw [upd_ne (ne_of_none e hn)]; exact e)
  refine ⟨.ref l, H2, I3, rfl, q H2 (ts.map fun t => keyZ h' (.ref t)) ts gr hn (fun t ht => I.hok.fresh (ha t (pt.mem_iff.mp ht))) (fun z => hlas l (pt.mem_iff.mp z) rfl) ?_ ?_ (g _ _ upd_same) ?_⟩
  · rw [← hks]
    exact pt.map _
  · have e : ts.map (fun t => keyZ h' (.ref t)) = out.map (keyZ h') := by
      rw [← eo, List.map_map]
      rfl
    rw [e]
    exact srtd_map h1
  · have : ∀ L : List Addr, (∀ t ∈ L, t ∈ as) → Paired (fun (t : Addr) (y : Str × Int) => H2 t = some (.tup [.str y.1, .int y.2])) L (L.map fun t => keyZ h' (.ref t)) := by
      intro L
      induction L with
      | nil => exact fun _ => .nil
      | cons t L ih =>
        intro hL
        refine .cons ?_ (ih fun u hu => hL u (List.mem_cons_of_mem _ hu))
        obtain ⟨vs, ev, hv⟩ := qt t (hL t List.mem_cons_self)
        rw [← ev]
        exact hv
    exact this ts fun t ht => pt.mem_iff.mp ht
theorem cr_sortedIZ (hc : X.calm = true) : CallR X (.builtin "sorted") rSortedIZ := by
  intro pins s σ H xs us Q I r h
  obtain ⟨p, a, ks, rfl, hp, ha, q⟩ := h
  obtain rfl := Vals.ref1 r
  have view : s.heap.IsItemsView p a := (show ObjOk X.prog X.w H s.heap p (DX.itemsO p a) from I.hok p _ hp).1
  obtain ⟨z, hd, xs', rel, o, es, ep, ho, hx, hdat, _, hes, _⟩ := dk_of I.hok ha
  have l1 : ks.length = xs'.length := by
    have := Paired.length rel
    rwa [List.length_map] at this
  have l2 : es.size = xs'.length := by rw [← Array.length_toList, hes.length]
  have hh : X.A.handled = none := I.ok.hd hc
  have hz : es.size ≤ sizeLine := by rw [List.length_map] at z; omega
  have ent : ∀ (j : Nat) (en : DictEntry), es[j]? = some en → ∃ e t u, ks[j]? = some e ∧ en.key = Value.str e.1 t ∧ en.val = Value.int e.2 u := by
    intro j en he
    have he' : es.toList[j]? = some en := by rw [Array.getElem?_toList]; exact he
    have pz : ∀ {es : List DictEntry} {kvs : List (Key × Value)}, Pairs (mixKind X.prog X.w) es kvs → ∀ {j : Nat} {en : DictEntry}, es[j]? = some en → ∃ x, kvs[j]? = some x ∧ keyIs x.1 en.key = true ∧ en.val = x.2 := by
      intro es kvs h
      induction h with
      | nil => intro j en h; simp at h
      | cons h1 h2 h3 ih =>
        intro j en h
        cases j with
        | zero => cases (Option.some.inj h); exact ⟨_, rfl, h1, h2⟩
        | succ j => exact ih (by simpa using h)
    obtain ⟨x, ex, k1, k2⟩ := pz hes he'
    obtain ⟨e, t, e1, e2⟩ := ent_paired rel ex
    subst e2
    obtain ⟨u, eu⟩ := relV_key k1
    exact ⟨e, u, t, e1, eu, k2⟩
  refine sorted_col (x := .ref p) (b := false) (kw := []) (ltv := fun h' v u => lexZ (keyZ h' v) (keyZ h' u)) (P := fun h' _ vs => ∃ as, vs = as.map Value.ref ∧ as.length = es.size ∧ DT.Made es s.heap.objs.size h' as ∧ s.heap.objs.size < h'.objs.size)
    plain_rev (args_sorted1 _) (fun _ => args_list_sort _) (fun R hR => ?_) (fun h' _ _ _ => swo_key h') (fun h' _ vs hP => ?_) (fun h' tk vs hP h2 h₁ b hb keep => ?_) (fun h' tk vs out h2 hk hP h1 hb hk2 hat => ?_)
  · exact DT.collectI (A := X.A.in1) hh view ⟨o, ho, hx, hdat⟩ hz fun h' tk as hk hlt hl hM => hR h' tk _ hk ⟨as, rfl, hl, hM, hlt⟩
  · obtain ⟨as, rfl, hl, _⟩ := hP
    rw [List.length_map, hl]
    exact hz
  · obtain ⟨as, rfl, hl, hM, _⟩ := hP
    refine pairsZ_sortable (s := { s with heap := h₁, toks := tk }) (k := keyZ h') (by omega) (fun v hv => ?_) (fun ob e => ?_)
    · obtain ⟨t, ht, rfl⟩ := List.mem_map.mp hv
      obtain ⟨j, hj⟩ := List.mem_iff_getElem?.mp ht
      obtain ⟨en, he, hg⟩ := hM.pairs j t hj
      obtain ⟨e, t1, t2, _, k1, k2⟩ := ent j en he
      have x : IsPZ h' (.ref t) e := ⟨t, _, t1, t2, 0, rfl, hg, rfl, by rw [k1, k2]⟩
      rw [keyZ_of x]
      exact x.keeps fun b o e _ => (keep b o e).2
    · have e' : some ob = some (seqObj "list" (as.map Value.ref).toArray 0) := e.symm.trans hb
      cases e'
      intro c
      exact absurd (Value.type.inj c) (by decide)
  · obtain ⟨as, rfl, hl, hM, hlt⟩ := hP
    obtain ⟨n, hat⟩ := hat
    have pz : ∀ (j : Nat) (t : Addr), as[j]? = some t → ∃ e, ks[j]? = some e ∧ IsPZ h' (.ref t) e := fun j t hj => by
      obtain ⟨en, he, hg⟩ := hM.pairs j t hj
      obtain ⟨e, t1, t2, e1, k1, k2⟩ := ent j en he
      exact ⟨e, e1, t, _, t1, t2, 0, rfl, hg, rfl, by rw [k1, k2]⟩
    refine sortZ_end (as := as) (ks := ks) I hk hk2 (Nat.le_of_lt hlt) (by rw [hl]; exact hz) (fun t ht => Nat.ne_of_lt (hM.there ht)) (List.Pairwise.imp (fun h => Nat.ne_of_lt h) hM.rise) (fun t ht => Nat.le_of_lt (hM.above t ht)) (I.hok.fresh (Nat.le_of_lt hlt)) ?_ (fun t ht => ?_) hat h1 hb.perm fun H' ys ts => q H' _ ys ts
    · refine List.ext_getElem? fun j => ?_
      rw [List.getElem?_map]
      cases hj : as[j]? with
      | none =>
        have : ks[j]? = none := List.getElem?_eq_none (by have := List.getElem?_eq_none_iff.mp hj; omega)
        rw [this]
        rfl
      | some t =>
        obtain ⟨e, e1, x⟩ := pz j t hj
        rw [e1]
        show some (keyZ h' (.ref t)) = some e
        rw [keyZ_of x]
    · obtain ⟨j, hj⟩ := List.mem_iff_getElem?.mp ht
      obtain ⟨e, _, x⟩ := pz j t hj
      exact ⟨e, x⟩
end
end L2

namespace SrtZ
open PySem PyProof.Rows Srt SrtO PySem.W
def ltSv (v u : Value) : Bool := ltZ (strOf v) (strOf u)
theorem swo_str : Swo ltSv := by
  refine ⟨fun x y h => ltZ_asym h, fun x y z h1 h2 => ?_⟩
  rcases bcase (ltZ (strOf z) (strOf x)) with q | q
  · rcases bcase (ltZ (strOf x) (strOf y)) with p | p
    · rcases bcase (ltZ (strOf y) (strOf z)) with r | r
      · have := ltZ_asym (ltZ_trans p r)
        rw [q] at this
        cases this
      · have e := ltZ_tri r h2
        have q' : ltZ (strOf z) (strOf x) = true := q
        rw [← e, ltZ_asym p] at q'
        cases q'
    · have e := ltZ_tri p h1
      have q' : ltZ (strOf z) (strOf x) = true := q
      have h2' : ltZ (strOf z) (strOf y) = false := h2
      rw [e, h2'] at q'
      cases q'
  · exact q
theorem strOf_strs : ∀ {vs : List Value} {ss : List Str}, StrsAre vs ss → vs.map strOf = ss
  | _, _, .nil => rfl
  | _, _, .cons y t h => congrArg (y :: ·) (strOf_strs h)
section
variable {prog : Program} {w : World} {A : Around} {E : Value → Shared → Prop} {s : Shared}
theorem str_cmp {vs : List Value} {ss : List Str} (hI : StrsAre vs ss) : Cmp prog w A s oneType' (fun p => p.1 ∈ vs) (lt2 ltSv) := by
  intro p q hm hm'
  obtain ⟨a, t, e⟩ := StrsAre.all hI _ hm
  obtain ⟨b, u, e'⟩ := StrsAre.all hI _ hm'
  show wpAny (model prog w) A (keyLt' oneType' p.1 q.1) (fun r s' => s' = s ∧ r = ltSv p.1 q.1) (fun _ _ => False) s
  rw [e, e', keyLt'_oneType]
  exact oneLt_any_str ⟨rfl, rfl⟩
theorem strs_sortable {a : Addr} {vs : List Value} {ss : List Str} (hI : StrsAre vs ss) (h2 : 2 ≤ vs.length) : SortableO prog w A s a vs ltSv := by
  intro h' _
  refine ⟨oneType', fun Q E hq => ?_, str_cmp hI⟩
  match vs, hI, h2 with
  | v1 :: v2 :: rest, hI, _ =>
    rw [keyKind_strs hI]
    exact wpAny_pure hq
  | [], _, h => exact absurd h (by decide)
  | [v], _, h => exact absurd h (by simp)
end
end SrtZ
namespace L2
open PySem PySem.Spec PyProof.Rows SrtO SrtZ
section
variable {X : Cx}
/-- sorted(xs), xs a list of tuples (text, int), any number of them -/
def rSortedPZ (K : PySem.W.Frag) : List V → Hp → VK → Prop := fun vs H Q => ∃ (a : Addr) (ts : List Addr) (k : Addr → Str × Int), vs = [V.ref a] ∧ SqL K H a (ts.map V.ref) ∧ (∀ t ∈ ts, H t = some (.tup [.str (k t).1, .int (k t).2])) ∧
  ∀ (us : List Addr) (p : Addr), us.Perm ts → Srtd lexZ (us.map k) → H p = none → Q (.ref p) (upd H p (.lst (us.map V.ref)))
theorem cr_sortedPZ : CallR X (.builtin "sorted") (rSortedPZ X.K) := by
  intro pins s σ H vs us Q I r h
  obtain ⟨a, ts, k, rfl, hs, hx, q⟩ := h
  obtain ⟨its, rv, hl, hz⟩ := I.list hs
  obtain rfl := Vals.ref1 r
  obtain rfl := refs_at rv
  rw [List.length_map] at hz
  have hp : ∀ v ∈ ts.map Value.ref, IsPZ s.heap v (k (adr v)) := fun v hv => by
    obtain ⟨t, ht, rfl⟩ := List.mem_map.mp hv
    obtain ⟨_, its2, r2, o, ho, hc, n, hd⟩ := I.hok _ _ (hx t ht)
    obtain ⟨u1, u2, rfl, ri, rj⟩ := vals2 r2
    obtain ⟨t1, rfl⟩ := ri
    obtain ⟨t2, rfl⟩ := rj
    exact ⟨t, o, t1, t2, n, rfl, ho, hc, hd⟩
  refine SrtO.sorted_ord (ltv := fun v u => lexZ (k (adr v)) (k (adr u))) ⟨fun x y => swo_Z.asym _ _, fun x y z => swo_Z.tr _ _ _⟩ hl.isList (by rw [List.length_map]; exact hz) (fun h2 h₁ b hb kk => ?_) fun out h1 h2 => ?_
  · refine pairsZ_sortable (s := { s with heap := h₁ }) (k := fun v => k (adr v)) (by omega) (fun v hv => (hp v hv).keeps fun b o e _ => (kk b o e).2) fun o e => ?_
    have e' : some o = some (seqObj "list" (ts.map Value.ref).toArray 0) := e.symm.trans hb
    cases e'
    intro c
    exact absurd (Value.type.inj c) (by decide)
  · obtain ⟨ep, he'⟩ := PyProof.Rows.sortedAll_at s.heap (ts.map Value.ref) out.toArray
    have isr : ∀ v ∈ out, ∃ a, v = Value.ref a := fun v hv => by
      obtain ⟨a, _, e⟩ := List.mem_map.mp (h2.perm.mem_iff.mp hv)
      exact ⟨a, e.symm⟩
    have eo := refs_adr out isr
    generalize eus : out.map adr = us at eo
    have pt : us.Perm ts := by
      have := h2.perm.map adr
      rwa [adr_refs, eus] at this
    have hlen : (us.map V.ref).length ≤ sizeLine := by rw [List.length_map, pt.length_eq]; exact hz
    have rv : Vals (us.map V.ref) out := by
      rw [← eo]
      exact LiI.vals_refs us
    refine ⟨.ref _, upd H (s.heap.objs.size + 1) (.lst (us.map V.ref)), I.laid (t' := s.toks) (fun _ _ => PyProof.Rows.sortedAll_old) (Nat.le_succ _) ⟨hlen, out, ep, rv, he'⟩, rfl, q us _ pt ?_ (I.hok.fresh (Nat.le_succ _))⟩
    have e : us.map k = out.map fun v => k (adr v) := by
      rw [← eo, List.map_map]
      rfl
    rw [e]
    exact srtd_map h1
/-- the ints of a dict's values -/
theorem vals_ints' {xs' : List (Key × Value)} : ∀ {ks : List (Str × Int)}, KV (ks.map entZ) xs' → ∀ {vs : List Value}, vs.length = xs'.length → (∀ (j : Nat) (v : Value), vs[j]? = some v → ∃ k, xs'[j]? = some (k, v)) → IntsAre vs (ks.map (·.2)) := fun {ks} rel {vs} hl hv => by
  have e : vs = xs'.map (·.2) := PySem.W.kdl_vals_eq vs hl hv
  subst e
  have : ∀ {ks : List (Str × Int)} {xs : List (Key × Value)}, KV (ks.map entZ) xs → IntsAre (xs.map (·.2)) (ks.map (·.2)) := by
    intro ks
    induction ks with
    | nil =>
      intro xs r
      cases r
      exact .nil
    | cons e ks ih =>
      intro xs r
      cases r with
      | cons h t =>
        obtain ⟨u, eu⟩ := (show ∃ t, _ = Value.int e.2 t from h.2)
        rw [List.map_cons, eu]
        exact .cons _ _ (ih t)
  exact this rel
/-- sorted(d.values(), reverse=b), values ints -/
def rSortedVR (b : Bool) : List V → List V → Hp → VK → Prop := fun vs zs H Q => ∃ (p d : Addr) (ks : List (Str × Int)), vs = [V.ref p] ∧ zs = [.bl b] ∧ H p = some (valuesO p d) ∧ H d = some (.dK (ks.map entZ)) ∧
  ∀ (ns : List Int) (l : Addr), ns.Perm (ks.map (·.2)) → OrdB b ns → H l = none → Q (.ref l) (upd H l (.lst (ns.map V.int)))
theorem cr_sortedVR {b : Bool} (hc : X.calm = true) : CallRK X (.builtin "sorted") [Str.ofString "reverse"] (rSortedVR b) := by
  intro pins s σ H vs zs us ws Q I r rz h
  obtain ⟨p, d, ks, rfl, rfl, hp, ha, q⟩ := h
  obtain rfl := Vals.ref1 r
  obtain ⟨w1, rfl, e1⟩ := vals1 rz
  obtain rfl : w1 = Value.bool b := e1
  have view : s.heap.IsValuesView p d := (show ObjOk X.prog X.w H s.heap p (valuesO p d) from I.hok p _ hp).1
  obtain ⟨z, hd, xs', rel, dd⟩ := dk_of I.hok ha
  obtain ⟨ep, hat⟩ := dd.dictAt
  have l1 : ks.length = xs'.length := by
    have := Paired.length rel
    rwa [List.length_map] at this
  have hz : xs'.length ≤ sizeLine := by rw [List.length_map] at z; omega
  refine sorted_col (x := .ref p) (b := b) (kw := [(Str.ofString "reverse", .bool b)]) (ltv := fun _ => SrtO.ltIv) (P := fun h' _ vs => IntsAre vs (ks.map (·.2)))
    (fun _ => rfl) (args_sorted_rev _ _) (fun _ => args_list_sort_rev _ _) (fun R hR => ?_) (fun _ _ _ _ => SrtO.swo_int) (fun h' _ vs hP => ?_) (fun h' tk vs hP h2 h₁ c hb keep => ?_) (fun h' tk vs out h2 hk hP h1 hb hk2 hat => ?_)
  · refine PySem.W.kdu_collect (A := X.A.in1) (PySem.W.kdl_values (knd := mixKind X.prog X.w) (kvs := xs') (ep := ep) (r := p) (d := d)) (I.ok.hd hc) ⟨view, hat⟩ hz fun h' tk acc hk hacc => hR h' tk _ hk (vals_ints' rel (by rw [Array.length_toList]; exact hacc.1) fun j v e => hacc.2 j v (by rw [← Array.getElem?_toList]; exact e))
  · rw [hP.length, List.length_map, l1]
    exact hz
  · exact SrtO.ints_sortable hP h2
  · obtain ⟨n, hat⟩ := hat
    obtain ⟨ns', k1, k2, k3⟩ := SrtR.ints_outR hP h1 hb
    have hlen : (ns'.map V.int).length ≤ sizeLine := by
      rw [List.length_map, k2.length_eq, List.length_map, l1]
      exact hz
    have e0 : ((if b = true then out.toArray.reverse else out.toArray).toList).toArray = (if b = true then out.toArray.reverse else out.toArray) := by rw [Array.toArray_toList]
    have gone : s.heap.get? h'.objs.size = none := by
      cases e : s.heap.get? h'.objs.size with
      | none => rfl
      | some o => exact absurd (Heap.lt_size (hk _ _ e)) (Nat.lt_irrefl _)
    have hn := I.hok.gone gone
    exact ⟨.ref h'.objs.size, upd H h'.objs.size (.lst (ns'.map V.int)), I.laidN (t' := tk) (fun c o e => hk2 c o (hk c o e)) gone hn ⟨hlen, _, n, vals_of_ints k1, by rw [e0]; exact hat⟩, rfl, q _ _ k2 k3 hn⟩
/-- sorted(d), keys texts, any number of them -/
def rSortedDS : List V → Hp → VK → Prop := fun vs H Q => ∃ (d : Addr) (kvs : List (Key × V)) (ss : List Str), vs = [V.ref d] ∧ H d = some (.dK kvs) ∧ kvs.map (·.1) = ss.map Sum.inr ∧
  ∀ (ys : List Str) (l : Addr), ys.Perm ss → Srtd ltZ ys → H l = none → Q (.ref l) (upd H l (.lst (ys.map V.str)))
theorem keys_strs {P : Program} {w : World} {xs' : List (Key × Value)} : ∀ {kvs : List (Key × V)} {ss : List Str}, KV kvs xs' → kvs.map (·.1) = ss.map Sum.inr → ∀ {vs : List Value}, vs.length = xs'.length → (∀ (j : Nat) (v : Value), vs[j]? = some v → ∃ k x, xs'[j]? = some (k, x) ∧ (mixKind P w).is k v = true) → StrsAre vs ss := fun {kvs ss} rel hk {vs} hl hv => by
  have : ∀ {kvs : List (Key × V)} {ss : List Str} {xs : List (Key × Value)} {vs : List Value}, KV kvs xs → kvs.map (·.1) = ss.map Sum.inr → vs.length = xs.length → (∀ (j : Nat) (v : Value), vs[j]? = some v → ∃ k x, xs[j]? = some (k, x) ∧ (mixKind P w).is k v = true) → StrsAre vs ss := by
    intro kvs
    induction kvs with
    | nil =>
      intro ss xs vs r hk hl hv
      cases r
      cases ss with
      | nil =>
        have : vs = [] := List.eq_nil_of_length_eq_zero hl
        subst this
        exact .nil
      | cons _ _ => cases hk
    | cons kv kvs ih =>
      intro ss xs vs r hk hl hv
      cases r with
      | cons h t =>
        cases ss with
        | nil => cases hk
        | cons z ss =>
          cases vs with
          | nil => simp at hl
          | cons v vs =>
            rw [List.map_cons, List.map_cons] at hk
            obtain ⟨h1, h2⟩ := List.cons.inj hk
            obtain ⟨k, x, e1, e2⟩ := hv 0 v rfl
            have e1' := (Prod.mk.inj (Option.some.inj e1)).1
            have kk : k = Sum.inr z := by rw [← e1', ← h.1, h1]
            subst kk
            obtain ⟨u, eu⟩ := relV_key (show keyIs (Sum.inr z) v = true from e2)
            subst eu
            exact .cons _ _ (ih t h2 (by simpa using hl) fun j v' e => hv (j + 1) v' (by simpa using e))
  exact this rel hk hl hv
theorem cr_sortedDS (hc : X.calm = true) : CallR X (.builtin "sorted") rSortedDS := by
  intro pins s σ H xs us Q I r h
  obtain ⟨d, kvs, ss, rfl, ha, hks, q⟩ := h
  obtain rfl := Vals.ref1 r
  obtain ⟨z, hd, xs', rel, dd⟩ := dk_of I.hok ha
  obtain ⟨ep, hat⟩ := dd.dictAt
  have l1 : kvs.length = xs'.length := Paired.length rel
  have hz : xs'.length ≤ sizeLine := by omega
  refine sorted_col (x := .ref d) (b := false) (kw := []) (ltv := fun _ => ltSv) (P := fun _ _ vs => StrsAre vs ss)
    plain_rev (args_sorted1 _) (fun _ => args_list_sort _) (fun R hR => ?_) (fun _ _ _ _ => swo_str) (fun h' _ vs hP => ?_) (fun h' tk vs hP h2 h₁ c hb keep => strs_sortable hP h2) (fun h' tk vs out h2 hk hP h1 hb hk2 hat => ?_)
  · refine PySem.W.kdu_collect (A := X.A.in1) (PySem.W.kdl_dict (knd := mixKind X.prog X.w) (kvs := xs') (ep := ep) (d := d) hd) (I.ok.hd hc) hat hz fun h' tk acc hk hacc => hR h' tk _ hk (keys_strs rel hks (by rw [Array.length_toList]; exact hacc.1) fun j v e => hacc.2 j v (by rw [← Array.getElem?_toList]; exact e))
  · rw [hP.length, ← List.length_map (f := (Sum.inr : Str → Key)), ← hks, List.length_map]
    omega
  · obtain ⟨n, hat⟩ := hat
    have isS : ∀ v ∈ out, ∃ x t, v = Value.str x t := fun v hv => StrsAre.all hP v (hb.perm.mem_iff.mp hv)
    have kp : (out.map strOf).Perm ss := by
      have := hb.perm.map strOf
      rwa [if_neg (by decide), strOf_strs hP] at this
    have hlen : ((out.map strOf).map V.str).length ≤ sizeLine := by
      rw [List.length_map, kp.length_eq, ← List.length_map (f := (Sum.inr : Str → Key)), ← hks, List.length_map]
      omega
    have gone : s.heap.get? h'.objs.size = none := by
      cases e : s.heap.get? h'.objs.size with
      | none => rfl
      | some o => exact absurd (Heap.lt_size (hk _ _ e)) (Nat.lt_irrefl _)
    have hn := I.hok.gone gone
    exact ⟨.ref h'.objs.size, upd H h'.objs.size (.lst ((out.map strOf).map V.str)), I.laidN (t' := tk) (fun c o e => hk2 c o (hk c o e)) gone hn ⟨hlen, out, n, vals_of_strs (strsAre_map out isS), hat⟩, rfl, q _ _ kp (srtd_map h1) hn⟩
/-! plain tuples: such of which no attributes are held -/
def Ptp (H : Hp) (a : Addr) (xs : List V) : Prop := ∃ o : Obj, H a = some (.frz o (.tup xs)) ∧ o.dict = none
theorem Ptp.seq {K : PySem.W.Frag} {H : Hp} {a : Addr} {xs : List V} (h : Ptp H a xs) : SqT K H a xs := let ⟨o, e, _⟩ := h; .inl (.inr ⟨o, e⟩)
theorem Ptp.same {H H' : Hp} {a : Addr} {xs : List V} (h : Ptp H a xs) (s : Same H H') : Ptp H' a xs := let ⟨o, e, d⟩ := h; ⟨o, s _ _ e, d⟩
theorem Ptp.ne {H : Hp} {a p : Addr} {xs : List V} (h : Ptp H a xs) (hp : H p = none) : a ≠ p := let ⟨o, e, _⟩ := h; ne_of_none e hp
theorem Ptp.upd {H : Hp} {a p : Addr} {xs : List V} {u : HO} (h : Ptp H a xs) (n : a ≠ p) : Ptp (L2.upd H p u) a xs := let ⟨o, e, d⟩ := h; ⟨o, by rw [upd_ne n]; exact e, d⟩
/-- (a, b, ..), a plain tuple -/
def tTupF (t : TA) : TE := fun σ H Q => t σ H fun xs H1 => xs.length ≤ sizeLine ∧ ∀ p o, H1 p = none → o.dict = none → Q (.ref p) (upd H1 p (.frz o (.tup xs)))
theorem pe_tupF {x1} {es : List Expr} {t : TA} {pos : Pos} (h : PA X es t) : PE X (.Tuple es x1 pos) (tTupF t) := by
  refine ⟨fun pins s σ H Q I hq => ?_⟩
  refine wpAny_Tuple_spliced (thn (h.run pos pins s σ H _ I hq) fun us s1 ⟨xs, H1, I1, r, z, q⟩ => ⟨by rw [← r.length]; exact z, ?_⟩)
  have hf : H1 s1.heap.objs.size = none := I1.hok.fresh (Nat.le_refl _)
  refine ⟨.ref s1.heap.objs.size, _, I1.laid (t' := s1.toks) (fun b u e => Heap.get?_push_of_some _ e) (Nat.le_refl _) ?_, rfl, q _ { cls := .type "tuple", data := .seq us.toArray } hf rfl⟩
  exact ⟨Heap.get?_push_size _ rfl, z, us, r, ⟨_, Heap.get?_push_size _ rfl, rfl, _, rfl⟩⟩
/-- tuple(xs) of a list, a plain tuple -/
theorem call_tupleF : CallR X (.type "tuple") (fun xs H Q => ∃ p ys, xs = [.ref p] ∧ SqL X.K H p ys ∧ ∀ l o, H l = none → o.dict = none → Q (.ref l) (upd H l (.frz o (.tup ys)))) := by
  intro pins s σ H xs us Q I r h
  obtain ⟨p, ys, rfl, hq, q⟩ := h
  obtain ⟨u, rfl, rx⟩ := vals1 r
  cases rx
  obtain ⟨its, r', pl, hz⟩ := I.list hq
  have hlen := r'.length
  refine call_tuple_list pl.isList (fun h' kp => ?_) (by simp only [List.size_toArray] <;> omega)
  have I1 : Inv X pins σ H { s with heap := h' } := I.kept (t' := s.toks) kp
  have I2 : Inv X pins σ (upd H h'.objs.size (.frz _ (.tup ys))) { s with heap := h'.push { cls := .type "tuple", data := .seq its.toArray } } :=
    I1.laid (t' := s.toks) (fun b o e => Heap.get?_push_of_some _ e) (Nat.le_refl _) (show ObjOk X.prog X.w _ _ _ (.frz _ (.tup ys)) from ⟨Heap.get?_push_size _ rfl, hz, its, r', IsTup.new _ _⟩)
  exact ⟨.ref h'.objs.size, _, I2, rfl, q _ _ (I1.hok.fresh (Nat.le_refl _)) rfl⟩
theorem pairs_of2 {pins : List (Addr × Obj)} {σ : St} {H : Hp} {s : Shared} (I : Inv X pins σ H s) : ∀ {ps : List Addr} {kvs : List (Key × V)}, Paired (fun p kv => SqT X.K H p [kV kv.1, kv.2]) ps kvs →
    ∃ (prs : List (Key × Value)) (vps : List (Value × Value)), KV kvs prs ∧ prs.length = ps.length ∧ vps.length = prs.length ∧
      ∀ (j : Nat) (k v : Value), vps[j]? = some (k, v) → ∃ (b : Addr) (q : Key × Value), ps[j]? = some b ∧ prs[j]? = some q ∧ v = q.2 ∧ IsTup s.heap b #[k, v] ∧ keyIs q.1 k = true
  | _, _, .nil => ⟨[], [], .nil, rfl, rfl, fun j k v e => by simp at e⟩
  | _, _, .cons (a := p) (b := kv) h t => by
    obtain ⟨prs, vps, r, hl, hl2, hp⟩ := pairs_of2 I t
    obtain ⟨its, rv, ht, _⟩ := I.tuple h
    obtain ⟨u, y, ei, ru, ry⟩ := vals2 rv
    subst ei
    refine ⟨(kv.1, y) :: prs, (u, y) :: vps, .cons ⟨rfl, ry⟩ r, by rw [List.length_cons, List.length_cons, hl], by rw [List.length_cons, List.length_cons, hl2], fun j k v e => ?_⟩
    cases j with
    | zero =>
      have e' : (u, y) = (k, v) := Option.some.inj e
      cases e'
      exact ⟨p, _, rfl, rfl, rfl, ht, kV_is (P := X.prog) (w := X.w) ru⟩
    | succ j =>
      obtain ⟨b, q, e1, e2, e3⟩ := hp j k v (by simpa using e)
      exact ⟨b, q, by simpa using e1, by simpa using e2, e3⟩
/-- dict(t), t a plain tuple of pairs -/
theorem call_dictPT (hcalm : X.calm = true) : CallR X (.type "dict") (fun xs H Q => ∃ (a : Addr) (ps : List Addr) (kvs : List (Key × V)), xs = [.ref a] ∧ Ptp H a (ps.map V.ref) ∧ Paired (fun p kv => SqT X.K H p [kV kv.1, kv.2]) ps kvs ∧
    ∀ p, H p = none → Q (.ref p) (upd H p (.dK (mergeK [] kvs)))) := by
  intro pins s σ H xs us Q I r q
  obtain ⟨a, ps, kvs, ex, hq, hp, q⟩ := q
  subst ex
  obtain ⟨u, eu, rx⟩ := vals1 r
  subst eu
  cases rx
  obtain ⟨o, ha, hdn⟩ := hq
  obtain ⟨hao, hz, its, rv, o', hao', hc, n, hdat⟩ := (show ObjOk X.prog X.w H s.heap a (.frz o (.tup (ps.map V.ref))) from I.hok a _ ha)
  rw [hao] at hao'
  cases hao'
  have ei := refs_at rv
  subst ei
  rw [List.length_map] at hz
  obtain ⟨prs, vps, rel, hl, hvl, hvp⟩ := pairs_of2 I hp
  have hTs : ∀ j b, ps[j]? = some b → ps.getD j 0 = b := fun j b e => by simp [List.getD, e]
  refine PySem.call_dict_pairs (knd := mixKind X.prog X.w) (kvs := prs) (PairArg.tuple (prog := X.prog) (w := X.w) a (ps.map Value.ref).toArray (fun j => ps.getD j 0) vps) (I.ok.hd hcalm) ⟨⟨o, n, hao, hc, hdn, hdat⟩, ?_, fun j k v e => ?_⟩ ⟨hvl.symm, fun i key v h => ?_⟩ (by rw [hvl, hl]; exact hz) fun h' tk hd' k => ?_
  · simp [hvl, hl]
  · obtain ⟨b, q, e1, e2, e3, e4, e5⟩ := hvp j k v e
    show _ ∧ PairAt s.heap (ps.getD j 0) k v
    rw [hTs j b e1]
    have ed : (List.map Value.ref ps).toArray[j]? = some (Value.ref b) := by simp [e1]
    refine ⟨?_, .inl e4⟩
    show _ = some (Value.ref (ps.getD j 0))
    rw [hTs j b e1]
    exact ed
  · obtain ⟨b, q', e1, e2, e3, e4, e5⟩ := hvp i key v h
    exact ⟨q'.1, by rw [e2, e3], e5⟩
  · have hm : (s.heap.objs.size == sysModules) = false := beq_eq_false_iff_ne.mpr (Nat.ne_of_gt I.big)
    have hlen : (mergeK [] kvs).length ≤ sizeLine := by
      refine Nat.le_trans (length_mergeK kvs []) ?_
      rw [List.length_nil, Nat.zero_add, rel.length, hl]
      exact hz
    exact ⟨.ref s.heap.objs.size, upd H s.heap.objs.size (.dK (mergeK [] kvs)), I.laid (t' := tk) (fun b u e => k b u (by simp) e) (Nat.le_refl _) (show ObjOk X.prog X.w _ _ _ (.dK (mergeK [] kvs)) from ⟨hlen, hm, merged [] prs, KV.merge rel .nil, hd'⟩), rfl, q _ (I.hok.fresh (Nat.le_refl _))⟩
/-- o.f as a target -/
def gFld (K : PySem.W.Frag) (ta : TE) (f : Str) : TG := fun y σ H Q => ta σ H fun x H2 => ∃ a C dx fs, x = .ref a ∧ H2 a = some (.ins C dx fs) ∧ Cls K C ∧ NoAttr K C f ∧ fs.length < 1000 ∧ Q σ (upd H2 a (.ins C dx (putF f y fs)))
theorem pg_fld {o : Expr} {f : Str} {pos : Pos} {ta : TE} (ha : PE X o ta) : PG X (.Attribute o f pos) (gFld X.K ta f) := by
  refine ⟨fun pins s σ H v u Q I r h => ?_⟩
  rw [assign_Attribute]
  refine wpAny_bind (wpAny_holding (thn (ha.run pins s σ H _ I h) fun ov s2 ⟨x, H2, I2, rx, a, C, dx, fs, ex, ea, c, n, l, q2⟩ => ?_))
  subst ex
  obtain rfl : ov = Value.ref a := rx
  refine wpAny_bind (wpAny_standAt (wpAny_bind (wpAny_holding (setattr_ok I2 ea c n l r fun s3 I3 => ?_))))
  exact wpAny_release ⟨σ, _, I3, q2⟩
end
end L2

namespace Kb
open PySem PySem.Spec PyProof.Rows L2
/-! the text -/
def topS (i : Nat) : Stmt := PySem.Challenge.pw_knownends_k42_whole_rooms_for_told_error.main.body.getD i (.Pass ⟨0, 0, 0, 0⟩)
/-! facts -/
structure Dn (K : PySem.W.Frag) (mg : Str → Option Value) (nm : Str) (st : Stmt) (ps : List Str) where
  f : Addr
  fd : FuncData
  F : Fun K nm nm st f fd
  g : mg nm = some (.ref f)
  b : Binds K fd ps []
structure Cst (mg : Str → Option Value) (nm : Str) (v : V) where
  u : Value
  g : mg nm = some u
  r : RelV v u
structure Blt (mg : Str → Option Value) : Prop where
  n_len : mg "len" = none
  n_int : mg "int" = none
  n_abs : mg "abs" = none
  n_range : mg "range" = none
  n_isinstance : mg "isinstance" = none
  n_str : mg "str" = none
  n_all : mg "all" = none
  n_tuple : mg "tuple" = none
  n_bool : mg "bool" = none
  n_list : mg "list" = none
  n_dict : mg "dict" = none
  n_sum : mg "sum" = none
  n_min : mg "min" = none
  n_sorted : mg "sorted" = none
  n_max : mg "max" = none
  n_set : mg "set" = none
/-! heaps -/
theorem same_upd {H : Hp} {p : Addr} {o : HO} (h : H p = none) : Same H (upd H p o) := fun b x e => by
  rw [upd_ne (ne_of_none e h)]
  exact e
theorem Same.new {H H1 : Hp} {p : Addr} {o : HO} (x : Same H H1) (h : H1 p = none) : Same H (upd H1 p o) := fun b u e => same_upd h b u (x b u e)
theorem Same.gone {H H1 : Hp} {p : Addr} (x : Same H H1) (h : H1 p = none) : H p = none := by
  cases e : H p with
  | none => rfl
  | some o =>
    have := x _ _ e
    rw [h] at this
    cases this
/-- an object that was new is stored anew -/
theorem Same.put {H H1 : Hp} {p : Addr} {o : HO} (x : Same H H1) (h : H p = none) : Same H (upd H1 p o) := fun b u e => by
  rw [upd_ne (ne_of_none e h)]
  exact x b u e
theorem sql {K : PySem.W.Frag} {H : Hp} {a : Addr} {xs : List V} (h : H a = some (.lst xs)) : SqL K H a xs := .inl (.inl h)
theorem seqT {K : PySem.W.Frag} {H H' : Hp} {a : Addr} {xs : List V} (h : SqT K H a xs) (s : Same H H') : SqT K H' a xs := by
  rcases h with (h | ⟨o, h⟩) | h
  · exact .inl (.inl (s _ _ h))
  · exact .inl (.inr ⟨o, s _ _ h⟩)
  · exact .inr h
theorem tyT {K : PySem.W.Frag} {H : Hp} {a : Addr} {xs : List V} (h : SqT K H a xs) : TyX K H (.ref a) (.type "tuple") := by
  rcases h with (h | ⟨o, h⟩) | ⟨o, its, n, h, c, _⟩
  · exact .base (.tup h)
  · exact .fTuple h
  · exact .kTuple h c
/-- %, the rest as a letter -/
def rModB : R2 := fun x y H Q => ∃ i j, x = .int i ∧ y = .int j ∧ 0 < j ∧ ∀ m : Int, 0 ≤ m → m < j → m = i % j → Q (.int m) H
theorem op_modB {X : Cx} : OpR X (binaryOp .Mod) rModB := fun pins s σ H x y v u Q I rx ry h => by
  obtain ⟨i, j, e1, e2, hj, q⟩ := h
  exact op_mod pins s σ H x y v u Q I rx ry ⟨i, j, e1, e2, hj, q _ (Int.emod_nonneg _ (by omega)) (Int.emod_lt_of_pos _ hj) rfl⟩
theorem cmulR {i j : Int} (h1 : 0 ≤ j) (h2 : j < 10000000000) : CMul i j := .inr ⟨by omega, by omega⟩
theorem cmulL {i j : Int} (h1 : 0 ≤ i) (h2 : i < 10000000000) : CMul i j := .inl ⟨by omega, by omega⟩
/-! names -/
def cs (z : Str) : List Nat := z.cps.toList
theorem cs_len (z : Str) : (cs z).length = z.length := by simp [cs, Str.length]
theorem cs_inj {a b : Str} (h : cs a = cs b) : a = b := by
  cases a; cases b
  simp [cs] at h
  rw [h]
def nmC (c : Nat) : Bool := !decide (c < 97) && !decide (122 < c)
/-- a name -/
structure Nm (z : Str) : Prop where
  pos : 1 ≤ z.length
  len : z.length ≤ 8
  abc : ∀ c ∈ cs z, nmC c = true
theorem lt_one (a b : Nat) : decide ([a] < [b]) = decide (a < b) := by
  have : ([a] < [b]) ↔ a < b := by simp [List.cons_lt_cons_iff]
  by_cases h : a < b
  · rw [decide_eq_true h, decide_eq_true (this.mpr h)]
  · rw [decide_eq_false h, decide_eq_false (fun z => h (this.mp z))]
abbrev sP_is_int : Stmt := topS 8
abbrev NP_is_int : List Str := ["thing"]
theorem scP_is_int : FnScope ["thing"] ["thing"] (defScope sP_is_int) := ⟨rfl, rfl, rfl, by decide +kernel, rfl, by decide +kernel, by decide +kernel⟩
abbrev sP_is_number : Stmt := topS 9
abbrev NP_is_number : List Str := ["thing"]
theorem scP_is_number : FnScope ["thing"] ["thing"] (defScope sP_is_number) := ⟨rfl, rfl, rfl, by decide +kernel, rfl, by decide +kernel, by decide +kernel⟩
abbrev sP_is_room : Stmt := topS 10
abbrev NP_is_room : List Str := ["thing"]
theorem scP_is_room : FnScope ["thing"] ["thing"] (defScope sP_is_room) := ⟨rfl, rfl, rfl, by decide +kernel, rfl, by decide +kernel, by decide +kernel⟩
abbrev sP_is_name : Stmt := topS 17
abbrev NP_is_name : List Str := ["thing", "letter"]
theorem scP_is_name : FnScope ["thing", "letter"] ["thing"] (defScope sP_is_name) := ⟨rfl, rfl, rfl, by decide +kernel, rfl, by decide +kernel, by decide +kernel⟩
abbrev NP_is_stream : List Str := ["thing", "item"]
abbrev DnIsInt (K : PySem.W.Frag) (mg : Str → Option Value) := Dn K mg "is_int" sP_is_int ["thing"]
abbrev DnIsNumber (K : PySem.W.Frag) (mg : Str → Option Value) := Dn K mg "is_number" sP_is_number ["thing"]
abbrev DnIsRoom (K : PySem.W.Frag) (mg : Str → Option Value) := Dn K mg "is_room" sP_is_room ["thing"]
abbrev DnIsName (K : PySem.W.Frag) (mg : Str → Option Value) := Dn K mg "is_name" sP_is_name ["thing"]
section
variable {P : Program} {w : World} {K : PySem.W.Frag} {mg : Str → Option Value} {base : Heap}
/-! is_int, of ints -/
def spIsInt : Sp := fun vs H Q _ => ∃ i : Int, vs = [.int i] ∧ Q (.bl true) H
theorem ok_is_int (T : Blt mg) (d : DnIsInt K mg) : FnOk P w K mg base CX0 1 d.f d.fd ["thing"] spIsInt := by
  refine d.F.ok scP_is_int (fun vs H Q E h => ?_) (fun cdv A outer s H vs Q E hr h => ?_)
  · obtain ⟨i, rfl, _⟩ := h
    rfl
  · obtain ⟨i, rfl, q⟩ := h
    refine ⟨_, (pss_one (ps_ret (pe_and (pe_callB call_isi (by rfl) T.n_isinstance (by decide +kernel) (pa_cons (pv 0) (pa_cons (pe_bltn (v := .ty "int") (by rfl) T.n_int (by decide +kernel) rfl) pa_nil))) (pe_one (pe_not (pe_callB call_isi (by rfl) T.n_isinstance (by decide +kernel) (pa_cons (pv 0) (pa_cons (pe_bltn (v := .ty "bool") (by rfl) T.n_bool (by decide +kernel) rfl) pa_nil)))))))), ?_⟩
    refine ⟨.int i, rfl, .int i, _, _, _, true, rfl, .ty "int", .base (.int i), kit_ty (by decide +kernel), true, rfl, iteT ?_⟩
    exact ⟨.int i, rfl, .int i, _, _, _, false, rfl, .ty "bool", .base (.int i), kit_ty (by decide +kernel), false, rfl, q⟩
/-! is_number, of ints -/
def spIsNumber : Sp := fun vs H Q _ => ∃ i : Int, vs = [.int i] ∧ Q (.bl (decide (0 ≤ i))) H
theorem ok_is_number (T : Blt mg) (dP_is_int : DnIsInt K mg) (d : DnIsNumber K mg) : FnOk P w K mg base CX0 2 d.f d.fd ["thing"] spIsNumber := by
  have GP_is_int : FnOk P w K mg base CX0 1 dP_is_int.f dP_is_int.fd ["thing"] spIsInt := ok_is_int T dP_is_int
  refine d.F.ok scP_is_number (fun vs H Q E h => ?_) (fun cdv A outer s H vs Q E hr h => ?_)
  · obtain ⟨i, rfl, _⟩ := h
    rfl
  · obtain ⟨i, rfl, q⟩ := h
    refine ⟨_, (pss_one (ps_ret (pe_and (pe_call GP_is_int (hr.mono (by omega)) (by rfl) dP_is_int.g dP_is_int.F.kp dP_is_int.b .nil pass0 (pa_cons (pv 0) pa_nil)) (pe_one (pe_cmpR op_ge (pv 0) pe_int (nomark _)))))), ?_⟩
    exact ⟨.int i, rfl, i, rfl, true, rfl, iteT ⟨.int i, rfl, _, _, rfl, rfl, q⟩⟩
/-! is_room, of ints -/
def spIsRoom : Sp := fun vs H Q _ => ∃ i : Int, vs = [.int i] ∧ Q (.bl (decide (1 ≤ i) && decide (i ≤ 64))) H
theorem ok_is_room (T : Blt mg) (cM : Cst mg "MOST_ROOM" (.int 64)) (dP_is_int : DnIsInt K mg) (d : DnIsRoom K mg) : FnOk P w K mg base CX0 2 d.f d.fd ["thing"] spIsRoom := by
  have GP_is_int : FnOk P w K mg base CX0 1 dP_is_int.f dP_is_int.fd ["thing"] spIsInt := ok_is_int T dP_is_int
  refine d.F.ok scP_is_room (fun vs H Q E h => ?_) (fun cdv A outer s H vs Q E hr h => ?_)
  · obtain ⟨i, rfl, _⟩ := h
    rfl
  · obtain ⟨i, rfl, q⟩ := h
    refine ⟨_, (pss_one (ps_ret (pe_and (pe_call GP_is_int (hr.mono (by omega)) (by rfl) dP_is_int.g dP_is_int.F.kp dP_is_int.b .nil pass0 (pa_cons (pv 0) pa_nil)) (pe_one (pe_chain op_le op_le pe_int (pv 0) (pe_glob rfl cM.g cM.r)))))), ?_⟩
    refine ⟨.int i, rfl, i, rfl, true, rfl, iteT ⟨.int i, rfl, _, _, rfl, rfl, decide (1 ≤ i), rfl, ite2 (fun e => ⟨_, _, rfl, rfl, ?_⟩) (fun e => ?_)⟩⟩
    · rw [e, Bool.true_and] at q
      exact q
    · rw [show decide (1 ≤ i) = false from by simpa using e, Bool.false_and] at q
      exact q
/-! is_name, of names -/
def spIsName : Sp := fun vs H Q _ => ∃ z : Str, vs = [.str z] ∧ Nm z ∧ ∀ H', Same H H' → Q (.bl true) H'
theorem ok_is_name (T : Blt mg) (cL : Cst mg "LONGEST_NAME" (.int 8)) (d : DnIsName K mg) : FnOk P w K mg base CX0 1 d.f d.fd ["thing"] spIsName := by
  refine d.F.ok scP_is_name (fun vs H Q E h => ?_) (fun cdv A outer s H vs Q E hr h => ?_)
  · obtain ⟨z, rfl, _⟩ := h
    rfl
  · obtain ⟨z, rfl, nm, q⟩ := h
    refine ⟨_, (pss_cons (ps_if (PW.pt (pw_or (pt_not (pt_val (pe_callB call_isi (by rfl) T.n_isinstance (by decide +kernel) (pa_cons (pv 0) (pa_cons (pe_bltn (v := .ty "str") (by rfl) T.n_str (by decide +kernel) rfl) pa_nil))))) (pw_or1 (pt_not (pt_chain op_le op_le pe_int (pe_callB call_len_str (by rfl) T.n_len (by decide +kernel) (pa_cons (pv 0) pa_nil)) (pe_glob rfl cL.g cL.r))))))
      (pss_one (ps_ret pe_bl))
      pss_nil)
    (pss_one (ps_ret (pe_callB (cr_all rfl) (by rfl) T.n_all (by decide +kernel) (pa_cons (pe_lc (own := [("letter", 1)]) (g := gName 1) (tt := tYes) rfl scP_is_name.nd (pi_str (pv 0)) (blkOk_by (N := NP_is_name) (sc := defScope sP_is_name) (by decide +kernel)) (fun _ _ _ _ _ => pg_name (i := 1) scP_is_name.nd rfl (Or.inl rfl)) (fun _ _ _ _ _ => pts_nil) (fun _ _ _ _ _ => (pe_chain op_le_str op_le_str pe_str (pv 1) pe_str))) pa_nil))))), ?_⟩
    have h1 : decide ((1 : Int) ≤ (z.length : Int)) = true := decide_eq_true (by have := nm.pos; omega)
    have h8 : decide ((z.length : Int) ≤ 8) = true := decide_eq_true (by have := nm.len; omega)
    refine ⟨.str z, rfl, .str z, _, _, _, true, rfl, .ty "str", .base (.str z), kit_ty (by decide +kernel), true, rfl, iteF ?_⟩
    refine ⟨.str z, rfl, z, rfl, (by rw [sizeLine_eq]; have := nm.len; omega), _, _, rfl, rfl, true, congrArg V.bl h1, iteT ⟨_, _, rfl, rfl, true, congrArg V.bl h8, iteF ?_⟩⟩
    refine ⟨.str z, rfl, z, rfl, fun D nD => ?_⟩
    refine lc_it walk_str (fun i H3 => Same H H3 ∧ H3 D = some (.lst (((cs z).take i).map fun c => V.bl true))) ⟨same_upd nD, upd_same⟩ (fun _ _ _ _ => trivial) (fun i x H3 H4 hi h3 y => ?_) (fun H3 h3 => ?_)
    · obtain ⟨rfl, c, hc, rfl⟩ := y
      have hc2 : (cs z)[i]? = some c := by
        rw [← hc]
        simp [cs]
      have hcn := nm.abc c (List.mem_of_getElem? hc2)
      unfold nmC at hcn
      have ha : (!decide (c < 97)) = true := by cases h : (!decide (c < 97)) <;> simp_all
      have hz : (!decide (122 < c)) = true := by rw [ha, Bool.true_and] at hcn; exact hcn
      refine ⟨rfl, .str ⟨#[c]⟩, rfl, _, _, rfl, rfl, true, ?_, iteT ⟨_, _, rfl, rfl, ?_⟩⟩
      · show V.bl (!decide ([c] < (Str.ofString "a").cps.toList)) = _
        rw [show (Str.ofString "a").cps.toList = [97] by decide +kernel, lt_one, ha]
      · rw [show (!decide ((Str.ofString "z").cps.toList < [c])) = true by
          rw [show (Str.ofString "z").cps.toList = [122] by decide +kernel, lt_one, hz]]
        refine ⟨_, h3.2, ?_, fun b o e => ?_, ?_⟩
        · rw [List.length_map, List.length_take, sizeLine_eq]
          have := cs_len z
          have := nm.len
          omega
        · rw [upd_ne (ne_of_none e nD)]
          exact h3.1 b o e
        · rw [upd_same, List.take_add_one, hc2, List.map_append]
          rfl
    · refine ⟨D, (cs z).map fun _ => true, rfl, sql ?_, ?_⟩
      · rw [h3.2, List.map_map]
        rw [List.take_of_length_le (by
          show (cs z).length ≤ z.cps.size
          simp [cs])]
        rfl
      · rw [show (((cs z).map fun _ => true).all id) = true by simp]
        exact q H3 h3.1
/-! is_stream, of tuples of names -/
def spIsStream (K : PySem.W.Frag) : Sp := fun vs H Q _ => ∃ (a : Addr) (zs : List Str), vs = [.ref a] ∧ SqT K H a (zs.map V.str) ∧ (∀ z ∈ zs, Nm z) ∧ zs.length ≤ 100000 ∧ ∀ H', Same H H' → Q (.bl true) H'
end
end Kb

namespace Kb
open PySem PySem.Spec PyProof.Rows L2
abbrev NP_is_tree : List Str := ["thing"]
abbrev NP_is_tree_of : List Str := ["thing", "word", "is_right", "many", "height", "step"]
abbrev NP_is_put : List Str := ["step", "word"]
abbrev NP_is_pour : List Str := ["step"]
/-! trees -/
inductive Stp
  | put (zs : List Str)
  | pour
def StpAt (K : PySem.W.Frag) (H : Hp) (v : V) : Stp → Prop
  | .put zs => ∃ a b, v = .ref a ∧ SqT K H a [.str (Str.ofString "stream"), .ref b] ∧ SqT K H b (zs.map V.str) ∧ (∀ z ∈ zs, Nm z) ∧ zs.length ≤ 100000
  | .pour => ∃ a, v = .ref a ∧ SqT K H a [.str (Str.ofString "pour")]
theorem StpAt.same {K : PySem.W.Frag} {H H' : Hp} {v : V} {t : Stp} (h : StpAt K H v t) (s : Same H H') : StpAt K H' v t := by
  cases t with
  | put zs =>
    obtain ⟨a, b, e, h1, h2, r⟩ := h
    exact ⟨a, b, e, seqT h1 s, seqT h2 s, r⟩
  | pour =>
    obtain ⟨a, e, h1⟩ := h
    exact ⟨a, e, seqT h1 s⟩
def hS (h : Int) : Stp → Int
  | .put _ => h + 1
  | .pour => h - 1
def cS (m : Int) : Stp → Int
  | .put zs => m + (zs.length : Nat)
  | .pour => m
def hgt (l : List Stp) : Int := l.foldl hS 0
def mny (l : List Stp) : Int := l.foldl cS 0
structure Tree (l : List Stp) : Prop where
  two : ∀ i, l[i]? = some .pour → 2 ≤ hgt (l.take i)
  one : hgt l = 1
  few : mny l ≤ 50000
  len : l.length ≤ 5000
theorem hgt_snoc {l : List Stp} {i : Nat} {t : Stp} (h : l[i]? = some t) : hgt (l.take (i + 1)) = hS (hgt (l.take i)) t := by
  unfold hgt
  rw [List.take_add_one, h, List.foldl_append]
  rfl
theorem mny_snoc {l : List Stp} {i : Nat} {t : Stp} (h : l[i]? = some t) : mny (l.take (i + 1)) = cS (mny (l.take i)) t := by
  unfold mny
  rw [List.take_add_one, h, List.foldl_append]
  rfl
def TreeAt (K : PySem.W.Frag) (H : Hp) (a : Addr) (l : List Stp) : Prop := ∃ vs, SqT K H a vs ∧ Paired (StpAt K H) vs l
theorem paired_same {K : PySem.W.Frag} {H H' : Hp} (s : Same H H') : ∀ {vs : List V} {l : List Stp}, Paired (StpAt K H) vs l → Paired (StpAt K H') vs l
  | _, _, .nil => .nil
  | _, _, .cons h t => .cons (h.same s) (paired_same s t)
theorem TreeAt.same {K : PySem.W.Frag} {H H' : Hp} {a : Addr} {l : List Stp} (h : TreeAt K H a l) (s : Same H H') : TreeAt K H' a l := by
  obtain ⟨vs, h1, h2⟩ := h
  exact ⟨vs, seqT h1 s, paired_same s h2⟩
theorem stream_ne : ¬ (V.str (Str.ofString "pour") = V.str (Str.ofString "stream")) := by decide +kernel
section
variable {P : Program} {w : World} {K : PySem.W.Frag} {mg : Str → Option Value} {base : Heap}
/-! _is_put -/
def isPut : Stp → Bool
  | .put _ => true
  | .pour => false
def spIsPut (K : PySem.W.Frag) : Sp := fun vs H Q _ => ∃ (v : V) (t : Stp), vs = [v, .str (Str.ofString "stream")] ∧ StpAt K H v t ∧ Q (.bl (isPut t)) H
/-! _is_pour -/
def spIsPour (K : PySem.W.Frag) : Sp := fun vs H Q _ => ∃ v : V, vs = [v] ∧ StpAt K H v .pour ∧ Q (.bl true) H
/-! is_tree_of, is_tree -/
theorem paired_at {α β : Type} {F : α → β → Prop} : ∀ {xs : List α} {ys : List β}, Paired F xs ys → ∀ {i : Nat} {x : α}, xs[i]? = some x → ∃ y, ys[i]? = some y ∧ F x y := LiI.paired_get
def spIsTreeOf (K : PySem.W.Frag) (g : Addr) : Sp := fun vs H Q _ => ∃ (a : Addr) (l : List Stp), vs = [.ref a, .str (Str.ofString "stream"), .ref g] ∧ TreeAt K H a l ∧ Tree l ∧ ∀ H', Same H H' → Q (.bl true) H'
def spIsTree (K : PySem.W.Frag) : Sp := fun vs H Q _ => ∃ (a : Addr) (l : List Stp), vs = [.ref a] ∧ TreeAt K H a l ∧ Tree l ∧ ∀ H', Same H H' → Q (.bl true) H'
end
end Kb

namespace Kb
open PySem PySem.Spec PyProof.Rows L2 SrtZ
abbrev sP_are_counts : Stmt := topS 18
abbrev NP_are_counts : List Str := ["thing", "last", "pair"]
theorem scP_are_counts : FnScope ["thing", "last", "pair"] ["thing"] (defScope sP_are_counts) := ⟨rfl, rfl, rfl, by decide +kernel, rfl, by decide +kernel, by decide +kernel⟩
abbrev sP_is_counted : Stmt := topS 19
abbrev NP_is_counted : List Str := ["pair"]
theorem scP_is_counted : FnScope ["pair"] ["pair"] (defScope sP_is_counted) := ⟨rfl, rfl, rfl, by decide +kernel, rfl, by decide +kernel, by decide +kernel⟩
abbrev sP_lost_of : Stmt := topS 21
abbrev NP_lost_of : List Str := ["sketch", "_", "count"]
theorem scP_lost_of : FnScope ["sketch", "_", "count"] ["sketch"] (defScope sP_lost_of) := ⟨rfl, rfl, rfl, by decide +kernel, rfl, by decide +kernel, by decide +kernel⟩
abbrev sP_is_sketch : Stmt := topS 22
abbrev NP_is_sketch : List Str := ["thing", "room", "many", "off", "kept"]
theorem scP_is_sketch : FnScope ["thing", "room", "many", "off", "kept"] ["thing"] (defScope sP_is_sketch) := ⟨rfl, rfl, rfl, by decide +kernel, rfl, by decide +kernel, by decide +kernel⟩
abbrev NP_bare : List Str := ["room"]
abbrev DnAreCounts (K : PySem.W.Frag) (mg : Str → Option Value) := Dn K mg "are_counts" sP_are_counts ["thing"]
abbrev DnIsCounted (K : PySem.W.Frag) (mg : Str → Option Value) := Dn K mg "_is_counted" sP_is_counted ["pair"]
abbrev DnLostOf (K : PySem.W.Frag) (mg : Str → Option Value) := Dn K mg "lost_of" sP_lost_of ["sketch"]
abbrev DnIsSketch (K : PySem.W.Frag) (mg : Str → Option Value) := Dn K mg "is_sketch" sP_is_sketch ["thing"]
/-! counts -/
abbrev Ct := List (Str × Int)
def PrAt (K : PySem.W.Frag) (H : Hp) (t : Addr) (e : Str × Int) : Prop := SqT K H t [.str e.1, .int e.2]
/-- the tuple at k holds these pairs -/
def CtAt (K : PySem.W.Frag) (H : Hp) (k : Addr) (kvs : Ct) : Prop := ∃ ts : List Addr, SqT K H k (ts.map V.ref) ∧ Paired (PrAt K H) ts kvs
theorem prs_same {K : PySem.W.Frag} {H H' : Hp} (s : Same H H') : ∀ {ts : List Addr} {kvs : Ct}, Paired (PrAt K H) ts kvs → Paired (PrAt K H') ts kvs
  | _, _, .nil => .nil
  | _, _, .cons h t => .cons (seqT h s) (prs_same s t)
theorem CtAt.same {K : PySem.W.Frag} {H H' : Hp} {k : Addr} {kvs : Ct} (h : CtAt K H k kvs) (s : Same H H') : CtAt K H' k kvs := by
  obtain ⟨ts, h1, h2⟩ := h
  exact ⟨ts, seqT h1 s, prs_same s h2⟩
structure Cts (kvs : Ct) : Prop where
  nm : ∀ e ∈ kvs, Nm e.1
  pos : ∀ e ∈ kvs, 1 ≤ e.2
  asc : kvs.Pairwise fun a b => ltZ a.1 b.1 = true
def sumC (kvs : Ct) : Int := (kvs.map (·.2)).sum
theorem map_at {α β : Type} {f : α → β} {xs : List α} {i : Nat} {y : β} (h : (xs.map f)[i]? = some y) : ∃ x, xs[i]? = some x ∧ y = f x := by
  rw [List.getElem?_map] at h
  cases e : xs[i]? with
  | none => rw [e] at h; cases h
  | some x => rw [e] at h; exact ⟨x, rfl, (Option.some.inj h).symm⟩
section
variable {P : Program} {w : World} {K : PySem.W.Frag} {mg : Str → Option Value} {base : Heap}
/-! _is_counted -/
def spIsCounted (K : PySem.W.Frag) : Sp := fun vs H Q _ => ∃ (t : Addr) (e : Str × Int), vs = [.ref t] ∧ PrAt K H t e ∧ Nm e.1 ∧ 1 ≤ e.2 ∧ ∀ H', Same H H' → Q (.bl true) H'
theorem ok_is_counted (T : Blt mg) (cL : Cst mg "LONGEST_NAME" (.int 8)) (dP_is_int : DnIsInt K mg) (dP_is_name : DnIsName K mg) (d : DnIsCounted K mg) : FnOk P w K mg base CX0 2 d.f d.fd ["pair"] (spIsCounted K) := by
  have GP_is_int : FnOk P w K mg base CX0 1 dP_is_int.f dP_is_int.fd ["thing"] spIsInt := ok_is_int T dP_is_int
  have GP_is_name : FnOk P w K mg base CX0 1 dP_is_name.f dP_is_name.fd ["thing"] spIsName := ok_is_name T cL dP_is_name
  refine d.F.ok scP_is_counted (fun vs H Q E h => ?_) (fun cdv A outer s H vs Q E hr h => ?_)
  · obtain ⟨t, e, rfl, _⟩ := h
    rfl
  · obtain ⟨t, e, rfl, hp, hn, h1, q⟩ := h
    refine ⟨_, (pss_cons (ps_if (PW.pt (pw_or (pt_not (pt_val (pe_callB call_isi (by rfl) T.n_isinstance (by decide +kernel) (pa_cons (pv 0) (pa_cons (pe_bltn (v := .ty "tuple") (by rfl) T.n_tuple (by decide +kernel) rfl) pa_nil))))) (pw_or1 (pt_cmpR op_ne (pe_callB call_len_seq (by rfl) T.n_len (by decide +kernel) (pa_cons (pv 0) pa_nil)) pe_int (nomark _)))))
      (pss_one (ps_ret pe_bl))
      pss_nil)
    (pss_one (ps_ret (pe_and (pe_call GP_is_name (hr.mono (by omega)) (by rfl) dP_is_name.g dP_is_name.F.kp dP_is_name.b .nil pass0 (pa_cons (pe_ix ix_tup (pv 0) pe_int (fun _ _ => rfl)) pa_nil)) (pe_and (pe_call GP_is_int (hr.mono (by omega)) (by rfl) dP_is_int.g dP_is_int.F.kp dP_is_int.b .nil pass0 (pa_cons (pe_ix ix_tup (pv 0) pe_int (fun _ _ => rfl)) pa_nil)) (pe_one (pe_cmpR op_ge (pe_ix ix_tup (pv 0) pe_int (fun _ _ => rfl)) pe_int (nomark _)))))))), ?_⟩
    refine ⟨.ref t, rfl, .ref t, _, _, _, true, rfl, .ty "tuple", tyT hp, kit_ty (by decide +kernel), true, rfl, iteF ?_⟩
    refine ⟨.ref t, rfl, t, _, rfl, .inr hp, rfl, false, rfl, iteF ?_⟩
    refine ⟨.ref t, rfl, t, _, _, _, rfl, rfl, hp, atI_nat (j := 0) rfl, e.1, rfl, hn, fun H1 s1 => ⟨true, rfl, iteT ?_⟩⟩
    have hp1 : PrAt K H1 t e := seqT hp s1
    refine ⟨.ref t, rfl, t, _, _, _, rfl, rfl, hp1, atI_nat (j := 1) rfl, e.2, rfl, true, rfl, iteT ?_⟩
    refine ⟨.ref t, rfl, t, _, _, _, rfl, rfl, hp1, atI_nat (j := 1) rfl, _, _, rfl, rfl, ?_⟩
    show Q (.bl (decide (1 ≤ e.2))) H1
    rw [decide_eq_true h1]
    exact q H1 s1
/-! are_counts -/
def spAreCounts (K : PySem.W.Frag) : Sp := fun vs H Q _ => ∃ (k : Addr) (kvs : Ct), vs = [.ref k] ∧ CtAt K H k kvs ∧ Cts kvs ∧ ∀ H', Same H H' → Q (.bl true) H'
theorem ok_are_counts (T : Blt mg) (cL : Cst mg "LONGEST_NAME" (.int 8)) (dP_is_int : DnIsInt K mg) (dP_is_name : DnIsName K mg) (dP_is_counted : DnIsCounted K mg) (d : DnAreCounts K mg) : FnOk P w K mg base CX0 3 d.f d.fd ["thing"] (spAreCounts K) := by
  have GP_is_counted : FnOk P w K mg base CX0 2 dP_is_counted.f dP_is_counted.fd ["pair"] (spIsCounted K) := ok_is_counted T cL dP_is_int dP_is_name dP_is_counted
  refine d.F.ok scP_are_counts (fun vs H Q E h => ?_) (fun cdv A outer s H vs Q E hr h => ?_)
  · obtain ⟨k, kvs, rfl, _⟩ := h
    rfl
  · obtain ⟨k, kvs, rfl, ⟨ts, hS, hp⟩, hc, q⟩ := h
    refine ⟨_, (pss_cons (ps_if (pt_not (pt_val (pe_callB call_isi (by rfl) T.n_isinstance (by decide +kernel) (pa_cons (pv 0) (pa_cons (pe_bltn (v := .ty "tuple") (by rfl) T.n_tuple (by decide +kernel) rfl) pa_nil)))))
      (pss_one (ps_ret pe_bl))
      pss_nil)
    (pss_cons (ps_set (i := 1) scP_are_counts.nd rfl (Or.inl rfl) pe_str)
    (pss_cons (ps_for PassesOwn.never rfl (pi_tup (pv 0)) (pg_name (i := 2) scP_are_counts.nd rfl (Or.inl rfl))
      (pss_cons (ps_if (PW.pt (pw_or (pt_not (pt_val (pe_call GP_is_counted (hr.mono (by omega)) (by rfl) dP_is_counted.g dP_is_counted.F.kp dP_is_counted.b .nil pass0 (pa_cons (pv 2) pa_nil)))) (pw_or1 (pt_cmpR op_le_str (pe_ix ix_tup (pv 2) pe_int (fun _ _ => rfl)) (pv 1) (nomark _)))))
        (pss_one (ps_ret pe_bl))
        pss_nil)
      (pss_one (ps_set (i := 1) scP_are_counts.nd rfl (Or.inl rfl) (pe_ix ix_tup (pv 2) pe_int (fun _ _ => rfl))))))
    (pss_one (ps_ret pe_bl))))), ?_⟩
    refine ⟨.ref k, rfl, .ref k, _, _, _, true, rfl, .ty "tuple", tyT hS, kit_ty (by decide +kernel), true, rfl, iteF ?_⟩
    refine ⟨.ref k, rfl, k, rfl, ⟨_, hS⟩, for_tup (xs := ts.map V.ref) (fun i σ H3 => ∃ (la : Str) (x : Option V), σ = [some (.ref k), some (.str la), x] ∧ Same H H3 ∧ (i = 0 → la = Str.ofString "") ∧ ∀ j e, i = j + 1 → kvs[j]? = some e → la = e.1)
      ⟨Str.ofString "", none, rfl, Same.refl H, fun _ => rfl, fun j e h => by omega⟩ (fun i σ H3 _ ⟨_, _, _, s3, _⟩ => seqT hS s3) ?_ ?_⟩
    · rintro i v σ H3 hi ⟨la, x, rfl, s3, e0, e1⟩
      obtain ⟨t, ht, rfl⟩ := map_at hi
      obtain ⟨e, he, hat⟩ := paired_at hp ht
      have hm := List.mem_of_getElem? he
      refine ⟨.ref t, rfl, t, e, rfl, seqT hat s3, hc.nm e hm, hc.pos e hm, fun H4 s4 => ⟨true, rfl, iteF ?_⟩⟩
      have hat4 : PrAt K H4 t e := seqT hat fun b o z => s4 b o (s3 b o z)
      have hlt : decide (la.cps.toList < e.1.cps.toList) = true := by
        cases i with
        | zero =>
          rw [e0 rfl]
          have h1 := (hc.nm e hm).pos
          have : (Str.ofString "").cps.toList = [] := by decide +kernel
          rw [this]
          refine decide_eq_true ?_
          cases hz : e.1.cps.toList with
          | nil =>
            have : e.1.length = 0 := by rw [← cs_len]; unfold cs; rw [hz]; rfl
            omega
          | cons c r => exact List.nil_lt_cons c r
        | succ j =>
          obtain ⟨e', he'⟩ : ∃ e', kvs[j]? = some e' := ⟨kvs[j]'(by have := (List.getElem?_eq_some_iff.mp he).1; omega), by simp⟩
          rw [e1 j e' rfl he']
          exact (List.pairwise_iff_getElem.mp hc.asc) j (j + 1) (List.getElem?_eq_some_iff.mp he').1 (List.getElem?_eq_some_iff.mp he).1 (by omega) |> fun h => by
            rw [(List.getElem?_eq_some_iff.mp he').2, (List.getElem?_eq_some_iff.mp he).2] at h
            exact h
      refine ⟨.ref t, rfl, t, _, _, _, rfl, rfl, hat4, atI_nat (j := 0) rfl, .str la, rfl, _, _, rfl, rfl, false, ?_, iteF ?_⟩
      · show V.bl (!decide (la.cps.toList < e.1.cps.toList)) = _
        rw [hlt]
        rfl
      refine ⟨.ref t, rfl, t, _, _, _, rfl, rfl, hat4, atI_nat (j := 0) rfl, e.1, some (.ref t), rfl, fun b o z => s4 b o (s3 b o z), fun h => by omega, fun j e' h1 h2 => ?_⟩
      have : j = i := by omega
      subst this
      rw [he] at h2
      cases h2
      rfl
    · rintro σ H3 ⟨la, x, rfl, s3, _⟩
      exact q H3 s3
/-! lost_of -/
def spLostOf (K : PySem.W.Frag) : Sp := fun vs H Q _ => ∃ (s k : Addr) (room many off : Int) (kvs : Ct), vs = [.ref s] ∧ SqT K H s [.int room, .int many, .int off, .ref k] ∧ CtAt K H k kvs ∧ kvs.length ≤ 1000 ∧ ∀ H', Same H H' → Q (.int (many - sumC kvs)) H'
theorem ok_lost_of (T : Blt mg) (d : DnLostOf K mg) : FnOk P w K mg base CX0 1 d.f d.fd ["sketch"] (spLostOf K) := by
  refine d.F.ok scP_lost_of (fun vs H Q E h => ?_) (fun cdv A outer s H vs Q E hr h => ?_)
  · obtain ⟨s, k, _, _, _, _, rfl, _⟩ := h
    rfl
  · obtain ⟨s, k, room, many, off, kvs, rfl, hs, ⟨ts, hS, hp⟩, hl, q⟩ := h
    refine ⟨_, (pss_one (ps_ret (pe_op op_sub (pe_ix ix_tup (pv 0) pe_int (fun _ _ => rfl)) (pe_callB (cr_sum rfl) (by rfl) T.n_sum (by decide +kernel) (pa_cons (pe_lc (own := [("_", 1), ("count", 2)]) (g := gTup K 2 (gCons (gName 1) (gCons (gName 2) gNil))) (tt := tYes) rfl scP_lost_of.nd (pi_tup (pe_ix ix_tup (pv 0) pe_int (fun _ _ => rfl))) (blkOk_by (N := NP_lost_of) (sc := defScope sP_lost_of) (by decide +kernel)) (fun _ _ _ _ _ => pg_tup (by rfl) (pgs_cons (pg_name (i := 1) scP_lost_of.nd rfl (Or.inl rfl)) (pgs_cons (pg_name (i := 2) scP_lost_of.nd rfl (Or.inl rfl)) pgs_nil))) (fun _ _ _ _ _ => pts_nil) (fun _ _ _ _ _ => (pv 2))) pa_nil))))), ?_⟩
    refine ⟨.ref s, rfl, s, _, _, _, rfl, rfl, hs, atI_nat (j := 1) rfl, .ref s, rfl, s, _, _, _, rfl, rfl, hs, atI_nat (j := 3) rfl, k, rfl, ⟨_, hS⟩, fun D nD => lc_tup (xs := ts.map V.ref) (fun i H3 => Same H H3 ∧ H3 D = some (.lst ((kvs.take i).map fun e => V.int e.2))) ⟨same_upd nD, upd_same⟩ (fun i H3 _ h3 => seqT hS h3.1) (fun i x H3 hx h3 => ?_) (fun H3 h3 => ?_)⟩
    · obtain ⟨t, ht, rfl⟩ := map_at hx
      obtain ⟨e, he, hat⟩ := paired_at hp ht
      refine ⟨t, _, rfl, seqT hat h3.1, rfl, _, _, rfl, _, _, rfl, rfl, rfl, .int e.2, rfl, _, h3.2, ?_, fun b o z => ?_, ?_⟩
      · rw [List.length_map, List.length_take, sizeLine_eq]
        omega
      · rw [upd_ne (ne_of_none z nD)]
        exact h3.1 b o z
      · rw [upd_same, List.take_add_one, he, List.map_append]
        rfl
    · refine ⟨D, kvs.map (fun e : Str × Int => e.2), rfl, sql ?_, _, _, rfl, rfl, q H3 h3.1⟩
      rw [h3.2, List.length_map, Paired.length hp, List.take_length, List.map_map]
      rfl
/-! is_sketch -/
def skB (room many off : Int) (kvs : Ct) : Bool :=
  (decide (1 ≤ room) && decide (room ≤ 64)) && (decide (0 ≤ many) && (decide (0 ≤ off) && (decide ((kvs.length : Int) ≤ room) && (decide ((room + 1) * off ≤ many - sumC kvs) && decide (many - sumC kvs ≤ 2 * room * off)))))
def spIsSketch (K : PySem.W.Frag) : Sp := fun vs H Q _ => ∃ (s k : Addr) (room many off : Int) (kvs : Ct), vs = [.ref s] ∧ SqT K H s [.int room, .int many, .int off, .ref k] ∧ CtAt K H k kvs ∧ Cts kvs ∧ kvs.length ≤ 1000 ∧ ∀ H', Same H H' → Q (.bl (skB room many off kvs)) H'
theorem ok_is_sketch (T : Blt mg) (cM : Cst mg "MOST_ROOM" (.int 64)) (cL : Cst mg "LONGEST_NAME" (.int 8)) (dP_is_int : DnIsInt K mg) (dP_is_number : DnIsNumber K mg) (dP_is_room : DnIsRoom K mg) (dP_is_name : DnIsName K mg) (dP_is_counted : DnIsCounted K mg) (dP_are_counts : DnAreCounts K mg)
    (dP_lost_of : DnLostOf K mg) (d : DnIsSketch K mg) : FnOk P w K mg base CX0 4 d.f d.fd ["thing"] (spIsSketch K) := by
  have GP_is_room : FnOk P w K mg base CX0 2 dP_is_room.f dP_is_room.fd ["thing"] spIsRoom := ok_is_room T cM dP_is_int dP_is_room
  have GP_is_number : FnOk P w K mg base CX0 2 dP_is_number.f dP_is_number.fd ["thing"] spIsNumber := ok_is_number T dP_is_int dP_is_number
  have GP_are_counts : FnOk P w K mg base CX0 3 dP_are_counts.f dP_are_counts.fd ["thing"] (spAreCounts K) := ok_are_counts T cL dP_is_int dP_is_name dP_is_counted dP_are_counts
  have GP_lost_of : FnOk P w K mg base CX0 1 dP_lost_of.f dP_lost_of.fd ["sketch"] (spLostOf K) := ok_lost_of T dP_lost_of
  refine d.F.ok scP_is_sketch (fun vs H Q E h => ?_) (fun cdv A outer s H vs Q E hr h => ?_)
  · obtain ⟨s, k, _, _, _, _, rfl, _⟩ := h
    rfl
  · obtain ⟨s, k, room, many, off, kvs, rfl, hs, hk, hc, hl, q⟩ := h
    refine ⟨_, (pss_cons (ps_if (PW.pt (pw_or (pt_not (pt_val (pe_callB call_isi (by rfl) T.n_isinstance (by decide +kernel) (pa_cons (pv 0) (pa_cons (pe_bltn (v := .ty "tuple") (by rfl) T.n_tuple (by decide +kernel) rfl) pa_nil))))) (pw_or1 (pt_cmpR op_ne (pe_callB call_len_seq (by rfl) T.n_len (by decide +kernel) (pa_cons (pv 0) pa_nil)) pe_int (nomark _)))))
      (pss_one (ps_ret pe_bl))
      pss_nil)
    (pss_cons (ps_asg (pv 0) (pg_tup (by rfl) (pgs_cons (pg_name (i := 1) scP_is_sketch.nd rfl (Or.inl rfl)) (pgs_cons (pg_name (i := 2) scP_is_sketch.nd rfl (Or.inl rfl)) (pgs_cons (pg_name (i := 3) scP_is_sketch.nd rfl (Or.inl rfl)) (pgs_cons (pg_name (i := 4) scP_is_sketch.nd rfl (Or.inl rfl)) pgs_nil))))))
    (pss_cons (ps_if (PW.pt (pw_or (pt_not (pt_val (pe_call GP_is_room (hr.mono (by omega)) (by rfl) dP_is_room.g dP_is_room.F.kp dP_is_room.b .nil pass0 (pa_cons (pv 1) pa_nil)))) (pw_or (pt_not (pt_val (pe_call GP_is_number (hr.mono (by omega)) (by rfl) dP_is_number.g dP_is_number.F.kp dP_is_number.b .nil pass0 (pa_cons (pv 2) pa_nil)))) (pw_or1 (pt_not (pt_val (pe_call GP_is_number (hr.mono (by omega)) (by rfl) dP_is_number.g dP_is_number.F.kp dP_is_number.b .nil pass0 (pa_cons (pv 3) pa_nil))))))))
      (pss_one (ps_ret pe_bl))
      pss_nil)
    (pss_cons (ps_if (PW.pt (pw_or (pt_not (pt_val (pe_call GP_are_counts (hr.mono (by omega)) (by rfl) dP_are_counts.g dP_are_counts.F.kp dP_are_counts.b .nil pass0 (pa_cons (pv 4) pa_nil)))) (pw_or1 (pt_cmpR op_gt (pe_callB call_len_seq (by rfl) T.n_len (by decide +kernel) (pa_cons (pv 4) pa_nil)) (pv 1) (nomark _)))))
      (pss_one (ps_ret pe_bl))
      pss_nil)
    (pss_one (ps_ret (pe_chain op_le op_le (pe_op op_mul (pe_op op_add (pv 1) pe_int) (pv 3)) (pe_call GP_lost_of (hr.mono (by omega)) (by rfl) dP_lost_of.g dP_lost_of.F.kp dP_lost_of.b .nil pass0 (pa_cons (pv 0) pa_nil)) (pe_op op_mul (pe_op op_mul pe_int (pv 1)) (pv 3))))))))), ?_⟩
    refine ⟨.ref s, rfl, .ref s, _, _, _, true, rfl, .ty "tuple", tyT hs, kit_ty (by decide +kernel), true, rfl, iteF ?_⟩
    refine ⟨.ref s, rfl, s, _, rfl, .inr hs, rfl, false, rfl, iteF ?_⟩
    refine ⟨.ref s, rfl, s, _, rfl, hs, rfl, _, _, rfl, _, _, rfl, _, _, rfl, _, _, rfl, rfl, ?_⟩
    unfold skB at q
    refine ⟨.int room, rfl, room, rfl, _, rfl, ?_⟩
    cases eR : (decide (1 ≤ room) && decide (room ≤ 64)) with
    | false =>
      rw [eR, Bool.false_and] at q
      exact iteT (iteT (q H (Same.refl H)))
    | true =>
      rw [eR, Bool.true_and] at q
      refine iteF ⟨.int many, rfl, many, rfl, _, rfl, ?_⟩
      cases eM : decide (0 ≤ many) with
      | false =>
        rw [eM, Bool.false_and] at q
        exact iteT (iteT (q H (Same.refl H)))
      | true =>
        rw [eM, Bool.true_and] at q
        refine iteF ⟨.int off, rfl, off, rfl, _, rfl, ?_⟩
        cases eO : decide (0 ≤ off) with
        | false =>
          rw [eO, Bool.false_and] at q
          exact iteT (q H (Same.refl H))
        | true =>
          rw [eO, Bool.true_and] at q
          refine iteF ⟨.ref k, rfl, k, kvs, rfl, hk, hc, fun H1 s1 => ⟨true, rfl, iteF ?_⟩⟩
          have hr1 : 1 ≤ room ∧ room ≤ 64 := by
            rw [Bool.and_eq_true, decide_eq_true_eq, decide_eq_true_eq] at eR
            exact eR
          obtain ⟨ts, hS, hp⟩ := hk.same s1
          have el : (ts.map V.ref).length = kvs.length := by rw [List.length_map, Paired.length hp]
          refine ⟨.ref k, rfl, k, _, rfl, .inr hS, .int room, rfl, _, _, rfl, rfl, _, rfl, ?_⟩
          rw [el]
          by_cases eL : (kvs.length : Int) ≤ room
          · rw [show decide ((kvs.length : Int) > room) = false from decide_eq_false (by omega)]
            rw [decide_eq_true eL, Bool.true_and] at q
            refine iteF ?_
            refine ⟨.int room, rfl, _, _, rfl, rfl, .int off, rfl, _, _, rfl, rfl, cmulL (by omega) (by omega), .ref s, rfl, s, k, room, many, off, kvs, rfl, seqT hs s1, ⟨ts, hS, hp⟩, hl, fun H2 s2 => ⟨_, _, rfl, rfl, _, rfl, ?_⟩⟩
            by_cases e1 : (room + 1) * off ≤ many - sumC kvs
            · rw [decide_eq_true e1] at q ⊢
              rw [Bool.true_and] at q
              refine iteT ⟨.int room, rfl, _, _, rfl, rfl, cmulL (by decide) (by decide), .int off, rfl, _, _, rfl, rfl, cmulL (by omega) (by omega), _, _, rfl, rfl, ?_⟩
              exact q H2 fun b o z => s2 b o (s1 b o z)
            · rw [decide_eq_false e1] at q ⊢
              rw [Bool.false_and] at q
              exact iteF (q H2 fun b o z => s2 b o (s1 b o z))
          · rw [show decide ((kvs.length : Int) > room) = true from decide_eq_true (by omega)]
            rw [decide_eq_false eL, Bool.false_and] at q
            exact iteT (q H1 s1)
/-! bare -/
def spBare : Sp := fun vs H Q _ => ∃ room : Int, vs = [.int room] ∧ 1 ≤ room ∧ room ≤ 64 ∧ ∀ H' s k, Same H H' → H s = none → H' s = some (.tup [.int room, .int 0, .int 0, .ref k]) → Ptp H' k [] → Q (.ref s) H'
end
end Kb

namespace L2
open PySem PySem.Spec PyProof.Rows SrtO SrtZ
section
variable {X : Cx}
/-- min(d.values()), values ints -/
def rMinV : List V → Hp → VK → Prop := fun vs H Q => ∃ (p d : Addr) (ks : List (Str × Int)), vs = [V.ref p] ∧ H p = some (valuesO p d) ∧ H d = some (.dK (ks.map entZ)) ∧ 0 < ks.length ∧
  ∀ m, m ∈ ks.map (·.2) → (∀ y ∈ ks.map (·.2), m ≤ y) → Q (.int m) H
theorem cr_minV (hc : X.calm = true) : CallR X (.builtin "min") rMinV := by
  intro pins s σ H vs us Q I r h
  obtain ⟨p, d, ks, rfl, hp, ha, hne, q⟩ := h
  obtain rfl := Vals.ref1 r
  have view : s.heap.IsValuesView p d := (show ObjOk X.prog X.w H s.heap p (valuesO p d) from I.hok p _ hp).1
  obtain ⟨z, hd, xs', rel, dd⟩ := dk_of I.hok ha
  obtain ⟨ep, hat⟩ := dd.dictAt
  have l1 : ks.length = xs'.length := by
    have := Paired.length rel
    rwa [List.length_map] at this
  have K := PySem.W.kdl_values (prog := X.prog) (w := X.w) (knd := mixKind X.prog X.w) (kvs := xs') (ep := ep) (r := p) (d := d)
  have hok : s.heap.IsValuesView p d ∧ s.heap.DictAt (mixKind X.prog X.w) d xs' ep := ⟨view, hat⟩
  have hval : ∀ (i : Nat) (v : Value), (∃ k, xs'[i]? = some (k, v)) → ∃ t : Tok, v = Value.int ((ks.map (·.2)).getD i 0) t := fun i v ⟨k, e⟩ => by
    obtain ⟨e', t, e1, e2⟩ := ent_paired rel e
    refine ⟨t, ?_⟩
    have : (ks.map (·.2)).getD i 0 = e'.2 := by simp [List.getD, e1]
    rw [this]
    exact (Prod.mk.inj e2).2
  refine PySem.call_min_walkS ?_
  obtain ⟨oI, St, hit, W, st⟩ := K.iter X.A.in1 s (I.ok.hd hc) hok
  refine hit _ _ ⟨s.heap.objs.size, _, _, _, xs'.length, _, _, fun i j => decide ((ks.map (·.2)).getD i 0 < (ks.map (·.2)).getD j 0), rfl, W.toS, st, fun b hb => ?_, by omega, PySem.CmpOf.ints_lt _ hval, fun v s' hP hm => ?_⟩
  · show b < (s.heap.push oI).objs.size
    rw [size_push']
    rcases List.mem_cons.mp hb with e | hb
    · rw [e]; exact Nat.lt_succ_self _
    · rw [List.mem_singleton.mp hb]; exact Nat.lt_succ_of_lt (K.there _ hok).2
  · have hk : ∀ b o, s.heap.get? b = some o → s'.heap.get? b = some o := fun b o e =>
      hm.heap b o (fun hI => absurd (Heap.lt_size e) (by rw [List.mem_singleton.mp hI]; exact Nat.lt_irrefl _)) (Heap.get?_push_of_some _ e)
    obtain ⟨t, rfl⟩ := hval _ v hP
    obtain ⟨h1, h2⟩ := argBest_lt (fun i => (ks.map (·.2)).getD i 0) (xs'.length - 1)
    have hI : Inv X pins σ H s' := by
      rw [Moved.eq_with hm]
      exact I.kept (t' := s'.toks) hk
    refine ⟨.int _, H, hI, ⟨t, rfl⟩, q _ ?_ fun a ha => ?_⟩
    · exact PySem.getD_mem (by rw [List.length_map]; omega)
    · obtain ⟨j, hj, rfl⟩ := mem_getD ha
      rw [List.length_map] at hj
      exact h2 j (by omega)
end
end L2

namespace Kb
open PySem PySem.Spec PyProof.Rows L2 SrtZ
abbrev NTinit : List Str := ["self", "sketch", "kept"]
abbrev NTsketch : List Str := ["self"]
abbrev NTfeed : List Str := ["self", "name", "times", "amount"]
abbrev NTpour : List Str := ["self", "sketch", "_", "many", "off", "kept", "name", "count", "falling"]
abbrev NTtake : List Str := ["self", "amount", "name", "count"]
/-! the fields -/
theorem k_mr : ¬ (("room" : Str) = "seen") := by decide +kernel
theorem k_or : ¬ (("room" : Str) = "off") := by decide +kernel
theorem k_om : ¬ (("seen" : Str) = "off") := by decide +kernel
theorem k_cr : ¬ (("room" : Str) = "counts") := by decide +kernel
theorem k_cm : ¬ (("seen" : Str) = "counts") := by decide +kernel
theorem k_co : ¬ (("off" : Str) = "counts") := by decide +kernel
def fl (r m o : Int) (d : Addr) : List (Str × V) := [(("room" : Str), V.int r), (("seen" : Str), V.int m), (("off" : Str), V.int o), (("counts" : Str), V.ref d)]
theorem fl_mk (r m o : Int) (d : Addr) : putF "counts" (.ref d) (putF "off" (.int o) (putF "seen" (.int m) (putF "room" (.int r) []))) = fl r m o d := by
  show putF "counts" (.ref d) (putF "off" (.int o) (if ("room" : Str) = "seen" then _ else (("room" : Str), V.int r) :: [(("seen" : Str), V.int m)])) = _
  rw [if_neg k_mr]
  show putF "counts" (.ref d) (if ("room" : Str) = "off" then _ else (("room" : Str), V.int r) :: (if ("seen" : Str) = "off" then _ else (("seen" : Str), V.int m) :: [(("off" : Str), V.int o)])) = _
  rw [if_neg k_or, if_neg k_om]
  show (if ("room" : Str) = "counts" then _ else (("room" : Str), V.int r) :: (if ("seen" : Str) = "counts" then _ else (("seen" : Str), V.int m) :: (if ("off" : Str) = "counts" then _ else (("off" : Str), V.int o) :: [(("counts" : Str), V.ref d)]))) = _
  rw [if_neg k_cr, if_neg k_cm, if_neg k_co]
  rfl
theorem fl_many (r m o x : Int) (d : Addr) : putF "seen" (.int x) (fl r m o d) = fl r x o d := by
  show (if ("room" : Str) = "seen" then _ else (("room" : Str), V.int r) :: (if ("seen" : Str) = "seen" then _ else _)) = _
  rw [if_neg k_mr, if_pos rfl]
  rfl
theorem fl_off (r m o x : Int) (d : Addr) : putF "off" (.int x) (fl r m o d) = fl r m x d := by
  show (if ("room" : Str) = "off" then _ else (("room" : Str), V.int r) :: (if ("seen" : Str) = "off" then _ else (("seen" : Str), V.int m) :: (if ("off" : Str) = "off" then _ else _))) = _
  rw [if_neg k_or, if_neg k_om, if_pos rfl]
  rfl
theorem fl_counts (r m o : Int) (d x : Addr) : putF "counts" (.ref x) (fl r m o d) = fl r m o x := by
  show (if ("room" : Str) = "counts" then _ else (("room" : Str), V.int r) :: (if ("seen" : Str) = "counts" then _ else (("seen" : Str), V.int m) :: (if ("off" : Str) = "counts" then _ else (("off" : Str), V.int o) :: (if ("counts" : Str) = "counts" then _ else _)))) = _
  rw [if_neg k_cr, if_neg k_cm, if_neg k_co, if_pos rfl]
  rfl
theorem g_room (r m o : Int) (d : Addr) : (fl r m o d).lookup ("room" : Str) = some (.int r) := by
  rw [← fl_mk, lookup_putF, if_neg k_cr, lookup_putF, if_neg k_or, lookup_putF, if_neg k_mr, lookup_putF, if_pos rfl]
theorem g_many (r m o : Int) (d : Addr) : (fl r m o d).lookup ("seen" : Str) = some (.int m) := by
  rw [← fl_mk, lookup_putF, if_neg k_cm, lookup_putF, if_neg k_om, lookup_putF, if_pos rfl]
theorem g_off (r m o : Int) (d : Addr) : (fl r m o d).lookup ("off" : Str) = some (.int o) := by
  rw [← fl_mk, lookup_putF, if_neg k_co, lookup_putF, if_pos rfl]
theorem g_counts (r m o : Int) (d : Addr) : (fl r m o d).lookup ("counts" : Str) = some (.ref d) := by
  rw [← fl_mk, lookup_putF, if_pos rfl]
theorem g_no (r m o : Int) (d : Addr) {f : Str} (h1 : ¬ f = "counts") (h2 : ¬ f = "off") (h3 : ¬ f = "seen") (h4 : ¬ f = "room") : (fl r m o d).lookup f = none := by
  rw [← fl_mk, lookup_putF, if_neg h1, lookup_putF, if_neg h2, lookup_putF, if_neg h3, lookup_putF, if_neg h4]
  rfl
/-! counts in a dict -/
def getZ (kvs : Ct) (n : Str) : Option Int := (kvs.find? fun e => decide (e.1 = n)).map (·.2)
def putZ (kvs : Ct) (n : Str) (v : Int) : Ct := if (kvs.any fun e => decide (e.1 = n)) = true then kvs.map (fun e => if e.1 = n then (e.1, v) else e) else kvs ++ [(n, v)]
def addZ (kvs : Ct) (n : Str) (c : Int) : Ct := putZ kvs n ((getZ kvs n).getD 0 + c)
def takeZ (a : Int) (kvs : Ct) : Ct := (kvs.filter fun e => decide (a < e.2)).map fun e => (e.1, e.2 - a)
theorem ent_dec (e : Str × Int) (n : Str) : decide ((entZ e).1 = (Sum.inr n : Key)) = decide (e.1 = n) := key_rr _ _
theorem getZ_val (n : Str) : ∀ kvs : Ct, valV (kvs.map entZ) (Sum.inr n : Key) = (getZ kvs n).map V.int
  | [] => rfl
  | e :: r => by
    have ih := getZ_val n r
    unfold getZ at ih ⊢
    rw [List.map_cons]
    by_cases h : e.1 = n
    · rw [valV_pos (show (entZ e).1 = Sum.inr n by rw [← h])]
      simp [h]
    · rw [valV_neg (show ¬ (entZ e).1 = Sum.inr n from fun z => h (Sum.inr.inj z)), ih]
      simp [h]
theorem putZ_put (kvs : Ct) (n : Str) (v : Int) : putK (kvs.map entZ) (Sum.inr n : Key) (.int v) = (putZ kvs n v).map entZ := by
  unfold putK putZ
  have e : ((kvs.map entZ).any fun kv => decide (kv.1 = (Sum.inr n : Key))) = kvs.any fun e => decide (e.1 = n) := by
    rw [List.any_map]
    congr 1
    funext e
    exact ent_dec e n
  rw [e]
  by_cases h : (kvs.any fun e => decide (e.1 = n)) = true
  · rw [if_pos h, if_pos h, List.map_map, List.map_map]
    refine List.map_congr_left fun e _ => ?_
    show (if (Sum.inr e.1 : Key) = Sum.inr n then _ else _) = entZ (if e.1 = n then _ else _)
    by_cases h2 : e.1 = n
    · rw [if_pos h2, if_pos (by rw [h2])]
    · rw [if_neg h2, if_neg (fun z => h2 (Sum.inr.inj z))]
  · rw [if_neg h, if_neg h, List.map_append]
    rfl
abbrev NdZ (kvs : Ct) : Prop := (kvs.map (·.1)).Nodup
theorem getZ_none {kvs : Ct} {n : Str} : getZ kvs n = none ↔ n ∉ kvs.map (·.1) := by
  unfold getZ
  rw [Option.map_eq_none_iff, List.find?_eq_none]
  constructor
  · intro h z
    obtain ⟨e, he, rfl⟩ := List.mem_map.mp z
    have := h e he
    simp at this
  · intro h e he z
    exact h (List.mem_map.mpr ⟨e, he, of_decide_eq_true z⟩)
theorem any_getZ (n : Str) (kvs : Ct) : (kvs.any fun e => decide (e.1 = n)) = (getZ kvs n).isSome := by
  cases h : getZ kvs n with
  | none =>
    rw [getZ_none] at h
    show _ = false
    rw [List.any_eq_false]
    intro e he z
    exact h (List.mem_map.mpr ⟨e, he, of_decide_eq_true z⟩)
  | some v =>
    show _ = true
    rw [List.any_eq_true]
    unfold getZ at h
    cases hf : kvs.find? fun e => decide (e.1 = n) with
    | none => rw [hf] at h; cases h
    | some e =>
      have h2 := List.find?_some (p := fun e : Str × Int => decide (e.1 = n)) hf
      exact ⟨e, List.mem_of_find?_eq_some hf, h2⟩
theorem putZ_new {kvs : Ct} {n : Str} {v : Int} (h : getZ kvs n = none) : putZ kvs n v = kvs ++ [(n, v)] := by
  unfold putZ
  rw [any_getZ, h]
  exact if_neg (by decide)
theorem putZ_keys_old {kvs : Ct} {n : Str} {v : Int} (h : (getZ kvs n).isSome = true) : (putZ kvs n v).map (·.1) = kvs.map (·.1) := by
  unfold putZ
  rw [any_getZ, if_pos h, List.map_map]
  refine List.map_congr_left fun e _ => ?_
  show (if e.1 = n then _ else _ : Str × Int).1 = e.1
  split <;> rfl
theorem putZ_nd {kvs : Ct} {n : Str} {v : Int} (nd : NdZ kvs) : NdZ (putZ kvs n v) := by
  unfold NdZ
  cases h : getZ kvs n with
  | none =>
    rw [putZ_new h, List.map_append, List.nodup_append]
    refine ⟨nd, by simp, fun a ha b hb => ?_⟩
    rw [List.map_cons, List.map_nil, List.mem_singleton] at hb
    rw [hb]
    intro e
    have e' : a = n := e
    exact getZ_none.mp h (by rw [← e']; exact ha)
  | some x =>
    rw [putZ_keys_old (by rw [h]; rfl)]
    exact nd
theorem putZ_len {kvs : Ct} {n : Str} {v : Int} : (putZ kvs n v).length ≤ kvs.length + 1 := by
  cases h : getZ kvs n with
  | none => rw [putZ_new h, List.length_append]; exact Nat.le_refl _
  | some x =>
    have := congrArg List.length (putZ_keys_old (v := v) (show (getZ kvs n).isSome = true by rw [h]; rfl))
    rw [List.length_map, List.length_map] at this
    omega
theorem takeZ_nd {a : Int} {kvs : Ct} (nd : NdZ kvs) : NdZ (takeZ a kvs) := by
  unfold NdZ takeZ
  rw [List.map_map]
  exact List.Nodup.sublist (List.Sublist.map _ List.filter_sublist) nd
theorem takeZ_len {a : Int} {kvs : Ct} : (takeZ a kvs).length ≤ kvs.length := by
  unfold takeZ
  rw [List.length_map]
  exact List.length_filter_le _ _
theorem mergeZ : ∀ (more kvs : Ct), NdZ (kvs ++ more) → mergeK (kvs.map entZ) (more.map entZ) = (kvs ++ more).map entZ
  | [], kvs, _ => by
    rw [List.append_nil]
    rfl
  | e :: r, kvs, nd => by
    have nm : getZ kvs e.1 = none := getZ_none.mpr fun z => by
      unfold NdZ at nd
      rw [List.map_append, List.nodup_append] at nd
      exact nd.2.2 _ z _ (List.mem_map.mpr ⟨e, List.mem_cons_self, rfl⟩) rfl
    show mergeK (putK (kvs.map entZ) (Sum.inr e.1) (.int e.2)) (r.map entZ) = _
    rw [putZ_put, putZ_new nm, mergeZ r (kvs ++ [e]) (by rw [List.append_assoc]; exact nd), List.append_assoc]
    rfl
/-! a Tally -/
structure TalAt (C : Addr) (H : Hp) (t d : Addr) (r m o : Int) (kvs : Ct) : Prop where
  ob : ∃ dx, H t = some (.ins C dx (fl r m o d))
  dc : H d = some (.dK (kvs.map entZ))
theorem TalAt.ne {C : Addr} {H : Hp} {t d : Addr} {r m o : Int} {kvs : Ct} (h : TalAt C H t d r m o kvs) : t ≠ d := by
  obtain ⟨dx, e⟩ := h.ob
  exact ne_of e h.dc (by intro z; cases z)
theorem TalAt.same {C : Addr} {H H' : Hp} {t d : Addr} {r m o : Int} {kvs : Ct} (h : TalAt C H t d r m o kvs) (s : Same H H') : TalAt C H' t d r m o kvs := by
  obtain ⟨⟨dx, e⟩, e2⟩ := h
  exact ⟨⟨dx, s _ _ e⟩, s _ _ e2⟩
/-- all but the tally stays -/
def But (t d : Addr) (H H' : Hp) : Prop := ∀ b u, b ≠ t → b ≠ d → H b = some u → H' b = some u
theorem But.refl (t d : Addr) (H : Hp) : But t d H H := fun _ _ _ _ e => e
theorem But.trans {t d : Addr} {H H1 H2 : Hp} (x : But t d H H1) (y : But t d H1 H2) : But t d H H2 := fun b u n1 n2 e => y b u n1 n2 (x b u n1 n2 e)
theorem But.same {t d : Addr} {H H1 H2 : Hp} (x : But t d H H1) (y : Same H1 H2) : But t d H H2 := fun b u n1 n2 e => y b u (x b u n1 n2 e)
theorem But.upT {t d : Addr} {H H1 : Hp} {u : HO} (x : But t d H H1) : But t d H (upd H1 t u) := fun b v n1 n2 e => by
  rw [upd_ne n1]
  exact x b v n1 n2 e
theorem But.upD {t d : Addr} {H H1 : Hp} {u : HO} (x : But t d H H1) : But t d H (upd H1 d u) := fun b v n1 n2 e => by
  rw [upd_ne n2]
  exact x b v n1 n2 e
theorem But.new {t d p : Addr} {H H1 : Hp} {u : HO} (x : But t d H H1) (h : H1 p = none) : But t d H (upd H1 p u) := x.same (same_upd h)
theorem ents_paired {K : PySem.W.Frag} {H : Hp} : ∀ {ts : List Addr} {kvs : Ct}, Paired (PrAt K H) ts kvs → Paired (fun p kv => SqT K H p [kV kv.1, kv.2]) ts (kvs.map entZ)
  | _, _, .nil => .nil
  | _, _, .cons h t => .cons h (ents_paired t)
theorem seq_upd {K : PySem.W.Frag} {H : Hp} {a t : Addr} {xs : List V} {C dx : Addr} {fs : List (Str × V)} {u : HO} (h : SqT K H a xs) (ht : H t = some (.ins C dx fs)) : SqT K (upd H t u) a xs := by
  rcases h with (h | ⟨o, h⟩) | h
  · exact .inl (.inl (by rw [upd_ne (ne_of h ht (by intro z; cases z))]; exact h))
  · exact .inl (.inr ⟨o, by rw [upd_ne (ne_of h ht (by intro z; cases z))]; exact h⟩)
  · exact .inr h
theorem prs_upd {K : PySem.W.Frag} {H : Hp} {t : Addr} {C dx : Addr} {fs : List (Str × V)} {u : HO} (ht : H t = some (.ins C dx fs)) : ∀ {ts : List Addr} {kvs : Ct}, Paired (PrAt K H) ts kvs → Paired (PrAt K (upd H t u)) ts kvs
  | _, _, .nil => .nil
  | _, _, .cons h q => .cons (seq_upd h ht) (prs_upd ht q)
section
variable {P : Program} {w : World} {K : PySem.W.Frag} {mg : Str → Option Value} {base : Heap}
/-! Tally.__init__ -/
def spTinit (K : PySem.W.Frag) (C : Addr) : Sp := fun vs H Q _ => ∃ (t dx s k : Addr) (r m o : Int) (ts : List Addr) (kvs : Ct), vs = [.ref t, .ref s] ∧ H t = some (.ins C dx []) ∧ SqT K H s [.int r, .int m, .int o, .ref k] ∧ Ptp H k (ts.map V.ref) ∧ Paired (PrAt K H) ts kvs ∧ NdZ kvs ∧
  ∀ H' d, (∀ b u, b ≠ t → H b = some u → H' b = some u) → H d = none → TalAt C H' t d r m o kvs → Q .non H'
end
end Kb

namespace L2
section
variable {J : It} {n : Nat} {G : Hp → Prop} {Y : Nat → Hp → V → Hp → Prop}
/-- a dict comprehension over a walk -/
theorem dc_it (w : Walk J n G Y) {g : TG} {tt : TT} {tk tv : TE} {vs : List Nat} {σ : St} {H1 : Hp} {D : PySem.Addr} {Qd : Hp → Prop} (Pv : Nat → Hp → Prop) (h0 : Pv 0 (upd H1 D (.dK []))) (hG : ∀ i H, i ≤ n → Pv i H → G H)
    (hs : ∀ i x H H', i < n → Pv i H → Y i H x H' → g x (wipe σ vs) H' fun σ2 H2 => wipe σ2 vs = wipe σ vs ∧ tt σ2 H2 fun b H3 =>
      if b = true then tk σ2 H3 fun y H4 => tv σ2 H4 fun z H5 => ∃ kvs k, y = kV k ∧ H5 D = some (.dK kvs) ∧ kvs.length < PySem.sizeLine ∧ Pv (i + 1) (upd H5 D (.dK (putK kvs k z))) else Pv (i + 1) H3) (hd : ∀ H, Pv n H → Qd H) :
    ∃ W : Nat → Nat → Hp → Prop, (∃ m, W 0 m (upd H1 D (.dK []))) ∧ ∀ i m H, W i m H →
      (J.stop i H ∧ Qd H) ∨ (J.go i H ∧ ∃ Nx : Hp → Prop, (∀ H', Nx H' → ∃ m', m' < m ∧ W (i + 1) m' H') ∧ ∀ x H', J.yld i H x H' → g x (wipe σ vs) H' fun σ2 H2 => wipe σ2 vs = wipe σ vs ∧ tt σ2 H2 fun b H3 =>
        if b = true then tk σ2 H3 fun y H4 => tv σ2 H4 fun z H5 => ∃ kvs k, y = kV k ∧ H5 D = some (.dK kvs) ∧ kvs.length < PySem.sizeLine ∧ Nx (upd H5 D (.dK (putK kvs k z))) else Nx H3) := by
  refine ⟨fun i m H => m = n - i ∧ i ≤ n ∧ Pv i H, ⟨n, by simp, Nat.zero_le _, h0⟩, ?_⟩
  rintro i m H ⟨rfl, hi, p⟩
  have q := hG i H hi p
  by_cases hlt : i < n
  · refine .inr ⟨w.goes i H hlt q, Pv (i + 1), fun H' p' => ⟨n - (i + 1), by omega, rfl, hlt, p'⟩, fun x H' y => hs i x H H' hlt p (w.yields i H x H' hlt q y)⟩
  · have e : i = n := by omega
    subst e
    exact .inl ⟨w.stops H q, hd H p⟩
end
end L2
namespace Kb
open PySem PySem.Spec PyProof.Rows L2 SrtZ SrtO
def Asc (kvs : Ct) : Prop := kvs.Pairwise fun a b => ltZ a.1 b.1 = true
/-- sorted, names unlike: ascending -/
theorem asc_of {ys kvs : Ct} (h : Srtd lexZ ys) (p : ys.Perm kvs) (nd : NdZ kvs) : Asc ys := by
  have nd2 : (ys.map (·.1)).Nodup := (p.map (·.1)).nodup_iff.mpr nd
  rw [List.Nodup, List.pairwise_map] at nd2
  refine List.Pairwise.imp₂ (fun {a b} h1 h2 => ?_) h nd2
  rw [lexZ_ne (fun e => h2 e.symm)] at h1
  rcases bcase (ltZ a.1 b.1) with q | q
  · exact q
  · exact absurd (ltZ_tri q h1) h2
theorem asc_uniq {xs ys : Ct} (hx : Asc xs) (hy : Asc ys) (p : xs.Perm ys) : xs = ys :=
  List.Perm.eq_of_pairwise (le := fun (a b : Str × Int) => ltZ a.1 b.1 = true) (fun a b _ _ h1 h2 => by
    have := ltZ_asym h1
    rw [h2] at this
    cases this) hx hy p
theorem putZ_snoc {kvs : Ct} {n : Str} {v : Int} (h : n ∉ kvs.map (·.1)) : putZ kvs n v = kvs ++ [(n, v)] := putZ_new (getZ_none.mpr h)
theorem takeZ_snoc (a : Int) (kvs : Ct) (e : Str × Int) : takeZ a (kvs ++ [e]) = takeZ a kvs ++ (if a < e.2 then [(e.1, e.2 - a)] else []) := by
  unfold takeZ
  rw [List.filter_append, List.map_append]
  by_cases h : a < e.2
  · rw [if_pos h, List.filter_cons_of_pos (by simpa using h)]
    rfl
  · rw [if_neg h, List.filter_cons_of_neg (by simpa using h)]
    rfl
theorem takeZ_keys {a : Int} {kvs : Ct} {n : Str} (h : n ∈ (takeZ a kvs).map (·.1)) : n ∈ kvs.map (·.1) := by
  unfold takeZ at h
  rw [List.map_map] at h
  obtain ⟨e, he, rfl⟩ := List.mem_map.mp h
  exact List.mem_map.mpr ⟨e, (List.mem_filter.mp he).1, rfl⟩
section
variable {P : Program} {w : World} {K : PySem.W.Frag} {mg : Str → Option Value} {base : Heap}
/-! Tally.sketch -/
def spTsketch (C : Addr) : Sp := fun vs H Q _ => ∃ (t d : Addr) (r m o : Int) (kvs : Ct), vs = [.ref t] ∧ TalAt C H t d r m o kvs ∧ NdZ kvs ∧ kvs.length ≤ 1000 ∧
  ∀ H' s k (ys : Ct) (ts : List Addr), Same H H' → H s = none → H' s = some (.tup [.int r, .int m, .int o, .ref k]) → Ptp H' k (ts.map V.ref) → Paired (fun (t : Addr) (y : Str × Int) => H' t = some (.tup [.str y.1, .int y.2])) ts ys → ys.Perm kvs → Asc ys → Q (.ref s) H'
/-! Tally._take -/
def spTtake (C : Addr) : Sp := fun vs H Q _ => ∃ (t d : Addr) (r m o a : Int) (kvs : Ct), vs = [.ref t, .int a] ∧ TalAt C H t d r m o kvs ∧ NdZ kvs ∧ kvs.length ≤ 1000 ∧
  ∀ H' d', But t d H H' → H d' = none → TalAt C H' t d' r m (o + a) (takeZ a kvs) → Q .non H'
end
end Kb

namespace Kb
open PySem PySem.Spec PyProof.Rows L2 SrtZ SrtO
/-- the least count -/
def mnC : Ct → Int
  | [] => 0
  | [e] => e.2
  | e :: r => if e.2 ≤ mnC r then e.2 else mnC r
theorem mnC_spec : ∀ {kvs : Ct}, kvs ≠ [] → mnC kvs ∈ kvs.map (·.2) ∧ ∀ y ∈ kvs.map (·.2), mnC kvs ≤ y
  | [], h => absurd rfl h
  | [e], _ => ⟨by simp [mnC], fun y hy => by
    have : y = e.2 := by simpa using hy
    rw [this]
    exact Int.le_refl _⟩
  | e :: f :: r, _ => by
    obtain ⟨h1, h2⟩ := mnC_spec (kvs := f :: r) (by simp)
    show (if e.2 ≤ mnC (f :: r) then e.2 else mnC (f :: r)) ∈ _ ∧ ∀ y ∈ _, (if e.2 ≤ mnC (f :: r) then e.2 else mnC (f :: r)) ≤ y
    by_cases h : e.2 ≤ mnC (f :: r)
    · rw [if_pos h]
      refine ⟨by simp, fun y hy => ?_⟩
      rw [List.map_cons] at hy
      rcases List.mem_cons.mp hy with rfl | hy
      · exact Int.le_refl _
      · exact Int.le_trans h (h2 y hy)
    · rw [if_neg h]
      refine ⟨by rw [List.map_cons]; exact List.mem_cons_of_mem _ h1, fun y hy => ?_⟩
      rw [List.map_cons] at hy
      rcases List.mem_cons.mp hy with rfl | hy
      · omega
      · exact h2 y hy
theorem mnC_uniq {kvs : Ct} {m : Int} (h : m ∈ kvs.map (·.2)) (hm : ∀ y ∈ kvs.map (·.2), m ≤ y) : m = mnC kvs := by
  have ne : kvs ≠ [] := by
    rintro rfl
    simp at h
  obtain ⟨h1, h2⟩ := mnC_spec ne
  have a := h2 _ h
  have b := hm _ h1
  omega
/-- what a tally holds: many, off, counts -/
structure Tl where
  m : Int
  o : Int
  c : Ct
def full (r : Int) (n : Str) (kvs : Ct) : Bool := !(getZ kvs n).isSome && decide ((kvs.length : Int) = r)
def feedT (r : Int) (n : Str) (c : Int) (x : Tl) : Tl :=
  if full r n x.c = true then
    let a := if mnC x.c < c then mnC x.c else c
    ⟨x.m + c, x.o + a, if 0 < c - a then addZ (takeZ a x.c) n (c - a) else takeZ a x.c⟩
  else ⟨x.m + c, x.o, if 0 < c then addZ x.c n c else x.c⟩
def sumsZ (more kvs : Ct) : Ct := more.foldl (fun a e => addZ a e.1 e.2) kvs
def fallZ (kvs : Ct) (r : Int) : Int := ((kvs.map (·.2)).mergeSort (fun a b => decide (b ≤ a))).getD r.toNat 0
def pourT (r : Int) (y x : Tl) : Tl :=
  let all := sumsZ y.c x.c
  if r < (all.length : Int) then ⟨x.m + y.m, x.o + y.o + fallZ all r, takeZ (fallZ all r) all⟩ else ⟨x.m + y.m, x.o + y.o, all⟩
theorem fall_uniq {kvs : Ct} {ns : List Int} (p : ns.Perm (kvs.map (·.2))) (h : ns.Pairwise (· ≥ ·)) : ns = (kvs.map (·.2)).mergeSort (fun a b => decide (b ≤ a)) := by
  refine List.Perm.eq_of_pairwise (le := fun (a b : Int) => b ≤ a) (fun a b _ _ h1 h2 => Int.le_antisymm h2 h1) h ?_ (p.trans (List.mergeSort_perm _ _).symm)
  have := List.pairwise_mergeSort (le := fun (a b : Int) => decide (b ≤ a)) (fun a b c h1 h2 => by simp at *; omega) (fun a b => by simp; omega) (kvs.map (·.2))
  exact this.imp fun h => of_decide_eq_true h
theorem addZ_nd {kvs : Ct} {n : Str} {c : Int} (nd : NdZ kvs) : NdZ (addZ kvs n c) := putZ_nd nd
theorem addZ_len {kvs : Ct} {n : Str} {c : Int} : (addZ kvs n c).length ≤ kvs.length + 1 := putZ_len
theorem sumsZ_nd : ∀ {more kvs : Ct}, NdZ kvs → NdZ (sumsZ more kvs)
  | [], _, h => h
  | e :: r, kvs, h => sumsZ_nd (more := r) (addZ_nd (n := e.1) (c := e.2) h)
theorem sumsZ_len : ∀ {more kvs : Ct}, (sumsZ more kvs).length ≤ kvs.length + more.length
  | [], kvs => Nat.le_refl _
  | e :: r, kvs => by
    have h := sumsZ_len (more := r) (kvs := addZ kvs e.1 e.2)
    have h2 := addZ_len (kvs := kvs) (n := e.1) (c := e.2)
    show (sumsZ r (addZ kvs e.1 e.2)).length ≤ kvs.length + (r.length + 1)
    omega
theorem sumsZ_snoc {more kvs : Ct} {i : Nat} {e : Str × Int} (h : more[i]? = some e) : sumsZ (more.take (i + 1)) kvs = addZ (sumsZ (more.take i) kvs) e.1 e.2 := by
  unfold sumsZ
  rw [List.take_add_one, h, List.foldl_append]
  rfl
section
variable {P : Program} {w : World} {K : PySem.W.Frag} {mg : Str → Option Value} {base : Heap}
/-! Tally.feed -/
def spTfeed (C : Addr) : Sp := fun vs H Q _ => ∃ (t d : Addr) (r c : Int) (n : Str) (x : Tl), vs = [.ref t, .str n, .int c] ∧ TalAt C H t d r x.m x.o x.c ∧ NdZ x.c ∧ x.c.length ≤ 500 ∧ 1 ≤ r ∧
  ∀ H' d', But t d H H' → (d' = d ∨ H d' = none) → TalAt C H' t d' r (feedT r n c x).m (feedT r n c x).o (feedT r n c x).c → Q .non H'
end
end Kb

namespace Kb
open PySem PySem.Spec PyProof.Rows L2 SrtZ SrtO
theorem seqT_but {K : PySem.W.Frag} {C : Addr} {H H' : Hp} {t d a : Addr} {r m o : Int} {kvs : Ct} {xs : List V} (h : SqT K H a xs) (ta : TalAt C H t d r m o kvs) (b : But t d H H') : SqT K H' a xs := by
  obtain ⟨⟨dx, ht⟩, hd⟩ := ta
  rcases h with (h | ⟨o, h⟩) | h
  · exact .inl (.inl (b a _ (ne_of h ht (by intro z; cases z)) (ne_of h hd (by intro z; cases z)) h))
  · exact .inl (.inr ⟨o, b a _ (ne_of h ht (by intro z; cases z)) (ne_of h hd (by intro z; cases z)) h⟩)
  · exact .inr h
theorem prs_but {K : PySem.W.Frag} {C : Addr} {H H' : Hp} {t d : Addr} {r m o : Int} {kvs : Ct} (ta : TalAt C H t d r m o kvs) (b : But t d H H') : ∀ {ts : List Addr} {ks : Ct}, Paired (PrAt K H) ts ks → Paired (PrAt K H') ts ks
  | _, _, .nil => .nil
  | _, _, .cons h q => .cons (seqT_but h ta b) (prs_but ta b q)
section
variable {P : Program} {w : World} {K : PySem.W.Frag} {mg : Str → Option Value} {base : Heap}
/-! Tally.pour -/
def spTpour (K : PySem.W.Frag) (C : Addr) : Sp := fun vs H Q _ => ∃ (t d s k : Addr) (r r2 : Int) (x y : Tl), vs = [.ref t, .ref s] ∧ TalAt C H t d r x.m x.o x.c ∧ NdZ x.c ∧ x.c.length ≤ 200 ∧ SqT K H s [.int r2, .int y.m, .int y.o, .ref k] ∧ CtAt K H k y.c ∧ y.c.length ≤ 200 ∧ 0 ≤ r ∧
  ∀ H' d', But t d H H' → (d' = d ∨ H d' = none) → TalAt C H' t d' r (pourT r y x).m (pourT r y x).o (pourT r y x).c → Q .non H'
end
end Kb

namespace Kb
open PySem PySem.Spec PyProof.Rows L2 SrtZ SrtO
/-! what stays true of a tally -/
structure TlOk (r : Int) (x : Tl) : Prop where
  nd : NdZ x.c
  len : (x.c.length : Int) ≤ r
  pos : ∀ e ∈ x.c, 1 ≤ e.2
  nm : ∀ e ∈ x.c, Nm e.1
theorem getZ_pos {kvs : Ct} {n : Str} (pos : ∀ e ∈ kvs, 1 ≤ e.2) : 0 ≤ (getZ kvs n).getD 0 := by
  unfold getZ
  cases h : kvs.find? fun e => decide (e.1 = n) with
  | none => exact Int.le_refl _
  | some e =>
    have := pos e (List.mem_of_find?_eq_some h)
    show 0 ≤ e.2
    omega
theorem putZ_mem {kvs : Ct} {n : Str} {v : Int} {e : Str × Int} (h : e ∈ putZ kvs n v) : e ∈ kvs ∨ e = (n, v) := by
  unfold putZ at h
  split at h
  · obtain ⟨f, hf, rfl⟩ := List.mem_map.mp h
    by_cases hn : f.1 = n
    · rw [if_pos hn]
      exact .inr (by rw [hn])
    · rw [if_neg hn]
      exact .inl hf
  · rcases List.mem_append.mp h with h | h
    · exact .inl h
    · exact .inr (List.mem_singleton.mp h)
theorem addZ_pos {kvs : Ct} {n : Str} {c : Int} (pos : ∀ e ∈ kvs, 1 ≤ e.2) (hc : 1 ≤ c) : ∀ e ∈ addZ kvs n c, 1 ≤ e.2 := fun e he => by
  rcases putZ_mem he with h | h
  · exact pos e h
  · have := getZ_pos (n := n) pos
    rw [h]
    show 1 ≤ _ + c
    omega
theorem addZ_nm {kvs : Ct} {n : Str} {c : Int} (nm : ∀ e ∈ kvs, Nm e.1) (hn : Nm n) : ∀ e ∈ addZ kvs n c, Nm e.1 := fun e he => by
  rcases putZ_mem he with h | h
  · exact nm e h
  · rw [h]
    exact hn
theorem addZ_len_old {kvs : Ct} {n : Str} {c : Int} (h : (getZ kvs n).isSome = true) : (addZ kvs n c).length = kvs.length := by
  have := congrArg List.length (putZ_keys_old (v := (getZ kvs n).getD 0 + c) h)
  rwa [List.length_map, List.length_map] at this
theorem takeZ_mem {a : Int} {kvs : Ct} {e : Str × Int} (h : e ∈ takeZ a kvs) : ∃ f ∈ kvs, a < f.2 ∧ e = (f.1, f.2 - a) := by
  unfold takeZ at h
  obtain ⟨f, hf, rfl⟩ := List.mem_map.mp h
  obtain ⟨h1, h2⟩ := List.mem_filter.mp hf
  exact ⟨f, h1, of_decide_eq_true h2, rfl⟩
theorem takeZ_pos {a : Int} {kvs : Ct} : ∀ e ∈ takeZ a kvs, 1 ≤ e.2 := fun e he => by
  obtain ⟨f, _, h, rfl⟩ := takeZ_mem he
  show 1 ≤ f.2 - a
  omega
theorem takeZ_nm {a : Int} {kvs : Ct} (nm : ∀ e ∈ kvs, Nm e.1) : ∀ e ∈ takeZ a kvs, Nm e.1 := fun e he => by
  obtain ⟨f, hf, _, rfl⟩ := takeZ_mem he
  exact nm f hf
/-- the least one goes when it is taken off -/
theorem takeZ_less {kvs : Ct} (ne : kvs ≠ []) : (takeZ (mnC kvs) kvs).length < kvs.length := by
  obtain ⟨h1, _⟩ := mnC_spec ne
  obtain ⟨e, he, h⟩ := List.mem_map.mp h1
  unfold takeZ
  rw [List.length_map]
  have h2 : (kvs.filter fun e => decide (mnC kvs < e.2)).length ≤ kvs.length := List.length_filter_le _ _
  rcases Nat.lt_or_ge (kvs.filter fun e => decide (mnC kvs < e.2)).length kvs.length with h3 | h3
  · exact h3
  · have h4 : (kvs.filter fun e => decide (mnC kvs < e.2)) = kvs := List.filter_sublist.eq_of_length (by omega)
    rw [← h4] at he
    have := of_decide_eq_true (List.mem_filter.mp he).2
    omega
theorem feedT_ok {r c : Int} {n : Str} {x : Tl} (h : TlOk r x) (hr : 1 ≤ r) (hn : Nm n) (hc : 0 ≤ c) : TlOk r (feedT r n c x) := by
  obtain ⟨nd, len, pos, nm⟩ := h
  unfold feedT
  cases hf : full r n x.c with
  | true =>
    have hfull : (x.c.length : Int) = r := by
      unfold full at hf
      rw [Bool.and_eq_true] at hf
      exact of_decide_eq_true hf.2
    have ne : x.c ≠ [] := by
      intro e
      rw [e] at hfull
      have : (0 : Int) = r := hfull
      omega
    rw [if_pos rfl]
    dsimp only
    generalize ha : (if mnC x.c < c then mnC x.c else c) = a
    by_cases hp : 0 < c - a
    · have ea : a = mnC x.c := by
        by_cases hm : mnC x.c < c
        · rw [if_pos hm] at ha
          exact ha.symm
        · rw [if_neg hm] at ha
          omega
      have hl := takeZ_less ne
      have hl2 := addZ_len (kvs := takeZ a x.c) (n := n) (c := c - a)
      refine ⟨?_, ?_, ?_, ?_⟩ <;> dsimp only <;> rw [if_pos hp]
      · exact addZ_nd (takeZ_nd nd)
      · rw [ea] at hl2 ⊢
        omega
      · exact addZ_pos takeZ_pos (by omega)
      · exact addZ_nm (takeZ_nm nm) hn
    · refine ⟨?_, ?_, ?_, ?_⟩ <;> dsimp only <;> rw [if_neg hp]
      · exact takeZ_nd nd
      · have := takeZ_len (a := a) (kvs := x.c)
        omega
      · exact takeZ_pos
      · exact takeZ_nm nm
  | false =>
    rw [if_neg (by decide)]
    by_cases hp : 0 < c
    · refine ⟨?_, ?_, ?_, ?_⟩ <;> dsimp only <;> rw [if_pos hp]
      · exact addZ_nd nd
      · cases hg : getZ x.c n with
        | some v =>
          rw [addZ_len_old (by rw [hg]; rfl)]
          exact len
        | none =>
          have h1 := addZ_len (kvs := x.c) (n := n) (c := c)
          unfold full at hf
          rw [hg] at hf
          have h2 : ¬ (x.c.length : Int) = r := by
            intro e
            rw [decide_eq_true e] at hf
            cases hf
          omega
      · exact addZ_pos pos (by omega)
      · exact addZ_nm nm hn
    · refine ⟨?_, ?_, ?_, ?_⟩ <;> dsimp only <;> rw [if_neg hp]
      · exact nd
      · exact len
      · exact pos
      · exact nm
def feedsT (r : Int) (zs : List Str) (x : Tl) : Tl := zs.foldl (fun x n => feedT r n 1 x) x
theorem feedsT_snoc {r : Int} {zs : List Str} {x : Tl} {i : Nat} {n : Str} (h : zs[i]? = some n) : feedsT r (zs.take (i + 1)) x = feedT r n 1 (feedsT r (zs.take i) x) := by
  unfold feedsT
  rw [List.take_add_one, h, List.foldl_append]
  rfl
theorem feedsT_ok {r : Int} (hr : 1 ≤ r) : ∀ {zs : List Str} {x : Tl}, TlOk r x → (∀ z ∈ zs, Nm z) → TlOk r (feedsT r zs x)
  | [], _, h, _ => h
  | z :: zs, x, h, hn => feedsT_ok (zs := zs) hr (feedT_ok h hr (hn z List.mem_cons_self) (by decide)) fun y hy => hn y (List.mem_cons_of_mem _ hy)
def tl0 : Tl := ⟨0, 0, []⟩
theorem tl0_ok {r : Int} (hr : 1 ≤ r) : TlOk r tl0 := ⟨List.nodup_nil, (by show (0 : Int) ≤ r; omega), (fun _ h => nomatch h), (fun _ h => nomatch h)⟩
theorem sumsZ_pos : ∀ {more kvs : Ct}, (∀ e ∈ more, 1 ≤ e.2) → (∀ e ∈ kvs, 1 ≤ e.2) → ∀ e ∈ sumsZ more kvs, 1 ≤ e.2
  | [], _, _, h => h
  | f :: r, kvs, hm, h => sumsZ_pos (more := r) (fun e he => hm e (List.mem_cons_of_mem _ he)) (addZ_pos h (hm f List.mem_cons_self))
theorem sumsZ_nm : ∀ {more kvs : Ct}, (∀ e ∈ more, Nm e.1) → (∀ e ∈ kvs, Nm e.1) → ∀ e ∈ sumsZ more kvs, Nm e.1
  | [], _, _, h => h
  | f :: r, kvs, hm, h => sumsZ_nm (more := r) (fun e he => hm e (List.mem_cons_of_mem _ he)) (addZ_nm h (hm f List.mem_cons_self))
/-- what is above the count at place r is at most r names -/
theorem fall_len {kvs : Ct} {r : Nat} (h : r < kvs.length) : (takeZ (fallZ kvs r) kvs).length ≤ r := by
  unfold takeZ
  rw [List.length_map]
  have hp := List.mergeSort_perm (kvs.map (·.2)) (fun a b => decide (b ≤ a))
  have hs := List.pairwise_mergeSort (le := fun (a b : Int) => decide (b ≤ a)) (fun a b c h1 h2 => by simp at *; omega) (fun a b => by simp; omega) (kvs.map (·.2))
  have e1 : (kvs.filter fun e => decide (fallZ kvs r < e.2)).length = ((kvs.map (·.2)).filter fun c => decide (fallZ kvs r < c)).length := by
    rw [List.filter_map, List.length_map]
    rfl
  rw [e1, ← (hp.filter _).length_eq]
  unfold fallZ
  rw [Int.toNat_natCast]
  generalize (kvs.map (·.2)).mergeSort (fun a b => decide (b ≤ a)) = s at hp hs
  have hl : r < s.length := by rw [hp.length_eq, List.length_map]; exact h
  have eg : s.getD r 0 = s[r] := by simp [List.getD, hl]
  rw [eg]
  generalize hv : s[r] = v
  have h1 : ((s.take r).filter fun c => decide (v < c)).length ≤ r := by
    have := List.length_filter_le (fun c => decide (v < c)) (s.take r)
    rw [List.length_take] at this
    omega
  have h2 : ((s.drop r).filter fun c => decide (v < c)) = [] := by
    rw [List.filter_eq_nil_iff]
    intro c hc z
    have z := of_decide_eq_true z
    have hd : (s.drop r).Pairwise fun a b => decide (b ≤ a) = true := hs.sublist (List.drop_sublist _ _)
    rw [List.drop_eq_getElem_cons hl] at hc hd
    rcases List.mem_cons.mp hc with e | hc
    · omega
    · have := of_decide_eq_true ((List.pairwise_cons.mp hd).1 c hc)
      omega
  have e3 : (s.filter fun c => decide (v < c)) = ((s.take r).filter fun c => decide (v < c)) ++ ((s.drop r).filter fun c => decide (v < c)) := by
    rw [← List.filter_append, List.take_append_drop]
  rw [e3, h2, List.append_nil]
  exact h1
theorem pourT_ok {r : Int} {x y : Tl} (hx : TlOk r x) (hy : TlOk r y) (hr : 0 ≤ r) : TlOk r (pourT r y x) := by
  obtain ⟨rn, rfl⟩ := Int.eq_ofNat_of_zero_le hr
  unfold pourT
  dsimp only
  have nd := sumsZ_nd (more := y.c) hx.nd
  have pos := sumsZ_pos hy.pos hx.pos
  have nm := sumsZ_nm hy.nm hx.nm
  generalize sumsZ y.c x.c = all at nd pos nm
  by_cases h : (rn : Int) < (all.length : Int)
  · rw [if_pos h]
    refine ⟨takeZ_nd nd, ?_, takeZ_pos, takeZ_nm nm⟩
    have := fall_len (kvs := all) (r := rn) (by omega)
    dsimp only
    omega
  · rw [if_neg h]
    exact ⟨nd, (by dsimp only; omega), pos, nm⟩
/-! the order of names -/
def srtZ (kvs : Ct) : Ct := kvs.mergeSort fun a b => !ltZ b.1 a.1
theorem srtZ_perm (kvs : Ct) : (srtZ kvs).Perm kvs := List.mergeSort_perm _ _
theorem srtZ_asc {kvs : Ct} (nd : NdZ kvs) : Asc (srtZ kvs) := by
  have hs := List.pairwise_mergeSort (le := fun (a b : Str × Int) => !ltZ b.1 a.1) (fun a b c h1 h2 => ?_) (fun a b => ?_) kvs
  · have nd2 : ((srtZ kvs).map (·.1)).Nodup := ((srtZ_perm kvs).map (·.1)).nodup_iff.mpr nd
    rw [List.Nodup, List.pairwise_map] at nd2
    refine List.Pairwise.imp₂ (fun {a b} h1 h2 => ?_) hs nd2
    rcases bcase (ltZ a.1 b.1) with q | q
    · exact q
    · have h3 : ltZ b.1 a.1 = false := by simpa using h1
      exact absurd (ltZ_tri q h3) h2
  · have h1 : ltZ b.1 a.1 = false := by simpa using h1
    have h2 : ltZ c.1 b.1 = false := by simpa using h2
    show (!ltZ c.1 a.1) = true
    rcases bcase (ltZ c.1 a.1) with q | q
    · rcases bcase (ltZ a.1 b.1) with p | p
      · have := ltZ_trans q p
        rw [h2] at this
        cases this
      · have e := ltZ_tri p h1
        rw [e, h2] at q
        cases q
    · rw [q]
      rfl
  · show ((!ltZ b.1 a.1) || (!ltZ a.1 b.1)) = true
    rcases bcase (ltZ b.1 a.1) with q | q
    · rw [ltZ_asym q]
      simp
    · rw [q]
      rfl
theorem srtZ_of {ys kvs : Ct} (h : Asc ys) (p : ys.Perm kvs) (nd : NdZ kvs) : ys = srtZ kvs := asc_uniq h (srtZ_asc nd) (p.trans (srtZ_perm kvs).symm)
def skT (x : Tl) : Tl := ⟨x.m, x.o, srtZ x.c⟩
theorem skT_ok {r : Int} {x : Tl} (h : TlOk r x) : TlOk r (skT x) := by
  have p := srtZ_perm x.c
  refine ⟨(p.map (·.1)).nodup_iff.mpr h.nd, ?_, fun e he => h.pos e (p.mem_iff.mp he), fun e he => h.nm e (p.mem_iff.mp he)⟩
  show ((srtZ x.c).length : Int) ≤ r
  rw [p.length_eq]
  exact h.len
/-! a tree's pile, the uppermost first -/
def stepT (r : Int) (st : List Tl) : Stp → List Tl
  | .put zs => feedsT r zs tl0 :: st
  | .pour => match st with
    | x :: y :: st => pourT r (skT x) y :: st
    | st => st
def runT (r : Int) (l : List Stp) : List Tl := l.foldl (stepT r) []
theorem runT_snoc {r : Int} {l : List Stp} {i : Nat} {t : Stp} (h : l[i]? = some t) : runT r (l.take (i + 1)) = stepT r (runT r (l.take i)) t := by
  unfold runT
  rw [List.take_add_one, h, List.foldl_append]
  rfl
end Kb

namespace Kb
open PySem PySem.Spec PyProof.Rows L2 SrtZ SrtO
abbrev NP_sketch_of : List Str := ["room", "tree", "pile", "step", "tally", "name", "above"]
/-- a tally on the pile: its instance, its dict, what it holds -/
structure Pe where
  t : Addr
  d : Addr
  x : Tl
structure PileAt (C : Addr) (r : Int) (H : Hp) (l : List Pe) : Prop where
  at_ : ∀ e ∈ l, TalAt C H e.t e.d r e.x.m e.x.o e.x.c
  ok : ∀ e ∈ l, TlOk r e.x
  nt : (l.map (·.t)).Nodup
  nd : (l.map (·.d)).Nodup
theorem PileAt.same {C : Addr} {r : Int} {H H' : Hp} {l : List Pe} (h : PileAt C r H l) (s : Same H H') : PileAt C r H' l := ⟨fun e he => (h.at_ e he).same s, h.ok, h.nt, h.nd⟩
theorem TalAt.keep {C : Addr} {H H' : Hp} {t d : Addr} {r m o : Int} {kvs : Ct} (h : TalAt C H t d r m o kvs) (k : ∀ b u, (b = t ∨ b = d) → H b = some u → H' b = some u) : TalAt C H' t d r m o kvs := by
  obtain ⟨⟨dx, e⟩, e2⟩ := h
  exact ⟨⟨dx, k _ _ (.inl rfl) e⟩, k _ _ (.inr rfl) e2⟩
theorem run_len {r : Int} {l : List Stp} (two : ∀ i, l[i]? = some .pour → 2 ≤ hgt (l.take i)) : ∀ i, i ≤ l.length → ((runT r (l.take i)).length : Int) = hgt (l.take i)
  | 0, _ => rfl
  | i + 1, h => by
    have ih := run_len (r := r) two i (by omega)
    obtain ⟨t, ht⟩ : ∃ t, l[i]? = some t := ⟨l[i], List.getElem?_eq_getElem (by omega)⟩
    rw [runT_snoc ht, hgt_snoc ht]
    cases t with
    | put zs =>
      show (((feedsT r zs tl0 :: runT r (l.take i)).length : Nat) : Int) = _ + 1
      rw [List.length_cons]
      omega
    | pour =>
      have h2 := two i ht
      match hr : runT r (l.take i) with
      | [] => rw [hr] at ih; simp at ih; omega
      | [x] => rw [hr] at ih; simp at ih; omega
      | x :: y :: st =>
        rw [hr] at ih
        show (((pourT r (skT x) y :: st).length : Nat) : Int) = _ - 1
        rw [List.length_cons] at ih ⊢
        rw [List.length_cons] at ih
        omega
theorem run_short {r : Int} (l : List Stp) : (runT r l).length ≤ l.length := by
  have gen : ∀ (l : List Stp) (st : List Tl), (l.foldl (stepT r) st).length ≤ st.length + l.length := by
    intro l
    induction l with
    | nil => exact fun st => Nat.le_refl _
    | cons t l ih =>
      intro st
      have h := ih (stepT r st t)
      have h2 : (stepT r st t).length ≤ st.length + 1 := by
        cases t with
        | put zs => exact Nat.le_refl _
        | pour =>
          match st with
          | [] => exact Nat.zero_le _
          | [_] => show 1 ≤ 1 + 1; omega
          | _ :: _ :: st => show st.length + 1 ≤ st.length + 1 + 1 + 1; omega
      show (l.foldl (stepT r) (stepT r st t)).length ≤ st.length + (l.length + 1)
      omega
  have := gen l []
  simpa [runT] using this
theorem refs_rev (l : List Pe) (e : Pe) : ((e :: l).reverse.map fun e => V.ref e.t) = (l.reverse.map fun e => V.ref e.t) ++ [V.ref e.t] := by
  rw [List.reverse_cons, List.map_append]
  rfl
section
variable {P : Program} {w : World} {K : PySem.W.Frag} {mg : Str → Option Value} {base : Heap}
def spSketchOf (K : PySem.W.Frag) : Sp := fun vs H Q _ => ∃ (a : Addr) (r : Int) (l : List Stp) (x : Tl), vs = [.int r, .ref a] ∧ 1 ≤ r ∧ r ≤ 64 ∧ TreeAt K H a l ∧ Tree l ∧ (∀ zs, .put zs ∈ l → ∀ z ∈ zs, Nm z) ∧ runT r l = [x] ∧
  (TlOk r x → ∀ H' s k (ts : List Addr), Same H H' → H s = none → H' s = some (.tup [.int r, .int x.m, .int x.o, .ref k]) → Ptp H' k (ts.map V.ref) → Paired (fun (t : Addr) (y : Str × Int) => H' t = some (.tup [.str y.1, .int y.2])) ts (srtZ x.c) → Q (.ref s) H')
end
end Kb

namespace Kb
open PySem PySem.Spec PyProof.Rows L2 SrtZ SrtO
/-- the pair that a tuple of the heap holds -/
def rdP (H : Hp) (t : Addr) : Str × Int := match H t with
  | some (.tup [.str x, .int y]) => (x, y)
  | _ => (⟨#[]⟩, 0)
theorem rdP_of {H : Hp} {t : Addr} {e : Str × Int} (h : H t = some (.tup [.str e.1, .int e.2])) : rdP H t = e := by
  unfold rdP
  rw [h]
theorem paired_snoc {α β : Type} {F : α → β → Prop} : ∀ {xs : List α} {ys : List β} {x : α} {y : β}, Paired F xs ys → F x y → Paired F (xs ++ [x]) (ys ++ [y])
  | _, _, _, _, .nil, h => .cons h .nil
  | _, _, _, _, .cons h t, k => .cons h (paired_snoc t k)
theorem paired_imp {α β : Type} {F G : α → β → Prop} (h : ∀ a b, F a b → G a b) : ∀ {xs : List α} {ys : List β}, Paired F xs ys → Paired G xs ys
  | _, _, .nil => .nil
  | _, _, .cons a t => .cons (h _ _ a) (paired_imp h t)
theorem paired_rd {H : Hp} : ∀ {ts : List Addr} {kvs : Ct}, Paired (fun (t : Addr) (e : Str × Int) => H t = some (.tup [.str e.1, .int e.2])) ts kvs → ts.map (rdP H) = kvs ∧ ∀ t ∈ ts, H t = some (.tup [.str (rdP H t).1, .int (rdP H t).2])
  | _, _, .nil => ⟨rfl, fun _ h => nomatch h⟩
  | _, _, .cons h t => by
    obtain ⟨h1, h2⟩ := paired_rd t
    have e := rdP_of h
    refine ⟨by rw [List.map_cons, h1, e], fun u hu => ?_⟩
    rcases List.mem_cons.mp hu with rfl | hu
    · rw [e]
      exact h
    · exact h2 u hu
theorem paired_map {H : Hp} {k : Addr → Str × Int} : ∀ {ts : List Addr}, (∀ t ∈ ts, H t = some (.tup [.str (k t).1, .int (k t).2])) → Paired (fun (t : Addr) (e : Str × Int) => H t = some (.tup [.str e.1, .int e.2])) ts (ts.map k)
  | [], _ => .nil
  | t :: ts, h => .cons (h t List.mem_cons_self) (paired_map fun u hu => h u (List.mem_cons_of_mem _ hu))
theorem getZ_self {kvs : Ct} {i : Nat} {e : Str × Int} (nd : NdZ kvs) (h : kvs[i]? = some e) : getZ kvs e.1 = some e.2 := by
  have hm := List.mem_of_getElem? h
  clear h
  unfold getZ
  induction kvs with
  | nil => cases hm
  | cons f r ih =>
    unfold NdZ at nd
    rw [List.map_cons, List.nodup_cons] at nd
    rcases List.mem_cons.mp hm with rfl | hm
    · simp
    · have : ¬ f.1 = e.1 := fun z => nd.1 (List.mem_map.mpr ⟨e, hm, z.symm⟩)
      rw [List.find?_cons_of_neg (by simpa using this)]
      exact ih nd.2 hm
theorem getZ_mem {kvs : Ct} {e : Str × Int} (nd : NdZ kvs) (h : e ∈ kvs) : getZ kvs e.1 = some e.2 := by
  obtain ⟨i, hi⟩ := List.mem_iff_getElem?.mp h
  exact getZ_self nd hi
theorem getZ_in {kvs : Ct} {n : Str} {v : Int} (h : getZ kvs n = some v) : (n, v) ∈ kvs := by
  unfold getZ at h
  cases e : kvs.find? fun e => decide (e.1 = n) with
  | none => rw [e] at h; cases h
  | some x =>
    rw [e] at h
    have h1 := List.mem_of_find?_eq_some e
    have h2 : x.1 = n := of_decide_eq_true (List.find?_some (p := fun e : Str × Int => decide (e.1 = n)) e)
    have h3 : x.2 = v := Option.some.inj h
    rw [← h2, ← h3]
    exact h1
/-- what was locked is free again -/
theorem unlock_same {H H3 : Hp} {d : Addr} {u : HO} {od : Obj} (hd : H d = some u) (s : Same (upd H d (.frz od u)) H3) : Same H (upd H3 d u) := fun b o e => by
  by_cases h : b = d
  · subst h
    rw [hd] at e
    cases e
    exact upd_same
  · rw [upd_ne h]
    exact s b o (by rw [upd_ne h]; exact e)
theorem asc_nd {kvs : Ct} (h : Asc kvs) : NdZ kvs := by
  unfold NdZ
  rw [List.Nodup, List.pairwise_map]
  refine List.Pairwise.imp (fun {a b} hab e => ?_) h
  rw [e, ltZ_irr] at hab
  cases hab
end Kb



namespace Kb
open PySem PySem.Spec PyProof.Rows L2 SrtZ SrtO
/-! sketches on the heap -/
abbrev PrT (H : Hp) (t : Addr) (y : Str × Int) : Prop := H t = some (.tup [.str y.1, .int y.2])
def SkAt (H : Hp) (s : Addr) (r : Int) (x : Tl) : Prop := ∃ (k : Addr) (ts : List Addr), H s = some (.tup [.int r, .int x.m, .int x.o, .ref k]) ∧ Ptp H k (ts.map V.ref) ∧ Paired (PrT H) ts (srtZ x.c)
theorem SkAt.same {H H' : Hp} {s : Addr} {r : Int} {x : Tl} (h : SkAt H s r x) (y : Same H H') : SkAt H' s r x := by
  obtain ⟨k, ts, h1, h2, h3⟩ := h
  exact ⟨k, ts, y _ _ h1, h2.same y, paired_imp (fun t e h => y _ _ h) h3⟩
theorem SkAt.congr {H : Hp} {s : Addr} {r : Int} {x y : Tl} (h : SkAt H s r x) (e : skT x = skT y) : SkAt H s r y := by
  obtain ⟨m, o, c⟩ := x
  obtain ⟨m2, o2, c2⟩ := y
  unfold skT at e
  injection e with e1 e2 e3
  dsimp only at e1 e2 e3
  subst e1 e2
  obtain ⟨k, ts, h1, h2, h3⟩ := h
  exact ⟨k, ts, h1, h2, by dsimp only at h3 ⊢; rw [← e3]; exact h3⟩
/-! the order in which counts stand means nothing -/
theorem getZ_perm {a b : Ct} (p : a.Perm b) (nd : NdZ a) (n : Str) : getZ a n = getZ b n := by
  have ndb : NdZ b := by
    unfold NdZ
    exact (p.map (·.1)).nodup_iff.mp nd
  cases ha : getZ a n with
  | none =>
    have := getZ_none.mp ha
    exact (getZ_none.mpr fun h => this ((p.map (·.1)).mem_iff.mpr h)).symm
  | some v =>
    have : ∃ e ∈ a, e.1 = n ∧ e.2 = v := by
      unfold getZ at ha
      cases h : a.find? fun e => decide (e.1 = n) with
      | none => rw [h] at ha; cases ha
      | some e =>
        rw [h] at ha
        exact ⟨e, List.mem_of_find?_eq_some h, of_decide_eq_true (List.find?_some (p := fun e : Str × Int => decide (e.1 = n)) h), Option.some.inj ha⟩
    obtain ⟨e, he, rfl, rfl⟩ := this
    obtain ⟨i, hi⟩ := List.mem_iff_getElem?.mp (p.mem_iff.mp he)
    exact (getZ_self ndb hi).symm
theorem putZ_perm {a b : Ct} (p : a.Perm b) (n : Str) (v : Int) : (putZ a n v).Perm (putZ b n v) := by
  have e : (a.any fun e => decide (e.1 = n)) = (b.any fun e => decide (e.1 = n)) := by
    rw [Bool.eq_iff_iff, List.any_eq_true, List.any_eq_true]
    exact ⟨fun ⟨x, h, k⟩ => ⟨x, p.mem_iff.mp h, k⟩, fun ⟨x, h, k⟩ => ⟨x, p.mem_iff.mpr h, k⟩⟩
  unfold putZ
  rw [e]
  split
  · exact p.map _
  · exact p.append_right _
theorem addZ_perm {a b : Ct} (p : a.Perm b) (nd : NdZ a) (n : Str) (c : Int) : (addZ a n c).Perm (addZ b n c) := by
  unfold addZ
  rw [getZ_perm p nd]
  exact putZ_perm p _ _
theorem takeZ_perm {a b : Ct} (p : a.Perm b) (k : Int) : (takeZ k a).Perm (takeZ k b) := (p.filter _).map _
theorem mnC_perm {a b : Ct} (p : a.Perm b) : mnC a = mnC b := by
  by_cases h : a = []
  · subst h
    have := p.symm.eq_nil
    subst this
    rfl
  · obtain ⟨h1, h2⟩ := mnC_spec h
    have q := p.map (·.2)
    exact mnC_uniq (q.mem_iff.mp h1) fun y hy => h2 y (q.mem_iff.mpr hy)
theorem full_perm {a b : Ct} (p : a.Perm b) (nd : NdZ a) (r : Int) (n : Str) : full r n a = full r n b := by
  unfold full
  rw [getZ_perm p nd, p.length_eq]
theorem srtZ_eq {a b : Ct} (p : a.Perm b) (nd : NdZ a) : srtZ a = srtZ b := by
  have ndb : NdZ b := by
    unfold NdZ
    exact (p.map (·.1)).nodup_iff.mp nd
  exact srtZ_of (srtZ_asc nd) ((srtZ_perm a).trans p) ndb
theorem feed_skT {r c : Int} {n : Str} {x : Tl} (nd : NdZ x.c) : skT (feedT r n c (skT x)) = skT (feedT r n c x) := by
  obtain ⟨m, o, kvs⟩ := x
  have p := srtZ_perm kvs
  have nds : NdZ (srtZ kvs) := (p.map (·.1)).nodup_iff.mpr nd
  unfold feedT skT
  dsimp only
  rw [full_perm p nds, mnC_perm p]
  by_cases hf : full r n kvs = true
  · rw [if_pos hf, if_pos hf]
    dsimp only
    generalize (if mnC kvs < c then mnC kvs else c) = a
    have e : srtZ (if 0 < c - a then addZ (takeZ a (srtZ kvs)) n (c - a) else takeZ a (srtZ kvs)) = srtZ (if 0 < c - a then addZ (takeZ a kvs) n (c - a) else takeZ a kvs) := by
      have pt := takeZ_perm p a
      have ndt : NdZ (takeZ a (srtZ kvs)) := takeZ_nd nds
      split
      · exact srtZ_eq (addZ_perm pt ndt _ _) (addZ_nd ndt)
      · exact srtZ_eq pt ndt
    rw [e]
  · rw [if_neg hf, if_neg hf]
    dsimp only
    have e : srtZ (if 0 < c then addZ (srtZ kvs) n c else srtZ kvs) = srtZ (if 0 < c then addZ kvs n c else kvs) := by
      split
      · exact srtZ_eq (addZ_perm p nds _ _) (addZ_nd nds)
      · exact srtZ_eq p nds
    rw [e]
theorem skT_skT {x : Tl} (nd : NdZ x.c) : skT (skT x) = skT x := by
  obtain ⟨m, o, kvs⟩ := x
  unfold skT
  dsimp only
  rw [srtZ_eq (srtZ_perm kvs) ((srtZ_perm kvs).map (·.1) |>.nodup_iff.mpr nd)]
end Kb


namespace Kb
open PySem PySem.Spec PyProof.Rows L2 SrtZ SrtO
/-! counts, read behind a change -/
theorem getZ_cons (e : Str × Int) (kvs : Ct) (k : Str) : getZ (e :: kvs) k = if e.1 = k then some e.2 else getZ kvs k := by
  unfold getZ
  by_cases h : e.1 = k
  · rw [List.find?_cons_of_pos (by simpa using h), if_pos h]
    rfl
  · rw [List.find?_cons_of_neg (by simpa using h), if_neg h]
theorem getZ_app (a b : Ct) (k : Str) : getZ (a ++ b) k = (getZ a k).or (getZ b k) := by
  induction a with
  | nil => simp [getZ]
  | cons e a ih =>
    rw [List.cons_append, getZ_cons, getZ_cons, ih]
    split <;> rfl
theorem getZ_repl (kvs : Ct) (n : Str) (v : Int) (k : Str) : getZ (kvs.map fun e => if e.1 = n then (e.1, v) else e) k = if k = n then (getZ kvs n).map fun _ => v else getZ kvs k := by
  induction kvs with
  | nil => simp [getZ]
  | cons e r ih =>
    rw [List.map_cons, getZ_cons, getZ_cons, ih, getZ_cons]
    by_cases h1 : e.1 = n
    · rw [if_pos h1]
      dsimp only
      by_cases h2 : e.1 = k
      · rw [if_pos h2, if_pos (h2.symm.trans h1), if_pos h1]
        rfl
      · rw [if_neg h2, if_neg h2]
        by_cases h3 : k = n
        · exact absurd (h1.trans h3.symm) h2
        · rw [if_neg h3, if_neg h3]
    · rw [if_neg h1]
      by_cases h2 : e.1 = k
      · rw [if_pos h2, if_neg (fun z => h1 (h2.trans z)), if_pos h2]
      · rw [if_neg h2, if_neg h2, if_neg h1]
theorem getZ_put (kvs : Ct) (n : Str) (v : Int) (k : Str) : getZ (putZ kvs n v) k = if k = n then some v else getZ kvs k := by
  unfold putZ
  rw [any_getZ]
  cases h : getZ kvs n with
  | some u =>
    rw [if_pos (show (some u).isSome = true from rfl), getZ_repl, h]
    rfl
  | none =>
    rw [if_neg (show ¬ (none : Option Int).isSome = true by decide), getZ_app]
    by_cases e : k = n
    · subst e
      rw [h, if_pos rfl, getZ_cons, if_pos rfl]
      rfl
    · rw [if_neg e, getZ_cons, if_neg (Ne.symm e)]
      cases getZ kvs k <;> rfl
theorem getZ_take {a : Int} : ∀ {kvs : Ct}, NdZ kvs → ∀ k, getZ (takeZ a kvs) k = (getZ kvs k).bind fun v => if a < v then some (v - a) else none
  | [], _, k => rfl
  | e :: r, nd, k => by
    unfold NdZ at nd
    rw [List.map_cons, List.nodup_cons] at nd
    have ih := getZ_take (a := a) (kvs := r) nd.2 k
    have hno : e.1 = k → getZ r k = none := fun h => getZ_none.mpr (h ▸ nd.1)
    unfold takeZ at ih ⊢
    by_cases h : a < e.2
    · rw [List.filter_cons_of_pos (by simpa using h), List.map_cons, getZ_cons, getZ_cons]
      by_cases h2 : e.1 = k
      · rw [if_pos h2, if_pos h2]
        show some (e.2 - a) = if a < e.2 then _ else _
        rw [if_pos h]
      · rw [if_neg h2, if_neg h2]
        exact ih
    · rw [List.filter_cons_of_neg (by simpa using h), ih, getZ_cons]
      by_cases h2 : e.1 = k
      · rw [if_pos h2, hno h2]
        show none = if a < e.2 then _ else _
        rw [if_neg h]
      · rw [if_neg h2]
theorem putZ_putZ (kvs : Ct) (n : Str) (u v : Int) : putZ (putZ kvs n u) n v = putZ kvs n v := by
  cases h : getZ kvs n with
  | some g =>
    have e : ∀ w : Int, putZ kvs n w = kvs.map fun e => if e.1 = n then (e.1, w) else e := fun w => by
      unfold putZ
      rw [any_getZ, h, if_pos (show (some g).isSome = true from rfl)]
    rw [e u, e v]
    unfold putZ
    rw [any_getZ, getZ_repl, if_pos rfl, h, if_pos (show ((some g).map fun _ => u).isSome = true from rfl), List.map_map]
    refine List.map_congr_left fun e _ => ?_
    show (if (if e.1 = n then (e.1, u) else e).1 = n then ((if e.1 = n then (e.1, u) else e).1, v) else (if e.1 = n then (e.1, u) else e)) = _
    by_cases h1 : e.1 = n
    · rw [if_pos h1, if_pos h1, if_pos h1]
    · rw [if_neg h1, if_neg h1]
  | none =>
    rw [putZ_new h, putZ_new h]
    have hz := getZ_none.mp h
    unfold putZ
    rw [any_getZ, getZ_app, h, getZ_cons, if_pos rfl, if_pos (show ((none : Option Int).or (some u)).isSome = true from rfl), List.map_append]
    congr 1
    · have : ∀ e ∈ kvs, (if e.1 = n then (e.1, v) else e) = e := fun e he => by
        rw [if_neg (fun q => hz (List.mem_map.mpr ⟨e, he, q⟩))]
      rw [List.map_congr_left this, List.map_id']
    · show [if n = n then (n, v) else (n, u)] = _
      rw [if_pos rfl]
theorem addZ_addZ (kvs : Ct) (n : Str) (c e : Int) : addZ (addZ kvs n c) n e = addZ kvs n (c + e) := by
  unfold addZ
  rw [getZ_put, if_pos rfl, putZ_putZ]
  show putZ kvs n ((getZ kvs n).getD 0 + c + e) = _
  rw [Int.add_assoc]
theorem takeZ_takeZ {a b : Int} (hb : 0 ≤ b) : ∀ kvs : Ct, takeZ b (takeZ a kvs) = takeZ (a + b) kvs
  | [] => rfl
  | e :: r => by
    have ih := takeZ_takeZ hb (a := a) r
    unfold takeZ at ih ⊢
    by_cases h : a < e.2
    · rw [List.filter_cons_of_pos (by simpa using h), List.map_cons]
      by_cases h2 : a + b < e.2
      · rw [List.filter_cons_of_pos (by simp; omega), List.map_cons, ih, List.filter_cons_of_pos (by simpa using h2), List.map_cons]
        congr 2
        show e.2 - a - b = e.2 - (a + b)
        omega
      · rw [List.filter_cons_of_neg (by simp; omega), ih, List.filter_cons_of_neg (by simpa using h2)]
    · rw [List.filter_cons_of_neg (by simpa using h), ih, List.filter_cons_of_neg (by simp; omega)]
theorem takeZ_zero : ∀ {kvs : Ct}, (∀ e ∈ kvs, 1 ≤ e.2) → takeZ 0 kvs = kvs
  | [], _ => rfl
  | e :: r, h => by
    have ih := takeZ_zero (kvs := r) fun f hf => h f (List.mem_cons_of_mem _ hf)
    have h1 := h e List.mem_cons_self
    unfold takeZ at ih ⊢
    rw [List.filter_cons_of_pos (by simp; omega), List.map_cons, ih]
    congr 1
    show (e.1, e.2 - 0) = e
    rw [Int.sub_zero]
/-- less than the least is taken off: all stay -/
theorem takeZ_all : ∀ {kvs : Ct} {c : Int}, (∀ e ∈ kvs, c < e.2) → takeZ c kvs = kvs.map fun e => (e.1, e.2 - c)
  | [], _, _ => rfl
  | e :: r, c, h => by
    have ih := takeZ_all (kvs := r) (c := c) fun f hf => h f (List.mem_cons_of_mem _ hf)
    unfold takeZ at ih ⊢
    rw [List.filter_cons_of_pos (by simpa using h e List.mem_cons_self), List.map_cons, ih]
    rfl
theorem sumC_cons' (e : Str × Int) (kvs : Ct) : sumC (e :: kvs) = e.2 + sumC kvs := by
  unfold sumC
  rw [List.map_cons, List.sum_cons]
theorem sumC_perm' {a b : Ct} (p : a.Perm b) : sumC a = sumC b := by
  induction p with
  | nil => rfl
  | cons x _ ih => rw [sumC_cons', sumC_cons', ih]
  | swap x y l =>
    rw [sumC_cons', sumC_cons', sumC_cons', sumC_cons']
    omega
  | trans _ _ ih1 ih2 => rw [ih1, ih2]
theorem sumC_app : ∀ a b : Ct, sumC (a ++ b) = sumC a + sumC b
  | [], b => by show sumC b = 0 + sumC b; omega
  | e :: a, b => by
    rw [List.cons_append, sumC_cons', sumC_cons', sumC_app a b]
    omega
theorem sumC_repl {n : Str} {v : Int} : ∀ {kvs : Ct} {g : Int}, NdZ kvs → getZ kvs n = some g → sumC (kvs.map fun e => if e.1 = n then (e.1, v) else e) = sumC kvs + (v - g)
  | [], _, _, h => by cases h
  | e :: r, g, nd, h => by
    unfold NdZ at nd
    rw [List.map_cons, List.nodup_cons] at nd
    rw [getZ_cons] at h
    rw [List.map_cons, sumC_cons', sumC_cons']
    by_cases h1 : e.1 = n
    · rw [if_pos h1] at h ⊢
      have : ∀ f ∈ r, (if f.1 = n then (f.1, v) else f) = f := fun f hf => by
        rw [if_neg (fun q => nd.1 (List.mem_map.mpr ⟨f, hf, q.trans h1.symm⟩))]
      rw [List.map_congr_left this, List.map_id']
      have := Option.some.inj h
      show v + _ = _
      omega
    · rw [if_neg h1] at h ⊢
      rw [sumC_repl nd.2 h]
      omega
theorem sumC_add {kvs : Ct} {n : Str} {c : Int} (nd : NdZ kvs) : sumC (addZ kvs n c) = sumC kvs + c := by
  unfold addZ putZ
  rw [any_getZ]
  cases h : getZ kvs n with
  | some g =>
    rw [if_pos (show (some g).isSome = true from rfl), sumC_repl nd h]
    show _ + (g + c - g) = _
    omega
  | none =>
    rw [if_neg (show ¬ (none : Option Int).isSome = true by decide), sumC_app]
    show sumC kvs + (0 + c + 0) = _
    omega
theorem sumC_take1 : ∀ {kvs : Ct}, (∀ e ∈ kvs, 1 ≤ e.2) → sumC (takeZ 1 kvs) = sumC kvs - (kvs.length : Int)
  | [], _ => rfl
  | e :: r, h => by
    have ih := sumC_take1 (kvs := r) fun f hf => h f (List.mem_cons_of_mem _ hf)
    have h1 := h e List.mem_cons_self
    rw [sumC_cons', List.length_cons]
    unfold takeZ at ih ⊢
    by_cases h2 : 1 < e.2
    · rw [List.filter_cons_of_pos (by simpa using h2), List.map_cons, sumC_cons', ih]
      show e.2 - 1 + _ = _
      omega
    · rw [List.filter_cons_of_neg (by simpa using h2), ih]
      omega
theorem full_of {r : Int} {n : Str} {kvs : Ct} (h : full r n kvs = true) : getZ kvs n = none ∧ (kvs.length : Int) = r := by
  unfold full at h
  rw [Bool.and_eq_true] at h
  refine ⟨?_, of_decide_eq_true h.2⟩
  cases e : getZ kvs n with
  | none => rfl
  | some _ =>
    rw [e] at h
    exact absurd h.1 (by intro z; cases z)
theorem full_yes {r : Int} {n : Str} {kvs : Ct} (h : getZ kvs n = none) (h2 : (kvs.length : Int) = r) : full r n kvs = true := by
  unfold full
  rw [h, decide_eq_true h2]
  rfl
theorem full_no' {r : Int} {n : Str} {kvs : Ct} (h : (getZ kvs n).isSome = true ∨ ¬ (kvs.length : Int) = r) : full r n kvs = false := by
  unfold full
  rcases h with h | h
  · rw [h]
    rfl
  · rw [decide_eq_false h, Bool.and_false]
theorem mn_pos {kvs : Ct} (ne : kvs ≠ []) (pos : ∀ e ∈ kvs, 1 ≤ e.2) : 1 ≤ mnC kvs := by
  obtain ⟨h, _⟩ := mnC_spec ne
  obtain ⟨e, he, h⟩ := List.mem_map.mp h
  rw [← h]
  exact pos e he
theorem ne_of_full {r : Int} {kvs : Ct} (hr : 1 ≤ r) (h : (kvs.length : Int) = r) : kvs ≠ [] := by
  rintro rfl
  have : (0 : Int) = r := h
  omega
theorem feed_lt {r c m o : Int} {n : Str} {kvs : Ct} (hf : full r n kvs = true) (hc : c ≤ mnC kvs) : feedT r n c ⟨m, o, kvs⟩ = ⟨m + c, o + c, takeZ c kvs⟩ := by
  unfold feedT
  dsimp only
  rw [hf, if_pos rfl, if_neg (show ¬ mnC kvs < c by omega), if_neg (show ¬ 0 < c - c by omega)]
theorem feed_gt {r c m o : Int} {n : Str} {kvs : Ct} (hf : full r n kvs = true) (hc : mnC kvs < c) : feedT r n c ⟨m, o, kvs⟩ = ⟨m + c, o + mnC kvs, addZ (takeZ (mnC kvs) kvs) n (c - mnC kvs)⟩ := by
  unfold feedT
  dsimp only
  rw [hf, if_pos rfl, if_pos hc, if_pos (show 0 < c - mnC kvs by omega)]
theorem feed_add {r c m o : Int} {n : Str} {kvs : Ct} (hf : full r n kvs = false) (hc : 0 < c) : feedT r n c ⟨m, o, kvs⟩ = ⟨m + c, o, addZ kvs n c⟩ := by
  unfold feedT
  dsimp only
  rw [hf, if_neg (by decide), if_pos hc]
theorem feed_zero {r : Int} {n : Str} {x : Tl} (ok : TlOk r x) (hr : 1 ≤ r) : feedT r n 0 x = x := by
  obtain ⟨m, o, kvs⟩ := x
  cases hf : full r n kvs with
  | true =>
    obtain ⟨_, hl⟩ := full_of hf
    have h1 := mn_pos (ne_of_full hr hl) ok.pos
    rw [feed_lt hf (by omega), takeZ_zero ok.pos, Int.add_zero, Int.add_zero]
  | false =>
    unfold feedT
    dsimp only
    rw [hf, if_neg (by decide), if_neg (by decide), Int.add_zero]
theorem full_added {r c : Int} {n : Str} {kvs : Ct} : full r n (addZ kvs n c) = false := full_no' (.inl (by unfold addZ; rw [getZ_put, if_pos rfl]; rfl))
theorem full_less {r : Int} {n : Str} {kvs : Ct} (hr : 1 ≤ r) (hl : (kvs.length : Int) = r) : full r n (takeZ (mnC kvs) kvs) = false := full_no' (.inr (by have := takeZ_less (ne_of_full hr hl); omega))
theorem feed_iter {r c : Int} {n : Str} {x : Tl} (ok : TlOk r x) (hr : 1 ≤ r) (hc : 0 ≤ c) : feedT r n (c + 1) x = feedT r n 1 (feedT r n c x) := by
  obtain ⟨m, o, kvs⟩ := x
  have ok0 := ok
  obtain ⟨nd, len, pos, nm⟩ := ok
  dsimp only at nd len pos nm
  have e0 : m + (c + 1) = m + c + 1 := by omega
  by_cases h0 : 0 < c
  · cases hf : full r n kvs with
    | false => rw [feed_add hf (by omega), feed_add hf h0, feed_add full_added (by decide), addZ_addZ, e0]
    | true =>
      obtain ⟨hg, hl⟩ := full_of hf
      have ne := ne_of_full hr hl
      obtain ⟨hm, hle⟩ := mnC_spec ne
      by_cases hcm : c < mnC kvs
      · have hall : ∀ e ∈ kvs, c < e.2 := fun e he => by
          have := hle e.2 (List.mem_map.mpr ⟨e, he, rfl⟩)
          omega
        have ht := takeZ_all hall
        have hy : full r n (takeZ c kvs) = true := full_yes (by rw [getZ_take nd, hg]; rfl) (by rw [ht, List.length_map]; exact hl)
        have hmn : mnC (takeZ c kvs) = mnC kvs - c := by
          refine (mnC_uniq ?_ fun y hy => ?_).symm
          · rw [ht, List.map_map]
            obtain ⟨e, he, h⟩ := List.mem_map.mp hm
            exact List.mem_map.mpr ⟨e, he, by show e.2 - c = _; rw [h]⟩
          · rw [ht, List.map_map] at hy
            obtain ⟨e, he, rfl⟩ := List.mem_map.mp hy
            have := hle e.2 (List.mem_map.mpr ⟨e, he, rfl⟩)
            show mnC kvs - c ≤ e.2 - c
            omega
        rw [feed_lt hf (by omega), feed_lt hf (by omega), feed_lt hy (by omega), takeZ_takeZ (by decide), e0, Int.add_assoc o c 1]
      · by_cases hcm2 : c = mnC kvs
        · rw [feed_gt hf (by omega), feed_lt hf (by omega), hcm2, feed_add (full_less hr hl) (by decide), ← hcm2, e0]
          congr 2
          omega
        · rw [feed_gt hf (by omega), feed_gt hf (by omega), feed_add full_added (by decide), addZ_addZ, e0]
          congr 2
          omega
  · have : c = 0 := by omega
    subst this
    rw [feed_zero ok0 hr]
    rfl
/-! what feeding leaves true -/
/-- of an exact stream: so much was taken off -/
structure Fd (r : Int) (x : Tl) : Prop where
  lost : x.m - sumC x.c = (r + 1) * x.o
  off : 0 ≤ x.o
theorem fd0 (r : Int) : Fd r tl0 := ⟨by show (0 : Int) - 0 = (r + 1) * 0; rw [Int.mul_zero]; rfl, Int.le_refl _⟩
theorem fd_feed {r : Int} {n : Str} {x : Tl} (ok : TlOk r x) (hr : 1 ≤ r) (h : Fd r x) : Fd r (feedT r n 1 x) := by
  obtain ⟨m, o, kvs⟩ := x
  obtain ⟨hl, ho⟩ := h
  dsimp only at hl ho
  cases hf : full r n kvs with
  | false =>
    rw [feed_add hf (by decide)]
    refine ⟨?_, ho⟩
    show m + 1 - sumC (addZ kvs n 1) = _
    rw [sumC_add (show NdZ kvs from ok.nd)]
    show _ = (r + 1) * o
    omega
  | true =>
    obtain ⟨hg, hlen⟩ := full_of hf
    have m1 := mn_pos (ne_of_full hr hlen) ok.pos
    rw [feed_lt hf (by omega)]
    refine ⟨?_, by dsimp only; omega⟩
    show m + 1 - sumC (takeZ 1 kvs) = (r + 1) * (o + 1)
    rw [sumC_take1 (show ∀ e ∈ kvs, 1 ≤ e.2 from ok.pos), Int.mul_add, ← hl, hlen]
    omega
theorem fd_sk {r : Int} {x : Tl} (ok : TlOk r x) (hr1 : 1 ≤ r) (hr2 : r ≤ 64) (h : Fd r x) (hm : 0 ≤ x.m) : skB r x.m x.o (srtZ x.c) = true := by
  have p := srtZ_perm x.c
  have es : sumC (srtZ x.c) = sumC x.c := sumC_perm' p
  have hl := h.lost
  have ho := h.off
  have h2 : (r + 1) * x.o ≤ 2 * r * x.o := Int.mul_le_mul_of_nonneg_right (by omega) ho
  have hlen : ((srtZ x.c).length : Int) ≤ r := by rw [p.length_eq]; exact ok.len
  unfold skB
  rw [es, hl, decide_eq_true hr1, decide_eq_true hr2, decide_eq_true hm, decide_eq_true ho, decide_eq_true hlen, decide_eq_true (Int.le_refl _), decide_eq_true h2]
  rfl
def gd (kvs : Ct) (k : Str) : Int := (getZ kvs k).getD 0
theorem gd_add (kvs : Ct) (n : Str) (c : Int) (k : Str) : gd (addZ kvs n c) k = gd kvs k + if k = n then c else 0 := by
  unfold gd addZ
  rw [getZ_put]
  by_cases h : k = n
  · subst h
    rw [if_pos rfl, if_pos rfl]
    rfl
  · rw [if_neg h, if_neg h, Int.add_zero]
theorem gd_take1 {kvs : Ct} (nd : NdZ kvs) (pos : ∀ e ∈ kvs, 1 ≤ e.2) (k : Str) : gd (takeZ 1 kvs) k = if 0 < gd kvs k then gd kvs k - 1 else 0 := by
  unfold gd
  rw [getZ_take nd]
  cases h : getZ kvs k with
  | none => rfl
  | some v =>
    have hv : 1 ≤ v := by
      have := getZ_pos (n := k) pos
      unfold getZ at h
      cases hh : kvs.find? fun e => decide (e.1 = k) with
      | none => rw [hh] at h; cases h
      | some e =>
        rw [hh] at h
        have h1 := pos e (List.mem_of_find?_eq_some hh)
        have h2 := Option.some.inj h
        have h3 : e.2 = v := h2
        omega
    show (if 1 < v then some (v - 1) else none).getD 0 = if 0 < v then v - 1 else 0
    rw [if_pos (show 0 < v by omega)]
    by_cases h1 : 1 < v
    · rw [if_pos h1]
      rfl
    · rw [if_neg h1]
      show (0 : Int) = v - 1
      omega
/-- the true counts lie from the kept ones to off above -/
def Tru (kc : Ct) (x : Tl) : Prop := ∀ k, 0 ≤ gd kc k - gd x.c k ∧ gd kc k - gd x.c k ≤ x.o
theorem tru0 : Tru [] tl0 := fun k => ⟨Int.le_refl _, Int.le_refl _⟩
theorem tru_feed {r : Int} {n : Str} {x : Tl} {kc : Ct} (ok : TlOk r x) (hr : 1 ≤ r) (h : Tru kc x) : Tru (addZ kc n 1) (feedT r n 1 x) := by
  obtain ⟨m, o, kvs⟩ := x
  intro k
  obtain ⟨a, b⟩ := h k
  dsimp only at a b
  rw [gd_add]
  cases hf : full r n kvs with
  | false =>
    rw [feed_add hf (by decide)]
    dsimp only
    rw [gd_add]
    omega
  | true =>
    obtain ⟨hg, hlen⟩ := full_of hf
    have m1 := mn_pos (ne_of_full hr hlen) ok.pos
    rw [feed_lt hf (by omega)]
    dsimp only
    rw [gd_take1 (show NdZ kvs from ok.nd) (show ∀ e ∈ kvs, 1 ≤ e.2 from ok.pos)]
    have hp : 0 ≤ gd kvs k := getZ_pos ok.pos
    by_cases hk : k = n
    · subst hk
      have : gd kvs k = 0 := by
        unfold gd
        rw [hg]
        rfl
      rw [if_pos rfl, this, if_neg (by decide)]
      omega
    · rw [if_neg hk]
      split <;> omega
end Kb

namespace L2
open PySem PySem.Spec PyProof.Rows SrtO SrtZ
/-! own rules: (int, text) < (int, text); sorted of a list of texts of any length -/
def ltNZ (i j : Int) (x y : Str) : Bool := if i = j then ltZ x y else decide (i < j)
section
variable {X : Cx}
def rLtNZ (K : PySem.W.Frag) : R2 := fun x y H Q => ∃ (a b : Addr) (i j : Int) (z w : Str), x = .ref a ∧ y = .ref b ∧ SqT K H a [.int i, .str z] ∧ SqT K H b [.int j, .str w] ∧ Q (.bl (ltNZ i j z w)) H
theorem op_ltNZ (hu : X.A.units < cLine) : OpR X (compareOp .Lt) (rLtNZ X.K) := by
  intro pins s σ H x y v u Q I rx ry h
  obtain ⟨a, b, i, j, z, w, rfl, rfl, ha, hb, q⟩ := h
  cases rx
  cases ry
  obtain ⟨its, r1, p1, _⟩ := I.tuple ha
  obtain ⟨its2, r2, p2, _⟩ := I.tuple hb
  obtain ⟨u1, u2, rfl, ri, rj⟩ := vals2 r1
  obtain ⟨w1, w2, rfl, si, sj⟩ := vals2 r2
  obtain ⟨t1, rfl⟩ := ri
  obtain ⟨t2, rfl⟩ := rj
  obtain ⟨t3, rfl⟩ := si
  obtain ⟨t4, rfl⟩ := sj
  have R := Ob.RcOp.tuples_lt (A := X.A) (s := s) (e := fun k => match k with | 0 => (i == j) | _ => (z == w)) (r := fun k => match k with | 0 => decide (i < j) | _ => ltZ z w) p1 p2 hu (fun k h1 h2 => by
    match k, h1, h2 with
    | 0, _, _ => exact SeqAt.EqAt.int_int _ _ _ _
    | 1, _, _ => exact SeqAt.EqAt.str_str _ _ _ _
    | k + 2, h1, _ => exact absurd h1 (by simp)) (fun k h1 h2 _ => by
    match k, h1, h2 with
    | 0, _, _ => exact Ob.RcOp.lt_int _ _ _ _
    | 1, _, _ => exact fun _ _ _ _ h => PyProof.Rows.lt_str h
    | k + 2, h1, _ => exact absurd h1 (by simp))
  have e : Ob.lexAt (fun k => match k with | 0 => (i == j) | _ => (z == w)) (fun k => match k with | 0 => decide (i < j) | _ => ltZ z w) (decide (2 < 2)) 0 2 = ltNZ i j z w := by
    unfold ltNZ
    rw [Ob.lexAt_succ, Ob.lexAt_succ, Ob.lexAt_zero]
    show (if (i == j) = true then (if (z == w) = true then decide (2 < 2) else ltZ z w) else decide (i < j)) = _
    by_cases h1 : i = j
    · rw [if_pos (beq_iff_eq.mpr h1), if_pos h1]
      by_cases h2 : z = w
      · rw [if_pos (by rw [h2]; exact beq_self_eq_true w), h2, ltZ_irr]
        rfl
      · rw [if_neg (fun q => h2 (eq_of_beq q))]
    · rw [if_neg (fun q => h1 (eq_of_beq q)), if_neg h1]
  have R' : Ob.RcOp .Lt X.A s (.ref a) (.ref b) (ltNZ i j z w) := by
    rw [← e]
    exact R
  exact R' X.prog X.w X.xe (EP X pins σ Q) ⟨.bl _, H, I, rfl, q⟩
/-- sorted(xs), xs a list of texts of any length -/
def rSortedSL (K : PySem.W.Frag) : List V → Hp → VK → Prop := fun vs H Q => ∃ (a : Addr) (xs : List Str), vs = [V.ref a] ∧ SqL K H a (xs.map V.str) ∧ ∀ (ys : List Str) (p : Addr), ys.Perm xs → Srtd ltZ ys → H p = none → Q (.ref p) (upd H p (.lst (ys.map V.str)))
theorem cr_sortedSL : CallR X (.builtin "sorted") (rSortedSL X.K) := by
  intro pins s σ H vs us Q I r h
  obtain ⟨a, xs, rfl, hs, q⟩ := h
  obtain ⟨its, rv, hl, hz⟩ := I.list hs
  obtain rfl := Vals.ref1 r
  have hI : StrsAre its xs := strs_of_vals rv
  rw [List.length_map] at hz
  have il : its.length = xs.length := hI.length
  refine SrtO.sorted_ord (ltv := ltSv) ⟨fun x y => swo_str.asym _ _, fun x y z => swo_str.tr _ _ _⟩ hl.isList (by rw [il]; exact hz) (fun h2 h₁ b hb kk => strs_sortable (s := { s with heap := h₁ }) hI h2) fun out h1 h2 => ?_
  obtain ⟨ep, he'⟩ := PyProof.Rows.sortedAll_at s.heap its out.toArray
  have isO : ∀ v ∈ out, ∃ x t, v = Value.str x t := fun v hv => hI.all v (h2.perm.mem_iff.mp hv)
  have hO := strsAre_map out isO
  have pt : (out.map strOf).Perm xs := by
    have := h2.perm.map strOf
    rwa [show its.map strOf = xs from hI.strs] at this
  have hlen : ((out.map strOf).map V.str).length ≤ sizeLine := by rw [List.length_map, pt.length_eq]; exact hz
  refine ⟨.ref _, upd H (s.heap.objs.size + 1) (.lst ((out.map strOf).map V.str)), I.laid (t' := s.toks) (fun _ _ => PyProof.Rows.sortedAll_old) (Nat.le_succ _) ⟨hlen, out, ep, vals_of_strs hO, he'⟩, rfl, q _ _ pt (srtd_map h1) (I.hok.fresh (Nat.le_succ _))⟩
end
end L2

namespace L2
open PySem PySem.Spec PyProof.Rows
section
variable {X : Cx}
/-- name = {.. for ..} on one line, the name a local -/
theorem ps_setDc {i : Nat} {y : Str} {py : Pos} {kx vx tg iter : Expr} {ifs : List Expr} {scope : Scope} {own : List (Str × Nat)} {pos spos : Pos} {wi : TI} {g : TG} {tt : TT} {tk tv : TE} (hc : X.calm = true) (hN : X.N.Nodup) (hy : X.N[i]? = some y) (hyl : X.env.scope.names.lookup y = some .local)
    (hsw : swapsWith (.DictComp kx vx [⟨tg, iter, ifs, 0⟩] scope pos) (some (.Name y py)) spos.line X.env = pure true) (hi : PI X tg iter wi) (ok : BlkOk X.N X.env.scope scope own)
    (hg : ∀ (s : Shared) (H : Hp) (C : Addr) (cl : List (Str × Addr)) (fp : List Addr), PG (X.blk s H scope (compEnvC scope cl C X.env) fp) tg g) (ht : ∀ (s : Shared) (H : Hp) (C : Addr) (cl : List (Str × Addr)) (fp : List Addr), PTs (X.blk s H scope (compEnvC scope cl C X.env) fp) ifs tt)
    (hk : ∀ (s : Shared) (H : Hp) (C : Addr) (cl : List (Str × Addr)) (fp : List Addr), PE (X.blk s H scope (compEnvC scope cl C X.env) fp) kx tk)
    (he : ∀ (s : Shared) (H : Hp) (C : Addr) (cl : List (Str × Addr)) (fp : List Addr), PE (X.blk s H scope (compEnvC scope cl C X.env) fp) vx tv) (hs : ∀ x, foldedSetIterable iter X.env x = pure x := by intro _; rfl) :
    PS X (.Assign [.Name y py] (.DictComp kx vx [⟨tg, iter, ifs, 0⟩] scope pos) spos) (tAsg (tDc wi g tt tk tv (own.map (·.2))) (gName i)) := by
  refine ⟨fun pins s σ H D I h => ?_⟩
  rw [exec_Assign_Name_used _ _ _ _ hsw]
  refine wpAny_bind (wpAny_standAt (wpAny_bind ?_))
  show wpAny _ X.A (do let _ ← comprehension (.DictComp kx vx [⟨tg, iter, ifs, 0⟩] scope pos) scope X.env (firstIterPos [⟨tg, iter, ifs, 0⟩] pos) newDict false (eval iter X.env) (some (assign (.Name y py) X.env))) _ _ s
  have h : tDc wi g tt tk tv (own.map (·.2)) σ H (fun x H1 => gName i x σ H1 D.nx) := h
  refine wpAny_bind (thn (dc_core (Qf := fun _ s' => SP X pins D .next s') hc hN I hi ok hg ht hk he hs h fun L C s' m H' I' q hn f => ?_) fun _ s' hq => wpAny_pure (wpAny_pure hq))
  show wpAny _ _ (assign (.Name y py) X.env (.ref L)) _ _ _
  refine wpAny_assign_Name (store_ok2 (v := V.ref L) I' hN hy (.inl hyl) rfl (fun s2 I2 ⟨a, sb, ha⟩ => ?_) (.inr hyl))
  obtain ⟨f0, f1, f2, f3, f4, f5⟩ := f
  have haC : C ≠ a := by
    rcases ha with z | z
    · rw [z]; exact f1
    · exact fun e => f4 y a z e.symm
  refine ⟨m, hn.sameBut sb haC, fun h3 sb3 => ?_⟩
  exact ⟨_, H', I2.turned (t' := s2.toks) (fun b o hb e => (sb3.2 b hb).trans e) f0 f1 f3 f4 f5, q⟩
theorem sw_trueD {kx vx : Expr} {gs : List Comprehension} {scope : Scope} {pos py : Pos} {y : Str} {l : Nat} {env : Env} (hk : env.scope.kind = .function) (hy : env.scope.names.lookup y = some .local) (hl : (py.line == pos.line) = true)
    (ha : (scope.names.any fun (n, k) => n == y && (k == .local || k == .cell)) = false) : swapsWith (.DictComp kx vx gs scope pos) (some (.Name y py)) l env = pure true := by
  have ky : env.kindOf y = some .local := hy
  have hb : env.blockKind = .function := by unfold Env.blockKind; rw [hk]; rfl
  unfold swapsWith
  simp only [hb, ky, ha, Expr.pos, hl]
  rfl
/-- list.count of a text among texts -/
def rCntS (K : PySem.W.Frag) : V → List V → Hp → VK → Prop := fun x xs H Q => ∃ (p : Addr) (ns : List Str) (k : Str), x = .ref p ∧ xs = [.str k] ∧ SqL K H p (ns.map V.str) ∧ Q (.int (ns.count k : Nat)) H
theorem countS_in (k : Str) : ∀ ns : List Str, PySem.Spec.countIn (.str k) (ns.map PyData.str) = (ns.count k : Nat)
  | [] => rfl
  | n :: r => by
    rw [List.map_cons, PySem.Spec.countIn, countS_in k r, List.count_cons]
    simp only [PySem.Spec.same]
    rcases Bool.eq_false_or_eq_true (n == k) with hb | hb <;> simp only [hb, Bool.false_eq_true, if_true, if_false] <;> push_cast <;> omega
theorem mt_lcountS : MtR X "list.count" (rCntS X.K) := by
  intro pins s σ H x xs v us Q I rx rxs h
  obtain ⟨p, ns, k, rfl, rfl, hs, q⟩ := h
  cases rx
  obtain ⟨u, rfl, ru⟩ := rxs.one
  obtain ⟨t, rfl⟩ := ru
  obtain ⟨its, rv, pl, hlen⟩ := I.list hs
  refine count_list_strs (vs := its) pl.isList (strs_of_vals rv) ?_
  rw [countS_in]
  exact ⟨.int (ns.count k : Nat), H, I.tok _, ⟨s.toks, rfl⟩, q⟩
/-- a method within a comprehension: the written part by name -/
theorem pe_bmK {K : PySem.W.Frag} {o e : Expr} {es : List Expr} {to : TE} {t : TA} {name : Str} {apos cpos : Pos} {T id : String} {r : V → List V → Hp → VK → Prop} (pa : PlainAttrs T) (slot : Slot T name id) (hty : typeOf (.builtin id) = pure (.type "method_descriptor")) (hm : MtR X id r) (ho : PE X o to) (ha : PA X (e :: es) t) (hK : X.K = K := by rfl)
    (hbase : attributeBase o name X.env (eval o X.env) = eval o X.env := by rfl)
    (hfew : ((backTo cpos (starEach (e :: es) X.env)).all (fun x => !x.1) && (backToKw cpos (keywordEach [] X.env)).all (fun x => x.1.isSome)
      && decide ((e :: es).length + ([] : List Keyword).length + (if ([] : List Keyword).isEmpty then 0 else 1) < 30)) = true := by rfl)
    (hline : (apos.endLine == cpos.line) = true := by rfl) (hs : starEach (e :: es) X.env = (false, eval e X.env) :: starEach es X.env := by rfl) (hplain : (backTo cpos (starEach es X.env)).any (·.1) = false := by rfl) :
    PE X (.Call (.Attribute o name apos) (e :: es) [] cpos) (tBM K T r to t) := by
  subst hK
  exact pe_bm pa slot hty hm ho ha hbase hfew hline hs hplain
end
end L2

namespace Kb
open PySem PySem.Spec PyProof.Rows L2 SrtZ SrtO
/-- how often each name stands in the streams -/
def cntZ (zs : List Str) (kc : Ct) : Ct := zs.foldl (fun k n => addZ k n 1) kc
def cntS (kc : Ct) : Stp → Ct
  | .put zs => cntZ zs kc
  | .pour => kc
def cntT (l : List Stp) : Ct := l.foldl cntS []
theorem cntZ_snoc {zs : List Str} {kc : Ct} {i : Nat} {n : Str} (h : zs[i]? = some n) : cntZ (zs.take (i + 1)) kc = addZ (cntZ (zs.take i) kc) n 1 := by
  unfold cntZ
  rw [List.take_add_one, h, List.foldl_append]
  rfl
theorem cntT_snoc {l : List Stp} {i : Nat} {t : Stp} (h : l[i]? = some t) : cntT (l.take (i + 1)) = cntS (cntT (l.take i)) t := by
  unfold cntT
  rw [List.take_add_one, h, List.foldl_append]
  rfl
theorem cntZ_nd : ∀ {zs : List Str} {kc : Ct}, NdZ kc → NdZ (cntZ zs kc)
  | [], _, h => h
  | z :: zs, kc, h => cntZ_nd (zs := zs) (addZ_nd (n := z) (c := 1) h)
theorem cntZ_len : ∀ {zs : List Str} {kc : Ct}, (cntZ zs kc).length ≤ kc.length + zs.length
  | [], _ => Nat.le_refl _
  | z :: zs, kc => by
    have h := cntZ_len (zs := zs) (kc := addZ kc z 1)
    have h2 := addZ_len (kvs := kc) (n := z) (c := 1)
    show (cntZ zs (addZ kc z 1)).length ≤ kc.length + (zs.length + 1)
    omega
theorem cntS_nd {kc : Ct} {t : Stp} (h : NdZ kc) : NdZ (cntS kc t) := by
  cases t with
  | put zs => exact cntZ_nd h
  | pour => exact h
theorem cntT_nd (l : List Stp) : NdZ (cntT l) := by
  have gen : ∀ (l : List Stp) (kc : Ct), NdZ kc → NdZ (l.foldl cntS kc) := by
    intro l
    induction l with
    | nil => exact fun _ h => h
    | cons t l ih => exact fun kc h => ih _ (cntS_nd h)
  exact gen l [] List.nodup_nil
theorem mny_mono (l : List Stp) (i : Nat) : mny (l.take i) ≤ mny l := by
  have gen : ∀ (l : List Stp) (m : Int), m ≤ l.foldl cS m := by
    intro l
    induction l with
    | nil => exact fun m => Int.le_refl _
    | cons t l ih =>
      intro m
      have h := ih (cS m t)
      have h2 : m ≤ cS m t := by
        cases t with
        | put zs => show m ≤ m + (zs.length : Nat); omega
        | pour => exact Int.le_refl _
      exact Int.le_trans h2 h
  unfold mny
  have := gen (l.drop i) ((l.take i).foldl cS 0)
  rw [← List.foldl_append, List.take_append_drop] at this
  exact this
theorem cntT_len : ∀ l : List Stp, ((cntT l).length : Int) ≤ mny l := by
  have gen : ∀ (l : List Stp) (kc : Ct) (m : Int), (kc.length : Int) ≤ m → ((l.foldl cntS kc).length : Int) ≤ l.foldl cS m := by
    intro l
    induction l with
    | nil => exact fun _ _ h => h
    | cons t l ih =>
      intro kc m h
      refine ih _ _ ?_
      cases t with
      | put zs =>
        have := cntZ_len (zs := zs) (kc := kc)
        show ((cntZ zs kc).length : Int) ≤ m + (zs.length : Nat)
        omega
      | pour => exact h
  exact fun l => gen l [] 0 (Int.le_refl _)
theorem cts_of {r : Int} {x : Tl} (ok : TlOk r x) : Cts (srtZ x.c) := by
  have p := srtZ_perm x.c
  exact ⟨fun e he => ok.nm e (p.mem_iff.mp he), fun e he => ok.pos e (p.mem_iff.mp he), srtZ_asc ok.nd⟩
section
variable {P : Program} {w : World} {K : PySem.W.Frag} {mg : Str → Option Value} {base : Heap}
/-! counts_of -/
def spCountsOf (K : PySem.W.Frag) : Sp := fun vs H Q _ => ∃ (a : Addr) (l : List Stp), vs = [.ref a] ∧ TreeAt K H a l ∧ Tree l ∧
  ∀ H' k (ts : List Addr), Same H H' → Ptp H' k (ts.map V.ref) → Paired (PrT H') ts (srtZ (cntT l)) → Q (.ref k) H'
/-! need_two, poured -/
def spNeedTwo : Sp := fun vs H Q _ => ∃ (s1 s2 : Addr) (r : Int) (x y : Tl), vs = [.ref s1, .ref s2] ∧ SkAt H s1 r x ∧ SkAt H s2 r y ∧ r ≤ 64 ∧ TlOk r x ∧ TlOk r y ∧ skB r x.m x.o (srtZ x.c) = true ∧ skB r y.m y.o (srtZ y.c) = true ∧ ∀ H', Same H H' → Q .non H'
def spPoured : Sp := fun vs H Q _ => ∃ (s1 s2 : Addr) (r : Int) (x y : Tl), vs = [.ref s1, .ref s2] ∧ SkAt H s1 r x ∧ SkAt H s2 r y ∧ 1 ≤ r ∧ r ≤ 64 ∧ TlOk r x ∧ TlOk r y ∧ skB r x.m x.o (srtZ x.c) = true ∧ skB r y.m y.o (srtZ y.c) = true ∧
  ∀ H' s', Same H H' → H s' = none → SkAt H' s' r (pourT r (skT y) (skT x)) → Q (.ref s') H'
end
end Kb

namespace Kb
open PySem PySem.Spec PyProof.Rows L2 SrtZ SrtO
/-! pouring, in any order of the counts -/
theorem mem_getZ {kvs : Ct} (nd : NdZ kvs) (e : Str × Int) : e ∈ kvs ↔ getZ kvs e.1 = some e.2 := by
  constructor
  · intro h
    obtain ⟨i, hi⟩ := List.mem_iff_getElem?.mp h
    exact getZ_self nd hi
  · intro h
    unfold getZ at h
    cases hf : kvs.find? fun f => decide (f.1 = e.1) with
    | none => rw [hf] at h; cases h
    | some f =>
      rw [hf] at h
      have h1 : f.1 = e.1 := of_decide_eq_true (List.find?_some (p := fun f : Str × Int => decide (f.1 = e.1)) hf)
      have h2 : f.2 = e.2 := Option.some.inj h
      have : f = e := Prod.ext h1 h2
      rw [← this]
      exact List.mem_of_find?_eq_some hf
theorem nd_nodup {kvs : Ct} (nd : NdZ kvs) : kvs.Nodup := by
  unfold NdZ at nd
  rw [List.Nodup, List.pairwise_map] at nd
  exact nd.imp fun h e => h (by rw [e])
theorem perm_of_getZ {a b : Ct} (na : NdZ a) (nb : NdZ b) (h : ∀ k, getZ a k = getZ b k) : a.Perm b :=
  (List.perm_ext_iff_of_nodup (nd_nodup na) (nd_nodup nb)).mpr fun e => by rw [mem_getZ na, mem_getZ nb, h]
theorem getZ_sums : ∀ {more kvs : Ct}, NdZ more → ∀ k, getZ (sumsZ more kvs) k = match getZ more k with | none => getZ kvs k | some c => some (gd kvs k + c)
  | [], kvs, _, k => rfl
  | e :: r, kvs, nd, k => by
    unfold NdZ at nd
    rw [List.map_cons, List.nodup_cons] at nd
    have ih := getZ_sums (more := r) (kvs := addZ kvs e.1 e.2) nd.2 k
    show getZ (sumsZ r (addZ kvs e.1 e.2)) k = _
    rw [ih, getZ_cons]
    by_cases h : e.1 = k
    · rw [if_pos h, getZ_none.mpr (h ▸ nd.1)]
      show getZ (addZ kvs e.1 e.2) k = some (gd kvs k + e.2)
      unfold addZ gd
      rw [getZ_put, if_pos h.symm, h]
    · rw [if_neg h]
      have e1 : getZ (addZ kvs e.1 e.2) k = getZ kvs k := by
        unfold addZ
        rw [getZ_put, if_neg (Ne.symm h)]
      have e2 : gd (addZ kvs e.1 e.2) k = gd kvs k := by
        unfold gd
        rw [e1]
      rw [e1, e2]
theorem gd_sums {more kvs : Ct} (nd : NdZ more) (k : Str) : gd (sumsZ more kvs) k = gd kvs k + gd more k := by
  unfold gd
  rw [getZ_sums nd]
  cases getZ more k with
  | none => exact (Int.add_zero _).symm
  | some c => rfl
theorem sums_perm {a a' b b' : Ct} (pa : a.Perm a') (pb : b.Perm b') (na : NdZ a) (nb : NdZ b) : (sumsZ a b).Perm (sumsZ a' b') := by
  have na' : NdZ a' := (pa.map (·.1)).nodup_iff.mp na
  have nb' : NdZ b' := (pb.map (·.1)).nodup_iff.mp nb
  refine perm_of_getZ (sumsZ_nd nb) (sumsZ_nd nb') fun k => ?_
  rw [getZ_sums na, getZ_sums na', getZ_perm pa na, getZ_perm pb nb]
  unfold gd
  rw [getZ_perm pb nb]
theorem fall_perm {a b : Ct} (p : a.Perm b) (r : Int) : fallZ a r = fallZ b r := by
  have hs := List.pairwise_mergeSort (le := fun (a b : Int) => decide (b ≤ a)) (fun a b c h1 h2 => by simp at *; omega) (fun a b => by simp; omega) (a.map (·.2))
  have := fall_uniq (kvs := b) (ns := (a.map (·.2)).mergeSort fun a b => decide (b ≤ a)) ((List.mergeSort_perm _ _).trans (p.map (·.2))) (hs.imp fun h => of_decide_eq_true h)
  unfold fallZ
  rw [this]
theorem skT_eq {x x' : Tl} (nd : NdZ x.c) (h : skT x = skT x') : x.m = x'.m ∧ x.o = x'.o ∧ x.c.Perm x'.c := by
  obtain ⟨m, o, c⟩ := x
  obtain ⟨m', o', c'⟩ := x'
  unfold skT at h
  injection h with e1 e2 e3
  dsimp only at e1 e2 e3
  exact ⟨e1, e2, (srtZ_perm c).symm.trans (by rw [e3]; exact srtZ_perm c')⟩
theorem pour_skT {r : Int} {x x' y y' : Tl} (nx : NdZ x.c) (ny : NdZ y.c) (hx : skT x = skT x') (hy : skT y = skT y') : skT (pourT r y x) = skT (pourT r y' x') := by
  obtain ⟨x1, x2, x3⟩ := skT_eq nx hx
  obtain ⟨y1, y2, y3⟩ := skT_eq ny hy
  have p := sums_perm y3 x3 ny nx
  have nd := sumsZ_nd (more := y.c) nx
  unfold pourT
  dsimp only
  rw [p.length_eq, fall_perm p, x1, x2, y1, y2]
  split
  · unfold skT
    dsimp only
    rw [srtZ_eq (takeZ_perm p _) (takeZ_nd nd)]
  · unfold skT
    dsimp only
    rw [srtZ_eq p nd]
/-! two runs: the program's and the law's own -/
def stepL (r : Int) (st : List Tl) : Stp → List Tl
  | .put zs => feedsT r zs tl0 :: st
  | .pour => match st with
    | x :: y :: st => pourT r x y :: st
    | st => st
def runL (r : Int) (l : List Stp) : List Tl := l.foldl (stepL r) []
theorem runL_snoc {r : Int} {l : List Stp} {i : Nat} {t : Stp} (h : l[i]? = some t) : runL r (l.take (i + 1)) = stepL r (runL r (l.take i)) t := by
  unfold runL
  rw [List.take_add_one, h, List.foldl_append]
  rfl
theorem runL_ok {r : Int} (hr : 1 ≤ r) : ∀ {l : List Stp} {st : List Tl}, (∀ zs, .put zs ∈ l → ∀ z ∈ zs, Nm z) → (∀ x ∈ st, TlOk r x) → ∀ x ∈ l.foldl (stepL r) st, TlOk r x
  | [], _, _, h => h
  | t :: l, st, hn, h => by
    refine runL_ok hr (l := l) (fun zs hz => hn zs (List.mem_cons_of_mem _ hz)) ?_
    cases t with
    | put zs =>
      intro x hx
      rcases List.mem_cons.mp hx with rfl | hx
      · exact feedsT_ok hr (tl0_ok hr) (hn zs List.mem_cons_self)
      · exact h x hx
    | pour =>
      match st, h with
      | [], h => exact h
      | [_], h => exact h
      | a :: b :: st, h =>
        intro x hx
        rcases List.mem_cons.mp hx with rfl | hx
        · exact pourT_ok (h b (List.mem_cons_of_mem _ List.mem_cons_self)) (h a List.mem_cons_self) (by omega)
        · exact h x (List.mem_cons_of_mem _ (List.mem_cons_of_mem _ hx))
theorem runTL {r : Int} (hr : 1 ≤ r) : ∀ {l : List Stp} {st st' : List Tl}, (∀ zs, .put zs ∈ l → ∀ z ∈ zs, Nm z) → (∀ x ∈ st, TlOk r x) → (∀ x ∈ st', TlOk r x) → st.map skT = st'.map skT → (l.foldl (stepT r) st).map skT = (l.foldl (stepL r) st').map skT
  | [], _, _, _, _, _, h => h
  | t :: l, st, st', hn, h1, h2, h => by
    have hn' : ∀ zs, .put zs ∈ l → ∀ z ∈ zs, Nm z := fun zs hz => hn zs (List.mem_cons_of_mem _ hz)
    cases t with
    | put zs =>
      have ok := feedsT_ok hr (tl0_ok hr) (hn zs List.mem_cons_self)
      refine runTL hr (l := l) hn' (fun x hx => ?_) (fun x hx => ?_) ?_
      · rcases List.mem_cons.mp hx with rfl | hx
        · exact ok
        · exact h1 x hx
      · rcases List.mem_cons.mp hx with rfl | hx
        · exact ok
        · exact h2 x hx
      · show skT _ :: st.map skT = skT _ :: st'.map skT
        rw [h]
    | pour =>
      match st, st', h, h1, h2 with
      | [], [], h, h1, h2 => exact runTL hr (l := l) hn' h1 h2 h
      | [a], [b], h, h1, h2 => exact runTL hr (l := l) hn' h1 h2 h
      | [_], _ :: _ :: _, h, _, _ => simp at h
      | _ :: _ :: _, [_], h, _, _ => simp at h
      | a :: b :: st, a' :: b' :: st', h, h1, h2 =>
        injection h with e1 h
        injection h with e2 h
        have oa := h1 a List.mem_cons_self
        have ob := h1 b (List.mem_cons_of_mem _ List.mem_cons_self)
        have oa' := h2 a' List.mem_cons_self
        have ob' := h2 b' (List.mem_cons_of_mem _ List.mem_cons_self)
        refine runTL hr (l := l) hn' (fun x hx => ?_) (fun x hx => ?_) ?_
        · rcases List.mem_cons.mp hx with rfl | hx
          · exact pourT_ok ob (skT_ok oa) (by omega)
          · exact h1 x (List.mem_cons_of_mem _ (List.mem_cons_of_mem _ hx))
        · rcases List.mem_cons.mp hx with rfl | hx
          · exact pourT_ok ob' oa' (by omega)
          · exact h2 x (List.mem_cons_of_mem _ (List.mem_cons_of_mem _ hx))
        · show skT (pourT r (skT a) b) :: st.map skT = skT (pourT r a' b') :: st'.map skT
          rw [pour_skT ob.nd (skT_ok oa).nd e2 ((skT_skT oa.nd).trans e1), h]
/-! what pouring leaves true -/
def minS (f : Int) (cs : List Int) : Int := (cs.map fun c => if f < c then f else c).sum
theorem minS_cons (f c : Int) (cs : List Int) : minS f (c :: cs) = (if f < c then f else c) + minS f cs := by
  unfold minS
  rw [List.map_cons, List.sum_cons]
theorem minS_perm {f : Int} {a b : List Int} (p : a.Perm b) : minS f a = minS f b := by
  induction p with
  | nil => rfl
  | cons x _ ih => rw [minS_cons, minS_cons, ih]
  | swap x y l =>
    rw [minS_cons, minS_cons, minS_cons, minS_cons]
    omega
  | trans _ _ ih1 ih2 => rw [ih1, ih2]
theorem sumC_take {f : Int} : ∀ kvs : Ct, sumC (takeZ f kvs) = sumC kvs - minS f (kvs.map (·.2))
  | [] => rfl
  | e :: r => by
    have ih := sumC_take (f := f) r
    rw [sumC_cons', List.map_cons, minS_cons]
    unfold takeZ at ih ⊢
    by_cases h : f < e.2
    · rw [List.filter_cons_of_pos (by simpa using h), List.map_cons, sumC_cons', ih, if_pos h]
      show e.2 - f + _ = _
      omega
    · rw [List.filter_cons_of_neg (by simpa using h), ih, if_neg h]
      omega
theorem minS_le {f : Int} : ∀ cs : List Int, minS f cs ≤ (cs.length : Int) * f
  | [] => by show (0 : Int) ≤ 0 * f; omega
  | c :: cs => by
    have ih := minS_le (f := f) cs
    rw [minS_cons, List.length_cons]
    have e : ((cs.length + 1 : Nat) : Int) * f = (cs.length : Int) * f + f := by push_cast; rw [Int.add_mul, Int.one_mul]
    rw [e]
    split <;> omega
theorem minS_ge {f : Int} (hf : 0 ≤ f) : ∀ {cs : List Int} {n : Nat}, (∀ c ∈ cs, 0 ≤ c) → (∀ i c, i < n → cs[i]? = some c → f ≤ c) → n ≤ cs.length → (n : Int) * f ≤ minS f cs
  | [], n, _, _, hn => by
    have : n = 0 := by simpa using hn
    subst this
    show (0 : Int) * f ≤ 0
    omega
  | c :: cs, 0, h0, _, _ => by
    have ih := minS_ge hf (cs := cs) (n := 0) (fun c hc => h0 c (List.mem_cons_of_mem _ hc)) (fun i c h => absurd h (by omega)) (Nat.zero_le _)
    rw [minS_cons]
    have h1 := h0 c List.mem_cons_self
    split <;> omega
  | c :: cs, n + 1, h0, hc, hn => by
    have ih := minS_ge hf (cs := cs) (n := n) (fun c hc => h0 c (List.mem_cons_of_mem _ hc)) (fun i c h e => hc (i + 1) c (by omega) (by simpa using e)) (by rw [List.length_cons] at hn; omega)
    have h1 := hc 0 c (by omega) rfl
    rw [minS_cons]
    have e : ((n + 1 : Nat) : Int) * f = (n : Int) * f + f := by push_cast; rw [Int.add_mul, Int.one_mul]
    rw [e]
    split <;> omega
theorem fall_spec {kvs : Ct} {r : Nat} (h : r < kvs.length) (pos : ∀ e ∈ kvs, 1 ≤ e.2) : 1 ≤ fallZ kvs r ∧ ((r : Int) + 1) * fallZ kvs r ≤ minS (fallZ kvs r) (kvs.map (·.2)) := by
  have hp := List.mergeSort_perm (kvs.map (·.2)) (fun a b => decide (b ≤ a))
  have hs := List.pairwise_mergeSort (le := fun (a b : Int) => decide (b ≤ a)) (fun a b c h1 h2 => by simp at *; omega) (fun a b => by simp; omega) (kvs.map (·.2))
  have p1 : ∀ c ∈ (kvs.map (·.2)).mergeSort (fun a b => decide (b ≤ a)), 1 ≤ c := fun c hc => by
    obtain ⟨e, he, rfl⟩ := List.mem_map.mp (hp.mem_iff.mp hc)
    exact pos e he
  rw [← minS_perm hp]
  unfold fallZ
  rw [Int.toNat_natCast]
  have hl : r < ((kvs.map (·.2)).mergeSort (fun a b => decide (b ≤ a))).length := by rw [hp.length_eq, List.length_map]; exact h
  generalize (kvs.map (·.2)).mergeSort (fun a b => decide (b ≤ a)) = s at hs p1 hl
  have eg : s.getD r 0 = s[r] := by simp [List.getD, hl]
  rw [eg]
  have h1 := p1 _ (List.getElem_mem hl)
  refine ⟨h1, ?_⟩
  have := minS_ge (f := s[r]) (by omega) (cs := s) (n := r + 1) (fun c hc => by have := p1 c hc; omega) (fun i c hi hc => ?_) (by omega)
  · push_cast at this
    exact this
  · obtain ⟨hil, rfl⟩ := List.getElem?_eq_some_iff.mp hc
    by_cases e : i = r
    · subst e
      exact Int.le_refl _
    · exact of_decide_eq_true (List.pairwise_iff_getElem.mp hs i r hil hl (by omega))
theorem sumC_sums : ∀ {more kvs : Ct}, NdZ kvs → sumC (sumsZ more kvs) = sumC kvs + sumC more
  | [], kvs, _ => by show sumC kvs = sumC kvs + 0; omega
  | e :: r, kvs, nd => by
    show sumC (sumsZ r (addZ kvs e.1 e.2)) = _
    rw [sumC_sums (more := r) (addZ_nd nd), sumC_add nd, sumC_cons']
    omega
/-- within the bounds -/
structure Bd (r : Int) (x : Tl) : Prop where
  low : (r + 1) * x.o ≤ x.m - sumC x.c
  high : x.m - sumC x.c ≤ 2 * r * x.o
  off : 0 ≤ x.o
  many : 0 ≤ x.m
theorem bd_pour {r : Int} {x y : Tl} (hr : 1 ≤ r) (ox : TlOk r x) (oy : TlOk r y) (hx : Bd r x) (hy : Bd r y) : Bd r (pourT r y x) := by
  obtain ⟨rn, rfl⟩ := Int.eq_ofNat_of_zero_le (show 0 ≤ r by omega)
  have es := sumC_sums (more := y.c) ox.nd
  have ll := sumsZ_len (more := y.c) (kvs := x.c)
  have pos := sumsZ_pos oy.pos ox.pos
  have lx := ox.len
  have ly := oy.len
  obtain ⟨a1, a2, a3, a4⟩ := hx
  obtain ⟨b1, b2, b3, b4⟩ := hy
  unfold pourT
  dsimp only
  generalize sumsZ y.c x.c = all at es ll pos
  have d1 : ((rn : Int) + 1) * (x.o + y.o) = ((rn : Int) + 1) * x.o + ((rn : Int) + 1) * y.o := Int.mul_add _ _ _
  have d2 : 2 * (rn : Int) * (x.o + y.o) = 2 * (rn : Int) * x.o + 2 * (rn : Int) * y.o := Int.mul_add _ _ _
  split
  · rename_i h
    obtain ⟨f1, f2⟩ := fall_spec (kvs := all) (r := rn) (by omega) pos
    have f3 := minS_le (f := fallZ all rn) (all.map (·.2))
    rw [List.length_map] at f3
    have f4 : (all.length : Int) * fallZ all rn ≤ 2 * (rn : Int) * fallZ all rn := Int.mul_le_mul_of_nonneg_right (by omega) (by omega)
    have d3 : ((rn : Int) + 1) * (x.o + y.o + fallZ all rn) = ((rn : Int) + 1) * (x.o + y.o) + ((rn : Int) + 1) * fallZ all rn := Int.mul_add _ _ _
    have d4 : 2 * (rn : Int) * (x.o + y.o + fallZ all rn) = 2 * (rn : Int) * (x.o + y.o) + 2 * (rn : Int) * fallZ all rn := Int.mul_add _ _ _
    refine ⟨?_, ?_, ?_, ?_⟩ <;> dsimp only
    · rw [sumC_take, d3]
      omega
    · rw [sumC_take, d4]
      omega
    · omega
    · omega
  · refine ⟨?_, ?_, ?_, ?_⟩ <;> dsimp only <;> omega
theorem bd_feeds {r : Int} (hr : 1 ≤ r) : ∀ {zs : List Str} {x : Tl}, TlOk r x → Fd r x → 0 ≤ x.m → (∀ z ∈ zs, Nm z) → Fd r (feedsT r zs x) ∧ (feedsT r zs x).m = x.m + (zs.length : Int)
  | [], x, _, f, _, _ => ⟨f, by show x.m = x.m + 0; omega⟩
  | z :: zs, x, ok, f, hm, hn => by
    have em : (feedT r z 1 x).m = x.m + 1 := by
      unfold feedT
      split <;> rfl
    obtain ⟨a, b⟩ := bd_feeds hr (zs := zs) (x := feedT r z 1 x) (feedT_ok ok hr (hn z List.mem_cons_self) (by decide)) (fd_feed ok hr f) (by rw [em]; omega) fun y hy => hn y (List.mem_cons_of_mem _ hy)
    refine ⟨a, ?_⟩
    show (feedsT r zs (feedT r z 1 x)).m = _
    rw [b, em, List.length_cons]
    push_cast
    omega
theorem bd_stream {r : Int} {zs : List Str} (hr : 1 ≤ r) (hn : ∀ z ∈ zs, Nm z) : Bd r (feedsT r zs tl0) ∧ (feedsT r zs tl0).m = (zs.length : Int) := by
  obtain ⟨f, e⟩ := bd_feeds hr (tl0_ok hr) (fd0 r) (Int.le_refl _) hn
  have e : (feedsT r zs tl0).m = (zs.length : Int) := by rw [e]; show 0 + _ = _; omega
  have ho := f.off
  have h2 : (r + 1) * (feedsT r zs tl0).o ≤ 2 * r * (feedsT r zs tl0).o := Int.mul_le_mul_of_nonneg_right (by omega) ho
  exact ⟨⟨by rw [f.lost]; exact Int.le_refl _, by rw [f.lost]; exact h2, ho, by rw [e]; omega⟩, e⟩
/-- the true counts, as a function -/
def TruF (f : Str → Int) (x : Tl) : Prop := ∀ k, 0 ≤ f k - gd x.c k ∧ f k - gd x.c k ≤ x.o
theorem gd_take {a : Int} {kvs : Ct} (nd : NdZ kvs) (ha : 0 ≤ a) (k : Str) (pos : ∀ e ∈ kvs, 1 ≤ e.2) : gd (takeZ a kvs) k = if a < gd kvs k then gd kvs k - a else 0 := by
  unfold gd
  rw [getZ_take nd]
  cases getZ kvs k with
  | none =>
    show 0 = if a < 0 then _ else 0
    rw [if_neg (by omega)]
  | some v =>
    show (if a < v then some (v - a) else none).getD 0 = if a < v then v - a else 0
    split <;> rfl
theorem tru_pour {r : Int} {x y : Tl} {f g : Str → Int} (hr : 1 ≤ r) (ox : TlOk r x) (oy : TlOk r y) (hf : TruF f x) (hg : TruF g y) : TruF (fun k => f k + g k) (pourT r y x) := by
  obtain ⟨rn, rfl⟩ := Int.eq_ofNat_of_zero_le (show 0 ≤ r by omega)
  intro k
  obtain ⟨a1, a2⟩ := hf k
  obtain ⟨b1, b2⟩ := hg k
  have es := gd_sums (kvs := x.c) oy.nd k
  have pos := sumsZ_pos oy.pos ox.pos
  have nd := sumsZ_nd (more := y.c) ox.nd
  unfold pourT
  dsimp only
  generalize sumsZ y.c x.c = all at es pos nd
  have hp : 0 ≤ gd all k := getZ_pos pos
  split
  · rename_i h
    obtain ⟨f1, _⟩ := fall_spec (kvs := all) (r := rn) (by omega) pos
    dsimp only
    rw [gd_take nd (by omega) k pos]
    split <;> omega
  · dsimp only
    omega
theorem gd_cntZ : ∀ (zs : List Str) (kc : Ct) (k : Str), gd (cntZ zs kc) k = gd kc k + gd (cntZ zs []) k
  | [], kc, k => by show gd kc k = gd kc k + 0; omega
  | z :: zs, kc, k => by
    show gd (cntZ zs (addZ kc z 1)) k = gd kc k + gd (cntZ zs (addZ [] z 1)) k
    rw [gd_cntZ zs (addZ kc z 1) k, gd_cntZ zs (addZ [] z 1) k, gd_add, gd_add]
    show _ = _ + (0 + _ + _)
    omega
theorem tru_stream {r : Int} (hr : 1 ≤ r) : ∀ {zs : List Str} {x : Tl} {kc : Ct}, TlOk r x → Tru kc x → (∀ z ∈ zs, Nm z) → Tru (cntZ zs kc) (feedsT r zs x)
  | [], _, _, _, h, _ => h
  | z :: zs, x, kc, ok, h, hn => tru_stream hr (zs := zs) (feedT_ok ok hr (hn z List.mem_cons_self) (by decide)) (tru_feed ok hr h) fun y hy => hn y (List.mem_cons_of_mem _ hy)
theorem sum_cnt : ∀ (l : List Stp) (kc : Ct) (m : Int), NdZ kc → sumC kc = m → sumC (l.foldl cntS kc) = l.foldl cS m
  | [], _, _, _, e => e
  | .put zs :: l, kc, m, nd, e => by
    have gen : ∀ (zs : List Str) (kc : Ct), NdZ kc → sumC (cntZ zs kc) = sumC kc + (zs.length : Int) := by
      intro zs
      induction zs with
      | nil => exact fun kc _ => by show sumC kc = sumC kc + 0; omega
      | cons z zs ih =>
        intro kc nd
        show sumC (cntZ zs (addZ kc z 1)) = _
        rw [ih _ (addZ_nd nd), sumC_add nd, List.length_cons]
        push_cast
        omega
    exact sum_cnt l (cntZ zs kc) (m + (zs.length : Nat)) (cntZ_nd nd) (by rw [gen zs kc nd, e])
  | .pour :: l, kc, m, nd, e => sum_cnt l kc m nd e
end Kb

namespace Kb
open PySem PySem.Spec PyProof.Rows L2 SrtZ SrtO
abbrev shand : Stmt := topS 49
abbrev Nhand : List Str := ["_law_script", "_law_cells", "_law_cell"]
theorem schand : FnScope ["_law_script", "_law_cells", "_law_cell"] ["_law_script"] (defScope shand) := ⟨rfl, rfl, rfl, by decide +kernel, rfl, by decide +kernel, by decide +kernel⟩
abbrev sdraw : Stmt := topS 50
theorem scdraw : FnScope ["_law_hand_here", "_law_many", "_law_cell", "_law_digit", "_law_number"] ["_law_hand_here", "_law_many"] (defScope sdraw) := ⟨rfl, rfl, rfl, by decide +kernel, rfl, by decide +kernel, by decide +kernel⟩
abbrev sany : Stmt := topS 51
theorem scany : FnScope ["_law_hand_here", "_law_things"] ["_law_hand_here", "_law_things"] (defScope sany) := ⟨rfl, rfl, rfl, by decide +kernel, rfl, by decide +kernel, by decide +kernel⟩
abbrev Dnhand (K : PySem.W.Frag) (mg : Str → Option Value) := Dn K mg "_law_hand" shand ["_law_script"]
abbrev Dndraw (K : PySem.W.Frag) (mg : Str → Option Value) := Dn K mg "_law_draw" sdraw ["_law_hand_here", "_law_many"]
abbrev Dnany (K : PySem.W.Frag) (mg : Str → Option Value) := Dn K mg "_law_any" sany ["_law_hand_here", "_law_things"]
/-- the hand that is drawn from: its list, its cells -/
structure Wl (a c : Addr) (H : Hp) : Prop where
  ac : a ≠ c
  ex : ∃ (ns : List Int) (i : Nat) (u s t : Int), H a = some (.lst [.ref c, .int (i : Int), .int u, .int s, .int t]) ∧ H c = some (.lst (ns.map V.int)) ∧ (∀ n ∈ ns, 0 ≤ n) ∧ 0 ≤ u
/-- all but the hand stays -/
def Exw (a : Addr) (H H' : Hp) : Prop := ∀ b o, b ≠ a → H b = some o → H' b = some o
theorem Exw.refl (a : Addr) (H : Hp) : Exw a H H := fun _ _ _ h => h
theorem Exw.trans {a : Addr} {H H1 H2 : Hp} (x : Exw a H H1) (y : Exw a H1 H2) : Exw a H H2 := fun b o n h => y b o n (x b o n h)
theorem Exw.up {a : Addr} {H H1 : Hp} {u : HO} (x : Exw a H H1) : Exw a H (upd H1 a u) := fun b o n h => by
  rw [upd_ne n]
  exact x b o n h
theorem Exw.same {a : Addr} {H H1 H2 : Hp} (x : Exw a H H1) (y : Same H1 H2) : Exw a H H2 := fun b o n h => y b o (x b o n h)
theorem Same.exw {a : Addr} {H H1 : Hp} (x : Same H H1) : Exw a H H1 := fun b o _ h => x b o h
theorem Wl.same {a c : Addr} {H H' : Hp} (h : Wl a c H) (y : Same H H') : Wl a c H' := by
  obtain ⟨n1, ns, i, u, s, t, e1, e2, r⟩ := h
  exact ⟨n1, ns, i, u, s, t, y _ _ e1, y _ _ e2, r⟩
theorem Wl.ne2 {a c p : Addr} {H : Hp} (h : Wl a c H) (hp : H p = none) : p ≠ a ∧ p ≠ c := by
  obtain ⟨_, ns, i, u, s, t, e1, e2, _⟩ := h
  exact ⟨(ne_of_none e1 hp).symm, (ne_of_none e2 hp).symm⟩
theorem Wl.put {a c p : Addr} {H : Hp} {u : HO} (h : Wl a c H) (n : p ≠ a ∧ p ≠ c) : Wl a c (upd H p u) := by
  obtain ⟨n1, ns, i, v, s, t, e1, e2, r⟩ := h
  exact ⟨n1, ns, i, v, s, t, by rw [upd_ne n.1.symm]; exact e1, by rw [upd_ne n.2.symm]; exact e2, r⟩
/-- what is no list stays -/
theorem Exw.at {a c b : Addr} {H H' : Hp} {o : HO} (x : Exw a H H') (h : Wl a c H) (hb : H b = some o) (hl : ∀ xs, o ≠ .lst xs) : H' b = some o := by
  obtain ⟨_, ns, i, u, s, t, e1, e2, _⟩ := h
  exact x b o (ne_of hb e1 (hl _)) hb
/-- a list of texts is not the hand's -/
theorem Exw.strs {a c b : Addr} {H H' : Hp} {zs : List Str} (x : Exw a H H') (h : Wl a c H) (hb : H b = some (.lst (zs.map V.str))) : H' b = some (.lst (zs.map V.str)) := by
  obtain ⟨_, ns, i, u, s, t, e1, e2, _⟩ := h
  refine x b _ (fun e => ?_) hb
  subst e
  rw [hb] at e1
  have := HO.lst.inj (Option.some.inj e1)
  cases zs with
  | nil => cases this
  | cons y ys => cases this
theorem Exw.tup {K : PySem.W.Frag} {a c b : Addr} {H H' : Hp} {xs : List V} (x : Exw a H H') (h : Wl a c H) (hb : SqT K H b xs) : SqT K H' b xs := by
  rcases hb with (hb | ⟨o, hb⟩) | hb
  · exact .inl (.inl (x.at h hb (by intro _ z; cases z)))
  · exact .inl (.inr ⟨o, x.at h hb (by intro _ z; cases z)⟩)
  · exact .inr hb
theorem Exw.new {a p : Addr} {H H1 : Hp} {u : HO} (x : Exw a H H1) (h : H1 p = none) : Exw a H (upd H1 p u) := x.same (same_upd h)
theorem Exw.gone {a p : Addr} {H H1 : Hp} (x : Exw a H H1) (ne : p ≠ a) (h : H1 p = none) : H p = none := by
  cases e : H p with
  | none => rfl
  | some o => rw [x _ _ ne e] at h; cases h
/-- an object that was new is stored anew -/
theorem Exw.put {a p : Addr} {H H1 : Hp} {u : HO} (x : Exw a H H1) (h : H p = none) : Exw a H (upd H1 p u) := fun b o n e => by
  rw [upd_ne (ne_of_none e h)]
  exact x b o n e
theorem rd_ix {K : PySem.W.Frag} {σ : L2.St} {H : Hp} {Q : VK} {a : Addr} {xs : List V} {v : V} {n : Nat} (k : Nat) (h0 : σ[n]? = some (some (.ref a))) (hS : SqL K H a xs) (hv : xs[k]? = some v) (q : Q v H) :
    tOp (rIxL K) (tVar n) (tC (.int (k : Int))) σ H Q := ⟨.ref a, h0, a, xs, k, v, rfl, rfl, hS, atI_nat hv, q⟩
theorem rd_set {H : Hp} {σ : L2.St} {a : Addr} {xs : List V} {v : V} {n : Nat} (k : Nat) {R : L2.St → Hp → Prop} (h0 : σ[n]? = some (some (.ref a))) (h : H a = some (.lst xs)) (hk : k < xs.length) (q : R σ (upd H a (.lst (xs.set k v)))) :
    gSub (tVar n) (tC (.int (k : Int))) rSetL v σ H R := ⟨.ref a, h0, a, xs, k, k, rfl, rfl, h, by unfold ixN; rw [if_pos (by omega), if_pos (by omega)]; simp, q⟩
theorem cut63 {xs : List V} (h : xs.length ≤ 63) : cutV xs none (some 63) = xs := by
  unfold cutV
  rw [show HT.sIx xs.length xs.length (some 63) = min 63 xs.length from HT.sIx_nat xs.length xs.length 63, HT.sIx_none, List.drop_zero, Nat.sub_zero]
  exact List.take_of_length_le (by omega)
def absI (n : Int) : Int := if n < 0 then -n else n
section
variable {P : Program} {w : World} {K : PySem.W.Frag} {mg : Str → Option Value} {base : Heap}
/-! _law_hand -/
def spHand (K : PySem.W.Frag) : Sp := fun vs H Q _ => ∃ (a : Addr) (ns : List Int), vs = [.ref a] ∧ SqL K H a (ns.map V.int) ∧ ns.length ≤ 63 ∧ ∀ H' p c, Same H H' → H p = none → Wl p c H' → Q (.ref p) H'
theorem ok_hand (T : Blt mg) (d : Dnhand K mg) : FnOk P w K mg base CX0 1 d.f d.fd ["_law_script"] (spHand K) := by
  refine d.F.ok schand (fun vs H Q E h => ?_) (fun cdv A outer s H vs Q E hr h => ?_)
  · obtain ⟨a, ns, rfl, _⟩ := h
    rfl
  · obtain ⟨a, ns, rfl, hS, hl, q⟩ := h
    refine ⟨_, (pss_cons (ps_setLc (i := 1) (own := [("_law_cell", 2)]) (g := gName 2) (tt := tYes) rfl schand.nd rfl rfl (sw_true rfl rfl rfl (by decide +kernel)) (pi_list (pe_slice sl_list (pv 0) po_none (po_some pe_int))) (blkOk_by (N := Nhand) (sc := defScope shand) (by decide +kernel)) (fun _ _ _ _ _ => pg_name (i := 2) schand.nd rfl (Or.inl rfl)) (fun _ _ _ _ _ => pts_nil) (fun _ _ _ _ _ => (pe_callB call_abs (by rfl) T.n_abs (by decide +kernel) (pa_cons (pe_callTy call_int1 (by rfl) T.n_int (by decide +kernel) (pa_cons (pv 2) pa_nil)) pa_nil))))
    (pss_one (ps_ret (pe_lst (pa_cons (pv 1) (pa_cons pe_int (pa_cons pe_int (pa_cons (pe_op op_add pe_int (pe_callB call_len_seq (by rfl) T.n_len (by decide +kernel) (pa_cons (pv 1) pa_nil))) (pa_cons pe_int pa_nil))))))))), ?_⟩
    refine ⟨.ref a, rfl, 63, rfl, a, _, rfl, hS, fun p np => ?_⟩
    rw [cut63 (by rw [List.length_map]; exact hl)]
    have s1 : Same H (upd H p (.lst (ns.map V.int))) := same_upd np
    have hp1 : (upd H p (.lst (ns.map V.int))) p = some (.lst (ns.map V.int)) := upd_same
    generalize upd H p (.lst (ns.map V.int)) = H1 at s1 hp1 ⊢
    refine ⟨p, rfl, ⟨_, sql hp1⟩, fun D nD => lc_list (xs := ns.map V.int) (fun i H3 => Same H1 H3 ∧ H3 D = some (.lst ((ns.take i).map fun n => V.int (absI n)))) ⟨same_upd nD, upd_same⟩ (fun i H3 _ h3 => sql (h3.1 _ _ hp1)) (fun i x H3 hx h3 => ?_) (fun H3 h3 => ?_)⟩
    · obtain ⟨n, hn, rfl⟩ := map_at hx
      refine ⟨rfl, .int n, rfl, .inl ⟨n, rfl, n, rfl, _, h3.2, ?_, fun b o z => ?_, ?_⟩⟩
      · rw [List.length_map, List.length_take, sizeLine_eq]
        omega
      · rw [upd_ne (ne_of_none z nD)]
        exact h3.1 b o z
      · rw [upd_same, List.take_add_one, hn, List.map_append]
        rfl
    · obtain ⟨s3, hD⟩ := h3
      rw [List.length_map, List.take_length] at hD
      have nD0 : H D = none := Same.gone s1 nD
      refine ⟨.ref D, rfl, .ref D, rfl, D, _, rfl, .inl (sql hD), _, _, rfl, rfl, (by show 5 ≤ sizeLine; decide), fun l nl => ?_⟩
      have s4 : Same H3 (upd H3 l (.lst [.ref D, .int 0, .int 0, .int (1 + (((ns.map fun n => V.int (absI n)).length : Nat) : Int)), .int 0])) := same_upd nl
      have lD : l ≠ D := (ne_of_none hD nl).symm
      have s03 : Same H H3 := fun b o e => s3 _ _ (s1 _ _ e)
      refine q _ l D (fun b o e => s4 _ _ (s03 _ _ e)) (Same.gone s03 nl) ⟨lD, ns.map absI, 0, 0, _, 0, upd_same, ?_, fun n hn => ?_, Int.le_refl _⟩
      · rw [List.map_map]
        exact s4 _ _ hD
      · obtain ⟨m, _, rfl⟩ := List.mem_map.mp hn
        unfold absI
        split <;> omega
/-! _law_draw -/
def spDraw : Sp := fun vs H Q _ => ∃ (a c : Addr) (n : Int), vs = [.ref a, .int n] ∧ Wl a c H ∧ 0 < n ∧ n < 1073741824 ∧ ∀ H' (r : Int), Exw a H H' → Wl a c H' → 0 ≤ r → r < n → Q (.int r) H'
theorem ok_draw (T : Blt mg) (d : Dndraw K mg) : FnOk P w K mg base CX0 1 d.f d.fd ["_law_hand_here", "_law_many"] spDraw := by
  refine d.F.ok scdraw (fun vs H Q E h => ?_) (fun cdv A outer s H vs Q E hr h => ?_)
  · obtain ⟨a, c, n, rfl, _⟩ := h
    rfl
  · obtain ⟨a, c, n, rfl, hw, hn0, hn1, q⟩ := h
    refine ⟨_, (C8.pss_cut (ps_if (PW.pt (pw_and (pt_cmpR op_eq (pe_ix ix_list (pv 0) pe_int (fun _ _ => rfl)) pe_int (nomark _)) (pw_and1 (pt_cmpR op_lt (pe_ix ix_list (pv 0) pe_int (fun _ _ => rfl)) (pe_callB call_len_seq (by rfl) T.n_len (by decide +kernel) (pa_cons (pe_ix ix_list (pv 0) pe_int (fun _ _ => rfl)) pa_nil)) (nomark _)))))
      (pss_cons (ps_set (i := 2) scdraw.nd rfl (Or.inl rfl) (pe_ix ix_list (pe_ix ix_list (pv 0) pe_int (fun _ _ => rfl)) (pe_ix ix_list (pv 0) pe_int (fun _ _ => rfl)) (fun _ _ => rfl)))
      (pss_cons (ps_asg (pe_op op_add (pe_ix ix_list (pv 0) pe_int (fun _ _ => rfl)) pe_int) (pg_sub (pv 0) pe_int set_list))
      (pss_cons (ps_asg (pe_op op_mod (pe_callTy call_int1 (by rfl) T.n_int (by decide +kernel) (pa_cons (pe_op op_add (pe_op op_add (pe_op op_mul (pe_ix ix_list (pv 0) pe_int (fun _ _ => rfl)) pe_int) (pv 2)) pe_int) pa_nil)) pe_int) (pg_sub (pv 0) pe_int set_list))
      (pss_one (ps_if (pt_cmpR op_ge (pv 2) (pe_op op_pow pe_int pe_int) (nomark _))
        (pss_one (ps_asg (pv 2) (pg_sub (pv 0) pe_int set_list)))
        pss_nil)))))
      pss_nil)
    (pss_cons (ps_if (pt_cmpR op_gt (pe_ix ix_list (pv 0) pe_int (fun _ _ => rfl)) pe_int (nomark _))
      (pss_cons (ps_set (i := 3) scdraw.nd rfl (Or.inl rfl) (pe_op op_modB (pe_callTy call_int1 (by rfl) T.n_int (by decide +kernel) (pa_cons (pe_ix ix_list (pv 0) pe_int (fun _ _ => rfl)) pa_nil)) (pv 1)))
      (pss_cons (ps_asg (pe_op op_fdiv (pe_ix ix_list (pv 0) pe_int (fun _ _ => rfl)) (pv 1)) (pg_sub (pv 0) pe_int set_list))
      (pss_one (ps_ret (pv 3)))))
      pss_nil)
    (pss_cons (ps_asg (pe_op op_add (pe_ix ix_list (pv 0) pe_int (fun _ _ => rfl)) pe_int) (pg_sub (pv 0) pe_int set_list))
    (pss_cons (ps_set (i := 4) scdraw.nd rfl (Or.inl rfl) (pe_op op_modB (pe_callTy call_int1 (by rfl) T.n_int (by decide +kernel) (pa_cons (pe_op op_mul (pe_callTy call_int1 (by rfl) T.n_int (by decide +kernel) (pa_cons (pe_op op_add (pe_ix ix_list (pv 0) pe_int (fun _ _ => rfl)) (pe_op op_mul pe_int (pe_ix ix_list (pv 0) pe_int (fun _ _ => rfl)))) pa_nil)) pe_int) pa_nil)) pe_int))
    (pss_cons (ps_set (i := 4) scdraw.nd rfl (Or.inl rfl) (pe_op op_modB (pe_callTy call_int1 (by rfl) T.n_int (by decide +kernel) (pa_cons (pe_op op_mul (pv 4) (pe_op op_add (pe_op op_fdiv (pv 4) pe_int) pe_int)) pa_nil)) pe_int))
    (pss_cons (ps_set (i := 4) scdraw.nd rfl (Or.inl rfl) (pe_op op_modB (pe_callTy call_int1 (by rfl) T.n_int (by decide +kernel) (pa_cons (pe_op op_mul (pv 4) (pe_op op_add (pe_op op_fdiv (pv 4) pe_int) pe_int)) pa_nil)) pe_int))
    (pss_one (ps_ret (pe_op op_modB (pe_callTy call_int1 (by rfl) T.n_int (by decide +kernel) (pa_cons (pe_op op_fdiv (pv 4) pe_int) pa_nil)) (pv 1)))))))))), ?_⟩
    refine ⟨fun σ H3 => ∃ y2, σ = [some (.ref a), some (.int n), y2, none, none] ∧ Exw a H H3 ∧ Wl a c H3, ?_, ?_⟩
    · obtain ⟨nac, ns, i, u, s, t, ea, ec, nn, u0⟩ := id hw
      refine rd_ix 2 rfl (sql ea) rfl ⟨rfl, _, rfl, ite2 (fun hu => ?_) fun _ => ⟨_, rfl, Exw.refl a H, hw⟩⟩
      refine rd_ix 1 rfl (sql ea) rfl (rd_ix 0 rfl (sql ea) rfl ⟨c, _, rfl, .inl (sql ec), _, _, rfl, rfl, _, rfl, ite2 (fun hi => ?_) fun _ => ⟨_, rfl, Exw.refl a H, hw⟩⟩)
      have hi : (i : Int) < ((ns.map V.int).length : Int) := of_decide_eq_true hi
      rw [List.length_map] at hi
      have hi : i < ns.length := by omega
      refine rd_ix 0 rfl (sql ea) rfl (rd_ix 1 rfl (sql ea) rfl ⟨c, _, _, .int ns[i], rfl, rfl, sql ec, atI_nat (j := i) (by simp [hi]), ?_⟩)
      have hcell : 0 ≤ ns[i] := nn _ (List.getElem_mem hi)
      refine rd_ix 1 rfl (sql ea) rfl ⟨_, _, rfl, rfl, rd_set 1 rfl ea (by decide : 1 < 5) ?_⟩
      have ea1 : (upd H a (.lst [.ref c, .int ((i : Int) + 1), .int u, .int s, .int t])) a = some (.lst [.ref c, .int ((i + 1 : Nat) : Int), .int u, .int s, .int t]) := upd_same
      have ec1 : (upd H a (.lst [.ref c, .int ((i : Int) + 1), .int u, .int s, .int t])) c = some (.lst (ns.map V.int)) := by rw [upd_ne nac.symm]; exact ec
      have x1 : Exw a H (upd H a (.lst [.ref c, .int ((i : Int) + 1), .int u, .int s, .int t])) := (Exw.refl a H).up
      show tSeq _ _ _ _ (upd H a (.lst [.ref c, .int ((i : Int) + 1), .int u, .int s, .int t]))
      generalize upd H a (.lst [.ref c, .int ((i : Int) + 1), .int u, .int s, .int t]) = H1 at ea1 ec1 x1 ⊢
      refine rd_ix 3 rfl (sql ea1) rfl ⟨_, _, rfl, rfl, cmulR (by decide) (by decide), .int ns[i], rfl, _, _, rfl, rfl, _, _, rfl, rfl, .inl ⟨_, rfl, _, _, rfl, rfl, (by show (0 : Int) < 2147483629; decide), rd_set 3 rfl ea1 (by decide : 3 < 5) ?_⟩⟩
      dsimp only
      generalize (s * 69621 + ns[i] + 11) % 2147483629 = s2
      have ea2 : (upd H1 a (.lst ([V.ref c, .int ((i + 1 : Nat) : Int), .int u, .int s, .int t].set 3 (.int s2)))) a = some (.lst [.ref c, .int ((i + 1 : Nat) : Int), .int u, .int s2, .int t]) := upd_same
      have ec2 : (upd H1 a (.lst ([V.ref c, .int ((i + 1 : Nat) : Int), .int u, .int s, .int t].set 3 (.int s2)))) c = some (.lst (ns.map V.int)) := by rw [upd_ne nac.symm]; exact ec1
      have x2 : Exw a H (upd H1 a (.lst ([V.ref c, .int ((i + 1 : Nat) : Int), .int u, .int s, .int t].set 3 (.int s2)))) := x1.up
      generalize upd H1 a (.lst ([V.ref c, .int ((i + 1 : Nat) : Int), .int u, .int s, .int t].set 3 (.int s2))) = H2 at ea2 ec2 x2 ⊢
      refine ⟨.int ns[i], rfl, _, _, rfl, rfl, ⟨by decide, by decide, by decide⟩, _, _, rfl, rfl, _, rfl, ite2 (fun _ => ?_) fun _ => ⟨_, rfl, x2, nac, ns, i + 1, u, s2, t, ea2, ec2, nn, u0⟩⟩
      refine ⟨.int ns[i], rfl, rd_set 2 rfl ea2 (by decide : 2 < 5) ⟨_, rfl, x2.up, nac, ns, i + 1, ns[i], s2, t, upd_same, by rw [upd_ne nac.symm]; exact ec2, nn, hcell⟩⟩
    · rintro σ H3 ⟨y2, rfl, x3, nac, ns, i, u, s, t, ea, ec, nn, u0⟩
      refine rd_ix 2 rfl (sql ea) rfl ⟨_, _, rfl, rfl, _, rfl, ite2 (fun _ => ?_) fun _ => ?_⟩
      · refine rd_ix 2 rfl (sql ea) rfl (.inl ⟨_, rfl, .int n, rfl, _, _, rfl, rfl, hn0, fun r r0 r1 _ => ?_⟩)
        refine rd_ix 2 rfl (sql ea) rfl ⟨.int n, rfl, _, _, rfl, rfl, ⟨hn0, hn1⟩, rd_set 2 rfl ea (by decide : 2 < 5) ⟨.int r, rfl, ?_⟩⟩
        exact q _ r x3.up ⟨nac, ns, i, u / n, s, t, upd_same, by rw [upd_ne nac.symm]; exact ec, nn, Int.ediv_nonneg u0 (by omega)⟩ r0 r1
      · refine rd_ix 4 rfl (sql ea) rfl ⟨_, _, rfl, rfl, rd_set 4 rfl ea (by decide : 4 < 5) ?_⟩
        have ea1 : (upd H3 a (.lst [.ref c, .int (i : Int), .int u, .int s, .int (t + 1)])) a = some (.lst [.ref c, .int (i : Int), .int u, .int s, .int (t + 1)]) := upd_same
        have w1 : Wl a c (upd H3 a (.lst [.ref c, .int (i : Int), .int u, .int s, .int (t + 1)])) := ⟨nac, ns, i, u, s, t + 1, upd_same, by rw [upd_ne nac.symm]; exact ec, nn, u0⟩
        have x4 : Exw a H (upd H3 a (.lst [.ref c, .int (i : Int), .int u, .int s, .int (t + 1)])) := x3.up
        show tSeq _ _ _ _ (upd H3 a (.lst [.ref c, .int (i : Int), .int u, .int s, .int (t + 1)]))
        generalize upd H3 a (.lst [.ref c, .int (i : Int), .int u, .int s, .int (t + 1)]) = H4 at ea1 w1 x4 ⊢
        refine rd_ix 3 rfl (sql ea1) rfl (rd_ix 4 rfl (sql ea1) rfl ⟨_, _, rfl, rfl, cmulL (by decide) (by decide), _, _, rfl, rfl, .inl ⟨_, rfl, _, _, rfl, rfl, cmulR (by decide) (by decide), .inl ⟨_, rfl, _, _, rfl, rfl, (by show (0 : Int) < 2147483647; decide), fun x1 a0 a1 _ => ?_⟩⟩⟩)
        refine ⟨.int x1, rfl, .int x1, rfl, _, _, rfl, rfl, ⟨by decide, by decide⟩, _, _, rfl, rfl, _, _, rfl, rfl, cmulL a0 (by omega), .inl ⟨_, rfl, _, _, rfl, rfl, (by show (0 : Int) < 2147483647; decide), fun x2 b0 b1 _ => ?_⟩⟩
        refine ⟨.int x2, rfl, .int x2, rfl, _, _, rfl, rfl, ⟨by decide, by decide⟩, _, _, rfl, rfl, _, _, rfl, rfl, cmulL b0 (by omega), .inl ⟨_, rfl, _, _, rfl, rfl, (by show (0 : Int) < 2147483399; decide), fun x3 c0 c1 _ => ?_⟩⟩
        refine ⟨.int x3, rfl, _, _, rfl, rfl, ⟨by decide, by decide⟩, .inl ⟨_, rfl, .int n, rfl, _, _, rfl, rfl, hn0, fun r r0 r1 _ => ?_⟩⟩
        exact q H4 r x4 w1 r0 r1
/-! _law_any -/
def spAny : Sp := fun vs H Q _ => ∃ (a c l : Addr) (xs : List V), vs = [.ref a, .ref l] ∧ Wl a c H ∧ l ≠ a ∧ H l = some (.lst xs) ∧ 0 < xs.length ∧ xs.length ≤ 100000 ∧ ∀ H' x, Exw a H H' → Wl a c H' → x ∈ xs → Q x H'
theorem ok_any (T : Blt mg) (ddraw : Dndraw K mg) (d : Dnany K mg) : FnOk P w K mg base CX0 2 d.f d.fd ["_law_hand_here", "_law_things"] spAny := by
  have Gdraw : FnOk P w K mg base CX0 1 ddraw.f ddraw.fd ["_law_hand_here", "_law_many"] spDraw := ok_draw T ddraw
  refine d.F.ok scany (fun vs H Q E h => ?_) (fun cdv A outer s H vs Q E hr h => ?_)
  · obtain ⟨a, c, l, xs, rfl, _⟩ := h
    rfl
  · obtain ⟨a, c, l, xs, rfl, hw, la, hl, h0, h1, q⟩ := h
    refine ⟨_, (pss_one (ps_ret (pe_ix ix_list (pv 1) (pe_call Gdraw (hr.mono (by omega)) (by rfl) ddraw.g ddraw.F.kp ddraw.b .nil pass0 (pa_cons (pv 0) (pa_cons (pe_callB call_len_seq (by rfl) T.n_len (by decide +kernel) (pa_cons (pv 1) pa_nil)) pa_nil))) (fun _ _ => rfl)))), ?_⟩
    refine ⟨.ref l, rfl, .ref a, rfl, .ref l, rfl, l, _, rfl, .inl (sql hl), a, c, (xs.length : Int), rfl, hw, by omega, by omega, fun H1 k x1 w1 k0 k1 => ?_⟩
    obtain ⟨kn, rfl⟩ := Int.eq_ofNat_of_zero_le k0
    have hk : kn < xs.length := by omega
    exact ⟨l, _, _, _, rfl, rfl, sql (x1 _ _ la hl), atI_nat (j := kn) (List.getElem?_eq_getElem hk), q H1 _ x1 w1 (List.getElem_mem hk)⟩
end
end Kb

namespace L2
open PySem PySem.Spec PyProof.Rows
section
variable {X : Cx}
/-- 'text' * n -/
theorem op_times : OpR X (binaryOp .Mult) (fun x y H Q => ∃ z k, x = .str z ∧ y = .int k ∧ z.length ≤ 16 ∧ 0 ≤ k ∧ k ≤ 100000 ∧ Q (.str (Txt.mul z k)) H) := by
  intro pins s σ H x y v u Q I rx ry h
  obtain ⟨z, k, ex, ey, hz, h0, h1, q⟩ := h
  subst ex ey
  obtain ⟨tz, ez⟩ := rx
  obtain ⟨tk, ek⟩ := ry
  subst ez ek
  exact SB.mul (mulOk_of 16 100000 hz (by omega) (by omega) (by decide) (by decide)) fun t' j => ⟨.str _, H, I.tok j, ⟨_, rfl⟩, q⟩
end
theorem mul_zero' (z : Str) : Txt.mul z 0 = Str.empty := by
  unfold Txt.mul
  rw [if_pos (by decide)]
theorem mul_one' (z : Str) : Txt.mul z 1 = z := by
  unfold Txt.mul
  rw [if_neg (by decide), if_pos (by rfl)]
end L2

namespace Kb
open PySem PySem.Spec PyProof.Rows L2 SrtZ SrtO
abbrev spool : Stmt := topS 52
abbrev Npool : List Str := ["_law_hand_here", "_law_many", "_law_letters", "_law_first", "_law_k"]
theorem scpool : FnScope ["_law_hand_here", "_law_many", "_law_letters", "_law_first", "_law_k"] ["_law_hand_here", "_law_many"] (defScope spool) := ⟨rfl, rfl, rfl, by decide +kernel, rfl, by decide +kernel, by decide +kernel⟩
abbrev Dnpool (K : PySem.W.Frag) (mg : Str → Option Value) := Dn K mg "_law_pool" spool ["_law_hand_here", "_law_many"]
def S (l : List Nat) : Str := ⟨l.toArray⟩
theorem cs_S (l : List Nat) : cs (S l) = l := by simp [cs, S]
theorem cs_app (a b : Str) : cs (a ++ b) = cs a ++ cs b := by
  show ((a.cps ++ b.cps).toList) = _
  rw [Array.toList_append]
  rfl
theorem len_app (a b : Str) : (a ++ b).length = a.length + b.length := by
  rw [← cs_len, ← cs_len, ← cs_len, cs_app, List.length_append]
theorem abc_at : ∀ m : Fin 26, (Str.ofString "abcdefghijklmnopqrstuvwxyz").cps.toList[m.val]? = some (97 + m.val) := by decide +kernel
/-- a name of a pool -/
def pnm (P : List Nat) (k : Nat) : Str := S (P ++ [97 + k % 26] ++ if 25 < k then [97 + (k / 26 - 1)] else [])
theorem pnm_cs (P : List Nat) (k : Nat) : cs (pnm P k) = P ++ [97 + k % 26] ++ if 25 < k then [97 + (k / 26 - 1)] else [] := cs_S _
theorem pnm_inj {P : List Nat} {j k : Nat} (h : pnm P j = pnm P k) : j = k := by
  have h2 := congrArg cs h
  rw [pnm_cs, pnm_cs, List.append_assoc, List.append_assoc] at h2
  have h3 := List.append_cancel_left h2
  injection h3 with h4 h5
  by_cases hj : 25 < j
  · by_cases hk : 25 < k
    · rw [if_pos hj, if_pos hk] at h5
      injection h5 with h5
      omega
    · rw [if_pos hj, if_neg hk] at h5
      cases h5
  · by_cases hk : 25 < k
    · rw [if_neg hj, if_pos hk] at h5
      cases h5
    · omega
structure Pre (P : List Nat) : Prop where
  len : P.length ≤ 2
  abc : ∀ c ∈ P, 97 ≤ c ∧ c ≤ 122
  is : P = [] ∨ P = [113] ∨ P = [122, 121]
theorem nmC_of {c : Nat} (h1 : 97 ≤ c) (h2 : c ≤ 122) : nmC c = true := by
  unfold nmC
  rw [show decide (c < 97) = false from decide_eq_false (by omega), show decide (122 < c) = false from decide_eq_false (by omega)]
  rfl
theorem nm_of {z : Str} {l : List Nat} (e : cs z = l) (h1 : 1 ≤ l.length) (h8 : l.length ≤ 8) (h : ∀ c ∈ l, 97 ≤ c ∧ c ≤ 122) : Nm z := by
  have hl : z.length = l.length := by rw [← cs_len, e]
  refine ⟨by omega, by omega, fun c hc => ?_⟩
  rw [e] at hc
  exact nmC_of (h c hc).1 (h c hc).2
theorem pnm_abc {P : List Nat} {k : Nat} (hP : Pre P) (hk : k < 702) : ∀ c ∈ cs (pnm P k), 97 ≤ c ∧ c ≤ 122 := fun c hc => by
  rw [pnm_cs] at hc
  rcases List.mem_append.mp hc with hc | hc
  · rcases List.mem_append.mp hc with hc | hc
    · exact hP.abc c hc
    · rw [List.mem_singleton.mp hc]
      omega
  · by_cases h : 25 < k
    · rw [if_pos h] at hc
      rw [List.mem_singleton.mp hc]
      omega
    · rw [if_neg h] at hc
      cases hc
theorem pnm_len {P : List Nat} {k : Nat} (hP : Pre P) : 1 ≤ (cs (pnm P k)).length ∧ (cs (pnm P k)).length ≤ 4 := by
  rw [pnm_cs, List.length_append, List.length_append]
  have := hP.len
  split <;> simp <;> omega
theorem pnm_nm {P : List Nat} {k : Nat} (hP : Pre P) (hk : k < 702) : Nm (pnm P k) := by
  have := pnm_len (k := k) hP
  exact nm_of rfl this.1 (by omega) (pnm_abc hP hk)
def poolL (P : List Nat) (n : Nat) : List Str := (List.range n).map (pnm P)
theorem poolL_nd (P : List Nat) (n : Nat) : (poolL P n).Nodup := by
  unfold poolL
  rw [List.Nodup, List.pairwise_map]
  exact (List.nodup_range (n := n)).imp fun {a b} h e => h (pnm_inj e)
theorem poolL_nm {P : List Nat} {n : Nat} (hP : Pre P) (hn : n ≤ 702) {z : Str} (h : z ∈ poolL P n) : Nm z := by
  obtain ⟨k, hk, rfl⟩ := List.mem_map.mp h
  have := List.mem_range.mp hk
  exact pnm_nm hP (by omega)
section
variable {P : Program} {w : World} {K : PySem.W.Frag} {mg : Str → Option Value} {base : Heap}
/-! _law_pool -/
def spPool : Sp := fun vs H Q _ => ∃ (a c : Addr) (n : Nat), vs = [.ref a, .int (n : Int)] ∧ Wl a c H ∧ n ≤ 702 ∧ ∀ H' p (P : List Nat), Exw a H H' → Wl a c H' → H p = none → p ≠ a → p ≠ c → H' p = some (.lst ((poolL P n).map V.str)) → Pre P → Q (.ref p) H'
theorem ok_pool (T : Blt mg) (ddraw : Dndraw K mg) (dany : Dnany K mg) (d : Dnpool K mg) : FnOk P w K mg base CX0 3 d.f d.fd ["_law_hand_here", "_law_many"] spPool := by
  have Gany : FnOk P w K mg base CX0 2 dany.f dany.fd ["_law_hand_here", "_law_things"] spAny := ok_any T ddraw dany
  refine d.F.ok scpool (fun vs H Q E h => ?_) (fun cdv A outer s H vs Q E hr h => ?_)
  · obtain ⟨a, c, n, rfl, _⟩ := h
    rfl
  · obtain ⟨a, c, n, rfl, hw, hn, q⟩ := h
    refine ⟨_, (pss_cons (ps_set (i := 2) scpool.nd rfl (Or.inr rfl) pe_str)
    (pss_cons (ps_set (i := 3) scpool.nd rfl (Or.inr rfl) (pe_call Gany (hr.mono (by omega)) (by rfl) dany.g dany.F.kp dany.b .nil pass0 (pa_cons (pv 0) (pa_cons (pe_lst (pa_cons pe_str (pa_cons pe_str (pa_cons pe_str (pa_cons pe_str pa_nil))))) pa_nil))))
    (pss_one (ps_ret (pe_lc (own := [("_law_k", 4)]) (g := gName 4) (tt := tYes) rfl scpool.nd (pi_range1 (by rfl) T.n_range (pa_cons (pv 1) pa_nil)) (blkOk_by (N := Npool) (sc := defScope spool) (by decide +kernel)) (fun _ _ _ _ _ => pg_name (i := 4) scpool.nd rfl (Or.inl rfl)) (fun _ _ _ _ _ => pts_nil) (fun _ _ _ _ _ => (pe_op op_add_str (pe_op op_add_str (pv 3) (pe_ix ix_str (pv 2) (pe_op op_mod (pv 4) pe_int) (fun _ _ => rfl))) (pe_op op_times (pe_ix ix_str (pv 2) (pe_op op_sub (pe_op op_fdiv (pv 4) pe_int) pe_int) (fun _ _ => rfl)) (pe_callTy call_int1 (by rfl) T.n_int (show bootBuiltins (Str.ofString "int") = some (Value.type "int") by decide +kernel) (pa_cons (pe_cmpR op_gt (pv 4) pe_int (nomark _)) pa_nil)))))))))), ?_⟩
    refine ⟨.ref a, rfl, (by show 4 ≤ sizeLine; decide), fun l nl => ?_⟩
    have lw := hw.ne2 nl
    have hl : (upd H l (.lst [.str (Str.ofString ""), .str (Str.ofString ""), .str (Str.ofString "q"), .str (Str.ofString "zy")])) l = some (.lst [.str (Str.ofString ""), .str (Str.ofString ""), .str (Str.ofString "q"), .str (Str.ofString "zy")]) := upd_same
    refine ⟨a, c, l, _, rfl, hw.same (same_upd nl), lw.1, hl, (by show 0 < 4; decide), (by show 4 ≤ 100000; decide), fun H1 x x1 w1 hx => ?_⟩
    obtain ⟨z, P, rfl, hz, hP⟩ : ∃ (z : Str) (P : List Nat), x = .str z ∧ cs z = P ∧ Pre P := by
      have e0 : cs (Str.ofString "") = [] := by decide +kernel
      have e1 : cs (Str.ofString "q") = [113] := by decide +kernel
      have e2 : cs (Str.ofString "zy") = [122, 121] := by decide +kernel
      have p0 : Pre [] := ⟨by decide, (fun _ h => nomatch h), .inl rfl⟩
      have p1 : Pre [113] := ⟨by decide, (fun c hc => by rw [List.mem_singleton.mp hc]; decide), .inr (.inl rfl)⟩
      have p2 : Pre [122, 121] := ⟨by decide, (fun c hc => by
        rcases List.mem_cons.mp hc with rfl | hc
        · decide
        · rw [List.mem_singleton.mp hc]; decide), .inr (.inr rfl)⟩
      rcases List.mem_cons.mp hx with rfl | hx
      · exact ⟨_, _, rfl, e0, p0⟩
      · rcases List.mem_cons.mp hx with rfl | hx
        · exact ⟨_, _, rfl, e0, p0⟩
        · rcases List.mem_cons.mp hx with rfl | hx
          · exact ⟨_, _, rfl, e1, p1⟩
          · rw [List.mem_singleton.mp hx]
            exact ⟨_, _, rfl, e2, p2⟩
    have x01 : Exw a H H1 := fun b o n e => x1 b o n (same_upd nl _ _ e)
    refine ⟨.int (n : Int), rfl, (n : Int), rfl, by omega, by omega, fun D nD => ?_⟩
    rw [Int.toNat_natCast]
    have Dw := w1.ne2 nD
    have nD0 : H D = none := x01.gone Dw.1 nD
    have hzl : (Str.ofString "abcdefghijklmnopqrstuvwxyz").length ≤ sizeLine := by
      rw [show (Str.ofString "abcdefghijklmnopqrstuvwxyz").length = 26 by decide +kernel, sizeLine_eq]
      decide
    have hz2 : z.length ≤ 2 := by
      rw [← cs_len, hz]
      exact hP.len
    refine lc_range (lo := 0) (n := n) (fun i H3 => Same H1 H3 ∧ H3 D = some (.lst ((poolL P i).map V.str))) ⟨same_upd nD, upd_same⟩ (fun i H3 hi h3 => ?_) (fun H3 h3 => ?_)
    · obtain ⟨s3, hD⟩ := h3
      have e0 : ((0 : Int) + (i : Int)) % 26 = ((i % 26 : Nat) : Int) := by omega
      have a1 : atI (Str.ofString "abcdefghijklmnopqrstuvwxyz").cps.toList (((0 : Int) + (i : Int)) % 26) = some (97 + i % 26) := by
        rw [e0]
        exact atI_nat (abc_at ⟨i % 26, Nat.mod_lt _ (by decide)⟩)
      refine ⟨rfl, .str z, rfl, _, rfl, .int (0 + (i : Int)), rfl, _, _, rfl, rfl, (by show (0 : Int) < 26; decide), _, _, _, rfl, rfl, hzl, a1, _, _, rfl, rfl, (by rw [sizeLine_eq]; show z.length + 1 ≤ _; omega), ?_⟩
      refine ⟨_, rfl, .int (0 + (i : Int)), rfl, _, _, rfl, rfl, ⟨by decide, by decide⟩, _, _, rfl, rfl, ?_⟩
      dsimp only
      by_cases h25 : 25 < i
      · have e1 : ((0 : Int) + (i : Int)) / 26 - 1 = ((i / 26 - 1 : Nat) : Int) := by omega
        have a2 : atI (Str.ofString "abcdefghijklmnopqrstuvwxyz").cps.toList (((0 : Int) + (i : Int)) / 26 - 1) = some (97 + (i / 26 - 1)) := by
          rw [e1]
          exact atI_nat (abc_at ⟨i / 26 - 1, by omega⟩)
        refine ⟨_, _, _, rfl, rfl, hzl, a2, .int (0 + (i : Int)), rfl, _, _, rfl, rfl, .inr ⟨_, rfl, _, _, rfl, rfl, (by show 1 ≤ 16; decide), ?_, ?_, ?_⟩⟩
        · split <;> decide
        · split <;> decide
        rw [show (decide ((25 : Int) < 0 + (i : Int))) = true from decide_eq_true (by omega), if_pos rfl, mul_one']
        refine ⟨_, _, rfl, rfl, by rw [sizeLine_eq, len_app]; show (z.length + 1) + 1 ≤ _; omega, _, hD, by rw [List.length_map]; unfold poolL; rw [List.length_map, List.length_range, sizeLine_eq]; omega, Same.put s3 nD, ?_⟩
        have hv : (z ++ (⟨#[97 + i % 26]⟩ : Str)) ++ (⟨#[97 + (i / 26 - 1)]⟩ : Str) = pnm P i := by
          refine cs_inj ?_
          rw [cs_app, cs_app, hz, pnm_cs, if_pos h25]
          rfl
        rw [hv, upd_same]
        unfold poolL
        rw [List.range_succ, List.map_append, List.map_append]
        rfl
      · have a2 : atI (Str.ofString "abcdefghijklmnopqrstuvwxyz").cps.toList (((0 : Int) + (i : Int)) / 26 - 1) = some 122 := by
          rw [show ((0 : Int) + (i : Int)) / 26 - 1 = -1 by omega]
          decide +kernel
        refine ⟨_, _, _, rfl, rfl, hzl, a2, .int (0 + (i : Int)), rfl, _, _, rfl, rfl, .inr ⟨_, rfl, _, _, rfl, rfl, (by show 1 ≤ 16; decide), ?_, ?_, ?_⟩⟩
        · split <;> decide
        · split <;> decide
        rw [show (decide ((25 : Int) < 0 + (i : Int))) = false from decide_eq_false (by omega), if_neg (by decide), mul_zero']
        refine ⟨_, _, rfl, rfl, by rw [sizeLine_eq, len_app]; show (z.length + 1) + 0 ≤ _; omega, _, hD, by rw [List.length_map]; unfold poolL; rw [List.length_map, List.length_range, sizeLine_eq]; omega, Same.put s3 nD, ?_⟩
        have hv : (z ++ (⟨#[97 + i % 26]⟩ : Str)) ++ Str.empty = pnm P i := by
          refine cs_inj ?_
          rw [cs_app, cs_app, hz, pnm_cs, if_neg h25]
          rfl
        rw [hv, upd_same]
        unfold poolL
        rw [List.range_succ, List.map_append, List.map_append]
        rfl
    · obtain ⟨s3, hD⟩ := h3
      exact q H3 D P (x01.same s3) (w1.same s3) nD0 Dw.1 Dw.2 hD hP
end
end Kb

namespace Kb
open PySem PySem.Spec PyProof.Rows L2 SrtZ SrtO
abbrev sfed : Stmt := topS 53
abbrev Nfed : List Str := ["_law_sketch_here", "_law_name", "_law_room", "_law_many", "_law_off", "_law_kept", "_law_counts", "_law_left", "_law_other", "_law_count"]
theorem scfed : FnScope ["_law_sketch_here", "_law_name", "_law_room", "_law_many", "_law_off", "_law_kept", "_law_counts", "_law_left", "_law_other", "_law_count"] ["_law_sketch_here", "_law_name"] (defScope sfed) := ⟨rfl, rfl, rfl, by decide +kernel, rfl, by decide +kernel, by decide +kernel⟩
abbrev spoured : Stmt := topS 54
abbrev Npoured : List Str := ["_law_one", "_law_other", "_law_counts", "_law_falling", "_law_taken", "_law_left", "_law_name", "_law_count"]
theorem scpoured : FnScope ["_law_one", "_law_other", "_law_counts", "_law_falling", "_law_taken", "_law_left", "_law_name", "_law_count"] ["_law_one", "_law_other"] (defScope spoured) := ⟨rfl, rfl, rfl, by decide +kernel, rfl, by decide +kernel, by decide +kernel⟩
abbrev Dnfed (K : PySem.W.Frag) (mg : Str → Option Value) := Dn K mg "_law_fed" sfed ["_law_sketch_here", "_law_name"]
abbrev Dnpoured (K : PySem.W.Frag) (mg : Str → Option Value) := Dn K mg "_law_poured" spoured ["_law_one", "_law_other"]
theorem takeZ_asc {a : Int} {kvs : Ct} (h : Asc kvs) : Asc (takeZ a kvs) := by
  unfold Asc takeZ
  rw [List.pairwise_map]
  exact List.Pairwise.filter _ h
theorem srtZ_self {kvs : Ct} (h : Asc kvs) (nd : NdZ kvs) : srtZ kvs = kvs := (srtZ_of h (List.Perm.refl _) nd).symm
theorem srtZ_nd {kvs : Ct} (nd : NdZ kvs) : NdZ (srtZ kvs) := ((srtZ_perm kvs).map (·.1)).nodup_iff.mpr nd
theorem prt_same {H H' : Hp} {ts : List Addr} {ys : Ct} (h : Paired (PrT H) ts ys) (s : Same H H') : Paired (PrT H') ts ys := paired_imp (fun _ _ k => s _ _ k) h
/-- a sketch on the heap, made anew -/
theorem SkAt.mk {H H1 : Hp} {s k : Addr} {r m o : Int} {kvs : Ct} {ts : List Addr} (h1 : H s = some (.tup [.int r, .int m, .int o, .ref k])) (h2 : Ptp H k (ts.map V.ref)) (h3 : Paired (PrT H) ts (srtZ kvs)) : SkAt H s r ⟨m, o, kvs⟩ := ⟨k, ts, h1, h2, h3⟩
section
variable {P : Program} {w : World} {K : PySem.W.Frag} {mg : Str → Option Value} {base : Heap}
/-! _law_fed -/
def spFed : Sp := fun vs H Q _ => ∃ (s : Addr) (r : Int) (n : Str) (x : Tl), vs = [.ref s, .str n] ∧ SkAt H s r x ∧ TlOk r x ∧ 1 ≤ r ∧ r ≤ 64 ∧
  ∀ H' p, Same H H' → H p = none → SkAt H' p r (feedT r n 1 x) → Q (.ref p) H'
theorem ok_fed (T : Blt mg) (d : Dnfed K mg) : FnOk P w K mg base CX0 1 d.f d.fd ["_law_sketch_here", "_law_name"] spFed := by
  refine d.F.ok scfed (fun vs H Q E h => ?_) (fun cdv A outer s H vs Q E hr h => ?_)
  · obtain ⟨s, r, n, x, rfl, _⟩ := h
    rfl
  · obtain ⟨sk, r, n, ⟨m, o, kvs0⟩, rfl, ⟨k, ts, hs, hk, hp0⟩, ok0, hr1, hr2, q⟩ := h
    dsimp only at hs hk hp0
    have hu := hu_of hr
    have ok := skT_ok ok0
    have efeed : ∀ {H' : Hp} {p : Addr}, SkAt H' p r (feedT r n 1 ⟨m, o, srtZ kvs0⟩) → SkAt H' p r (feedT r n 1 ⟨m, o, kvs0⟩) := fun h => h.congr (feed_skT (x := ⟨m, o, kvs0⟩) ok0.nd)
    have asc := srtZ_asc ok0.nd
    have ok : TlOk r ⟨m, o, srtZ kvs0⟩ := ok
    generalize srtZ kvs0 = kvs at hp0 ok asc efeed
    refine ⟨_, (pss_cons (ps_asg (pv 0) (pg_tup (by rfl) (pgs_cons (pg_name (i := 2) scfed.nd rfl (Or.inl rfl)) (pgs_cons (pg_name (i := 3) scfed.nd rfl (Or.inl rfl)) (pgs_cons (pg_name (i := 4) scfed.nd rfl (Or.inl rfl)) (pgs_cons (pg_name (i := 5) scfed.nd rfl (Or.inl rfl)) pgs_nil))))))
    (pss_cons (ps_asg (pe_callTy (call_dictPT rfl) (by rfl) T.n_dict (by decide +kernel) (pa_cons (pv 5) pa_nil)) (pg_name (i := 6) scfed.nd rfl (Or.inl rfl)))
    (pss_cons (ps_if (PW.pt (pw_or (pt_cmp (pc_din hu (pv 1) (pv 6))) (pw_or1 (pt_cmpR op_lt (pe_callB call_lenD (by rfl) T.n_len (by decide +kernel) (pa_cons (pv 6) pa_nil)) (pv 2) (nomark _)))))
      (pss_cons (ps_dput hu (pv 6) (pv 1) (pe_op op_add (pe_dget2 hu (pv 6) (pv 1) pe_int ⟨rfl, rfl, rfl, rfl⟩) pe_int) rfl)
      (pss_one (ps_ret (pe_tup (pa_cons (pv 2) (pa_cons (pe_op op_add (pv 3) pe_int) (pa_cons (pv 4) (pa_cons (pe_callTy call_tupleF (by rfl) T.n_tuple (by decide +kernel) (pa_cons (pe_callB (cr_sortedIZ rfl) (by rfl) T.n_sorted (by decide +kernel) (pa_cons (pe_bm0 PySem.F.plainAttrs_dict PySem.F.slot_dict_items PySem.F.type_dict_items mt_itemsK (pv 6)) pa_nil)) pa_nil)) pa_nil))))))))
      pss_nil)
    (pss_cons (ps_setLc (i := 7) (own := [("_law_other", 8), ("_law_count", 9)]) (g := gTup K 2 (gCons (gName 8) (gCons (gName 9) gNil))) rfl scfed.nd rfl rfl (sw_true rfl rfl rfl (by decide +kernel)) (pi_tup (pv 5)) (blkOk_by (N := Nfed) (sc := defScope sfed) (by decide +kernel)) (fun _ _ _ _ _ => pg_tup (by rfl) (pgs_cons (pg_name (i := 8) scfed.nd rfl (Or.inl rfl)) (pgs_cons (pg_name (i := 9) scfed.nd rfl (Or.inl rfl)) pgs_nil))) (fun _ _ _ _ _ => pts_one (pt_cmpR op_gt (pv 9) pe_int (nomark _))) (fun _ _ _ _ _ => (pe_tup (pa_cons (pv 8) (pa_cons (pe_op op_sub (pv 9) pe_int) pa_nil)))))
    (pss_one (ps_ret (pe_tup (pa_cons (pv 2) (pa_cons (pe_op op_add (pv 3) pe_int) (pa_cons (pe_op op_add (pv 4) pe_int) (pa_cons (pe_callTy call_tupleF (by rfl) T.n_tuple (by decide +kernel) (pa_cons (pv 7) pa_nil)) pa_nil))))))))))), ?_⟩
    refine ⟨.ref sk, rfl, sk, _, rfl, .inl (.inl hs), rfl, _, _, rfl, _, _, rfl, _, _, rfl, _, _, rfl, rfl, ?_⟩
    refine ⟨.ref k, rfl, k, ts, kvs.map entZ, rfl, hk, ents_paired (paired_imp (fun t e h => .inl (.inl h)) hp0), fun p np => ?_⟩
    have em : mergeK [] (kvs.map entZ) = kvs.map entZ := mergeZ kvs [] (by rw [List.nil_append]; exact ok.nd)
    rw [em]
    have hp : (upd H p (.dK (kvs.map entZ))) p = some (.dK (kvs.map entZ)) := upd_same
    have s1 : Same H (upd H p (.dK (kvs.map entZ))) := same_upd np
    generalize upd H p (.dK (kvs.map entZ)) = H1 at hp s1 ⊢
    have hlen : kvs.length ≤ 64 := by
      have : (kvs.length : Int) ≤ r := ok.len
      omega
    refine ⟨.str n, rfl, .ref p, rfl, p, _, rfl, DGet.k (k := Sum.inr n) hp, _, rfl, ?_⟩
    rw [getZ_val]
    cases hf : full r n kvs with
    | false =>
      cases hg : getZ kvs n
      case' none =>
        refine iteF ⟨.ref p, rfl, p, _, rfl, hp, .int r, rfl, _, _, rfl, rfl, true, congrArg V.bl (decide_eq_true (by
          rw [List.length_map]
          have h1 : (kvs.length : Int) ≤ r := ok.len
          have h2 : ¬ (kvs.length : Int) = r := fun z => by
            rw [full_yes hg z] at hf
            cases hf
          omega)), iteT ?_⟩
      case' some v => refine iteT ?_
      all_goals
        refine ⟨.ref p, rfl, p, rfl, .inl ⟨_, .inl hp⟩, .str n, rfl, _, DGet.k (k := Sum.inr n) hp, ?_⟩
        rw [getZ_val]
        refine ⟨(getZ kvs n).getD 0, 1, ?_, rfl, ?_⟩
        · cases getZ kvs n <;> rfl
        · refine ⟨.ref p, rfl, .str n, rfl, p, _, rfl, DPut.k (k := Sum.inr n) hp (by rw [List.length_map, sizeLine_eq]; omega), ?_⟩
          rw [putZ_put]
          rw [feed_add hf (by decide)] at efeed
          have s2 : Same H (upd H1 p (.dK ((putZ kvs n ((getZ kvs n).getD 0 + 1)).map entZ))) := Same.put s1 np
          have hp2 : (upd H1 p (.dK ((putZ kvs n ((getZ kvs n).getD 0 + 1)).map entZ))) p = some (.dK ((addZ kvs n 1).map entZ)) := upd_same
          generalize upd H1 p (.dK ((putZ kvs n ((getZ kvs n).getD 0 + 1)).map entZ)) = H2 at s2 hp2 ⊢
          refine ⟨.int r, rfl, .int m, rfl, _, _, rfl, rfl, .int o, rfl, .ref p, rfl, .inr (.inr (.inl ⟨rfl, .inl ⟨_, hp2⟩⟩)), p, _, rfl, rfl, hp2, fun p3 np3 => ?_⟩
          refine ⟨p3, p, addZ kvs n 1, rfl, upd_same, (by rw [upd_ne (ne_of_none hp2 np3)]; exact hp2), fun H3 l ys ts2 s3 nl nts lts pm so hl1 hts => ?_⟩
          have sb : Same H H3 := fun b u e => s3 b u (same_upd np3 b u (s2 b u e))
          refine ⟨l, _, rfl, sql hl1, fun k2 ob nk2 ho => ⟨(by show 4 ≤ sizeLine; decide), fun t nt => ?_⟩⟩
          have sc : Same H3 (upd H3 k2 (.frz ob (.tup (ts2.map V.ref)))) := same_upd nk2
          have hk2 : (upd H3 k2 (.frz ob (.tup (ts2.map V.ref)))) k2 = some (.frz ob (.tup (ts2.map V.ref))) := upd_same
          generalize upd H3 k2 (.frz ob (.tup (ts2.map V.ref))) = H4 at nt sc hk2 ⊢
          have nda := addZ_nd (n := n) (c := 1) ok.nd
          have eys : ys = srtZ (addZ kvs n 1) := srtZ_of (asc_of so pm nda) pm nda
          subst eys
          have sd := same_upd (o := .tup [.int r, .int (m + 1), .int o, .ref k2]) nt
          exact q _ t ((sb.trans sc).trans sd) (Same.gone (sb.trans sc) nt) (efeed ⟨k2, ts2, upd_same, ⟨ob, sd _ _ hk2, ho⟩, prt_same (prt_same hts sc) sd⟩)
    | true =>
      obtain ⟨hg, hl⟩ := full_of hf
      have m1 := mn_pos (ne_of_full hr1 hl) ok.pos
      rw [feed_lt hf m1] at efeed
      rw [hg]
      refine iteF ⟨.ref p, rfl, p, _, rfl, hp, .int r, rfl, _, _, rfl, rfl, false, congrArg V.bl (decide_eq_false (by rw [List.length_map]; omega)), iteF ?_⟩
      have hk1 := hk.same s1
      refine ⟨.ref k, rfl, k, rfl, ⟨_, hk1.seq⟩, fun D nD => ?_⟩
      refine lc_tup (xs := ts.map V.ref) (fun i H3 => Same H1 H3 ∧ ∃ us : List Addr, H3 D = some (.lst (us.map V.ref)) ∧ us.length ≤ i ∧ Paired (PrT H3) us (takeZ 1 (kvs.take i)))
        ⟨same_upd nD, [], upd_same, Nat.zero_le _, .nil⟩ (fun i H3 _ h3 => (hk1.same h3.1).seq) (fun i x H3 hx h3 => ?_) (fun H3 h3 => ?_)
      · obtain ⟨tp, htp, rfl⟩ := map_at hx
        obtain ⟨e, he, hat⟩ := paired_at hp0 htp
        obtain ⟨s3, us, hD, hul, hpr⟩ := h3
        refine ⟨tp, _, rfl, .inl (.inl (s3 _ _ (s1 _ _ hat))), rfl, _, _, rfl, _, _, rfl, rfl, rfl, .int e.2, rfl, _, _, rfl, rfl, _, rfl, ite2 (fun hgt => ?_) fun hgt => ?_⟩
        · have hgt := of_decide_eq_true hgt
          refine ⟨.str e.1, rfl, .int e.2, rfl, _, _, rfl, rfl, (by show 2 ≤ sizeLine; decide), fun t nt => ?_⟩
          have Dp : D ≠ t := ne_of_none hD nt
          refine ⟨_, by rw [upd_ne Dp]; exact hD, ?_, Same.put (Same.new s3 nt) nD, us ++ [t], by rw [upd_same, List.map_append]; rfl, by rw [List.length_append, List.length_singleton]; omega, ?_⟩
          · have := (List.getElem?_eq_some_iff.mp he).1
            rw [List.length_map, sizeLine_eq]
            omega
          · rw [List.take_add_one, he]
            show Paired _ _ (takeZ 1 (kvs.take i ++ [e]))
            rw [takeZ_snoc, if_pos (show 1 < e.2 by omega)]
            refine paired_snoc (paired_imp (fun t e' ht => ?_) hpr) ?_
            · show _ = _
              rw [upd_ne (ne_of ht hD (by intro z; cases z)), upd_ne (ne_of_none ht nt)]
              exact ht
            · show _ = _
              rw [upd_ne Dp.symm]
              exact upd_same
        · have hgt : ¬ 1 < e.2 := fun z => hgt (decide_eq_true z)
          refine ⟨s3, us, hD, by omega, ?_⟩
          rw [List.take_add_one, he]
          show Paired _ _ (takeZ 1 (kvs.take i ++ [e]))
          rw [takeZ_snoc, if_neg hgt, List.append_nil]
          exact hpr
      · obtain ⟨s3, us, hD, hul, hpr⟩ := h3
        rw [show kvs.take (ts.map V.ref).length = kvs by rw [List.length_map, Paired.length hp0, List.take_length]] at hpr
        have sb : Same H H3 := s1.trans s3
        refine ⟨.int r, rfl, .int m, rfl, _, _, rfl, rfl, .int o, rfl, _, _, rfl, rfl, .ref D, rfl, D, _, rfl, sql hD, fun k2 ob nk2 ho => ⟨(by show 4 ≤ sizeLine; decide), fun t nt => ?_⟩⟩
        have sc : Same H3 (upd H3 k2 (.frz ob (.tup (us.map V.ref)))) := same_upd nk2
        have hk2 : (upd H3 k2 (.frz ob (.tup (us.map V.ref)))) k2 = some (.frz ob (.tup (us.map V.ref))) := upd_same
        generalize upd H3 k2 (.frz ob (.tup (us.map V.ref))) = H4 at nt sc hk2 ⊢
        have sd := same_upd (o := .tup [.int r, .int (m + 1), .int (o + 1), .ref k2]) nt
        refine q _ t ((sb.trans sc).trans sd) (Same.gone (sb.trans sc) nt) (efeed ⟨k2, us, upd_same, ⟨ob, sd _ _ hk2, ho⟩, ?_⟩)
        rw [show srtZ (takeZ 1 kvs) = takeZ 1 kvs from srtZ_self (takeZ_asc asc) (takeZ_nd ok.nd)]
        exact prt_same (prt_same hpr sc) sd
end
end Kb

namespace Kb
open PySem PySem.Spec PyProof.Rows L2 SrtZ SrtO
theorem neg_fall {kvs : Ct} {r : Nat} {ns : List Int} (p : ns.Perm (kvs.map fun e => -e.2)) (so : ns.Pairwise (· ≤ ·)) (h : r < kvs.length) : ∃ v, ns[r]? = some v ∧ -v = fallZ kvs r := by
  have hl : ns.length = kvs.length := by rw [p.length_eq, List.length_map]
  have pm : (ns.map fun c => -c).Perm (kvs.map (·.2)) := by
    have := p.map (fun c : Int => -c)
    rw [List.map_map] at this
    refine this.trans ?_
    rw [show ((fun c : Int => -c) ∘ fun e : Str × Int => -e.2) = (fun e : Str × Int => e.2) from funext fun e => Int.neg_neg e.2]
  have so2 : (ns.map fun c => -c).Pairwise (· ≥ ·) := by
    rw [List.pairwise_map]
    exact so.imp fun h => by show -_ ≤ -_; omega
  have e := fall_uniq pm so2
  have hr : r < ns.length := by omega
  refine ⟨ns[r], List.getElem?_eq_getElem hr, ?_⟩
  unfold fallZ
  rw [Int.toNat_natCast, ← e, List.getD_eq_getElem?_getD, List.getElem?_map, List.getElem?_eq_getElem hr]
  rfl
/-- sorted names with their counts: the counts, ascending -/
theorem srt_names {kvs : Ct} {ss : List Str} (nd : NdZ kvs) (p : ss.Perm (kvs.map (·.1))) (so : Srtd ltZ ss) : (ss.map fun n => (n, gd kvs n)) = srtZ kvs := by
  have nds : ss.Nodup := p.nodup_iff.mpr nd
  refine srtZ_of ?_ ?_ nd
  · unfold Asc
    rw [List.pairwise_map]
    refine List.Pairwise.imp₂ (fun {a b} h1 h2 => ?_) so nds
    rcases bcase (ltZ a b) with q | q
    · exact q
    · exact absurd (ltZ_tri q h1) h2
  · refine (p.map fun n => (n, gd kvs n)).trans ?_
    rw [List.map_map]
    refine List.Perm.of_eq ?_
    conv => rhs; rw [← List.map_id kvs]
    refine List.map_congr_left fun e he => ?_
    show (e.1, gd kvs e.1) = e
    unfold gd
    rw [getZ_mem nd he]
    rfl
theorem keys_inr (kvs : Ct) : (kvs.map entZ).map (·.1) = (kvs.map (·.1)).map Sum.inr := by
  rw [List.map_map, List.map_map]
  rfl
theorem take_srt {a : Int} {kvs : Ct} (nd : NdZ kvs) : srtZ (takeZ a kvs) = takeZ a (srtZ kvs) :=
  (srtZ_of (takeZ_asc (srtZ_asc nd)) (takeZ_perm (srtZ_perm kvs) a) (takeZ_nd nd)).symm
section
variable {P : Program} {w : World} {K : PySem.W.Frag} {mg : Str → Option Value} {base : Heap}
/-! _law_poured -/
def spPouredL : Sp := fun vs H Q _ => ∃ (s1 s2 : Addr) (r : Int) (x y : Tl), vs = [.ref s1, .ref s2] ∧ SkAt H s1 r x ∧ SkAt H s2 r y ∧ TlOk r x ∧ TlOk r y ∧ 1 ≤ r ∧ r ≤ 64 ∧
  ∀ H' p, Same H H' → H p = none → SkAt H' p r (pourT r y x) → Q (.ref p) H'
theorem ok_pouredL (T : Blt mg) (d : Dnpoured K mg) : FnOk P w K mg base CX0 1 d.f d.fd ["_law_one", "_law_other"] spPouredL := by
  refine d.F.ok scpoured (fun vs H Q E h => ?_) (fun cdv A outer s H vs Q E hr h => ?_)
  · obtain ⟨s1, s2, r, x, y, rfl, _⟩ := h
    rfl
  · obtain ⟨s1, s2, r, ⟨m, o, kvs0⟩, ⟨m2, o2, ks0⟩, rfl, ⟨k1, ts1, h1, hk1, hp1⟩, ⟨k2, ts2, h2, hk2, hp2⟩, ok01, ok02, hr1, hr2, q⟩ := h
    dsimp only at h1 hk1 hp1 h2 hk2 hp2
    have hu := hu_of hr
    obtain ⟨rn, rfl⟩ := Int.eq_ofNat_of_zero_le (show 0 ≤ r by omega)
    have ok1 : TlOk rn ⟨m, o, srtZ kvs0⟩ := skT_ok ok01
    have ok2 : TlOk rn ⟨m2, o2, srtZ ks0⟩ := skT_ok ok02
    have epq : ∀ {H' : Hp} {p : Addr}, SkAt H' p rn (pourT rn ⟨m2, o2, srtZ ks0⟩ ⟨m, o, srtZ kvs0⟩) → SkAt H' p rn (pourT rn ⟨m2, o2, ks0⟩ ⟨m, o, kvs0⟩) := fun h => h.congr (pour_skT ok1.nd ok2.nd (skT_skT (x := ⟨m, o, kvs0⟩) ok01.nd) (skT_skT (x := ⟨m2, o2, ks0⟩) ok02.nd))
    generalize srtZ kvs0 = kvs at hp1 ok1 epq
    generalize srtZ ks0 = ks at hp2 ok2 epq
    refine ⟨_, (pss_cons (ps_asg (pe_callTy (call_dictPT rfl) (by rfl) T.n_dict (by decide +kernel) (pa_cons (pe_ix ix_tup (pv 0) pe_int (fun _ _ => rfl)) pa_nil)) (pg_name (i := 2) scpoured.nd rfl (Or.inr rfl)))
    (pss_cons (ps_for PassesOwn.never rfl (pi_tup (pe_ix ix_tup (pv 1) pe_int (fun _ _ => rfl))) (pg_tup (by rfl) (pgs_cons (pg_name (i := 6) scpoured.nd rfl (Or.inl rfl)) (pgs_cons (pg_name (i := 7) scpoured.nd rfl (Or.inl rfl)) pgs_nil)))
      (pss_one (ps_dput hu (pv 2) (pv 6) (pe_op op_add (pe_dget2 hu (pv 2) (pv 6) pe_int ⟨rfl, rfl, rfl, rfl⟩) (pv 7)) rfl)))
    (pss_cons (ps_set (i := 3) scpoured.nd rfl (Or.inl rfl) (pe_callB cr_sortedI (by rfl) T.n_sorted (by decide +kernel) (pa_cons (pe_lock (pe_lc (own := [("_law_count", 7)]) (g := gName 7) (tt := tYes) rfl scpoured.nd (pi_values (pv 2)) (blkOk_by (N := Npoured) (sc := defScope spoured) (by decide +kernel)) (fun _ _ _ _ _ => pg_name (i := 7) scpoured.nd rfl (Or.inl rfl)) (fun _ _ _ _ _ => pts_nil) (fun _ _ _ _ _ => (pe_un un_neg (pv 7))))) pa_nil)))
    (C8.pss_cut (ps_asg (pe_ifExp (pt_cmpR op_gt (pe_callB call_len_seq (by rfl) T.n_len (by decide +kernel) (pa_cons (pv 3) pa_nil)) (pe_ix ix_tup (pv 0) pe_int (fun _ _ => rfl)) (nomark _)) (pe_un un_neg (pe_ix ix_list (pv 3) (pe_ix ix_tup (pv 0) pe_int (fun _ _ => rfl)) (fun _ _ => rfl))) pe_int) (pg_name (i := 4) scpoured.nd rfl (Or.inr rfl)))
    (pss_cons (ps_setLc (i := 5) (own := [("_law_name", 6)]) (g := gName 6) rfl scpoured.nd rfl rfl (sw_true rfl rfl rfl (by decide +kernel)) (pi_list (pe_callB (cr_sortedDS rfl) (by rfl) T.n_sorted (by decide +kernel) (pa_cons (pv 2) pa_nil))) (blkOk_by (N := Npoured) (sc := defScope spoured) (by decide +kernel)) (fun _ _ _ _ _ => pg_name (i := 6) scpoured.nd rfl (Or.inl rfl)) (fun _ _ _ _ _ => pts_one (pt_cmpR op_gt (pe_dget hu (pv 2) (pv 6) (fun _ _ => rfl)) (pv 4) (nomark _))) (fun _ _ _ _ _ => (pe_tup (pa_cons (pv 6) (pa_cons (pe_op op_sub (pe_dget hu (pv 2) (pv 6) (fun _ _ => rfl)) (pv 4)) pa_nil)))))
    (pss_one (ps_ret (pe_tup (pa_cons (pe_ix ix_tup (pv 0) pe_int (fun _ _ => rfl)) (pa_cons (pe_op op_add (pe_ix ix_tup (pv 0) pe_int (fun _ _ => rfl)) (pe_ix ix_tup (pv 1) pe_int (fun _ _ => rfl))) (pa_cons (pe_op op_add (pe_op op_add (pe_ix ix_tup (pv 0) pe_int (fun _ _ => rfl)) (pe_ix ix_tup (pv 1) pe_int (fun _ _ => rfl))) (pv 4)) (pa_cons (pe_callTy call_tupleF (by rfl) T.n_tuple (by decide +kernel) (pa_cons (pv 5) pa_nil)) pa_nil)))))))))))), ?_⟩
    refine ⟨.ref s1, rfl, s1, _, _, _, rfl, rfl, .inl (.inl h1), atI_nat (j := 3) rfl, k1, ts1, kvs.map entZ, rfl, hk1, ents_paired (paired_imp (fun t e h => .inl (.inl h)) hp1), fun p np => ?_⟩
    have em : mergeK [] (kvs.map entZ) = kvs.map entZ := mergeZ kvs [] (by rw [List.nil_append]; exact ok1.nd)
    rw [em]
    have hlen1 : kvs.length ≤ 64 := by
      have : (kvs.length : Int) ≤ rn := ok1.len
      omega
    have hlen2 : ks.length ≤ 64 := by
      have : (ks.length : Int) ≤ rn := ok2.len
      omega
    have hp : (upd H p (.dK (kvs.map entZ))) p = some (.dK (kvs.map entZ)) := upd_same
    have s01 : Same H (upd H p (.dK (kvs.map entZ))) := same_upd np
    generalize upd H p (.dK (kvs.map entZ)) = H1 at hp s01 ⊢
    refine ⟨.ref s2, rfl, s2, _, _, _, rfl, rfl, .inl (.inl (s01 _ _ h2)), atI_nat (j := 3) rfl, k2, rfl, ⟨_, (hk2.same s01).seq⟩, for_tup (xs := ts2.map V.ref) (fun i σ H3 => ∃ y6 y7 : Option V, σ = [some (.ref s1), some (.ref s2), some (.ref p), none, none, none, y6, y7] ∧ Same H H3 ∧ H3 p = some (.dK ((sumsZ (ks.take i) kvs).map entZ)))
      ⟨none, none, rfl, s01, hp⟩ (fun i σ H3 _ ⟨_, _, _, b3, _⟩ => (hk2.same b3).seq) ?_ ?_⟩
    · rintro i v σ H3 hi ⟨y6, y7, rfl, b3, hp3⟩
      obtain ⟨tp, htp, rfl⟩ := map_at hi
      obtain ⟨e, he, hat⟩ := paired_at hp2 htp
      refine ⟨tp, _, rfl, .inl (.inl (b3 _ _ hat)), rfl, _, _, rfl, _, _, rfl, rfl, ?_⟩
      refine ⟨.ref p, rfl, p, rfl, .inl ⟨_, .inl hp3⟩, .str e.1, rfl, _, DGet.k (k := Sum.inr e.1) hp3, ?_⟩
      rw [getZ_val]
      refine ⟨.int e.2, rfl, (getZ (sumsZ (ks.take i) kvs) e.1).getD 0, e.2, ?_, rfl, ?_⟩
      · cases getZ (sumsZ (ks.take i) kvs) e.1 <;> rfl
      have hlen := sumsZ_len (more := ks.take i) (kvs := kvs)
      rw [List.length_take] at hlen
      refine ⟨.ref p, rfl, .str e.1, rfl, p, _, rfl, DPut.k (k := Sum.inr e.1) hp3 (by rw [List.length_map, sizeLine_eq]; omega), ?_⟩
      rw [putZ_put]
      refine ⟨some (.str e.1), some (.int e.2), rfl, Same.put b3 np, ?_⟩
      rw [upd_same, sumsZ_snoc he]
      rfl
    rintro σ H3 ⟨y6, y7, rfl, s03, hp3⟩
    rw [show ks.take (ts2.map V.ref).length = ks by rw [List.length_map, Paired.length hp2, List.take_length]] at hp3
    have nda := sumsZ_nd (more := ks) (kvs := kvs) ok1.nd
    have posa := sumsZ_pos (more := ks) (kvs := kvs) ok2.pos ok1.pos
    have lla := sumsZ_len (more := ks) (kvs := kvs)
    have epour : pourT (rn : Int) ⟨m2, o2, ks⟩ ⟨m, o, kvs⟩ = if (rn : Int) < ((sumsZ ks kvs).length : Int) then ⟨m + m2, o + o2 + fallZ (sumsZ ks kvs) rn, takeZ (fallZ (sumsZ ks kvs) rn) (sumsZ ks kvs)⟩ else ⟨m + m2, o + o2, sumsZ ks kvs⟩ := rfl
    generalize sumsZ ks kvs = all at hp3 nda posa lla epour
    -- falling
    refine ⟨p, _, hp3, trivial, fun oe => ?_⟩
    refine ⟨.ref p, rfl, p, oe, all.map entZ, rfl, upd_same, fun D nD => ?_⟩
    generalize hHl : upd H3 p (.frz oe (.dK (all.map entZ))) = Hm at nD ⊢
    have hlm : Hm p = some (.frz oe (.dK (all.map entZ))) := by rw [← hHl]; exact upd_same
    have pD : p ≠ D := ne_of_none hlm nD
    refine lc_it (walk_values (kvs := all.map entZ)) (fun i H3 => Same Hm H3 ∧ H3 D = some (.lst ((all.take i).map fun e => V.int (-e.2))))
      ⟨same_upd nD, upd_same⟩ (fun i H3 _ h3 => h3.1 _ _ hlm) (fun i x H5 H6 hi h3 y => ?_) (fun H5 h5 => ?_)
    · obtain ⟨rfl, kk, hkv⟩ := y
      obtain ⟨e, he, hkv2⟩ := map_at hkv
      cases hkv2
      obtain ⟨s4, hD⟩ := h3
      refine ⟨rfl, .int e.2, rfl, e.2, rfl, _, hD, ?_, Same.put s4 nD, ?_⟩
      · rw [List.length_map, List.length_take, sizeLine_eq]
        omega
      · rw [upd_same, List.take_add_one, he, List.map_append]
        rfl
    obtain ⟨s5, hD5⟩ := h5
    rw [List.length_map, List.take_length] at hD5
    refine ⟨s5 _ _ hlm, ?_⟩
    have s06 : Same H (upd H5 p (.dK (all.map entZ))) := s03.trans (fun b u e => by
      by_cases hb : b = p
      · subst hb
        rw [hp3] at e
        cases e
        exact upd_same
      · rw [upd_ne hb]
        refine s5 b u ?_
        rw [← hHl, upd_ne hb]
        exact e)
    have hp6 : (upd H5 p (.dK (all.map entZ))) p = some (.dK (all.map entZ)) := upd_same
    have hD6 : (upd H5 p (.dK (all.map entZ))) D = some (.lst (all.map fun e => V.int (-e.2))) := by rw [upd_ne pD.symm]; exact hD5
    generalize upd H5 p (.dK (all.map entZ)) = H6 at s06 hp6 hD6 ⊢
    refine ⟨D, all.map (fun e => -e.2), rfl, sql (by rw [hD6, List.map_map]; rfl), fun nsr l pm so nl => ?_⟩
    have s67 := same_upd (o := .lst (nsr.map V.int)) nl
    have hp7 := s67 _ _ hp6
    have hl7 : (upd H6 l (.lst (nsr.map V.int))) l = some (.lst (nsr.map V.int)) := upd_same
    have s07 : Same H (upd H6 l (.lst (nsr.map V.int))) := s06.trans s67
    generalize upd H6 l (.lst (nsr.map V.int)) = H7 at hp7 hl7 s07 ⊢
    have hnl : nsr.length = all.length := by rw [pm.length_eq, List.length_map]
    -- taken
    refine ⟨fun σ H8 => H8 = H7 ∧ ∃ (tk : Int), σ = [some (.ref s1), some (.ref s2), some (.ref p), some (.ref l), some (.int tk), none, y6, y7] ∧ pourT (rn : Int) ⟨m2, o2, ks⟩ ⟨m, o, kvs⟩ = ⟨m + m2, o + o2 + tk, takeZ tk all⟩, ?_, ?_⟩
    · refine ⟨.ref l, rfl, l, _, rfl, .inl (sql hl7), .ref s1, rfl, s1, _, _, _, rfl, rfl, .inl (.inl (s07 _ _ h1)), atI_nat (j := 0) rfl, _, _, rfl, rfl, _, rfl, ?_⟩
      refine ite2 (fun hgt => ?_) fun hgt => ?_
      · have hgt := of_decide_eq_true hgt
        rw [List.length_map, hnl] at hgt
        obtain ⟨v, hv, e⟩ := neg_fall pm so (show rn < all.length by omega)
        refine ⟨.ref l, rfl, .ref s1, rfl, s1, _, _, _, rfl, rfl, .inl (.inl (s07 _ _ h1)), atI_nat (j := 0) rfl, l, _, _, .int v, rfl, rfl, sql hl7, atI_nat (by rw [List.getElem?_map, hv]; rfl), v, rfl, rfl, -v, rfl, ?_⟩
        rw [epour, if_pos hgt, e]
      · have hgt : ¬ (rn : Int) < (all.length : Int) := fun z => hgt (decide_eq_true (by rw [List.length_map, hnl]; exact z))
        refine ⟨rfl, 0, rfl, ?_⟩
        rw [epour, if_neg hgt, Int.add_zero, takeZ_zero posa]
    · rintro σ H8 ⟨rfl, tk, rfl, ep⟩
      rw [ep] at epq
      refine ⟨.ref p, rfl, p, _, all.map (·.1), rfl, hp7, keys_inr all, fun ss l2 pms sos nl2 => ?_⟩
      have ey := srt_names nda pms sos
      have s89 := same_upd (o := .lst (ss.map V.str)) nl2
      have hl9 : (upd H8 l2 (.lst (ss.map V.str))) l2 = some (.lst (ss.map V.str)) := upd_same
      have hp9 := s89 _ _ hp7
      have s09 := s07.trans s89
      generalize upd H8 l2 (.lst (ss.map V.str)) = H9 at hl9 hp9 s09 ⊢
      have hsl : ss.length = all.length := by rw [pms.length_eq, List.length_map]
      refine ⟨l2, rfl, ⟨_, sql hl9⟩, fun D2 nD2 => ?_⟩
      refine lc_list (xs := ss.map V.str) (fun i H3 => Same H9 H3 ∧ ∃ us : List Addr, H3 D2 = some (.lst (us.map V.ref)) ∧ us.length ≤ i ∧ Paired (PrT H3) us (takeZ tk ((srtZ all).take i)))
        ⟨same_upd nD2, [], upd_same, Nat.zero_le _, .nil⟩ (fun i H3 _ h3 => sql (h3.1 _ _ hl9)) (fun i x H3 hx h3 => ?_) (fun H3 h3 => ?_)
      · obtain ⟨z, hz, rfl⟩ := map_at hx
        obtain ⟨s3, us, hD, hul, hpr⟩ := h3
        have he : (srtZ all)[i]? = some (z, gd all z) := by
          rw [← ey, List.getElem?_map, hz]
          rfl
        have hmem : z ∈ all.map (·.1) := pms.mem_iff.mp (List.mem_of_getElem? hz)
        have dg : DGet H3 p (.str z) (some (.int (gd all z))) := .inl ⟨all.map entZ, Sum.inr z, .inl (s3 _ _ hp9), rfl, by
          rw [getZ_val]
          unfold gd
          cases hg : getZ all z with
          | none => exact absurd hmem (getZ_none.mp hg)
          | some v => rfl⟩
        refine ⟨rfl, .ref p, rfl, .str z, rfl, p, .int (gd all z), rfl, dg, .int tk, rfl, _, _, rfl, rfl, _, rfl, ite2 (fun hg9 => ?_) fun hg9 => ?_⟩
        · have hg9 := of_decide_eq_true hg9
          refine ⟨.str z, rfl, .ref p, rfl, .str z, rfl, p, .int (gd all z), rfl, dg, .int tk, rfl, _, _, rfl, rfl, (by show 2 ≤ sizeLine; decide), fun t nt => ?_⟩
          have Dp : D2 ≠ t := ne_of_none hD nt
          refine ⟨_, by rw [upd_ne Dp]; exact hD, ?_, Same.put (Same.new s3 nt) nD2, us ++ [t], by rw [upd_same, List.map_append]; rfl, by rw [List.length_append, List.length_singleton]; omega, ?_⟩
          · have := (List.getElem?_eq_some_iff.mp hz).1
            rw [List.length_map, sizeLine_eq]
            omega
          · rw [List.take_add_one, he]
            show Paired _ _ (takeZ tk ((srtZ all).take i ++ [(z, gd all z)]))
            rw [takeZ_snoc, if_pos (show tk < gd all z by exact hg9)]
            refine paired_snoc (paired_imp (fun t e' ht => ?_) hpr) ?_
            · show _ = _
              rw [upd_ne (ne_of ht hD (by intro z; cases z)), upd_ne (ne_of_none ht nt)]
              exact ht
            · show _ = _
              rw [upd_ne Dp.symm]
              exact upd_same
        · have hg9 : ¬ tk < gd all z := fun z => hg9 (decide_eq_true z)
          refine ⟨s3, us, hD, by omega, ?_⟩
          rw [List.take_add_one, he]
          show Paired _ _ (takeZ tk ((srtZ all).take i ++ [(z, gd all z)]))
          rw [takeZ_snoc, if_neg hg9, List.append_nil]
          exact hpr
      · obtain ⟨s3, us, hD, hul, hpr⟩ := h3
        rw [show (srtZ all).take (ss.map V.str).length = srtZ all by rw [List.length_map, hsl, ← (srtZ_perm all).length_eq, List.take_length]] at hpr
        have sb : Same H H3 := s09.trans s3
        have h1b : SqT K H3 s1 [.int (rn : Int), .int m, .int o, .ref k1] := .inl (.inl (sb _ _ h1))
        have h2b : SqT K H3 s2 [.int (rn : Int), .int m2, .int o2, .ref k2] := .inl (.inl (sb _ _ h2))
        refine ⟨.ref s1, rfl, s1, _, _, _, rfl, rfl, h1b, atI_nat (j := 0) rfl, .ref s1, rfl, s1, _, _, _, rfl, rfl, h1b, atI_nat (j := 1) rfl, .ref s2, rfl, s2, _, _, _, rfl, rfl, h2b, atI_nat (j := 1) rfl, _, _, rfl, rfl, .ref s1, rfl, s1, _, _, _, rfl, rfl, h1b, atI_nat (j := 2) rfl, .ref s2, rfl, s2, _, _, _, rfl, rfl, h2b, atI_nat (j := 2) rfl, _, _, rfl, rfl, .int tk, rfl, _, _, rfl, rfl, .ref D2, rfl, D2, _, rfl, sql hD, fun kk ob nkk ho => ⟨(by show 4 ≤ sizeLine; decide), fun t nt => ?_⟩⟩
        have sc : Same H3 (upd H3 kk (.frz ob (.tup (us.map V.ref)))) := same_upd nkk
        have hkk : (upd H3 kk (.frz ob (.tup (us.map V.ref)))) kk = some (.frz ob (.tup (us.map V.ref))) := upd_same
        generalize upd H3 kk (.frz ob (.tup (us.map V.ref))) = H4 at nt sc hkk ⊢
        have sd := same_upd (o := .tup [.int (rn : Int), .int (m + m2), .int (o + o2 + tk), .ref kk]) nt
        refine q _ t ((sb.trans sc).trans sd) (Same.gone (sb.trans sc) nt) (epq ⟨kk, us, upd_same, ⟨ob, sd _ _ hkk, ho⟩, ?_⟩)
        rw [take_srt nda]
        exact prt_same (prt_same hpr sc) sd
end
end Kb

namespace Kb
open PySem PySem.Spec PyProof.Rows L2 SrtZ SrtO
abbrev ssketch : Stmt := topS 55
abbrev Nsketch : List Str := ["_law_room", "_law_tree", "_law_pile", "_law_step", "_law_other", "_law_found", "_law_name"]
theorem scsketch : FnScope ["_law_room", "_law_tree", "_law_pile", "_law_step", "_law_other", "_law_found", "_law_name"] ["_law_room", "_law_tree"] (defScope ssketch) := ⟨rfl, rfl, rfl, by decide +kernel, rfl, by decide +kernel, by decide +kernel⟩
abbrev Ncounted : List Str := ["_law_tree", "_law_found", "_law_step", "_law_name"]
abbrev Dnsketch (K : PySem.W.Frag) (mg : Str → Option Value) := Dn K mg "_law_sketch" ssketch ["_law_room", "_law_tree"]
/-! data that is compared -/
theorem strOk_nm {z : Str} (h : Nm z) : PyData.strOk z = true := by
  unfold PyData.strOk
  refine Array.all_eq_true_iff_forall_mem.mpr fun c hc => ?_
  have := h.abc c (Array.mem_toList_iff.mpr hc)
  unfold nmC at this
  have h2 : (!decide (122 < c)) = true := by
    cases hx : (!decide (122 < c)) with
    | true => rfl
    | false => rw [hx] at this; simp at this
  have h3 : ¬ 122 < c := by simpa using h2
  exact decide_eq_true (by omega)
theorem lay_strs : ∀ {zs : List Str}, (∀ z ∈ zs, Nm z) → PyData.canLayAll0 (zs.map PyData.str) = true ∧ PyData.depthAll (zs.map PyData.str) = 0
  | [], _ => ⟨rfl, rfl⟩
  | z :: zs, h => by
    obtain ⟨h1, h2⟩ := lay_strs (zs := zs) fun y hy => h y (List.mem_cons_of_mem _ hy)
    constructor
    · show (PyData.strOk z && PyData.canLayAll0 (zs.map PyData.str)) = true
      rw [strOk_nm (h z List.mem_cons_self), h1]
      rfl
    · show max 0 (PyData.depthAll (zs.map PyData.str)) = 0
      rw [h2]
      rfl
theorem dp_strs {K : PySem.W.Frag} {H : Hp} : ∀ zs : List Str, DpAll K H (zs.map V.str) (zs.map PyData.str)
  | [] => .nil
  | z :: zs => .cons (.str z) (dp_strs zs)
abbrev prD (e : Str × Int) : PyData := .tuple [.str e.1, .int e.2]
abbrev ctD (ys : Ct) : PyData := .tuple (ys.map prD)
theorem dp_prs {K : PySem.W.Frag} {H : Hp} : ∀ {ts : List Addr} {ys : Ct}, Paired (PrT H) ts ys → DpAll K H (ts.map V.ref) (ys.map prD)
  | _, _, .nil => .nil
  | _, _, .cons h t => .cons (.tup (.inl (.inl h)) (.cons (.str _) (.cons (.int _) .nil))) (dp_prs t)
theorem lay_prs : ∀ {ys : Ct}, (∀ e ∈ ys, Nm e.1) → PyData.canLayAll0 (ys.map prD) = true ∧ PyData.depthAll (ys.map prD) ≤ 1
  | [], _ => ⟨rfl, Nat.zero_le _⟩
  | e :: ys, h => by
    obtain ⟨h1, h2⟩ := lay_prs (ys := ys) fun y hy => h y (List.mem_cons_of_mem _ hy)
    constructor
    · show ((PyData.strOk e.1 && (true && true)) && PyData.canLayAll0 (ys.map prD)) = true
      rw [strOk_nm (h e List.mem_cons_self), h1]
      rfl
    · show max 1 (PyData.depthAll (ys.map prD)) ≤ 1
      omega
theorem eqv_prs : ∀ ys : Ct, PyData.eqvAll (ys.map prD) (ys.map prD) = true
  | [] => rfl
  | e :: ys => by
    show (((e.1 == e.1) && ((e.2 == e.2) && true)) && PyData.eqvAll (ys.map prD) (ys.map prD)) = true
    rw [eqv_prs ys, beq_self_eq_true, beq_self_eq_true]
    rfl
theorem ct_shaped {ys : Ct} (h : ∀ e ∈ ys, Nm e.1) : SeqAt.shaped (ctD ys) = true := by
  obtain ⟨h1, h2⟩ := lay_prs h
  show (PyData.canLayAll0 (ys.map prD) && decide (PyData.depthAll (ys.map prD) + 1 ≤ 64)) = true
  rw [h1, decide_eq_true (by omega)]
  rfl
abbrev skD (r m o : Int) (ys : Ct) : PyData := .tuple [.int r, .int m, .int o, ctD ys]
theorem sk_shaped {r m o : Int} {ys : Ct} (h : ∀ e ∈ ys, Nm e.1) : SeqAt.shaped (skD r m o ys) = true := by
  obtain ⟨h1, h2⟩ := lay_prs h
  show ((true && (true && (true && (PyData.canLayAll0 (ys.map prD) && true)))) && decide (max 0 (max 0 (max 0 (max (PyData.depthAll (ys.map prD) + 1) 0))) + 1 ≤ 64)) = true
  rw [h1, decide_eq_true (by omega)]
  rfl
theorem sk_eqv (r m o : Int) (ys : Ct) : PyData.eqv (skD r m o ys) (skD r m o ys) = true := by
  show ((r == r) && ((m == m) && ((o == o) && (PyData.eqvAll (ys.map prD) (ys.map prD) && true)))) = true
  rw [eqv_prs ys, beq_self_eq_true, beq_self_eq_true, beq_self_eq_true]
  rfl
theorem dp_ct {K : PySem.W.Frag} {H : Hp} {k : Addr} {ts : List Addr} {ys : Ct} (h1 : SqT K H k (ts.map V.ref)) (h2 : Paired (PrT H) ts ys) : Dp K H (.ref k) (ctD ys) := .tup h1 (dp_prs h2)
theorem dp_sk {K : PySem.W.Frag} {H : Hp} {s : Addr} {r : Int} {x : Tl} (h : SkAt H s r x) : Dp K H (.ref s) (skD r x.m x.o (srtZ x.c)) := by
  obtain ⟨k, ts, h1, h2, h3⟩ := h
  exact .tup (.inl (.inl h1)) (.cons (.int _) (.cons (.int _) (.cons (.int _) (.cons (dp_ct h2.seq h3) .nil))))
theorem runL_lenT {r : Int} (hr : 1 ≤ r) {l : List Stp} (hn : ∀ zs, .put zs ∈ l → ∀ z ∈ zs, Nm z) : (runL r l).length = (runT r l).length := by
  have h := congrArg List.length (runTL (r := r) hr (l := l) (st := []) (st' := []) hn (fun _ h => nomatch h) (fun _ h => nomatch h) rfl)
  rw [List.length_map, List.length_map] at h
  exact h.symm
theorem rev_cons' {α : Type} (e : Addr) (pl : List Addr) : ((e :: pl).reverse.map V.ref) = pl.reverse.map V.ref ++ [V.ref e] := by rw [List.reverse_cons, List.map_append]; rfl
section
variable {P : Program} {w : World} {K : PySem.W.Frag} {mg : Str → Option Value} {base : Heap}
/-! _law_sketch -/
def spSketchL (K : PySem.W.Frag) : Sp := fun vs H Q _ => ∃ (r : Int) (a : Addr) (l : List Stp) (x : Tl), vs = [.int r, .ref a] ∧ 1 ≤ r ∧ r ≤ 64 ∧ TreeAt K H a l ∧ Tree l ∧ (∀ zs, .put zs ∈ l → ∀ z ∈ zs, Nm z) ∧ runL r l = [x] ∧
  ∀ H' s, Same H H' → SkAt H' s r x → Q (.ref s) H'
theorem ok_sketchL (T : Blt mg) (dfed : Dnfed K mg) (dpoured : Dnpoured K mg) (d : Dnsketch K mg) : FnOk P w K mg base CX0 2 d.f d.fd ["_law_room", "_law_tree"] (spSketchL K) := by
  have Gfed : FnOk P w K mg base CX0 1 dfed.f dfed.fd ["_law_sketch_here", "_law_name"] spFed := ok_fed T dfed
  have Gpoured : FnOk P w K mg base CX0 1 dpoured.f dpoured.fd ["_law_one", "_law_other"] spPouredL := ok_pouredL T dpoured
  refine d.F.ok scsketch (fun vs H Q E h => ?_) (fun cdv A outer s H vs Q E hr h => ?_)
  · obtain ⟨r, a, l, x, rfl, _⟩ := h
    rfl
  · obtain ⟨r, a, l, xe, rfl, hr1, hr2, ht, tr, hN, hrun, q⟩ := h
    refine ⟨_, (pss_cons (ps_set (i := 2) scsketch.nd rfl (Or.inl rfl) (pe_lst pa_nil))
    (pss_cons (ps_for PassesOwn.never rfl (pi_tup (pv 1)) (pg_name (i := 3) scsketch.nd rfl (Or.inl rfl))
      (pss_one (ps_if (pt_cmpR (op_eqD hr.units) (pv 3) (pe_tup (pa_cons pe_str pa_nil)) (nomark _))
        (pss_cons (ps_set (i := 4) scsketch.nd rfl (Or.inl rfl) (pe_bm0 PySem.F.plainAttrs_list PySem.F.slot_list_pop PySem.F.type_list_pop mt_pop (pv 2)))
        (pss_one (ps_expr (pe_bm PySem.F.plainAttrs_list PySem.F.slot_list_append PySem.F.type_list_append mt_append (pv 2) (pa_cons (pe_call Gpoured (hr.mono (by omega)) (by rfl) dpoured.g dpoured.F.kp dpoured.b .nil pass0 (pa_cons (pe_bm0 PySem.F.plainAttrs_list PySem.F.slot_list_pop PySem.F.type_list_pop mt_pop (pv 2)) (pa_cons (pv 4) pa_nil))) pa_nil)))))
        (pss_cons (ps_set (i := 5) scsketch.nd rfl (Or.inl rfl) (pe_tup (pa_cons (pv 0) (pa_cons pe_int (pa_cons pe_int (pa_cons (pe_tupF pa_nil) pa_nil))))))
        (pss_cons (ps_for PassesOwn.never rfl (pi_tup (pe_ix ix_tup (pv 3) pe_int (fun _ _ => rfl))) (pg_name (i := 6) scsketch.nd rfl (Or.inl rfl))
          (pss_one (ps_set (i := 5) scsketch.nd rfl (Or.inl rfl) (pe_call Gfed (hr.mono (by omega)) (by rfl) dfed.g dfed.F.kp dfed.b .nil pass0 (pa_cons (pv 5) (pa_cons (pv 6) pa_nil))))))
        (pss_one (ps_expr (pe_bm PySem.F.plainAttrs_list PySem.F.slot_list_append PySem.F.type_list_append mt_append (pv 2) (pa_cons (pv 5) pa_nil)))))))))
    (pss_one (ps_ret (pe_ix ix_list (pv 2) pe_int (fun _ _ => rfl)))))), ?_⟩
    refine ⟨(by show 0 ≤ sizeLine; decide), fun p np => ?_⟩
    obtain ⟨vs, hS, hp⟩ := ht
    have hl : vs.length = l.length := Paired.length hp
    have s2 : Same H (upd H p (.lst [])) := same_upd np
    refine ⟨.ref a, rfl, a, rfl, ⟨_, seqT hS s2⟩, for_tup (xs := vs) (fun i σ H3 => ∃ (pl : List Addr) (y3 y4 y5 y6 : Option V), σ = [some (.int r), some (.ref a), some (.ref p), y3, y4, y5, y6] ∧ Same H H3 ∧ H3 p = some (.lst (pl.reverse.map V.ref)) ∧ Paired (fun s x => SkAt H3 s r x) pl (runL r (l.take i)))
      ⟨[], none, none, none, none, rfl, s2, upd_same, .nil⟩ (fun i σ H3 _ ⟨_, _, _, _, _, _, s3, _⟩ => seqT hS s3) ?_ ?_⟩
    · rintro i v σ H3 hi ⟨pl, y3, y4, y5, y6, rfl, s3, hpl, hst⟩
      obtain ⟨st, hsti, hat⟩ := paired_at hp hi
      have hat3 := hat.same s3
      have snoc := runL_snoc (r := r) hsti
      have hNi : ∀ zs, .put zs ∈ l.take i → ∀ z ∈ zs, Nm z := fun zs hz => hN zs (List.mem_of_mem_take hz)
      have okL : ∀ x ∈ runL r (l.take i), TlOk r x := runL_ok hr1 hNi (fun _ h => nomatch h)
      have pll : pl.length = (runL r (l.take i)).length := Paired.length hst
      have hlenT := runL_lenT (r := r) hr1 hNi
      have hii : i < l.length := (List.getElem?_eq_some_iff.mp hsti).1
      have hrl := run_len (r := r) tr.two i (by omega)
      have hsmall : (runL r (l.take i)).length ≤ 5000 := by
        rw [hlenT]
        have := run_short (r := r) (l.take i)
        rw [List.length_take] at this
        have := tr.len
        omega
      have fin : ∀ (H6 : Hp) (e6 : Addr) (rest : List Addr) (R : List Tl) (x6 : Tl) (y3 y4 y5 y6 : Option V), Same H H6 → H6 p = some (.lst (rest.reverse.map V.ref)) → Paired (fun s x => SkAt H6 s r x) rest R → SkAt H6 e6 r x6 → stepL r (runL r (l.take i)) st = x6 :: R →
          ∃ (pl : List Addr) (z3 z4 z5 z6 : Option V), ([some (.int r), some (.ref a), some (.ref p), y3, y4, y5, y6] : L2.St) = [some (.int r), some (.ref a), some (.ref p), z3, z4, z5, z6] ∧ Same H (upd H6 p (.lst (rest.reverse.map V.ref ++ [.ref e6]))) ∧ (upd H6 p (.lst (rest.reverse.map V.ref ++ [.ref e6]))) p = some (.lst (pl.reverse.map V.ref)) ∧ Paired (fun s x => SkAt (upd H6 p (.lst (rest.reverse.map V.ref ++ [.ref e6]))) s r x) pl (runL r (l.take (i + 1))) := fun H6 e6 rest R x6 y3 y4 y5 y6 s6 hp6 hR h6 hst => by
        have keep : ∀ {s : Addr} {x : Tl}, SkAt H6 s r x → SkAt (upd H6 p (.lst (rest.reverse.map V.ref ++ [.ref e6]))) s r x := fun {s x} h => by
          obtain ⟨k, ts, g1, ⟨ob, g2, g3⟩, g4⟩ := h
          refine ⟨k, ts, by rw [upd_ne (ne_of g1 hp6 (by intro z; cases z))]; exact g1, ⟨ob, by rw [upd_ne (ne_of g2 hp6 (by intro z; cases z))]; exact g2, g3⟩, paired_imp (fun t e ht => ?_) g4⟩
          show _ = _
          rw [upd_ne (ne_of ht hp6 (by intro z; cases z))]
          exact ht
        refine ⟨e6 :: rest, y3, y4, y5, y6, rfl, Same.put s6 np, by rw [upd_same, rev_cons' (α := Unit)], ?_⟩
        rw [snoc, hst]
        exact .cons (keep h6) (paired_imp (fun s x h => keep h) hR)
      have keepP : ∀ {H4 : Hp} {xs : List V} {u : HO} {s : Addr} {x : Tl}, H4 p = some (.lst xs) → SkAt H4 s r x → SkAt (upd H4 p u) s r x := fun {H4 xs u s x} hp4 h => by
        obtain ⟨k, ts, g1, ⟨ob, g2, g3⟩, g4⟩ := h
        refine ⟨k, ts, by rw [upd_ne (ne_of g1 hp4 (by intro z; cases z))]; exact g1, ⟨ob, by rw [upd_ne (ne_of g2 hp4 (by intro z; cases z))]; exact g2, g3⟩, paired_imp (fun t e ht => ?_) g4⟩
        show _ = _
        rw [upd_ne (ne_of ht hp4 (by intro z; cases z))]
        exact ht
      cases st with
      | pour =>
        obtain ⟨b, rfl, h1⟩ := hat3
        refine ⟨.ref b, rfl, (by show 1 ≤ sizeLine; decide), fun tq nq => ⟨.tuple [.str (Str.ofString "pour")], .tuple [.str (Str.ofString "pour")], .tup (seqT h1 (same_upd nq)) (.cons (.str _) .nil), .tup (.inl (.inl upd_same)) (.cons (.str _) .nil), (by decide +kernel), (by decide +kernel), true, congrArg V.bl (by decide +kernel), iteT ?_⟩⟩
        have sq : Same H3 (upd H3 tq (.tup [.str (Str.ofString "pour")])) := same_upd nq
        generalize upd H3 tq (.tup [.str (Str.ofString "pour")]) = H3' at sq
        have s3' := s3.trans sq
        have hpl' := sq _ _ hpl
        have hst' : Paired (fun s x => SkAt H3' s r x) pl (runL r (l.take i)) := paired_imp (fun s x h => h.same sq) hst
        have h2 := tr.two i hsti
        rw [← hrl, ← hlenT] at h2
        generalize hgen : runL r (l.take i) = R at hst' snoc okL pll hsmall h2 fin
        match pl, R, hst', okL, h2, hsmall, fin with
        | [], [], _, _, h2, _, _ => exact absurd h2 (by have : ((0 : Nat) : Int) = _ := rfl; show ¬ (2 : Int) ≤ ((0 : Nat) : Int); decide)
        | [_], [_], _, _, h2, _, _ => exact absurd h2 (by show ¬ (2 : Int) ≤ ((1 : Nat) : Int); decide)
        | e1 :: e2 :: pl, x1 :: x2 :: R, .cons hs1 (.cons hs2 hst), okL, _, hsmall, fin =>
          rw [rev_cons' (α := Unit)] at hpl'
          refine ⟨.ref p, rfl, .inl ⟨rfl, _, sql hpl'⟩, p, _, .ref e1, rfl, rfl, hpl', by simp, ?_⟩
          rw [List.dropLast_concat, rev_cons' (α := Unit)]
          have a1 := keepP hpl' hs1 (u := .lst (pl.reverse.map V.ref ++ [V.ref e2]))
          have a2 := keepP hpl' hs2 (u := .lst (pl.reverse.map V.ref ++ [V.ref e2]))
          have aR : Paired (fun s x => SkAt (upd H3' p (.lst (pl.reverse.map V.ref ++ [V.ref e2]))) s r x) pl R := paired_imp (fun s x h => keepP hpl' h) hst
          have hp4 : (upd H3' p (.lst (pl.reverse.map V.ref ++ [V.ref e2]))) p = some (.lst (pl.reverse.map V.ref ++ [V.ref e2])) := upd_same
          have s4 : Same H (upd H3' p (.lst (pl.reverse.map V.ref ++ [V.ref e2]))) := Same.put s3' np
          generalize upd H3' p (.lst (pl.reverse.map V.ref ++ [V.ref e2])) = H4 at a1 a2 aR hp4 s4 ⊢
          refine ⟨.ref p, rfl, .inl ⟨rfl, _, sql hp4⟩, .ref p, rfl, .inl ⟨rfl, _, sql hp4⟩, p, _, .ref e2, rfl, rfl, hp4, by simp, ?_⟩
          rw [List.dropLast_concat]
          have b1 := keepP hp4 a1 (u := .lst (pl.reverse.map V.ref))
          have b2 := keepP hp4 a2 (u := .lst (pl.reverse.map V.ref))
          have bR : Paired (fun s x => SkAt (upd H4 p (.lst (pl.reverse.map V.ref))) s r x) pl R := paired_imp (fun s x h => keepP hp4 h) aR
          have hp5 : (upd H4 p (.lst (pl.reverse.map V.ref))) p = some (.lst (pl.reverse.map V.ref)) := upd_same
          have s5 : Same H (upd H4 p (.lst (pl.reverse.map V.ref))) := Same.put s4 np
          generalize upd H4 p (.lst (pl.reverse.map V.ref)) = H5 at b1 b2 bR hp5 s5 ⊢
          have o1 := okL x1 List.mem_cons_self
          have o2 := okL x2 (List.mem_cons_of_mem _ List.mem_cons_self)
          refine ⟨.ref e1, rfl, e2, e1, r, x2, x1, rfl, b2, b1, o2, o1, hr1, hr2, fun H6 e6 s6 ne6 st6 => ?_⟩
          have hp6 := s6 _ _ hp5
          have hs' : R.length + 2 ≤ 5000 := hsmall
          have pl2 := Paired.length hst
          refine ⟨p, _, _, rfl, rfl, hp6, (by rw [List.length_map, List.length_reverse, sizeLine_eq]; omega), ?_⟩
          exact fin _ _ _ _ _ _ _ _ _ (s5.trans s6) hp6 (paired_imp (fun s x h => h.same s6) bR) st6 rfl
      | put zs =>
        have hNz := hN zs (List.mem_of_getElem? hsti)
        obtain ⟨b, t, rfl, h1, h2, _, hzl⟩ := hat3
        obtain ⟨lz1, lz2⟩ := lay_strs hNz
        refine ⟨.ref b, rfl, (by show 1 ≤ sizeLine; decide), fun tq nq => ⟨.tuple [.str (Str.ofString "stream"), .tuple (zs.map PyData.str)], .tuple [.str (Str.ofString "pour")], .tup (seqT h1 (same_upd nq)) (.cons (.str _) (.cons (.tup (seqT h2 (same_upd nq)) (dp_strs zs)) .nil)), .tup (.inl (.inl upd_same)) (.cons (.str _) .nil), ?_, (by decide +kernel), false, ?_, iteF ?_⟩⟩
        · show ((PyData.strOk (Str.ofString "stream") && (PyData.canLayAll0 (zs.map PyData.str) && true)) && decide (max 0 (max (PyData.depthAll (zs.map PyData.str) + 1) 0) + 1 ≤ 64)) = true
          rw [lz1, lz2, show PyData.strOk (Str.ofString "stream") = true by decide +kernel]
          rfl
        · refine congrArg V.bl ?_
          show ((Str.ofString "stream" == Str.ofString "pour") && PyData.eqvAll [.tuple (zs.map PyData.str)] []) = false
          rw [show (Str.ofString "stream" == Str.ofString "pour") = false by decide +kernel]
          rfl
        have sq : Same H3 (upd H3 tq (.tup [.str (Str.ofString "pour")])) := same_upd nq
        generalize upd H3 tq (.tup [.str (Str.ofString "pour")]) = H3' at sq
        refine ⟨.int r, rfl, (by show 0 ≤ sizeLine; decide), fun k0 ob nk0 ho => ⟨(by show 4 ≤ sizeLine; decide), fun st0 nst0 => ?_⟩⟩
        have s4 : Same H3 (upd (upd H3' k0 (.frz ob (.tup []))) st0 (.tup [.int r, .int 0, .int 0, .ref k0])) := Same.new (Same.new sq nk0) nst0
        have sta0 : SkAt (upd (upd H3' k0 (.frz ob (.tup []))) st0 (.tup [.int r, .int 0, .int 0, .ref k0])) st0 r tl0 := ⟨k0, [], upd_same, ⟨ob, by rw [upd_ne (ne_of_none upd_same nst0)]; exact upd_same, ho⟩, by rw [show srtZ tl0.c = [] from (srtZ_perm _).eq_nil]; exact .nil⟩
        generalize upd (upd H3' k0 (.frz ob (.tup []))) st0 (.tup [.int r, .int 0, .int 0, .ref k0]) = H4 at s4 sta0 ⊢
        refine ⟨.ref b, rfl, b, _, _, _, rfl, rfl, seqT h1 s4, atI_nat (j := 1) rfl, t, rfl, ⟨_, seqT h2 s4⟩, for_tup (xs := zs.map V.str) (fun j σ H6 => ∃ (st6 : Addr) (z6 : Option V), σ = [some (.int r), some (.ref a), some (.ref p), some (.ref b), y4, some (.ref st6), z6] ∧ Same H3 H6 ∧ SkAt H6 st6 r (feedsT r (zs.take j) tl0) ∧ TlOk r (feedsT r (zs.take j) tl0)) ⟨st0, y6, rfl, s4, sta0, tl0_ok hr1⟩ (fun j σ H6 _ ⟨_, _, _, s6, _⟩ => seqT h2 s6) ?_ ?_⟩
        · rintro j v σ H6 hj ⟨st6, z6, rfl, s6, sta6, ok6⟩
          obtain ⟨z, hz, rfl⟩ := map_at hj
          have hfs := feedsT_snoc (r := r) (x := tl0) hz
          have hok7 := feedT_ok ok6 hr1 (hNz z (List.mem_of_getElem? hz)) (c := 1) (by decide)
          refine ⟨.ref st6, rfl, .str z, rfl, st6, r, z, feedsT r (zs.take j) tl0, rfl, sta6, ok6, hr1, hr2, fun H7 st7 s7 _ sta7 => ?_⟩
          rw [← hfs] at sta7 hok7
          exact ⟨st7, _, rfl, s6.trans s7, sta7, hok7⟩
        · rintro σ H6 ⟨st6, z6, rfl, s6, sta6, ok6⟩
          rw [List.length_map, List.take_length] at sta6
          have hp6 := s6 _ _ hpl
          refine ⟨.ref p, rfl, .inl ⟨rfl, _, sql hp6⟩, .ref st6, rfl, p, _, _, rfl, rfl, hp6, (by rw [List.length_map, List.length_reverse, sizeLine_eq]; omega), ?_⟩
          exact fin _ _ _ _ _ _ _ _ _ (s3.trans s6) hp6 (paired_imp (fun s x h => h.same s6) hst) sta6 rfl
    · rintro σ H3 ⟨pl, y3, y4, y5, y6, rfl, s3, hpl, hst⟩
      rw [hl, List.take_length, hrun] at hst
      match pl, hst with
      | [e], .cons he .nil => exact ⟨.ref p, rfl, p, _, _, _, rfl, rfl, sql hpl, atI_nat (j := 0) rfl, q H3 e s3 he⟩
/-! _law_counted -/
def spCountedL (K : PySem.W.Frag) : Sp := fun vs H Q _ => ∃ (a : Addr) (l : List Stp), vs = [.ref a] ∧ TreeAt K H a l ∧ Tree l ∧
  ∀ H' k (ts : List Addr), Same H H' → Ptp H' k (ts.map V.ref) → Paired (PrT H') ts (srtZ (cntT l)) → Q (.ref k) H'
end
end Kb

/-! own rules: a lambda handed to sorted as its key -/
namespace FlX
open PySem PySem.Spec PyProof.Rows PySem.W L2 LamX SrtZ
/-- a lambda that stands at f -/
def LamO (f : Addr) (qual : Str) (params : Arguments) (body : Expr) (scope : Scope) (c' : Addr) : HO := .ext fun h => ∃ pm ctv, h.get? f = some (kla_obj "<lambda>" qual params body scope [] pm c' ctv)
theorem LamO.mk {P : Program} {w : World} {H : Hp} {h : Heap} {f c' : Addr} {qual : Str} {params : Arguments} {body : Expr} {scope : Scope} {pm ctv : Value} (e : h.get? f = some (kla_obj "<lambda>" qual params body scope [] pm c' ctv)) :
    ObjOk P w H h f (LamO f qual params body scope c') :=
  ⟨⟨pm, ctv, e⟩, ⟨_, e⟩, fun h1 h2 ⟨b, c, q⟩ k => ⟨b, c, k _ q⟩⟩
/-- what the key does: less the second -/
structure NegSnd (params : Arguments) (bd : Expr) (scope : Scope) : Prop where
  kind : scope.kind = .function
  co : scope.isCoroutine = false
  gen : scope.isGenerator = false
  loc : scope.names.lookup ("pair" : Str) = some NameKind.local
  cell : ∀ y ∈ scope.names, y.2 ≠ NameKind.cell
  bdy : ∃ p1 p2 p3 p4 j, bd = .UnaryOp .USub (.Subscript (.Name "pair" p1) (.Constant (.int 1) j p2) p3) p4
  bind : ∀ (q : Str) (cl : List (Str × Addr)) (pm cv ctv u : Value), bindArgs (kla_fn "<lambda>" q params bd scope cl pm cv ctv) ⟨[u], []⟩ = pure [(("pair" : Str), u)]
/-- the greatest second first, alike ones in their turns -/
def fallBy {α : Type} (k : α → Int) (l : List α) : List α := l.mergeSort fun a b => decide (-(k a) ≤ -(k b))
section
variable {prog : Program} {w : World} {A : Around} {E : Value → Shared → Prop} {s : Shared}
theorem neg_snd {A' : Around} {env : Env} {t : Addr} {x : Str} {n : Int} {tx tn : Tok} {m : Str → Option Value} {p1 p2 p3 p4 : Pos} {j : Nat} {Q : Value → Shared → Prop} (hk : env.scope.kind = .function) (hl : env.kindOf "pair" = some .local)
    (hn : s.heap.Ns env.locals m) (hm : m "pair" = some (.ref t)) (ht : IsTup s.heap t #[.str x tx, .int n tn]) (q : ∀ tk tk2, Q (.int (-n) tk) { s with toks := tk2 }) :
    wpAny (model prog w) A' (eval (.UnaryOp .USub (.Subscript (.Name "pair" p1) (.Constant (.int 1) j p2) p3) p4) env) Q E s := by
  refine UnaryOp_ (Subscript_ (wpAny_Name (wpAny_loadName_local hk hl hn hm ?_)))
  refine wpAny_Constant_int ?_
  have ht' : IsTup ({ s with toks := s.toks + 1 } : Shared).heap t #[.str x tx, .int n tn] := ht
  refine subscriptTail_builtinR (x := .int n tn) (s := { s with toks := s.toks + 1 }) ht'.typeIs slot_tuple_getitem.lookup
    (getItem_tuple (j := 1) ht' (by decide) (by decide) rfl rfl ⟨rfl, ?_⟩)
  exact neg_int (q _ _)
/-- f(t) for the key f and a tuple t -/
theorem lam_call {A : Around} {f c' t : Addr} {qual x : Str} {n : Int} {tx tn : Tok} {params : Arguments} {body : Expr} {scope : Scope} {pm ctv : Value} {E : Value → Shared → Prop} (N : NegSnd params body scope) (hd : A.depth < recursionLimit) (hlim : s.heap.NoLimit)
    (ho : s.heap.get? f = some (kla_obj "<lambda>" qual params body scope [] pm c' ctv)) (hc : s.heap.CodeRec (.ref c') qual) (ht : IsTup s.heap t #[.str x tx, .int n tn]) :
    wpAny (model prog w) A (call (.ref f) [.ref t]) (KeyPure (.int (-n)) s) E s := by
  obtain ⟨p1, p2, p3, p4, j, hb⟩ := N.bdy
  refine wpAny_call (kla_callFunE hd ho rfl N.co N.gen rfl hc ?_)
  rw [N.bind]
  refine wpAny_pure (wpAny_newFunctionEnv N.cell (fun y hy => ?_) (fun h₁ hns hsb => ⟨hlim.fresh _ hsb, ?_⟩) N.kind)
  · rw [List.mem_singleton.mp hy]
    exact N.loc
  show codeAny _ _ (.expr body (envX qual scope s.heap.objs.size f (.ref c') [])) _ _
  have kp : ∀ b o, s.heap.get? b = some o → h₁.get? b = some o := fun b o e => hsb.extBut b o (Nat.ne_of_lt (Heap.lt_size e)) (Heap.get?_push_of_some _ e)
  have ht1 : IsTup h₁ t #[.str x tx, .int n tn] := by
    obtain ⟨o, e, c⟩ := ht
    exact ⟨o, kp _ _ e, c⟩
  refine kla_codeExpr ?_
  rw [hb]
  refine neg_snd (s := { s with heap := h₁, toks := s.toks + ([(("pair" : Str), Value.ref t)]).length }) N.kind N.loc hns (by simp) ht1 fun tk tk2 => ?_
  exact ⟨h₁, tk2, rfl, kp, .int _ _⟩
end
end FlX

namespace FlX
open PySem PySem.Spec PyProof.Rows PySem.W L2 LamX SrtZ
section
variable {prog : Program} {w : World} {A : Around} {E : Value → Shared → Prop} {s : Shared}
/-- what is collected of a tuple -/
theorem gather_tup {l : Addr} {vs : List Value} {Q : List Value → Shared → Prop} (hl : IsTup s.heap l vs.toArray)
    (h : Q vs { s with heap := (s.heap.push (seqObj "list" #[] 0)).update s.heap.objs.size (Obj.mapSeq (· ++ vs.toArray)) }) (hsz : vs.length ≤ sizeLine) :
    wpAny (model prog w) A (collect (.ref l)) Q E s := by
  obtain ⟨o, ho, hc, n, hd⟩ := id hl
  unfold collect
  refine wpAny_bind (wpAny_runValue (codeAny_builtin entry_proto_collect' ?_))
  refine wpAny_bind (m := newList []) (wpAny_newList (wpAny_pure ⟨Code.quiet_builtin _ (by decide +kernel), codeAny_builtin entry_list_iadd' ?_⟩))
  have hT : ({ s with heap := s.heap.push (seqObj "list" #[] 0) } : Shared).heap.get? l = some o := Heap.get?_push_of_some _ ho
  have hL : ({ s with heap := s.heap.push (seqObj "list" #[] 0) } : Shared).heap.get? s.heap.objs.size = some (seqObj "list" #[] 0) := Heap.get?_push_size _ rfl
  show wpAny (model prog w) _ (Builtin.List.listExtendWith (.ref s.heap.objs.size) (.ref l) (.ref s.heap.objs.size)) _ _ { s with heap := s.heap.push (seqObj "list" #[] 0) }
  unfold Builtin.List.listExtendWith
  refine wpAny_bind (wpAny_typeOf (T := "tuple") (v := .ref l) ⟨o, hT, hc⟩ ?_)
  rw [if_pos (by simp)]
  refine wpAny_bind (listItems_at hT hd ?_)
  refine wpAny_bind (listItems_at hL rfl ?_)
  rw [if_neg (by simp)]
  refine wpAny_bind (listUpdate_at hL rfl ?_ (Nat.zero_le _) (by simp only [Array.size_append, List.size_toArray]; show 0 + vs.length ≤ _; omega))
  refine wpAny_pure ?_
  refine wpAny_bind (m := load s.heap.objs.size) (wpAny_load (get?_update_seq (Heap.get?_push_size _ rfl) _) ?_)
  have e : ((#[] : Array Value) ++ vs.toArray).toList = vs := by simp
  show wpAny _ _ (pure ((#[] : Array Value) ++ vs.toArray).toList) Q E _
  rw [e]
  exact wpAny_pure h
/-- sorted(t, key=f) of a tuple is a sort by the key of a new list -/
theorem sorted_tup {l q : Addr} {vs : List Value} {Q : Value → Shared → Prop} (hl : IsTup s.heap l vs.toArray) (hL : vs.length ≤ sizeLine)
    (body : ∀ E' : Value → Shared → Prop, wpAny (model prog w) A.in1.in1 (Builtin.«list.sort» ⟨[.ref (s.heap.objs.size + 1)], [(Str.ofString "key", .ref q)]⟩) (fun f s' => f = .done (.ret .none) ∧ Q (.ref (s.heap.objs.size + 1)) s') E' { s with heap := copyHeap s.heap vs }) :
    wpAny (model prog w) A (call (.builtin "sorted") [.ref l] [(Str.ofString "key", .ref q)]) Q E s := by
  refine call_function_entry_kw kind_sorted plain_sorted entry_sorted (ksk_s1 _ _) ?_
  unfold Builtin.«sorted»
  refine wpAny_bind (m := checkCount "sorted" 1 1 _) (wpAny_pure ?_)
  refine wpAny_bind (gather_tup hl ?_ hL)
  refine wpAny_bind (wpAny_newList ?_ hL)
  have hsz : ((s.heap.push (seqObj "list" #[] 0)).update s.heap.objs.size (Obj.mapSeq (· ++ vs.toArray))).objs.size = s.heap.objs.size + 1 := by
    rw [Heap.size_update, size_push']
  rw [show (({ s with heap := (s.heap.push (seqObj "list" #[] 0)).update s.heap.objs.size (Obj.mapSeq (· ++ vs.toArray)) } : Shared).heap.objs.size) = s.heap.objs.size + 1 from hsz]
  refine wpAny_bind (wpAny_holding (wpAny_call_entry_kw slot_list_sort ⟨_, copyHeap_at s.heap vs, rfl⟩ entry_list_sort ?_ (ksk_l1 _ _)))
  refine wpAny_mono (body _) (fun f s' hf => ?_) fun _ _ e => e
  obtain ⟨rfl, hq⟩ := hf
  exact ⟨_, rfl, wpAny_pure ⟨_, rfl, hq⟩⟩
end
end FlX

namespace FlX
open PySem PySem.Spec PyProof.Rows PySem.W L2 LamX SrtZ
section
variable {prog : Program} {w : World} {A : Around} {E : Value → Shared → Prop} {s : Shared} {β : Type} {vs : List Value} {bs : List β} {R : Value → β → Prop}
/-- sorted(t, key=f) of a tuple -/
theorem sorted_key_tup {l q : Addr} {Q : Value → Shared → Prop} (k : β → PyData) (hl : IsTup s.heap l vs.toArray) (e : EachIs R vs bs) (hal : AllAlike (bs.map k)) (hk : Sortable (bs.map k)) (hL : bs.length ≤ sizeLine)
    (hu : ∀ x, x ∈ bs → A.units + 2 + (k x).depth < cLine)
    (turn : ∀ (v : Value) (x : β), R v x → x ∈ bs → ∀ (h : Heap) (tk : Nat), (∀ b o, s.heap.get? b = some o → h.get? b = some o) →
      wpAny (model prog w) A.in1.in1 (call (.ref q) [v]) (KeyPure (k x) { s with heap := h, toks := tk }) (fun _ _ => False) { s with heap := h, toks := tk })
    (h : ∀ out c h' tk, (∀ b o, s.heap.get? b = some o → h'.get? b = some o) → h'.get? (s.heap.objs.size + 1) = some (seqObj "list" (List.toArray out) c) → out.length = bs.length → EachIs R out (bs.mergeSort (dataLe false k)) →
      Q (.ref (s.heap.objs.size + 1)) { s with heap := h', toks := tk }) :
    wpAny (model prog w) A (call (.builtin "sorted") [.ref l] [(Str.ofString "key", .ref q)]) Q E s := by
  have up : ∀ {g : Heap}, KeepsBut (s.heap.objs.size + 1) (copyHeap s.heap vs) g → ∀ b o, s.heap.get? b = some o → g.get? b = some o := fun {g} kp b o z =>
    kp b o (Nat.ne_of_lt (Nat.lt_succ_of_lt (Heap.lt_size z))) (copyHeap_old z)
  have el := e.length
  refine sorted_tup hl (by omega) fun E' => ?_
  rw [ksk_t1]
  refine keyH_tree (kz := bs.map k) (s := { s with heap := copyHeap s.heap vs }) (copyHeap_at s.heap vs) (by rw [List.length_map]; exact el.symm) (by omega) hal hk (bound_map (A := A.in1.in1) hu)
    (keyH_turns (s := { s with heap := copyHeap s.heap vs }) e fun v x hR hx g tk kp => turn v x hR hx g tk (up kp)) fun h' tk out c kp hD ko => ⟨rfl, ?_⟩
  exact h out c h' tk (up kp) hD ((ko.length (by rw [List.length_map]; exact el.symm)).trans el) (keyedOut_each k ko e)
end
theorem refs_of : ∀ {ts : List Addr} {its : List Value}, Vals (ts.map V.ref) its → its = ts.map Value.ref
  | [], _, .nil => rfl
  | t :: ts, _, .cons h r => by
    have h : _ = Value.ref t := h
    rw [h, refs_of r]
    rfl
theorem eachRefs : ∀ {ts : List Addr} {kvs : List (Str × Int)}, ts.length = kvs.length → EachIs (fun (v : Value) (x : Addr × (Str × Int)) => v = .ref x.1) (ts.map Value.ref) (ts.zip kvs)
  | [], [], _ => .nil
  | t :: ts, e :: kvs, h => .cons rfl (eachRefs (by simpa using h))
theorem refs_each : ∀ {out : List Value} {xs : List (Addr × (Str × Int))}, EachIs (fun (v : Value) (x : Addr × (Str × Int)) => v = .ref x.1) out xs → out = (xs.map (·.1)).map Value.ref
  | _, _, .nil => rfl
  | _, _, .cons h t => by rw [h, refs_each t]; rfl
theorem zip_in {F : Addr → Str × Int → Prop} : ∀ {ts : List Addr} {kvs : List (Str × Int)}, Paired F ts kvs → ∀ x ∈ ts.zip kvs, F x.1 x.2
  | _, _, .nil, _, h => nomatch h
  | _, _, .cons h t, x, hx => by
    rcases List.mem_cons.mp hx with rfl | hx
    · exact h
    · exact zip_in t x hx
theorem paired_maps {F : Addr → Str × Int → Prop} : ∀ {xs : List (Addr × (Str × Int))}, (∀ x ∈ xs, F x.1 x.2) → Paired F (xs.map (·.1)) (xs.map (·.2))
  | [], _ => .nil
  | x :: xs, h => .cons (h x List.mem_cons_self) (paired_maps fun y hy => h y (List.mem_cons_of_mem _ hy))
theorem zip_snd {α β : Type} : ∀ {ts : List α} {kvs : List β}, ts.length = kvs.length → (ts.zip kvs).map (·.2) = kvs
  | [], [], _ => rfl
  | t :: ts, e :: kvs, h => congrArg (List.cons e) (zip_snd (by simpa using h))
section
variable {X : Cx}
/-- sorted(t, key=lambda pair: -pair[1]), t a tuple of pairs (text, int) -/
def rSortFall (K : PySem.W.Frag) (qual : Str) (params : Arguments) (body : Expr) (scope : Scope) : List V → List V → Hp → VK → Prop := fun vs zs H Q => ∃ (t f c' : Addr) (ts : List Addr) (kvs : List (Str × Int)), vs = [V.ref t] ∧ zs = [V.ref f] ∧ SqT K H t (ts.map V.ref) ∧
  Paired (fun (t : Addr) (e : Str × Int) => SqT K H t [.str e.1, .int e.2]) ts kvs ∧ H f = some (LamO f qual params body scope c') ∧ H c' = some (CodeO c' qual) ∧
  ∀ (p : Addr) (us : List Addr), H p = none → Paired (fun (t : Addr) (e : Str × Int) => SqT K H t [.str e.1, .int e.2]) us (fallBy (·.2) kvs) → Q (.ref p) (upd H p (.lst (us.map V.ref)))
theorem cr_sortFall {qual : Str} {params : Arguments} {body : Expr} {scope : Scope} {k : Nat} (N : NegSnd params body scope) (hr : Room k X.A) : CallRK X (.builtin "sorted") [Str.ofString "key"] (rSortFall X.K qual params body scope) := by
  intro pins s σ H vs zs us ws Q I r rz h
  obtain ⟨t, f, c', ts, kvs, rfl, rfl, ht, hp, hf, hc, q⟩ := h
  obtain rfl := Vals.ref1 r
  obtain rfl := Vals.ref1 rz
  obtain ⟨its, rv, hT, hz⟩ := I.tuple ht
  obtain rfl := refs_of rv
  have hl := Paired.length hp
  rw [List.length_map] at hz
  have hbl : (ts.zip kvs).length = ts.length := by rw [List.length_zip]; omega
  have hlim := I.nolimit
  have en : dataLe false (fun x : Addr × (Str × Int) => PyData.int (-x.2.2)) = fun a b => decide (-(a.2.2) ≤ -(b.2.2)) := dataLe_int (fun x : Addr × (Str × Int) => -x.2.2)
  refine sorted_key_tup (R := fun (v : Value) (x : Addr × (Str × Int)) => v = .ref x.1) (bs := ts.zip kvs) (fun x => PyData.int (-x.2.2)) hT (eachRefs hl) ?_ ?_ (by omega) (fun x hx => ?_) (fun v x hv hx g tk kp => ?_) fun out c h' tk kp hD hlen ho => ?_
  · intro d hd d' hd'
    obtain ⟨_, _, rfl⟩ := List.mem_map.mp hd
    obtain ⟨_, _, rfl⟩ := List.mem_map.mp hd'
    rfl
  · refine .inr fun d hd => ?_
    obtain ⟨_, _, rfl⟩ := List.mem_map.mp hd
    exact ⟨(fun z => nomatch z), fun xs z => nomatch z⟩
  · have h1 := hr.un
    show X.A.units + 2 + 0 < cLine
    omega
  · subst hv
    obtain ⟨i2, r2, T2, _⟩ := I.tuple (zip_in hp x hx)
    obtain ⟨u1, u2, rfl, ri, rj⟩ := vals2 r2
    obtain ⟨t1, rfl⟩ := ri
    obtain ⟨t2, rfl⟩ := rj
    obtain ⟨⟨pm, ctv, hfo⟩, _, _⟩ := I.hok f _ hf
    obtain ⟨⟨oc, vs, tq, h1, h2, h3⟩, _, _⟩ := I.hok c' _ hc
    obtain ⟨o, e1, e2⟩ := T2
    have hd : X.A.in1.in1.depth < recursionLimit := hr.depth
    exact lam_call (s := { s with heap := g, toks := tk }) N hd (hlim.keeps kp) (kp _ _ hfo) ⟨c', oc, vs, tq, rfl, kp _ _ h1, h2, h3⟩ (t := x.1) ⟨o, kp _ _ e1, e2⟩
  · rw [en] at ho
    obtain rfl := refs_each ho
    have hn : H (s.heap.objs.size + 1) = none := I.hok.fresh (Nat.le_succ _)
    generalize hbs : (ts.zip kvs).mergeSort (fun a b => decide (-(a.2.2) ≤ -(b.2.2))) = sx at hD hlen
    have pm : sx.Perm (ts.zip kvs) := by rw [← hbs]; exact List.mergeSort_perm _ _
    have hsn : sx.map (·.2) = fallBy (·.2) kvs := by
      rw [← hbs, sort_maps (s := fun a b : Str × Int => decide (-(a.2) ≤ -(b.2))) Prod.snd (fun _ _ _ _ => rfl), zip_snd hl]
      rfl
    refine ⟨.ref _, upd H (s.heap.objs.size + 1) (.lst ((sx.map (·.1)).map V.ref)), I.laid (t' := tk) kp (Nat.le_succ _) ⟨?_, _, c, LiI.vals_refs _, hD⟩, rfl, q _ _ hn ?_⟩
    · rw [List.length_map, List.length_map, pm.length_eq]
      omega
    · rw [← hsn]
      exact paired_maps fun x hx => zip_in hp x (pm.mem_iff.mp hx)
end
end FlX

namespace FlX
open PySem PySem.Spec PyProof.Rows PySem.W L2 LamX SrtZ
theorem tabS_new {H : Hp} {P p : Addr} {q : Str} {o : HO} (h : TabS H P q) (n : H p = none) : TabS (upd H p o) P q := h.ext fun b u e => by rw [upd_ne (ne_of_none e n)]; exact e
/-- all but the table stays, and the table is well -/
structure ExT (P : Addr) (q : Str) (H H' : Hp) : Prop where
  tab : TabS H' P q
  keep : ∀ b o, b ≠ P → H b = some o → H' b = some o
section
variable {P : Addr} {q : Str} {H H1 H2 : Hp}
theorem tab_no {b : Addr} {o : HO} (T : TabS H P q) (e : H b = some o) (n : ∀ ps, o ≠ .tbl ps) : b ≠ P := fun z => by
  obtain ⟨ps, h, _⟩ := T
  rw [z, h] at e
  exact n ps (Option.some.inj e).symm
theorem ExT.refl (T : TabS H P q) : ExT P q H H := ⟨T, fun _ _ _ e => e⟩
theorem ExT.trans (a : ExT P q H H1) (b : ExT P q H1 H2) : ExT P q H H2 := ⟨b.tab, fun c o n e => b.keep c o n (a.keep c o n e)⟩
theorem tabS_same (T : TabS H P q) (s : Same H H1) : TabS H1 P q := T.ext s
theorem Same.exT (s : Same H H1) (T : TabS H P q) : ExT P q H H1 := ⟨tabS_same T s, fun b o _ e => s b o e⟩
theorem ExT.same (a : ExT P q H H1) (s : Same H1 H2) : ExT P q H H2 := ⟨tabS_same a.tab s, fun b o n e => s b o (a.keep b o n e)⟩
theorem ExT.new {p : Addr} {o : HO} (a : ExT P q H H1) (n : H1 p = none) : ExT P q H (upd H1 p o) := a.same fun b u e => by rw [upd_ne (ne_of_none e n)]; exact e
theorem ExT.at {b : Addr} {o : HO} (a : ExT P q H H1) (T : TabS H P q) (e : H b = some o) (n : ∀ ps, o ≠ .tbl ps) : H1 b = some o := a.keep b o (tab_no T e n) e
theorem ExT.ne {p : Addr} (a : ExT P q H H1) (n : H1 p = none) : p ≠ P := fun z => by
  obtain ⟨ps, h, _⟩ := a.tab
  rw [z, h] at n
  cases n
theorem ExT.gone {p : Addr} (a : ExT P q H H1) (n : H1 p = none) : H p = none := by
  cases h : H p with
  | none => rfl
  | some o =>
    rw [a.keep p o (a.ne n) h] at n
    cases n
/-- what was new is stored anew -/
theorem ExT.put {p : Addr} {o : HO} (a : ExT P q H H1) (n : H p = none) (np : p ≠ P) (nc : ∀ cq, H1 p ≠ some (CodeO p cq)) : ExT P q H (upd H1 p o) := by
  refine ⟨?_, fun b u nb e => ?_⟩
  · obtain ⟨ps, h1, h2, h3⟩ := a.tab
    refine ⟨ps, by rw [upd_ne np.symm]; exact h1, h2, fun pos cv hc => ?_⟩
    obtain ⟨c, e1, e2⟩ := h3 pos cv hc
    refine ⟨c, e1, ?_⟩
    have : c ≠ p := fun z => by
      subst z
      exact nc q e2
    rw [upd_ne this]
    exact e2
  · rw [upd_ne (ne_of_none e n)]
    exact a.keep b u nb e
theorem ExT.tup {K : PySem.W.Frag} {b : Addr} {xs : List V} (a : ExT P q H H1) (T : TabS H P q) (h : SqT K H b xs) : SqT K H1 b xs := by
  rcases h with (h | ⟨o, h⟩) | h
  · exact .inl (.inl (a.at T h (fun ps z => nomatch z)))
  · exact .inl (.inr ⟨o, a.at T h (fun ps z => nomatch z)⟩)
  · exact .inr h
theorem ExT.tups {K : PySem.W.Frag} {ts : List Addr} {kvs : List (Str × Int)} (a : ExT P q H H1) (T : TabS H P q) (h : Paired (fun (t : Addr) (e : Str × Int) => SqT K H t [.str e.1, .int e.2]) ts kvs) : Paired (fun (t : Addr) (e : Str × Int) => SqT K H1 t [.str e.1, .int e.2]) ts kvs :=
  L2.Paired.mapP h fun _ _ k => a.tup T k
end
section
variable {X : Cx} {pins : List (Addr × Obj)} {σ : L2.St} {H : Hp} {s : Shared}
theorem exT_of {H : Hp} {P c : Addr} {o : HO} {ps qs : Array Value} (nc : H c = none) : ∀ b u, b ≠ P → H b = some u → (upd (upd H P (.tbl qs)) c o) b = some u := fun b u n e => by
  rw [upd_ne (ne_of_none e nc), upd_ne n]
  exact e
/-- a lambda is made, and tracked -/
theorem lam_new {c P : Addr} {params : Arguments} {body : Expr} {scope : Scope} {pos : Pos} {q : Str} {E : Value → Shared → Prop} {Q : VK} (I : Inv X pins σ H s) (TB : TabB X.base X.mg c P) (hcode : X.env.code = .ref c) (hT : TabS H P q) (hq : X.env.qual ++ "<lambda>" = q)
    (hdef : defaultsOf params X.env = ([], [])) (hfree : ∀ y ∈ scope.names, y.2 = .free → ∃ c, X.env.cells.lookup y.1 = some c) (hclo : cloFrom X.env.cells scope.names [] = [])
    (h : ∀ (f c' : Addr) (H1 : Hp), ExT P q H H1 → H f = none → H1 f = some (LamO f q params body scope c') → H1 c' = some (CodeO c' q) → Q (.ref f) H1) :
    wpAny (model X.prog X.w) X.A (eval (.Lambda params body scope pos) X.env) (EP X pins σ Q) E s := by
  subst hq
  have T0 := hT
  obtain ⟨ps, hP, ht, ha⟩ := hT
  have hP0 : s.heap.get? P = some { cls := .none, data := .fields ps } := I.hok P _ hP
  have hb0 : s.heap.BuiltinsAt X.mg P := TB.bm.keeps I.bk
  refine kla_eval hdef ?_
  -- what follows once the function stands at the heap's end
  have fin : ∀ (h' : Heap) (tk : Nat) (c' : Addr) (ctv : Value) (H1 : Hp), Inv X pins σ H1 { s with heap := h', toks := tk } → s.heap.objs.size ≤ h'.objs.size → ExT P (X.env.qual ++ "<lambda>") H H1 → H1 c' = some (CodeO c' (X.env.qual ++ "<lambda>")) →
      EP X pins σ Q (.ref h'.objs.size) { s with heap := h'.push (kla_obj "<lambda>" (X.env.qual ++ "<lambda>") params body scope (cloFrom X.env.cells scope.names []) ((X.mg "__name__").getD .none) c' ctv), toks := tk } := by
    intro h' tk c' ctv H1 I1 hsz eN hc'
    rw [hclo]
    have hn : H1 h'.objs.size = none := I1.hok.fresh (Nat.le_refl _)
    have ne : c' ≠ h'.objs.size := ne_of_none hc' hn
    refine ⟨.ref h'.objs.size, upd H1 h'.objs.size (LamO h'.objs.size (X.env.qual ++ "<lambda>") params body scope c'), ?_, rfl, h _ c' _ (eN.new hn) (I.hok.fresh hsz) upd_same (by rw [upd_ne ne]; exact hc')⟩
    exact I1.laid (t' := tk) (fun b o e => Heap.get?_push_of_some _ e) (Nat.le_refl _) (LamO.mk (Heap.get?_push_size _ rfl))
  cases hc : codeAmong pos ps.toList with
  | some cv =>
    obtain ⟨c', rfl, hco⟩ := ha pos cv hc
    refine kla_makeFunctionHit (closure_ok hfree) I.ok.glob (I.mod.glob.keeps I.bk) hcode (TB.code.keeps I.bk) hP0 ht hc hb0 fun ctv h' tk hx hsz => ?_
    exact fin h' tk c' ctv H (I.kept hx) hsz (.refl T0) hco
  | none =>
    refine kla_makeFunction (closure_ok hfree) I.ok.glob (I.mod.glob.keeps I.bk) hcode (TB.code.keeps I.bk) hP0 ht hc TB.gP hb0 fun c' ctv h' tk hx hge hlt hrec htb => ?_
    obtain ⟨c2, oc, vs, t, e2, hoc, hd, hv⟩ := hrec
    cases e2
    have nc : H c' = none := I.hok.fresh hge
    have I1 := inv_table (t' := tk) (more := #[rawInt pos.line, rawInt pos.col, .ref c']) I hP hx htb hge ⟨oc, vs, t, hoc, hd, hv⟩
    have eN : ∀ b u, b ≠ P → H b = some u → (upd (upd H P (.tbl (ps ++ #[rawInt pos.line, rawInt pos.col, .ref c']))) c' (CodeO c' (X.env.qual ++ "<lambda>"))) b = some u := exT_of (ps := ps) nc
    refine fin h' tk c' ctv _ I1 (Nat.le_trans hge (Nat.le_of_lt hlt)) ⟨⟨_, by rw [upd_ne (ne_of_none hP nc), upd_same], ?_, fun p' cv hcv => ?_⟩, eN⟩ upd_same
    · simp only [Array.toList_append]
      exact PySem.TriplesOk_snoc _ _ _ _ ht
    · simp only [Array.toList_append] at hcv
      rcases among_app _ ht hcv with z | z
      · obtain ⟨c0, e1, e2⟩ := ha p' cv z
        exact ⟨c0, e1, eN _ _ (tab_no T0 e2 codeO_ne) e2⟩
      · exact ⟨c', z, upd_same⟩
/-- what the making of a lambda asks of the maker -/
structure LamOk (X : Cx) (c P : Addr) (q : Str) (params : Arguments) (scope : Scope) : Prop where
  tb : TabB X.base X.mg c P
  code : X.env.code = .ref c
  qual : X.env.qual ++ "<lambda>" = q
  dflt : defaultsOf params X.env = ([], [])
  free : ∀ y ∈ scope.names, y.2 ≠ .free
  clo : cloFrom X.env.cells scope.names [] = []
def tLamV (P : Addr) (q : Str) (params : Arguments) (body : Expr) (scope : Scope) : TE := fun _ H Q => TabS H P q ∧ ∀ (f c' : Addr) (H1 : Hp), ExT P q H H1 → H f = none → H1 f = some (LamO f q params body scope c') → H1 c' = some (CodeO c' q) → Q (.ref f) H1
theorem pe_lam {c P : Addr} {q : Str} {params : Arguments} {body : Expr} {scope : Scope} {pos : Pos} (L : LamOk X c P q params scope) : PE X (.Lambda params body scope pos) (tLamV P q params body scope) :=
  ⟨fun pins s σ H Q I h => lam_new I L.tb L.code h.1 L.qual L.dflt (fun y hy e => absurd e (L.free y hy)) L.clo fun f c' H1 => h.2 f c' H1⟩
/-- sorted(t, key=lambda pair: -pair[1]) -/
def tFall (K : PySem.W.Frag) (P : Addr) (q : Str) (params : Arguments) (body : Expr) (scope : Scope) (t : TA) : TE := tCKw (rSortFall K q params body scope) t (tCons (tLamV P q params body scope) tNil)
theorem pe_fall {c P : Addr} {q : Str} {params : Arguments} {body : Expr} {scope : Scope} {k : Nat} {e : Expr} {t : TA} {p lpos kpos pos : Pos} (N : NegSnd params body scope) (L : LamOk X c P q params scope) (hr : Room k X.A) (hg : Gl X "sorted") (hm : X.mg "sorted" = none) (ha : PA X [e] t)
    (h1 : backTo pos (starEach [e] X.env) = (false, eval e X.env) :: backTo pos (starEach [] X.env) := by rfl) (h2 : (backTo pos (starEach [e] X.env)).any (·.1) = false := by rfl) :
    PE X (.Call (.Name "sorted" p) [e] [⟨some "key", .Lambda params body scope lpos, kpos⟩] pos) (tFall X.K P q params body scope t) :=
  pe_callBK (p := p) (pos := pos) (cr_sortFall (X := X) (qual := q) N hr) hg hm (by decide +kernel) ha (pk_cons (nm := some "key") (kpos := kpos) (pe_lam (body := body) (pos := lpos) L) pk_nil) (he := h1) (hpl := h2)
theorem sqT_new {K : PySem.W.Frag} {H : Hp} {t p : Addr} {xs : List V} {o : HO} (h : SqT K H t xs) (n : H p = none) : SqT K (upd H p o) t xs := by
  rcases h with (h | ⟨u, h⟩) | h
  · exact .inl (.inl (by rw [upd_ne (ne_of_none h n)]; exact h))
  · exact .inl (.inr ⟨u, by rw [upd_ne (ne_of_none h n)]; exact h⟩)
  · exact .inr h
/-- its reading -/
theorem rd_fall {K : PySem.W.Frag} {P : Addr} {q : Str} {params : Arguments} {body : Expr} {scope : Scope} {σ : L2.St} {H : Hp} {i : Nat} {a : Addr} {ts : List Addr} {kvs : List (Str × Int)} {Q : VK} (h0 : σ[i]? = some (some (.ref a))) (ht : SqT K H a (ts.map V.ref))
    (hp : Paired (fun (t : Addr) (e : Str × Int) => SqT K H t [.str e.1, .int e.2]) ts kvs) (T : TabS H P q)
    (k : ∀ (H2 : Hp) (p : Addr) (us : List Addr), ExT P q H H2 → H p = none → H2 p = some (.lst (us.map V.ref)) → Paired (fun (t : Addr) (e : Str × Int) => SqT K H2 t [.str e.1, .int e.2]) us (fallBy (·.2) kvs) → Q (.ref p) H2) :
    tFall K P q params body scope (tCons (tVar i) tNil) σ H Q := by
  refine ⟨.ref a, h0, T, fun f c' H2 eN nf hf hc => ⟨a, f, c', ts, kvs, rfl, rfl, eN.tup T ht, eN.tups T hp, hf, hc, fun p us np hus => ?_⟩⟩
  exact k _ p us (eN.new np) (eN.gone np) upd_same (L2.Paired.mapP hus fun _ _ h => sqT_new h np)
end
end FlX

namespace Kb
/-! the mathematics of ends: lists of kept counts, the greatest first, what was taken of each, and fresh counts -/
def mnI (off S : Int) : Int := if S < off then S else off
theorem mnI_le {off S : Int} : mnI off S ≤ off ∧ mnI off S ≤ S := by unfold mnI; split <;> omega
theorem mnI_nn {off S : Int} (h : 0 ≤ off) (k : 0 ≤ S) : 0 ≤ mnI off S := by unfold mnI; split <;> omega
/-- falling -/
def Fall (L : List Int) : Prop := L.Pairwise (· ≥ ·)
/-- each is at most so much -/
def Most (a : Int) (L : List Int) : Prop := ∀ b ∈ L, b ≤ a
def Nn (L : List Int) : Prop := ∀ b ∈ L, 0 ≤ b
theorem Nn.cons {a : Int} {L : List Int} (h : Nn (a :: L)) : 0 ≤ a ∧ Nn L := ⟨h a List.mem_cons_self, fun b hb => h b (List.mem_cons_of_mem _ hb)⟩
theorem Fall.cons {a : Int} {L : List Int} (h : Fall (a :: L)) : Most a L ∧ Fall L := by
  unfold Fall at h
  rw [List.pairwise_cons] at h
  exact ⟨fun b hb => h.1 b hb, h.2⟩
theorem sum_nn : ∀ {l : List Int}, Nn l → 0 ≤ l.sum
  | [], _ => Int.le_refl _
  | a :: l, h => by
    rw [List.sum_cons]
    have := h.cons
    have := sum_nn this.2
    omega
/-! squares -/
def sqs (l : List Int) : Int := (l.map fun x => x * x).sum
theorem sqs_cons (a : Int) (l : List Int) : sqs (a :: l) = a * a + sqs l := by unfold sqs; rw [List.map_cons, List.sum_cons]
def sqP (off S : Int) : Int := S / off * (off * off) + S % off * (S % off)
def sqG (off : Int) : List Int → Int → Int
  | [], S => sqP off S
  | b :: L, S => (b + mnI off S) * (b + mnI off S) + sqG off L (S - mnI off S)
theorem div_add {S off : Int} (h : 0 < off) : (S + off) / off = S / off + 1 ∧ (S + off) % off = S % off := by
  constructor
  · have := Int.add_mul_ediv_right S 1 (show off ≠ 0 by omega)
    rw [Int.one_mul] at this
    exact this
  · exact Int.add_emod_right S off
theorem sqP_small {off S : Int} (h0 : 0 ≤ S) (h : S < off) : sqP off S = S * S := by
  unfold sqP
  rw [Int.ediv_eq_zero_of_lt h0 h, Int.emod_eq_of_lt h0 h]
  omega
theorem sqP_more {off S : Int} (h : 0 < off) : sqP off (S + off) = sqP off S + off * off := by
  unfold sqP
  rw [(div_add h).1, (div_add h).2]
  grind
theorem sqP_incr {off S d : Int} (h : 0 < off) (h0 : 0 ≤ S) (d0 : 0 ≤ d) (d1 : d ≤ off) : sqP off (S + d) - sqP off S ≤ d * (2 * off - d) := by
  have e := Int.emod_add_mul_ediv S off
  have r0 := Int.emod_nonneg S (show off ≠ 0 by omega)
  have r1 := Int.emod_lt_of_pos S h
  have q0 : 0 ≤ S / off := Int.ediv_nonneg h0 (by omega)
  generalize S / off = q at *
  generalize S % off = r at *
  subst e
  have gen : ∀ x : Int, sqP off (x + off * q) = sqP off x + q * (off * off) := fun x => by
    unfold sqP
    rw [Int.add_mul_ediv_left x q (show off ≠ 0 by omega), Int.add_mul_emod_self_left]
    grind
  rw [show r + off * q + d = (r + d) + off * q by omega, gen, gen, sqP_small r0 r1]
  by_cases c : r + d < off
  · rw [sqP_small (by omega) c]
    have := Int.mul_le_mul_of_nonneg_left (show r + d ≤ off by omega) d0
    grind
  · have e2 : sqP off (r + d) = sqP off (r + d - off) + off * off := by
      have := sqP_more (S := r + d - off) h
      rw [show r + d - off + off = r + d by omega] at this
      exact this
    rw [e2, sqP_small (by omega) (by omega)]
    have := Int.mul_nonneg (show 0 ≤ off - d by omega) (show 0 ≤ r + d - off by omega)
    clear gen e2
    grind
theorem sqG_zero {off : Int} (h : 0 < off) : ∀ {L : List Int}, sqG off L 0 = sqs L
  | [] => by
    show sqP off 0 = 0
    rw [sqP_small (Int.le_refl _) h]
    rfl
  | b :: L => by
    show (b + mnI off 0) * (b + mnI off 0) + sqG off L (0 - mnI off 0) = _
    rw [show mnI off 0 = 0 from if_pos h, Int.sub_zero, sqG_zero h, sqs_cons, Int.add_zero]
theorem sqG_incr0 {off a d : Int} (h : 0 < off) (a0 : 0 ≤ a) (d0 : 0 ≤ d) (d1 : d ≤ off) : ∀ {L : List Int}, Most a L → Nn L → sqG off L d - sqG off L 0 ≤ d * (2 * a + d)
  | [], _, _ => by
    show sqP off d - sqP off 0 ≤ _
    rw [sqP_small (Int.le_refl _) h]
    have := Int.mul_nonneg d0 a0
    by_cases c : d < off
    · rw [sqP_small d0 c]
      grind
    · obtain rfl : d = off := by omega
      have := sqP_more (S := 0) h
      rw [Int.zero_add, sqP_small (Int.le_refl _) h] at this
      grind
  | b :: L, m, n => by
    show (b + mnI off d) * (b + mnI off d) + sqG off L (d - mnI off d) - ((b + mnI off 0) * (b + mnI off 0) + sqG off L (0 - mnI off 0)) ≤ _
    have e : mnI off d = d := by unfold mnI; split <;> omega
    rw [e, show mnI off 0 = 0 from if_pos h, show d - d = 0 by omega, Int.sub_zero]
    have := Int.mul_le_mul_of_nonneg_left (m b List.mem_cons_self) d0
    grind
theorem sqG_incr {off a d : Int} (h : 0 < off) (a0 : 0 ≤ a) (d0 : 0 ≤ d) (d1 : d ≤ off) : ∀ {L : List Int} {S : Int}, 0 ≤ S → Most a L → Nn L → Fall L → sqG off L (S + d) - sqG off L S ≤ d * (2 * a + 2 * off - d)
  | [], S, s0, _, _, _ => by
    have := sqP_incr (S := S) (d := d) h s0 d0 d1
    have := Int.mul_nonneg d0 a0
    show sqP off (S + d) - sqP off S ≤ _
    grind
  | b :: L, S, s0, m, n, f => by
    show (b + mnI off (S + d)) * (b + mnI off (S + d)) + sqG off L (S + d - mnI off (S + d)) - ((b + mnI off S) * (b + mnI off S) + sqG off L (S - mnI off S)) ≤ _
    have hb := m b List.mem_cons_self
    have b0 := n.cons.1
    have k1 := Int.mul_le_mul_of_nonneg_left hb d0
    by_cases c1 : off ≤ S
    · rw [show mnI off (S + d) = off from if_neg (by omega), show mnI off S = off from if_neg (by omega)]
      have ih := sqG_incr (L := L) (S := S - off) h a0 d0 d1 (by omega) (fun x hx => m x (List.mem_cons_of_mem _ hx)) n.cons.2 f.cons.2
      rw [show S - off + d = S + d - off by omega] at ih
      omega
    · have e1 : mnI off S = S := if_pos (by omega)
      by_cases c2 : S + d ≤ off
      · have e2 : mnI off (S + d) = S + d := by unfold mnI; split <;> omega
        rw [e1, e2, show S + d - (S + d) = 0 by omega, show S - S = 0 by omega]
        have := Int.mul_le_mul_of_nonneg_left (show S + d ≤ off by omega) d0
        grind
      · rw [e1, show mnI off (S + d) = off from if_neg (by omega), show S - S = 0 by omega]
        have ih := sqG_incr0 (L := L) (a := b) (d := S + d - off) h b0 (by omega) (by omega) f.cons.1 n.cons.2
        generalize hd2 : S + d - off = d2 at *
        have k2 := Int.mul_nonneg (show 0 ≤ d2 by omega) (show 0 ≤ S - d2 by omega)
        have hd : d = d2 + off - S := by omega
        subst hd
        grind
/-- no truth has more squares than where the greatest get the most -/
theorem sqG_best {off : Int} (h : 0 < off) : ∀ {L t f : List Int} {S : Int}, Fall L → Nn L → t.length = L.length → (∀ x ∈ t, 0 ≤ x ∧ x ≤ off) → (∀ x ∈ f, 0 ≤ x ∧ x ≤ off) → t.sum + f.sum = S →
    sqs (List.zipWith (· + ·) L t) + sqs f ≤ sqG off L S
  | [], t, f, S, _, _, hl, ht, hf, e => by
    obtain rfl : t = [] := List.length_eq_zero_iff.mp hl
    rw [List.sum_nil, Int.zero_add] at e
    subst e
    show sqs [] + sqs f ≤ sqP off f.sum
    have : ∀ {f : List Int}, (∀ x ∈ f, 0 ≤ x ∧ x ≤ off) → sqs f ≤ sqP off f.sum := by
      intro f
      induction f with
      | nil =>
        intro _
        show (0 : Int) ≤ sqP off 0
        rw [sqP_small (Int.le_refl _) h]
        omega
      | cons x f ih =>
        intro hf
        have h1 := hf x List.mem_cons_self
        have ih := ih fun y hy => hf y (List.mem_cons_of_mem _ hy)
        have s0 : 0 ≤ f.sum := sum_nn fun y hy => (hf y (List.mem_cons_of_mem _ hy)).1
        rw [sqs_cons, List.sum_cons]
        have e := Int.emod_add_mul_ediv f.sum off
        have r0 := Int.emod_nonneg f.sum (show off ≠ 0 by omega)
        have r1 := Int.emod_lt_of_pos f.sum h
        generalize f.sum / off = q at *
        generalize f.sum % off = r at *
        have gen : ∀ x : Int, sqP off (x + off * q) = sqP off x + q * (off * off) := fun x => by
          unfold sqP
          rw [Int.add_mul_ediv_left x q (show off ≠ 0 by omega), Int.add_mul_emod_self_left]
          grind
        rw [← e] at ih ⊢
        rw [show x + (r + off * q) = (r + x) + off * q by omega, gen]
        rw [gen, sqP_small r0 r1] at ih
        by_cases c : r + x < off
        · rw [sqP_small (by omega) c]
          have := Int.mul_nonneg r0 h1.1
          grind
        · have e2 : sqP off (r + x) = sqP off (r + x - off) + off * off := by
            have := sqP_more (S := r + x - off) h
            rw [show r + x - off + off = r + x by omega] at this
            exact this
          rw [e2, sqP_small (by omega) (by omega)]
          have := Int.mul_nonneg (show 0 ≤ off - r by omega) (show 0 ≤ off - x by omega)
          grind
    have := this hf
    show (0 : Int) + sqs f ≤ _
    omega
  | b :: L, t, f, S, fl, n, hl, ht, hf, e => by
    match t, hl with
    | t0 :: t, hl =>
      have h0 := ht t0 List.mem_cons_self
      have hl' : t.length = L.length := by simpa using hl
      rw [List.sum_cons] at e
      have st : 0 ≤ t.sum := sum_nn fun x hx => (ht x (List.mem_cons_of_mem _ hx)).1
      have sf : 0 ≤ f.sum := sum_nn fun x hx => (hf x hx).1
      have ih := sqG_best (L := L) (t := t) (f := f) (S := S - t0) h fl.cons.2 n.cons.2 hl' (fun x hx => ht x (List.mem_cons_of_mem _ hx)) hf (by omega)
      show sqs ((b + t0) :: List.zipWith (· + ·) L t) + sqs f ≤ (b + mnI off S) * (b + mnI off S) + sqG off L (S - mnI off S)
      rw [sqs_cons]
      have b0 := n.cons.1
      have g := mnI_le (off := off) (S := S)
      have gt : t0 ≤ mnI off S := by unfold mnI; split <;> omega
      by_cases c : S < off
      · have eg : mnI off S = S := if_pos c
        rw [eg, Int.sub_self]
        have i0 := sqG_incr0 (L := L) (a := b) (d := S - t0) h b0 (by omega) (by omega) fl.cons.1 n.cons.2
        have k := Int.mul_nonneg (show 0 ≤ S - t0 by omega) h0.1
        grind
      · have eg : mnI off S = off := if_neg c
        rw [eg]
        have i1 := sqG_incr (L := L) (a := b) (d := off - t0) (S := S - off) h b0 (by omega) (by omega) (by omega) fl.cons.1 n.cons.2 fl.cons.2
        rw [show S - off + (off - t0) = S - t0 by omega] at i1
        grind
/-- nor fewer than where all is new, one by one -/
theorem sqs_least : ∀ {L t f : List Int}, Nn L → t.length = L.length → (∀ x ∈ t, 0 ≤ x) → (∀ x ∈ f, 0 ≤ x) → sqs L + (t.sum + f.sum) ≤ sqs (List.zipWith (· + ·) L t) + sqs f
  | [], t, f, _, hl, _, hf => by
    obtain rfl : t = [] := List.length_eq_zero_iff.mp hl
    show (0 : Int) + (0 + f.sum) ≤ 0 + sqs f
    have : ∀ {f : List Int}, (∀ x ∈ f, 0 ≤ x) → f.sum ≤ sqs f := by
      intro f
      induction f with
      | nil => intro _; exact Int.le_refl _
      | cons x f ih =>
        intro h
        have h1 := h x List.mem_cons_self
        have := ih fun y hy => h y (List.mem_cons_of_mem _ hy)
        rw [sqs_cons, List.sum_cons]
        have : x ≤ x * x := by
          by_cases c : x = 0
          · rw [c]; decide
          · have := Int.mul_le_mul_of_nonneg_left (show 1 ≤ x by omega) h1
            omega
        omega
    have := this hf
    omega
  | b :: L, t, f, n, hl, ht, hf => by
    match t, hl with
    | t0 :: t, hl =>
      have h0 := ht t0 List.mem_cons_self
      have ih := sqs_least (L := L) (t := t) (f := f) n.cons.2 (by simpa using hl) (fun x hx => ht x (List.mem_cons_of_mem _ hx)) hf
      show sqs (b :: L) + ((t0 :: t).sum + f.sum) ≤ sqs ((b + t0) :: List.zipWith (· + ·) L t) + sqs f
      rw [sqs_cons, sqs_cons, List.sum_cons]
      have b0 := n.cons.1
      have k := Int.mul_nonneg b0 h0
      have : t0 ≤ t0 * t0 := by
        by_cases c : t0 = 0
        · rw [c]; decide
        · have := Int.mul_le_mul_of_nonneg_left (show 1 ≤ t0 by omega) h0
          omega
      grind
end Kb

namespace Kb
/-! the sum of the greatest -/
theorem fall_nn_take : ∀ {l : List Int} (j : Nat), Nn l → 0 ≤ (l.take j).sum
  | l, j, h => sum_nn fun b hb => h b (List.mem_of_mem_take hb)
theorem perm_sum {l m : List Int} (p : l.Perm m) : l.sum = m.sum := by
  induction p with
  | nil => rfl
  | cons a _ ih => rw [List.sum_cons, List.sum_cons, ih]
  | swap a b l => rw [List.sum_cons, List.sum_cons, List.sum_cons, List.sum_cons]; omega
  | trans _ _ h1 h2 => exact h1.trans h2
theorem top_ge : ∀ {l m rest : List Int} {j : Nat}, Fall l → Nn l → (m ++ rest).Perm l → m.length ≤ j → m.sum ≤ (l.take j).sum
  | [], m, rest, j, _, _, p, _ => by
    have := p.length_eq
    rw [List.length_append] at this
    obtain rfl : m = [] := List.length_eq_zero_iff.mp (by rw [List.length_nil] at this; omega)
    rw [List.take_nil]
    exact Int.le_refl _
  | a :: l, m, rest, j, fl, n, p, hj => by
    match j with
    | 0 =>
      obtain rfl : m = [] := List.length_eq_zero_iff.mp (Nat.le_zero.mp hj)
      exact Int.le_refl _
    | j + 1 =>
      rw [List.take_succ_cons, List.sum_cons]
      by_cases ha : a ∈ m
      · have pm := List.perm_cons_erase ha
        have p2 : (m.erase a ++ rest).Perm l := by
          have h1 : (a :: (m.erase a ++ rest)).Perm (a :: l) := (List.Perm.append_right rest pm.symm).trans p
          exact h1.cons_inv
        have hl := pm.length_eq
        rw [List.length_cons] at hl
        have ih := top_ge (l := l) (m := m.erase a) (rest := rest) (j := j) fl.cons.2 n.cons.2 p2 (by omega)
        have := perm_sum pm
        rw [List.sum_cons] at this
        omega
      · match m, ha with
        | [], _ =>
          have := fall_nn_take j n.cons.2
          have := n.cons.1
          show (0 : Int) ≤ _
          omega
        | b :: m, ha =>
          have hb : b ∈ a :: l := p.mem_iff.mp (List.mem_append_left _ List.mem_cons_self)
          have hab : b ≤ a := by
            rcases List.mem_cons.mp hb with h | h
            · omega
            · exact fl.cons.1 b h
          have har : a ∈ rest := by
            have : a ∈ b :: m ++ rest := p.mem_iff.mpr List.mem_cons_self
            rcases List.mem_append.mp this with h | h
            · exact absurd h ha
            · exact h
          have pr := List.perm_cons_erase har
          have p2 : (m ++ (b :: rest.erase a)).Perm l := by
            have h1 : (a :: (m ++ (b :: rest.erase a))).Perm (a :: l) := by
              refine List.Perm.trans ?_ p
              have h2 : (m ++ (b :: rest.erase a)).Perm (b :: (m ++ rest.erase a)) := List.perm_middle
              have h3 : (a :: (b :: (m ++ rest.erase a))).Perm (b :: (a :: (m ++ rest.erase a))) := List.Perm.swap _ _ _
              have h4 : (a :: (m ++ rest.erase a)).Perm (m ++ (a :: rest.erase a)) := List.perm_middle.symm
              have h5 : (m ++ (a :: rest.erase a)).Perm (m ++ rest) := List.Perm.append_left m pr.symm
              exact ((h2.cons a).trans h3).trans ((h4.trans h5).cons b)
            exact h1.cons_inv
          have ih := top_ge (l := l) (m := m) (rest := b :: rest.erase a) (j := j) fl.cons.2 n.cons.2 p2 (by simpa using hj)
          rw [List.sum_cons]
          omega
/-- a falling list is told by what it holds -/
theorem fall_eq : ∀ {l m : List Int}, Fall l → Fall m → l.Perm m → l = m
  | [], m, _, _, p => (List.nil_perm.mp p).symm
  | a :: l, m, fl, fm, p => by
    match m, p with
    | [], p => exact absurd p.length_eq (by simp)
    | b :: m, p =>
      have h1 : b ≤ a := by
        rcases List.mem_cons.mp (p.mem_iff.mpr (List.mem_cons_self (a := b) (l := m))) with h | h
        · omega
        · exact fl.cons.1 b h
      have h2 : a ≤ b := by
        rcases List.mem_cons.mp (p.mem_iff.mp (List.mem_cons_self (a := a) (l := l))) with h | h
        · omega
        · exact fm.cons.1 a h
      obtain rfl : a = b := by omega
      rw [fall_eq fl.cons.2 fm.cons.2 p.cons_inv]
/-- groups (count, many): the sum of the j greatest -/
def grtZ : List (Int × Int) → Int → Int
  | [], _ => 0
  | e :: g, j => e.1 * mnI e.2 j + grtZ g (j - mnI e.2 j)
def exZ (g : List (Int × Int)) : List Int := g.flatMap fun e => List.replicate e.2.toNat e.1
theorem sum_rep (n : Nat) (c : Int) : (List.replicate n c).sum = c * n := by
  induction n with
  | zero => rw [List.replicate_zero]; show (0 : Int) = c * ((0 : Nat) : Int); simp
  | succ n ih => rw [List.replicate_succ, List.sum_cons, ih]; push_cast; grind
theorem grtZ_ex : ∀ {g : List (Int × Int)} {j : Int}, (∀ e ∈ g, 0 ≤ e.2) → 0 ≤ j → grtZ g j = ((exZ g).take j.toNat).sum
  | [], j, _, _ => by
    show (0 : Int) = (([] : List Int).take j.toNat).sum
    rw [List.take_nil]
    rfl
  | e :: g, j, h, hj => by
    have h0 := h e List.mem_cons_self
    have m1 := mnI_le (off := e.2) (S := j)
    have ih := grtZ_ex (g := g) (j := j - mnI e.2 j) (fun x hx => h x (List.mem_cons_of_mem _ hx)) (by omega)
    show e.1 * mnI e.2 j + grtZ g (j - mnI e.2 j) = ((List.replicate e.2.toNat e.1 ++ exZ g).take j.toNat).sum
    rw [ih, List.take_append, List.sum_append, List.take_replicate, sum_rep, List.length_replicate]
    have e1 : ((min j.toNat e.2.toNat : Nat) : Int) = mnI e.2 j := by
      unfold mnI
      split <;> omega
    have e2 : (j - mnI e.2 j).toNat = j.toNat - e.2.toNat := by
      unfold mnI
      split <;> omega
    rw [e1, e2]
/-! what the greatest j can come to -/
theorem sum_bound {off : Int} : ∀ {l : List Int}, (∀ x ∈ l, x ≤ off) → l.sum ≤ l.length * off
  | [], _ => by show (0 : Int) ≤ ((0 : Nat) : Int) * off; simp
  | a :: l, h => by
    have := h a List.mem_cons_self
    have := sum_bound (l := l) fun x hx => h x (List.mem_cons_of_mem _ hx)
    rw [List.sum_cons, List.length_cons]
    push_cast
    grind
def bndZ (off : Int) (L : List Int) (S : Int) (j : Nat) : Int := (L.take j).sum + mnI (j * off) S
theorem sum_split : ∀ m : List (Int × Int), (m.map fun p => p.1 + p.2).sum = (m.map (·.1)).sum + (m.map (·.2)).sum
  | [] => rfl
  | a :: m => by
    rw [List.map_cons, List.map_cons, List.map_cons, List.sum_cons, List.sum_cons, List.sum_cons, sum_split m]
    omega
theorem take_zeros {L : List Int} {n j : Nat} : ((L ++ List.replicate n (0 : Int)).take j).sum = (L.take j).sum := by
  rw [List.take_append, List.sum_append, List.take_replicate, sum_rep]
  omega
theorem fall_zeros {L : List Int} {n : Nat} (fl : Fall L) (nn : Nn L) : Fall (L ++ List.replicate n (0 : Int)) := by
  unfold Fall
  rw [List.pairwise_append]
  refine ⟨fl, ?_, fun a ha b hb => ?_⟩
  · rw [List.pairwise_replicate]
    exact .inr (Int.le_refl _)
  · rw [(List.mem_replicate.mp hb).2]
    exact nn a ha
/-- any j of a truth's counts -/
theorem some_le {off S : Int} {L : List Int} {n j : Nat} {D m rest : List (Int × Int)} (o0 : 0 ≤ off) (fl : Fall L) (nn : Nn L) (hD : D.map (·.1) = L ++ List.replicate n 0) (ht : ∀ p ∈ D, 0 ≤ p.2 ∧ p.2 ≤ off) (hS : (D.map (·.2)).sum = S) (p : (m ++ rest).Perm D) (hj : m.length ≤ j) :
    (m.map fun p => p.1 + p.2).sum ≤ bndZ off L S j := by
  rw [sum_split]
  have h1 : (m.map (·.1)).sum ≤ (L.take j).sum := by
    have q := p.map (·.1)
    rw [hD, List.map_append] at q
    have := top_ge (j := j) (fall_zeros fl nn) (fun b hb => by
      rcases List.mem_append.mp hb with h | h
      · exact nn b h
      · rw [(List.mem_replicate.mp h).2]
        exact Int.le_refl _) q (by rw [List.length_map]; exact hj)
    rw [take_zeros] at this
    exact this
  have hm : ∀ x ∈ m.map (·.2), 0 ≤ x ∧ x ≤ off := fun x hx => by
    obtain ⟨e, he, rfl⟩ := List.mem_map.mp hx
    exact ht e (p.mem_iff.mp (List.mem_append_left _ he))
  have h2 : (m.map (·.2)).sum ≤ j * off := by
    have := sum_bound fun x hx => (hm x hx).2
    rw [List.length_map] at this
    have := Int.mul_le_mul_of_nonneg_right (show (m.length : Int) ≤ j by omega) o0
    omega
  have h3 : (m.map (·.2)).sum ≤ S := by
    have q := perm_sum (p.map (·.2))
    rw [List.map_append, List.sum_append, hS] at q
    have : 0 ≤ (rest.map (·.2)).sum := sum_nn fun x hx => by
      obtain ⟨e, he, rfl⟩ := List.mem_map.mp hx
      exact (ht e (p.mem_iff.mp (List.mem_append_right _ he))).1
    omega
  unfold bndZ mnI
  split <;> omega
/-- kept and taken where the greatest get the most, one behind another -/
def lumpZ (off : Int) : List Int → Int → List Int
  | [], _ => []
  | b :: L, S => (b + mnI off S) :: lumpZ off L (S - mnI off S)
def lumpR (off : Int) : List Int → Int → Int
  | [], S => S
  | _ :: L, S => lumpR off L (S - mnI off S)
theorem lumpR_nn {off : Int} : ∀ {L : List Int} {S : Int}, 0 ≤ S → 0 ≤ lumpR off L S
  | [], _, h => h
  | _ :: L, S, h => lumpR_nn (L := L) (by have := mnI_le (off := off) (S := S); omega)
def partE (off R : Int) : List Int := List.replicate (R / off).toNat off ++ (if R % off = 0 then [] else [R % off])
theorem partE_take {off R : Int} (h : 0 < off) (r0 : 0 ≤ R) (j : Nat) : ((partE off R).take j).sum = mnI (j * off) R := by
  unfold partE
  have e := Int.emod_add_mul_ediv R off
  have m0 := Int.emod_nonneg R (show off ≠ 0 by omega)
  have m1 := Int.emod_lt_of_pos R h
  have q0 : 0 ≤ R / off := Int.ediv_nonneg r0 (by omega)
  generalize R / off = q at *
  generalize R % off = r at *
  rw [List.take_append, List.sum_append, List.take_replicate, sum_rep, List.length_replicate]
  obtain ⟨n, rfl⟩ := Int.eq_ofNat_of_zero_le q0
  rw [Int.toNat_natCast]
  by_cases c : j ≤ n
  · rw [Nat.min_eq_left c, Nat.sub_eq_zero_of_le c, List.take_zero]
    have := Int.mul_le_mul_of_nonneg_left (show (j : Int) ≤ n by omega) (show 0 ≤ off by omega)
    unfold mnI
    rw [Int.mul_comm (j : Int) off]
    show off * (j : Int) + 0 = _
    split <;> omega
  · rw [Nat.min_eq_right (by omega)]
    have h1 : R ≤ j * off := by
      have := Int.mul_le_mul_of_nonneg_left (show (n : Int) + 1 ≤ j by omega) (show 0 ≤ off by omega)
      rw [Int.mul_comm (j : Int) off]
      grind
    have h2 : ((if r = 0 then [] else [r]).take (j - n)).sum = r := by
      by_cases c2 : r = 0
      · rw [if_pos c2, List.take_nil, c2]
        rfl
      · rw [if_neg c2, List.take_of_length_le (by simp; omega)]
        show r + 0 = r
        omega
    rw [h2]
    unfold mnI
    split <;> omega
theorem lump_take {off : Int} (h : 0 < off) : ∀ {L : List Int} {S : Int} (j : Nat), 0 ≤ S → ((lumpZ off L S ++ partE off (lumpR off L S)).take j).sum = bndZ off L S j
  | [], S, j, h0 => by
    unfold bndZ
    rw [List.take_nil]
    show ((partE off S).take j).sum = 0 + _
    rw [partE_take h h0]
    omega
  | b :: L, S, 0, h0 => by
    unfold bndZ
    rw [List.take_zero, List.take_zero]
    show (0 : Int) = 0 + mnI (((0 : Nat) : Int) * off) S
    unfold mnI
    simp
    omega
  | b :: L, S, j + 1, h0 => by
    have m1 := mnI_le (off := off) (S := S)
    have ih := lump_take (L := L) (S := S - mnI off S) h j (by omega)
    show (((b + mnI off S) :: (lumpZ off L (S - mnI off S) ++ partE off (lumpR off L (S - mnI off S)))).take (j + 1)).sum = _
    rw [List.take_succ_cons, List.sum_cons, ih]
    unfold bndZ
    rw [List.take_succ_cons, List.sum_cons]
    have : mnI off S + mnI (j * off) (S - mnI off S) = mnI (((j + 1 : Nat) : Int) * off) S := by
      have jo := Int.mul_nonneg (show 0 ≤ (j : Int) by omega) (show 0 ≤ off by omega)
      have e : ((j + 1 : Nat) : Int) * off = j * off + off := by push_cast; grind
      rw [e]
      generalize (j : Int) * off = x at *
      unfold mnI
      split <;> split <;> split <;> omega
    omega
/-! how many there are -/
theorem lumpR_mono {off : Int} : ∀ {L : List Int} {S S' : Int}, S ≤ S' → lumpR off L S ≤ lumpR off L S'
  | [], _, _, h => h
  | _ :: L, S, S', h => lumpR_mono (L := L) (by unfold mnI; split <;> split <;> omega)
theorem lumpR_le {off : Int} (o0 : 0 ≤ off) : ∀ {L t : List Int} {S F : Int}, t.length = L.length → (∀ x ∈ t, 0 ≤ x ∧ x ≤ off) → t.sum + F = S → 0 ≤ F → lumpR off L S ≤ F
  | [], t, S, F, hl, _, e, _ => by
    obtain rfl : t = [] := List.length_eq_zero_iff.mp hl
    show S ≤ F
    rw [List.sum_nil] at e
    omega
  | b :: L, t, S, F, hl, ht, e, f0 => by
    match t, hl with
    | t0 :: t, hl =>
      have h0 := ht t0 List.mem_cons_self
      have st : 0 ≤ t.sum := sum_nn fun x hx => (ht x (List.mem_cons_of_mem _ hx)).1
      rw [List.sum_cons] at e
      show lumpR off L (S - mnI off S) ≤ F
      have ih := lumpR_le (L := L) (t := t) (S := S - t0) (F := F) o0 (by simpa using hl) (fun x hx => ht x (List.mem_cons_of_mem _ hx)) (by omega) f0
      exact Int.le_trans (lumpR_mono (by unfold mnI; split <;> omega)) ih
theorem partE_len {off R : Int} {f : List Int} (h : 0 < off) (r0 : 0 ≤ R) (hf : ∀ x ∈ f, x ≤ off) (hs : R ≤ f.sum) : (partE off R).length ≤ f.length := by
  have := sum_bound hf
  unfold partE
  have e := Int.emod_add_mul_ediv R off
  have m0 := Int.emod_nonneg R (show off ≠ 0 by omega)
  have m1 := Int.emod_lt_of_pos R h
  have q0 : 0 ≤ R / off := Int.ediv_nonneg r0 (by omega)
  generalize R / off = q at *
  generalize R % off = r at *
  obtain ⟨n, rfl⟩ := Int.eq_ofNat_of_zero_le q0
  rw [List.length_append, List.length_replicate, Int.toNat_natCast]
  by_cases c : r = 0
  · rw [if_pos c, List.length_nil]
    by_cases c2 : n ≤ f.length
    · omega
    · have h3 := Int.mul_le_mul_of_nonneg_right (show (f.length : Int) + 1 ≤ n by omega) (show 0 ≤ off by omega)
      exfalso
      grind
  · rw [if_neg c]
    show n + 1 ≤ _
    by_cases c2 : n + 1 ≤ f.length
    · exact c2
    · have h3 := Int.mul_le_mul_of_nonneg_right (show (f.length : Int) ≤ n by omega) (show 0 ≤ off by omega)
      exfalso
      grind
theorem ones_le : ∀ {f : List Int}, (∀ x ∈ f, 1 ≤ x) → (f.length : Int) ≤ f.sum
  | [], _ => Int.le_refl _
  | a :: f, h => by
    have := h a List.mem_cons_self
    have := ones_le (f := f) fun x hx => h x (List.mem_cons_of_mem _ hx)
    rw [List.sum_cons, List.length_cons]
    push_cast
    omega
end Kb

namespace Kb
open PySem PySem.Spec PyProof.Rows L2 SrtZ SrtO FlX LamX
abbrev sP_asked : Stmt := topS 24
abbrev NP_asked : List Str := ["question", "part"]
theorem scP_asked : FnScope ["question", "part"] ["question"] (defScope sP_asked) := ⟨rfl, rfl, rfl, by decide +kernel, rfl, by decide +kernel, by decide +kernel⟩
abbrev sP_falling : Stmt := topS 25
abbrev NP_falling : List Str := ["kept", "name", "_"]
theorem scP_falling : FnScope ["kept", "name", "_"] ["kept"] (defScope sP_falling) := ⟨rfl, rfl, rfl, by decide +kernel, rfl, by decide +kernel, by decide +kernel⟩
abbrev sP_parted : Stmt := topS 26
abbrev NP_parted : List Str := ["amount", "size", "groups", "part", "many"]
theorem scP_parted : FnScope ["amount", "size", "groups", "part", "many"] ["amount", "size"] (defScope sP_parted) := ⟨rfl, rfl, rfl, by decide +kernel, rfl, by decide +kernel, by decide +kernel⟩
abbrev DnAsked (K : PySem.W.Frag) (mg : Str → Option Value) := Dn K mg "asked" sP_asked ["question"]
abbrev DnParted (K : PySem.W.Frag) (mg : Str → Option Value) := Dn K mg "parted" sP_parted ["amount", "size"]
abbrev DnFalling (K : PySem.W.Frag) (mg : Str → Option Value) := Dn K mg "falling" sP_falling ["kept"]
/-- falling, and where its lambda's code is held -/
structure Flr (K : PySem.W.Frag) (mg : Str → Option Value) (base : Heap) where
  d : DnFalling K mg
  c : Addr
  P : Addr
  code : d.fd.code = .ref c
  tb : TabB base mg c P
abbrev qFall : Str := (("falling" : Str) ++ ".<locals>.") ++ "<lambda>"
/-- a question -/
inductive Qn where
  | count (z : Str) | lot (zs : List Str) | apart (y z : Str) | place (z : Str) | first (j : Int) | unlike | squares
def Qn.word : Qn → Str
  | .count _ => "count"
  | .lot _ => "lot"
  | .apart _ _ => "apart"
  | .place _ => "place"
  | .first _ => "first"
  | .unlike => "unlike"
  | .squares => "squares"
def Qn.names : Qn → List Str
  | .count z => [z]
  | .lot zs => zs
  | .apart y z => [y, z]
  | .place z => [z]
  | _ => []
/-- the parts of a question that is no lot -/
def Qn.parts : Qn → List V
  | .count z => [.str z]
  | .lot _ => []
  | .apart y z => [.str y, .str z]
  | .place z => [.str z]
  | .first j => [.int j]
  | _ => []
def QnAt (K : PySem.W.Frag) (H : Hp) (q : Addr) : Qn → Prop
  | .lot zs => ∃ t, SqT K H q [.str "lot", .ref t] ∧ SqT K H t (zs.map V.str)
  | x => SqT K H q (.str x.word :: x.parts)
structure QnOk (x : Qn) : Prop where
  nm : ∀ z ∈ x.names, Nm z
  len : x.names.length ≤ 40
  asc : ∀ zs, x = .lot zs → zs.Pairwise fun a b => ltZ a b = true
  ne : ∀ y z, x = .apart y z → y ≠ z
  j : ∀ j, x = .first j → 1 ≤ j ∧ j ≤ 40
theorem QnAt.same {K : PySem.W.Frag} {H H' : Hp} {q : Addr} {x : Qn} (h : QnAt K H q x) (s : Same H H') : QnAt K H' q x := by
  cases x with
  | lot zs =>
    obtain ⟨t, h1, h2⟩ := h
    exact ⟨t, seqT h1 s, seqT h2 s⟩
  | _ => exact seqT h s
theorem QnAt.ext {K : PySem.W.Frag} {H H' : Hp} {q P : Addr} {x : Qn} {c : Str} (h : QnAt K H q x) (T : TabS H P c) (s : ExT P c H H') : QnAt K H' q x := by
  cases x with
  | lot zs =>
    obtain ⟨t, h1, h2⟩ := h
    exact ⟨t, s.tup T h1, s.tup T h2⟩
  | _ => exact s.tup T h
/-- its word is read -/
theorem QnAt.word {K : PySem.W.Frag} {H : Hp} {q : Addr} {x : Qn} (h : QnAt K H q x) : ∃ xs, SqT K H q (.str x.word :: xs) := by
  cases x with
  | lot zs =>
    obtain ⟨t, h1, h2⟩ := h
    exact ⟨_, h1⟩
  | _ => exact ⟨_, h⟩
/-! plans as mathematics -/
/-- pairs of ints on the heap -/
abbrev PrI (H : Hp) (t : Addr) (e : Int × Int) : Prop := H t = some (.tup [.int e.1, .int e.2])
def groupsZ (a sz : Int) : List (Int × Int) := [(sz, a / sz), (a % sz, 1)]
def okG (e : Int × Int) : Bool := decide (0 < e.1) && decide (0 < e.2)
def partedZ (a sz : Int) : List (Int × Int) := if a = 0 then [] else (groupsZ a sz).filter okG
theorem partedZ_len (a sz : Int) : (partedZ a sz).length ≤ 2 := by
  unfold partedZ
  split
  · exact Nat.zero_le _
  · exact Nat.le_trans (List.length_filter_le _ _) (Nat.le_refl 2)
/-- what is taken from these names, one behind another, and what is left -/
def fillZ (off : Int) : List Str → Ct × Int → Ct × Int
  | [], x => x
  | n :: r, x => fillZ off r (putZ x.1 n (if x.2 < off then x.2 else off), x.2 - (if x.2 < off then x.2 else off))
def nullZ : List Str → Ct → Ct
  | [], d => d
  | n :: r, d => nullZ r (putZ d n 0)
theorem nullZ_snoc (n : Str) : ∀ (zs : List Str) (d : Ct), nullZ (zs ++ [n]) d = putZ (nullZ zs d) n 0
  | [], _ => rfl
  | z :: r, d => nullZ_snoc n r (putZ d z 0)
theorem fillZ_snoc (off : Int) (n : Str) : ∀ (zs : List Str) (x : Ct × Int), fillZ off (zs ++ [n]) x = fillZ off [n] (fillZ off zs x)
  | [], _ => rfl
  | z :: r, x => fillZ_snoc off n r _
theorem nullZ_len : ∀ (zs : List Str) (d : Ct), (nullZ zs d).length ≤ d.length + zs.length
  | [], _ => Nat.le_refl _
  | z :: r, d => by
    have := nullZ_len r (putZ d z 0)
    have := putZ_len (kvs := d) (n := z) (v := 0)
    show (nullZ r (putZ d z 0)).length ≤ d.length + (r.length + 1)
    omega
theorem fillZ_len (off : Int) : ∀ (zs : List Str) (x : Ct × Int), (fillZ off zs x).1.length ≤ x.1.length + zs.length
  | [], _ => Nat.le_refl _
  | z :: r, x => by
    have := fillZ_len off r (putZ x.1 z (if x.2 < off then x.2 else off), x.2 - (if x.2 < off then x.2 else off))
    have := putZ_len (kvs := x.1) (n := z) (v := if x.2 < off then x.2 else off)
    dsimp only at *
    show (fillZ off r _).1.length ≤ x.1.length + (r.length + 1)
    omega
theorem fillZ_left {off : Int} (h0 : 0 ≤ off) : ∀ (zs : List Str) (x : Ct × Int), 0 ≤ x.2 → 0 ≤ (fillZ off zs x).2 ∧ (fillZ off zs x).2 ≤ x.2
  | [], x, h => ⟨h, Int.le_refl _⟩
  | z :: r, x, h => by
    have := fillZ_left h0 r (putZ x.1 z (if x.2 < off then x.2 else off), x.2 - (if x.2 < off then x.2 else off)) (by dsimp only; split <;> omega)
    dsimp only at this
    show 0 ≤ (fillZ off r _).2 ∧ (fillZ off r _).2 ≤ x.2
    refine ⟨this.1, ?_⟩
    have h2 := this.2
    split at h2 <;> omega
/-- a sketch on the heap, anywhere -/
structure SkC (K : PySem.W.Frag) (H : Hp) (s : Addr) (r m o : Int) (kvs : Ct) : Prop where
  ob : ∃ (k : Addr) (ts : List Addr), SqT K H s [.int r, .int m, .int o, .ref k] ∧ Ptp H k (ts.map V.ref) ∧ Paired (PrAt K H) ts kvs
theorem SkC.same {K : PySem.W.Frag} {H H' : Hp} {s : Addr} {r m o : Int} {kvs : Ct} (h : SkC K H s r m o kvs) (y : Same H H') : SkC K H' s r m o kvs := by
  obtain ⟨k, ts, h1, h2, h3⟩ := h.ob
  exact ⟨k, ts, seqT h1 y, h2.same y, paired_imp (fun t e h => seqT h y) h3⟩
/-- it is a sketch -/
structure SkG (r m o : Int) (kvs : Ct) : Prop where
  r1 : 1 ≤ r
  r64 : r ≤ 64
  m0 : 0 ≤ m
  o0 : 0 ≤ o
  cts : Cts kvs
  len : (kvs.length : Int) ≤ r
  lo : (r + 1) * o ≤ m - sumC kvs
  hi : m - sumC kvs ≤ 2 * r * o
  big : m < 2 ^ 100
theorem SkC.of {K : PySem.W.Frag} {H : Hp} {s : Addr} {r : Int} {x : Tl} (h : SkAt H s r x) : SkC K H s r x.m x.o (srtZ x.c) := by
  obtain ⟨k, ts, h1, h2, h3⟩ := h
  exact ⟨k, ts, .inl (.inl h1), h2, paired_imp (fun t e h => .inl (.inl h)) h3⟩
section
variable {P : Program} {w : World} {K : PySem.W.Frag} {mg : Str → Option Value} {base : Heap}
/-- THE RULE for a def, its code told -/
theorem okC {x qual : Str} {st : Stmt} {f : Addr} {fd : FuncData} {N ps : List Str} {k : Nat} {sp : Sp} (F : Fun K x qual st f fd) (S : FnScope N ps (defScope st)) (len : ∀ vs H Q E, sp vs H Q E → vs.length = ps.length)
    (hbody : ∀ (cdv : Value) (A : Around) (outer : List Env) (s : Shared) (H : Hp) (vs : List V) (Q : VK) (E : XK), cdv = fd.code → Room k (A.deeper (envOfC qual (defScope st) s.heap.objs.size f cdv)) → sp vs H Q E →
      ∃ t, PSs (cxOf CX0 P w K mg base N qual (defScope st) f cdv A outer s H E).nox (defBody st) t ∧ t { nx := fun _ H' => Q .non H', rt := Q } (L2.start N vs) H) : FnOk P w K mg base CX0 (k + 1) f fd ps sp := by
  obtain ⟨oc, od, kV, doc, pm, an, cdv, ct, osl, rfl, lk, hcd⟩ := F.ex
  refine fn_of lk hcd S len fun A outer s H vs Q E hr hsp => ?_
  obtain ⟨t, h, q⟩ := hbody cdv A outer s H vs Q E rfl hr hsp
  exact ⟨t, h.nox, q⟩
/-! falling -/
def spFalling (K : PySem.W.Frag) (P : Addr) : Sp := fun vs H Q _ => ∃ (a : Addr) (ts : List Addr) (kvs : Ct), vs = [.ref a] ∧ SqT K H a (ts.map V.ref) ∧ Paired (PrAt K H) ts kvs ∧ kvs.length ≤ 1000 ∧ TabS H P qFall ∧
  ∀ H' p, ExT P qFall H H' → H p = none → H' p = some (.lst (((fallBy (·.2) kvs).map (·.1)).map V.str)) → Q (.ref p) H'
theorem ok_falling (T : Blt mg) (F : Flr K mg base) : FnOk P w K mg base CX0 1 F.d.f F.d.fd ["kept"] (spFalling K F.P) := by
  refine okC F.d.F scP_falling (fun vs H Q E h => ?_) (fun cdv A outer s H vs Q E hcdv hr h => ?_)
  · obtain ⟨a, ts, kvs, rfl, _⟩ := h
    rfl
  · obtain ⟨a, ts, kvs, rfl, ha, hp, hl, hT, q⟩ := h
    refine ⟨_, (pss_one (ps_ret (pe_lc (own := [("name", 1), ("_", 2)]) (g := gTup K 2 (gCons (gName 1) (gCons (gName 2) gNil))) (tt := tYes) rfl scP_falling.nd (pi_list (pe_fall (P := F.P) (c := F.c) (q := qFall) (by exact ⟨rfl, rfl, rfl, rfl, by decide, ⟨_, _, _, _, _, rfl⟩, fun _ _ _ _ _ _ => rfl⟩) (by exact ⟨F.tb, by show cdv = _; rw [hcdv]; exact F.code, rfl, rfl, by decide, rfl⟩) hr (by rfl) T.n_sorted (pa_cons (pv 0) pa_nil))) (blkOk_by (N := NP_falling) (sc := defScope sP_falling) (by decide +kernel)) (fun _ _ _ _ _ => pg_tup (by rfl) (pgs_cons (pg_name (i := 1) scP_falling.nd rfl (Or.inl rfl)) (pgs_cons (pg_name (i := 2) scP_falling.nd rfl (Or.inl rfl)) pgs_nil))) (fun _ _ _ _ _ => pts_nil) (fun _ _ _ _ _ => (pv 1))))), ?_⟩
    refine rd_fall rfl ha hp hT fun H1 p us x1 np hl1 hus => ⟨p, rfl, ⟨_, sql hl1⟩, fun D nD => ?_⟩
    have hpl : us.length = (fallBy (·.2) kvs).length := Paired.length hus
    have fl : (fallBy (·.2) kvs).length = kvs.length := (List.mergeSort_perm _ _).length_eq
    have tk : ∀ i e, (fallBy (·.2) kvs)[i]? = some e → (fallBy (·.2) kvs).take (i + 1) = (fallBy (·.2) kvs).take i ++ [e] := fun i e h => by rw [List.take_add_one, h]; rfl
    generalize fallBy (·.2) kvs = zs at hus hpl fl tk q
    refine lc_list (xs := us.map V.ref) (fun i H3 => Same H1 H3 ∧ H3 D = some (.lst (((zs.take i).map (·.1)).map V.str))) ⟨same_upd nD, upd_same⟩ (fun i H3 _ h3 => sql (h3.1 _ _ hl1)) (fun i x H3 hx h3 => ?_) (fun H3 h3 => ?_)
    · obtain ⟨u, hu, rfl⟩ := map_at hx
      obtain ⟨e, he, hat⟩ := paired_at hus hu
      have hi := (List.getElem?_eq_some_iff.mp hu).1
      refine ⟨u, _, rfl, seqT hat h3.1, rfl, _, _, rfl, _, _, rfl, rfl, rfl, .str e.1, rfl, _, h3.2, ?_, Same.put h3.1 nD, ?_⟩
      · rw [List.length_map, List.length_map, List.length_take, sizeLine_eq]
        omega
      · rw [upd_same, tk i e he, List.map_append, List.map_append]
        rfl
    · obtain ⟨s3, hD⟩ := h3
      rw [show zs.take (us.map V.ref).length = zs by rw [List.length_map, hpl, List.take_length]] at hD
      exact q H3 D (x1.same s3) (x1.gone nD) hD
/-! asked -/
def spAsked (K : PySem.W.Frag) : Sp := fun vs H Q _ => ∃ (q : Addr) (x : Qn), vs = [.ref q] ∧ QnAt K H q x ∧ ∀ H' p, Same H H' → SqT K H' p (x.names.map V.str) → Q (.ref p) H'
theorem word_ne {a b : Str} (h : decide (V.str a = V.str b) = false) {x : Qn} (e : x.word = a) : decide (V.str x.word = V.str b) = false := by rw [e]; exact h
theorem lot_ne : ∀ {x : Qn}, (∀ zs, x ≠ .lot zs) → decide (V.str x.word = V.str (Str.ofString "lot")) = false
  | .count _, _ => word_ne (a := "count") (by decide +kernel) rfl
  | .lot zs, h => absurd rfl (h zs)
  | .apart _ _, _ => word_ne (a := "apart") (by decide +kernel) rfl
  | .place _, _ => word_ne (a := "place") (by decide +kernel) rfl
  | .first _, _ => word_ne (a := "first") (by decide +kernel) rfl
  | .unlike, _ => word_ne (a := "unlike") (by decide +kernel) rfl
  | .squares, _ => word_ne (a := "squares") (by decide +kernel) rfl
def strsV : List V → List V := List.filter fun v => match v with | .str _ => true | _ => false
theorem parts_strs : ∀ {x : Qn}, (∀ zs, x ≠ .lot zs) → strsV x.parts = x.names.map V.str
  | .lot zs, h => absurd rfl (h zs)
  | .count _, _ => rfl
  | .apart _ _, _ => rfl
  | .place _, _ => rfl
  | .first _, _ => rfl
  | .unlike, _ => rfl
  | .squares, _ => rfl
theorem parts_flat : ∀ {x : Qn}, ∀ v ∈ x.parts, (∃ z, v = .str z) ∨ ∃ i, v = .int i
  | .count z, v, h => .inl ⟨z, List.mem_singleton.mp h⟩
  | .lot _, v, h => nomatch h
  | .apart y z, v, h => by
    rcases List.mem_cons.mp h with h | h
    · exact .inl ⟨y, h⟩
    · exact .inl ⟨z, List.mem_singleton.mp h⟩
  | .place z, v, h => .inl ⟨z, List.mem_singleton.mp h⟩
  | .first j, v, h => .inr ⟨j, List.mem_singleton.mp h⟩
  | .unlike, v, h => nomatch h
  | .squares, v, h => nomatch h
theorem parts_len (x : Qn) : x.parts.length ≤ 2 := by
  cases x <;> simp [Qn.parts]
theorem ok_asked (T : Blt mg) (d : DnAsked K mg) : FnOk P w K mg base CX0 1 d.f d.fd ["question"] (spAsked K) := by
  refine d.F.ok scP_asked (fun vs H Q E h => ?_) (fun cdv A outer s H vs Q E hr h => ?_)
  · obtain ⟨q, x, rfl, _⟩ := h
    rfl
  · obtain ⟨q, x, rfl, hq, k⟩ := h
    refine ⟨_, (pss_cons (ps_if (pt_cmpR op_eq (pe_ix ix_tup (pv 0) pe_int (fun _ _ => rfl)) pe_str (nomark _))
      (pss_one (ps_ret (pe_ix ix_tup (pv 0) pe_int (fun _ _ => rfl))))
      pss_nil)
    (pss_one (ps_ret (pe_callTy call_tuple_of (by rfl) T.n_tuple (by decide +kernel) (pa_cons (pe_lc (own := [("part", 1)]) (g := gName 1) rfl scP_asked.nd (pi_tup (pe_slice sl_tup (pv 0) (po_some pe_int) po_none)) (blkOk_by (N := NP_asked) (sc := defScope sP_asked) (by decide +kernel)) (fun _ _ _ _ _ => pg_name (i := 1) scP_asked.nd rfl (Or.inl rfl)) (fun _ _ _ _ _ => pts_one (pt_val (pe_callB (r := rIsi K) call_isi (by rfl) T.n_isinstance (show bootBuiltins (Str.ofString "isinstance") = some (Value.builtin "isinstance") by decide +kernel) (pa_cons (pv 1) (pa_cons (pe_bltn (v := .ty "str") (by rfl) T.n_str (by decide +kernel) rfl) pa_nil))))) (fun _ _ _ _ _ => (pv 1))) pa_nil))))), ?_⟩
    by_cases hlot : ∃ zs, x = .lot zs
    · obtain ⟨zs, rfl⟩ := hlot
      obtain ⟨t, h1, h2⟩ := hq
      refine ⟨.ref q, rfl, q, _, _, _, rfl, rfl, h1, atI_nat (j := 0) rfl, rfl, true, congrArg V.bl (decide_eq_true rfl), iteT ?_⟩
      exact ⟨.ref q, rfl, q, _, _, _, rfl, rfl, h1, atI_nat (j := 1) rfl, k H t (fun _ _ e => e) h2⟩
    · have hno : ∀ zs, x ≠ .lot zs := fun zs e => hlot ⟨zs, e⟩
      have hq : SqT K H q (.str x.word :: x.parts) := by
        cases x with
        | lot zs => exact absurd rfl (hno zs)
        | _ => exact hq
      refine ⟨.ref q, rfl, q, _, _, _, rfl, rfl, hq, atI_nat (j := 0) rfl, rfl, false, congrArg V.bl (lot_ne hno), iteF ?_⟩
      have pl := parts_len x
      have sx1 : HT.sIx (V.str x.word :: x.parts).length 0 (some 1) = 1 := by
        rw [show HT.sIx (V.str x.word :: x.parts).length 0 (some 1) = min 1 (V.str x.word :: x.parts).length from HT.sIx_nat _ _ 1, List.length_cons]
        omega
      refine ⟨.ref q, rfl, 1, rfl, q, _, rfl, hq, fun z => absurd (sx1.symm.trans z.1) (by decide), fun p np => ?_⟩
      have ec : cutV (V.str x.word :: x.parts) (some 1) none = x.parts := by
        unfold cutV
        rw [sx1, HT.sIx_none]
        show List.take ((V.str x.word :: x.parts).length - 1) x.parts = _
        exact List.take_of_length_le (by rw [List.length_cons]; omega)
      rw [ec]
      refine ⟨p, rfl, ⟨_, .inl (.inl upd_same)⟩, fun D nD => ?_⟩
      have pD : p ≠ D := ne_of_none upd_same nD
      have nD0 : H D = none := Same.gone (same_upd np) nD
      refine lc_tup (xs := x.parts) (fun i H3 => Same H H3 ∧ H3 p = some (.tup x.parts) ∧ H3 D = some (.lst (strsV (x.parts.take i)))) ⟨Same.new (same_upd np) nD, by rw [upd_ne pD]; exact upd_same, upd_same⟩ (fun i H3 _ h3 => .inl (.inl h3.2.1)) (fun i v H3 hv h3 => ?_) (fun H3 h3 => ?_)
      · obtain ⟨s3, hp3, hD3⟩ := h3
        have sn : strsV (x.parts.take (i + 1)) = strsV (x.parts.take i) ++ strsV [v] := by
          rw [List.take_add_one, hv]
          exact List.filter_append _ _
        have hll : (strsV (x.parts.take i)).length ≤ 2 := by
          refine Nat.le_trans (List.length_filter_le _ _) ?_
          rw [List.length_take]
          omega
        rcases parts_flat v (List.mem_of_getElem? hv) with ⟨z, rfl⟩ | ⟨j, rfl⟩
        · refine ⟨rfl, .str z, rfl, .str z, _, _, _, true, rfl, .ty "str", .base (.str z), kit_ty (by decide +kernel), true, rfl, iteT ?_⟩
          refine ⟨.str z, rfl, _, hD3, by rw [sizeLine_eq]; omega, Same.put s3 nD0, by rw [upd_ne pD]; exact hp3, by rw [upd_same, sn]; rfl⟩
        · refine ⟨rfl, .int j, rfl, .int j, _, _, _, false, rfl, .ty "str", .base (.int j), kit_ty (by decide +kernel), false, rfl, iteF ?_⟩
          refine ⟨s3, hp3, ?_⟩
          rw [sn, show strsV [V.int j] = [] from rfl, List.append_nil]
          exact hD3
      · obtain ⟨s3, hp3, hD3⟩ := h3
        rw [List.take_length, parts_strs hno] at hD3
        exact ⟨D, _, rfl, .inl ⟨sql hD3, fun u nu => k _ u (Same.new s3 nu) (.inl (.inl upd_same))⟩⟩
/-! parted -/
def spParted : Sp := fun vs H Q _ => ∃ (a sz : Int), vs = [.int a, .int sz] ∧ 0 ≤ a ∧ (a = 0 ∨ (0 < sz ∧ sz < 2 ^ 100)) ∧ ∀ H' p (ts : List Addr), Same H H' → H p = none → H' p = some (.lst (ts.map V.ref)) → Paired (PrI H') ts (partedZ a sz) → Q (.ref p) H'
theorem ok_parted (T : Blt mg) (d : DnParted K mg) : FnOk P w K mg base CX0 1 d.f d.fd ["amount", "size"] spParted := by
  refine d.F.ok scP_parted (fun vs H Q E h => ?_) (fun cdv A outer s H vs Q E hr h => ?_)
  · obtain ⟨a, sz, rfl, _⟩ := h
    rfl
  · obtain ⟨a, sz, rfl, ha, hsz, k⟩ := h
    refine ⟨_, (pss_cons (ps_if (pt_cmpR op_eq (pv 0) pe_int (nomark _))
      (pss_one (ps_ret (pe_lst pa_nil)))
      pss_nil)
    (pss_cons (ps_set (i := 2) scP_parted.nd rfl (Or.inl rfl) (pe_lst (pa_cons (pe_tup (pa_cons (pv 1) (pa_cons (pe_op op_fdivW (pv 0) (pv 1)) pa_nil))) (pa_cons (pe_tup (pa_cons (pe_op op_mod (pv 0) (pv 1)) (pa_cons pe_int pa_nil))) pa_nil))))
    (pss_one (ps_ret (pe_lc (own := [("part", 3), ("many", 4)]) (g := gTup K 2 (gCons (gName 3) (gCons (gName 4) gNil))) rfl scP_parted.nd (pi_list (pv 2)) (blkOk_by (N := NP_parted) (sc := defScope sP_parted) (by decide +kernel)) (fun _ _ _ _ _ => pg_tup (by rfl) (pgs_cons (pg_name (i := 3) scP_parted.nd rfl (Or.inl rfl)) (pgs_cons (pg_name (i := 4) scP_parted.nd rfl (Or.inl rfl)) pgs_nil))) (fun _ _ _ _ _ => pts_one (PW.pt (pw_and (pt_cmpR op_gt (pv 3) pe_int (nomark _)) (pw_and1 (pt_cmpR op_gt (pv 4) pe_int (nomark _)))))) (fun _ _ _ _ _ => (pe_tup (pa_cons (pv 3) (pa_cons (pv 4) pa_nil))))))))), ?_⟩
    refine ⟨.int a, rfl, rfl, _, rfl, ?_⟩
    by_cases h0 : a = 0
    · rw [show decide (V.int a = V.int 0) = true from decide_eq_true (by rw [h0])]
      refine iteT ⟨(by show 0 ≤ sizeLine; decide), fun p np => k _ p [] (same_upd np) np upd_same ?_⟩
      unfold partedZ
      rw [if_pos h0]
      exact .nil
    · rw [show decide (V.int a = V.int 0) = false from decide_eq_false (by intro z; injection z with z; exact h0 z)]
      obtain ⟨h1, h2⟩ : 0 < sz ∧ sz < 2 ^ 100 := by
        rcases hsz with h | h
        · exact absurd h h0
        · exact h
      refine iteF ⟨.int sz, rfl, .int a, rfl, .int sz, rfl, _, _, rfl, rfl, wide_div (b := 100) h1 (by omega) (by decide) (by decide), (by show 2 ≤ sizeLine; decide), fun t1 n1 => ?_⟩
      refine ⟨.int a, rfl, .int sz, rfl, _, _, rfl, rfl, h1, (by show 2 ≤ sizeLine; decide), fun t2 n2 => ⟨(by show 2 ≤ sizeLine; decide), fun l nl => ?_⟩⟩
      have s1 : Same H (upd (upd (upd H t1 (.tup [.int sz, .int (a / sz)])) t2 (.tup [.int (a % sz), .int 1])) l (.lst [.ref t1, .ref t2])) := Same.new (Same.new (same_upd n1) n2) nl
      have g1 := Same.new (o := .lst [.ref t1, .ref t2]) (same_upd (o := .tup [.int (a % sz), .int 1]) n2) nl t1 _ upd_same
      have g2 := same_upd (o := .lst [.ref t1, .ref t2]) nl t2 _ (upd_same (H := upd H t1 (.tup [.int sz, .int (a / sz)])))
      have gl : (upd (upd (upd H t1 (.tup [.int sz, .int (a / sz)])) t2 (.tup [.int (a % sz), .int 1])) l (.lst [.ref t1, .ref t2])) l = some (.lst [.ref t1, .ref t2]) := upd_same
      generalize upd (upd (upd H t1 (.tup [.int sz, .int (a / sz)])) t2 (.tup [.int (a % sz), .int 1])) l (.lst [.ref t1, .ref t2]) = H1 at s1 g1 g2 gl ⊢
      refine ⟨.ref l, rfl, l, rfl, ⟨_, sql gl⟩, fun D nD => ?_⟩
      have nD0 : H D = none := Same.gone s1 nD
      have hp : Paired (PrI H1) [t1, t2] (groupsZ a sz) := .cons g1 (.cons g2 .nil)
      refine lc_list (xs := [.ref t1, .ref t2]) (fun i H3 => Same H1 H3 ∧ ∃ ts : List Addr, H3 D = some (.lst (ts.map V.ref)) ∧ Paired (PrI H3) ts (((groupsZ a sz).take i).filter okG)) ⟨same_upd nD, [], upd_same, .nil⟩ (fun i H3 _ h3 => sql (h3.1 _ _ gl)) (fun i x H3 hx h3 => ?_) (fun H3 h3 => ?_)
      · obtain ⟨s3, ts, hD, hts⟩ := h3
        obtain ⟨t, ht, rfl⟩ := map_at (f := V.ref) (xs := [t1, t2]) hx
        obtain ⟨e, he, hat⟩ := paired_at hp ht
        have hat3 : PrI H3 t e := s3 _ _ hat
        have hi : i < 2 := (List.getElem?_eq_some_iff.mp ht).1
        have tk : (groupsZ a sz).take (i + 1) = (groupsZ a sz).take i ++ [e] := by rw [List.take_add_one, he]; rfl
        have hl2 : ts.length ≤ 2 := by
          rw [Paired.length hts]
          refine Nat.le_trans (List.length_filter_le _ _) ?_
          rw [List.length_take]
          omega
        have no : okG e = false → (((groupsZ a sz).take (i + 1)).filter okG) = (((groupsZ a sz).take i).filter okG) := fun h => by
          rw [tk, List.filter_append, List.filter_cons_of_neg (by rw [h]; decide)]
          exact List.append_nil _
        refine ⟨t, _, rfl, .inl (.inl hat3), rfl, _, _, rfl, _, _, rfl, rfl, rfl, .int e.1, rfl, _, _, rfl, rfl, _, rfl, ?_⟩
        refine ite2 (fun h1 => ?_) fun h1 => ?_
        · refine ⟨.int e.2, rfl, _, _, rfl, rfl, _, rfl, ?_⟩
          refine ite2 (fun h2 => ?_) fun h2 => ?_
          · refine ⟨.int e.1, rfl, .int e.2, rfl, (by show 2 ≤ sizeLine; decide), fun u nu => ?_⟩
            have hk : okG e = true := by
              unfold okG
              rw [Bool.and_eq_true]
              exact ⟨h1, h2⟩
            have uD : u ≠ D := (ne_of_none hD nu).symm
            refine ⟨_, by rw [upd_ne uD.symm]; exact hD, by rw [List.length_map, sizeLine_eq]; omega, fun b o e' => ?_, ts ++ [u], by rw [upd_same, List.map_append]; rfl, ?_⟩
            · rw [upd_ne (ne_of_none e' nD), upd_ne (ne_of_none (s3 _ _ e') nu)]
              exact s3 _ _ e'
            · rw [tk, List.filter_append, List.filter_cons_of_pos (by exact hk)]
              refine paired_snoc (paired_imp (fun t' e' h => ?_) hts) ?_
              · show upd _ D _ t' = _
                rw [upd_ne (ne_of h hD (by intro z; cases z)), upd_ne (ne_of_none h nu)]
                exact h
              · show upd _ D _ u = _
                rw [upd_ne uD]
                exact upd_same
          · exact ⟨s3, ts, hD, by rw [no (by unfold okG; rw [show decide (0 < e.2) = false by simpa using h2, Bool.and_false])]; exact hts⟩
        · exact ⟨s3, ts, hD, by rw [no (by unfold okG; rw [show decide (0 < e.1) = false by simpa using h1, Bool.false_and])]; exact hts⟩
      · obtain ⟨s3, ts, hD, hts⟩ := h3
        refine k H3 D ts (fun b o e => s3 _ _ (s1 _ _ e)) nD0 hD ?_
        unfold partedZ
        rw [if_neg h0]
        exact hts
end
end Kb

namespace Kb
/-! how many can have a greater count than one name -/
def needZ (mine c : Int) : Int := if mine + 1 - c > 0 then mine + 1 - c else 0
theorem needZ_nn {mine c : Int} : 0 ≤ needZ mine c := by unfold needZ; split <;> omega
def plZ (off mine : Int) : List Int → Int → Int
  | [], S => if mine + 1 ≤ off then S / (mine + 1) else 0
  | b :: L, S => if needZ mine b ≤ mnI off S then 1 + plZ off mine L (S - needZ mine b) else plZ off mine L S
theorem mnI_iff {d off S : Int} : d ≤ mnI off S ↔ d ≤ off ∧ d ≤ S := by unfold mnI; split <;> omega
theorem plZ_nn {off mine : Int} (m0 : 0 ≤ mine) : ∀ {L : List Int} {S : Int}, 0 ≤ S → 0 ≤ plZ off mine L S
  | [], S, h => by
    show 0 ≤ if mine + 1 ≤ off then S / (mine + 1) else 0
    split
    · exact Int.ediv_nonneg h (by omega)
    · exact Int.le_refl _
  | b :: L, S, h => by
    show 0 ≤ if needZ mine b ≤ mnI off S then 1 + plZ off mine L (S - needZ mine b) else plZ off mine L S
    split
    · rename_i c
      have := mnI_iff.mp c
      have := plZ_nn (off := off) m0 (L := L) (S := S - needZ mine b) (by omega)
      omega
    · exact plZ_nn m0 h
/-- needs that rise: none is met that is more than what there is -/
theorem plZ_zero {off mine d : Int} (m0 : 0 ≤ mine) : ∀ {L : List Int} {S : Int}, 0 ≤ S → S < d → d ≤ mine + 1 → (∀ b ∈ L, d ≤ needZ mine b) → plZ off mine L S = 0
  | [], S, s0, h, hd, _ => by
    show (if mine + 1 ≤ off then S / (mine + 1) else 0) = 0
    split
    · exact Int.ediv_eq_zero_of_lt s0 (by omega)
    · rfl
  | b :: L, S, s0, h, hd, hb => by
    have := hb b List.mem_cons_self
    show (if needZ mine b ≤ mnI off S then 1 + plZ off mine L (S - needZ mine b) else plZ off mine L S) = 0
    rw [if_neg (fun c => by have := mnI_iff.mp c; omega)]
    exact plZ_zero m0 s0 h hd fun x hx => hb x (List.mem_cons_of_mem _ hx)
theorem need_rise {mine : Int} {L : List Int} (f : Fall L) : L.Pairwise fun a b => needZ mine a ≤ needZ mine b := f.imp fun {a b} h => by
  unfold needZ
  split <;> split <;> omega
theorem need_le {mine b : Int} (h : 0 ≤ b) (m0 : 0 ≤ mine) : needZ mine b ≤ mine + 1 := by unfold needZ; split <;> omega
theorem plZ_mono {off mine : Int} (m0 : 0 ≤ mine) : ∀ {L : List Int} {S S' : Int}, Nn L → Fall L → 0 ≤ S → S ≤ S' → plZ off mine L S ≤ plZ off mine L S'
  | [], S, S', _, _, s0, h => by
    show (if mine + 1 ≤ off then S / (mine + 1) else 0) ≤ if mine + 1 ≤ off then S' / (mine + 1) else 0
    split
    · exact Int.ediv_le_ediv (by omega) h
    · exact Int.le_refl _
  | b :: L, S, S', n, f, s0, h => by
    show (if needZ mine b ≤ mnI off S then 1 + plZ off mine L (S - needZ mine b) else plZ off mine L S) ≤ if needZ mine b ≤ mnI off S' then 1 + plZ off mine L (S' - needZ mine b) else plZ off mine L S'
    have nb := n.cons
    have fb := f.cons
    by_cases c1 : needZ mine b ≤ mnI off S
    · have c1' := mnI_iff.mp c1
      rw [if_pos c1, if_pos (mnI_iff.mpr ⟨c1'.1, by omega⟩)]
      have := plZ_mono (off := off) m0 (L := L) (S := S - needZ mine b) (S' := S' - needZ mine b) nb.2 fb.2 (by omega) (by omega)
      omega
    · rw [if_neg c1]
      by_cases c2 : needZ mine b ≤ mnI off S'
      · rw [if_pos c2]
        have c2' := mnI_iff.mp c2
        have hS : S < needZ mine b := by
          have := mt mnI_iff.mpr c1
          omega
        have r := need_rise (mine := mine) f
        rw [List.pairwise_cons] at r
        rw [plZ_zero (d := needZ mine b) m0 s0 hS (need_le nb.1 m0) r.1]
        have := plZ_nn (off := off) m0 (L := L) (S := S' - needZ mine b) (by omega)
        omega
      · rw [if_neg c2]
        exact plZ_mono m0 nb.2 fb.2 s0 h
theorem plZ_less {off mine d : Int} (m0 : 0 ≤ mine) (d0 : 0 ≤ d) (dm : d ≤ mine + 1) : ∀ {L : List Int} {S : Int}, Nn L → Fall L → (∀ b ∈ L, d ≤ needZ mine b) → d ≤ S → plZ off mine L S ≤ 1 + plZ off mine L (S - d)
  | [], S, _, _, _, h => by
    show (if mine + 1 ≤ off then S / (mine + 1) else 0) ≤ 1 + if mine + 1 ≤ off then (S - d) / (mine + 1) else 0
    split
    · have h1 : S / (mine + 1) ≤ (S - d + (mine + 1)) / (mine + 1) := Int.ediv_le_ediv (by omega) (by omega)
      have h2 := Int.add_mul_ediv_right (S - d) 1 (show mine + 1 ≠ 0 by omega)
      rw [Int.one_mul] at h2
      omega
    · omega
  | b :: L, S, n, f, hb, h => by
    have nb := n.cons
    have fb := f.cons
    have h1 := hb b List.mem_cons_self
    have hL : ∀ x ∈ L, d ≤ needZ mine x := fun x hx => hb x (List.mem_cons_of_mem _ hx)
    show (if needZ mine b ≤ mnI off S then 1 + plZ off mine L (S - needZ mine b) else plZ off mine L S) ≤ 1 + if needZ mine b ≤ mnI off (S - d) then 1 + plZ off mine L (S - d - needZ mine b) else plZ off mine L (S - d)
    by_cases c1 : needZ mine b ≤ mnI off S
    · have c1' := mnI_iff.mp c1
      rw [if_pos c1]
      by_cases c2 : needZ mine b ≤ mnI off (S - d)
      · have c2' := mnI_iff.mp c2
        rw [if_pos c2]
        have := plZ_less (off := off) m0 d0 dm (L := L) (S := S - needZ mine b) nb.2 fb.2 hL (by omega)
        rw [show S - needZ mine b - d = S - d - needZ mine b by omega] at this
        omega
      · rw [if_neg c2]
        have := plZ_mono (off := off) m0 (L := L) (S := S - needZ mine b) (S' := S - d) nb.2 fb.2 (by omega) (by omega)
        omega
    · rw [if_neg c1]
      by_cases c2 : needZ mine b ≤ mnI off (S - d)
      · exact absurd (mnI_iff.mpr ⟨(mnI_iff.mp c2).1, by have := (mnI_iff.mp c2).2; omega⟩) c1
      · rw [if_neg c2]
        exact plZ_less m0 d0 dm nb.2 fb.2 hL h
/-- how many of these are more -/
def cntG (mine : Int) (l : List Int) : Int := ((l.filter fun x => decide (mine < x)).length : Nat)
theorem cntG_cons (mine a : Int) (l : List Int) : cntG mine (a :: l) = (if mine < a then 1 else 0) + cntG mine l := by
  unfold cntG
  by_cases h : mine < a
  · rw [List.filter_cons_of_pos (by simpa using h), if_pos h, List.length_cons]
    push_cast
    omega
  · rw [List.filter_cons_of_neg (by simpa using h), if_neg h]
    omega
theorem cntG_app (mine : Int) (l m : List Int) : cntG mine (l ++ m) = cntG mine l + cntG mine m := by
  unfold cntG
  rw [List.filter_append, List.length_append]
  push_cast
  rfl
theorem cntG_perm {mine : Int} {l m : List Int} (p : l.Perm m) : cntG mine l = cntG mine m := by
  unfold cntG
  rw [(p.filter _).length_eq]
theorem cntG_nn (mine : Int) (l : List Int) : 0 ≤ cntG mine l := by unfold cntG; omega
/-- fresh names that are more: each has taken so much -/
theorem fresh_more {mine : Int} (m0 : 0 ≤ mine) : ∀ {f : List Int}, (∀ x ∈ f, 0 ≤ x) → cntG mine f * (mine + 1) ≤ f.sum
  | [], _ => by show (0 : Int) * _ ≤ 0; omega
  | a :: f, h => by
    have h0 := h a List.mem_cons_self
    have := fresh_more m0 (f := f) fun x hx => h x (List.mem_cons_of_mem _ hx)
    rw [cntG_cons, List.sum_cons, Int.add_mul]
    split <;> omega
theorem plZ_best {off mine : Int} (m0 : 0 ≤ mine) (o0 : 0 ≤ off) : ∀ {L t f : List Int} {S : Int}, Nn L → Fall L → t.length = L.length → (∀ x ∈ t, 0 ≤ x ∧ x ≤ off) → (∀ x ∈ f, 0 ≤ x ∧ x ≤ off) → t.sum + f.sum ≤ S →
    cntG mine (List.zipWith (· + ·) L t) + cntG mine f ≤ plZ off mine L S
  | [], t, f, S, _, _, hl, _, hf, e => by
    obtain rfl : t = [] := List.length_eq_zero_iff.mp hl
    rw [List.sum_nil] at e
    show (0 : Int) + cntG mine f ≤ if mine + 1 ≤ off then S / (mine + 1) else 0
    split
    · have := fresh_more m0 fun x hx => (hf x hx).1
      rw [Int.zero_add]
      exact (Int.le_ediv_iff_mul_le (by omega)).mpr (by omega)
    · have : cntG mine f = 0 := by
        unfold cntG
        rw [List.filter_eq_nil_iff.mpr fun x hx => by have := (hf x hx).2; simp; omega]
        rfl
      omega
  | b :: L, t, f, S, n, fl, hl, ht, hf, e => by
    match t, hl with
    | t0 :: t, hl =>
      have h0 := ht t0 List.mem_cons_self
      have nb := n.cons
      have fb := fl.cons
      have hl' : t.length = L.length := by simpa using hl
      have ht' : ∀ x ∈ t, 0 ≤ x ∧ x ≤ off := fun x hx => ht x (List.mem_cons_of_mem _ hx)
      rw [List.sum_cons] at e
      have st : 0 ≤ t.sum := sum_nn fun x hx => (ht' x hx).1
      have sf : 0 ≤ f.sum := sum_nn fun x hx => (hf x hx).1
      have r := need_rise (mine := mine) fl
      rw [List.pairwise_cons] at r
      show cntG mine ((b + t0) :: List.zipWith (· + ·) L t) + cntG mine f ≤ if needZ mine b ≤ mnI off S then 1 + plZ off mine L (S - needZ mine b) else plZ off mine L S
      rw [cntG_cons]
      have ndef : mine < b + t0 → needZ mine b ≤ t0 := fun h => by unfold needZ; split <;> omega
      by_cases c1 : needZ mine b ≤ mnI off S
      · have c1' := mnI_iff.mp c1
        rw [if_pos c1]
        by_cases c2 : mine < b + t0
        · rw [if_pos c2]
          have ih := plZ_best m0 o0 (L := L) (t := t) (f := f) (S := S - t0) nb.2 fb.2 hl' ht' hf (by omega)
          have := plZ_mono (off := off) m0 (L := L) (S := S - t0) (S' := S - needZ mine b) nb.2 fb.2 (by omega) (by have := ndef c2; omega)
          omega
        · rw [if_neg c2]
          have ih := plZ_best m0 o0 (L := L) (t := t) (f := f) (S := S) nb.2 fb.2 hl' ht' hf (by omega)
          have := plZ_less (off := off) m0 needZ_nn (need_le nb.1 m0) (L := L) (S := S) nb.2 fb.2 r.1 c1'.2
          omega
      · rw [if_neg c1]
        have c2 : ¬ mine < b + t0 := fun h => c1 (mnI_iff.mpr ⟨by have := ndef h; omega, by have := ndef h; omega⟩)
        rw [if_neg c2]
        have ih := plZ_best m0 o0 (L := L) (t := t) (f := f) (S := S) nb.2 fb.2 hl' ht' hf (by omega)
        omega
end Kb

namespace Kb
open PySem PySem.Spec PyProof.Rows L2 SrtZ SrtO FlX LamX
abbrev sP_filled : Stmt := topS 28
abbrev NP_filled : List Str := ["sketch", "question", "names", "size", "off", "left", "taken", "name"]
theorem scP_filled : FnScope ["sketch", "question", "names", "size", "off", "left", "taken", "name"] ["sketch", "question", "names", "size"] (defScope sP_filled) := ⟨rfl, rfl, rfl, by decide +kernel, rfl, by decide +kernel, by decide +kernel⟩
abbrev sP_passed : Stmt := topS 29
abbrev NP_passed : List Str := ["sketch", "name", "off", "left", "counts", "mine", "taken", "other", "need"]
theorem scP_passed : FnScope ["sketch", "name", "off", "left", "counts", "mine", "taken", "other", "need"] ["sketch", "name"] (defScope sP_passed) := ⟨rfl, rfl, rfl, by decide +kernel, rfl, by decide +kernel, by decide +kernel⟩
abbrev DnFilled (K : PySem.W.Frag) (mg : Str → Option Value) := Dn K mg "_filled" sP_filled ["sketch", "question", "names", "size"]
abbrev DnPassed (K : PySem.W.Frag) (mg : Str → Option Value) := Dn K mg "_passed" sP_passed ["sketch", "name"]
/-- a plan on the heap: what is taken, and parts -/
structure PlanAt (H : Hp) (p : Addr) (x : Ct × List (Int × Int)) : Prop where
  ob : ∃ (d l : Addr) (ts : List Addr), H p = some (.tup [.ref d, .ref l]) ∧ H d = some (.dK (x.1.map entZ)) ∧ H l = some (.lst (ts.map V.ref)) ∧ Paired (PrI H) ts x.2
theorem PlanAt.same {H H' : Hp} {p : Addr} {x : Ct × List (Int × Int)} (h : PlanAt H p x) (y : Same H H') : PlanAt H' p x := by
  obtain ⟨d, l, ts, h1, h2, h3, h4⟩ := h.ob
  exact ⟨d, l, ts, y _ _ h1, y _ _ h2, y _ _ h3, paired_imp (fun t e h => y _ _ h) h4⟩
theorem PlanAt.ext {H H' : Hp} {p P : Addr} {c : Str} {x : Ct × List (Int × Int)} (h : PlanAt H p x) (T : TabS H P c) (y : ExT P c H H') : PlanAt H' p x := by
  obtain ⟨d, l, ts, h1, h2, h3, h4⟩ := h.ob
  exact ⟨d, l, ts, y.at T h1 (by intro _ z; cases z), y.at T h2 (by intro _ z; cases z), y.at T h3 (by intro _ z; cases z), paired_imp (fun t e h => y.at T h (by intro _ z; cases z)) h4⟩
theorem SkC.ext {K : PySem.W.Frag} {H H' : Hp} {s P : Addr} {c : Str} {r m o : Int} {kvs : Ct} (h : SkC K H s r m o kvs) (T : TabS H P c) (y : ExT P c H H') : SkC K H' s r m o kvs := by
  obtain ⟨k, ts, h1, ⟨ob, h2, h4⟩, h3⟩ := h.ob
  exact ⟨k, ts, y.tup T h1, ⟨ob, y.at T h2 (by intro _ z; cases z), h4⟩, paired_imp (fun t e h => y.tup T h) h3⟩
/-- a tuple or a list of these -/
def SqX (K : PySem.W.Frag) (H : Hp) (a : Addr) (xs : List V) : Prop := SqT K H a xs ∨ H a = some (.lst xs)
theorem SqX.same {K : PySem.W.Frag} {H H' : Hp} {a : Addr} {xs : List V} (h : SqX K H a xs) (s : Same H H') : SqX K H' a xs := by
  rcases h with h | h
  · exact .inl (seqT h s)
  · exact .inr (s _ _ h)
theorem pi_or {X : Cx} {tg iter : Expr} {w1 w2 : TI} (h1 : PI X tg iter w1) (h2 : PI X tg iter w2) : PI X tg iter (fun σ H R => w1 σ H R ∨ w2 σ H R) := by
  refine ⟨fun pins s σ H R I h => ?_⟩
  rcases h with h | h
  · exact h1.run pins s σ H R I h
  · exact h2.run pins s σ H R I h
def planZ (kvs : Ct) (m off size : Int) (zs ys : List Str) : Ct × List (Int × Int) := ((fillZ off ys (nullZ zs [], m - sumC kvs)).1, partedZ (fillZ off ys (nullZ zs [], m - sumC kvs)).2 size)
/-- just so much from others that as many as can be have a greater count -/
def passB (off mine : Int) (name : Str) (e : Str × Int) (left : Int) : Bool := !decide (e.1 = name) && decide (needZ mine e.2 ≤ mnI off left)
def passZ (off mine : Int) (name : Str) : Ct → Ct × Int → Ct × Int
  | [], x => x
  | e :: r, x => passZ off mine name r (if passB off mine name e x.2 = true then (putZ x.1 e.1 (needZ mine e.2), x.2 - needZ mine e.2) else x)
theorem passZ_snoc (off mine : Int) (name : Str) (e : Str × Int) : ∀ (zs : Ct) (x : Ct × Int), passZ off mine name (zs ++ [e]) x = passZ off mine name [e] (passZ off mine name zs x)
  | [], _ => rfl
  | z :: r, x => passZ_snoc off mine name e r _
theorem passZ_len (off mine : Int) (name : Str) : ∀ (zs : Ct) (x : Ct × Int), (passZ off mine name zs x).1.length ≤ x.1.length + zs.length
  | [], _ => Nat.le_refl _
  | z :: r, x => by
    have := passZ_len off mine name r (if passB off mine name z x.2 = true then (putZ x.1 z.1 (needZ mine z.2), x.2 - needZ mine z.2) else x)
    show (passZ off mine name r _).1.length ≤ x.1.length + (r.length + 1)
    refine Nat.le_trans this ?_
    split
    · have := putZ_len (kvs := x.1) (n := z.1) (v := needZ mine z.2)
      dsimp only
      omega
    · omega
theorem passZ_left {off mine : Int} (name : Str) : ∀ (zs : Ct) (x : Ct × Int), 0 ≤ x.2 → 0 ≤ (passZ off mine name zs x).2 ∧ (passZ off mine name zs x).2 ≤ x.2
  | [], x, h => ⟨h, Int.le_refl _⟩
  | z :: r, x, h => by
    have nn : 0 ≤ needZ mine z.2 := by unfold needZ; split <;> omega
    have g : 0 ≤ (if passB off mine name z x.2 = true then (putZ x.1 z.1 (needZ mine z.2), x.2 - needZ mine z.2) else x).2 ∧ (if passB off mine name z x.2 = true then (putZ x.1 z.1 (needZ mine z.2), x.2 - needZ mine z.2) else x).2 ≤ x.2 := by
      split
      · rename_i hb
        unfold passB at hb
        rw [Bool.and_eq_true, decide_eq_true_eq] at hb
        have := mnI_le (off := off) (S := x.2)
        dsimp only
        omega
      · omega
    have := passZ_left (off := off) (mine := mine) name r _ g.1
    show 0 ≤ (passZ off mine name r _).2 ∧ (passZ off mine name r _).2 ≤ x.2
    exact ⟨this.1, Int.le_trans this.2 g.2⟩
def planP (kvs : Ct) (m off : Int) (z : Str) : Ct × List (Int × Int) := ((passZ off (gd kvs z) z (fallBy (·.2) kvs) ([(z, 0)], m - sumC kvs)).1, partedZ (passZ off (gd kvs z) z (fallBy (·.2) kvs) ([(z, 0)], m - sumC kvs)).2 (mnI (gd kvs z + 1) off))
section
variable {P : Program} {w : World} {K : PySem.W.Frag} {mg : Str → Option Value} {base : Heap}
/-! _filled -/
def spFilled (K : PySem.W.Frag) : Sp := fun vs H Q _ => ∃ (s q n : Addr) (r m off size : Int) (kvs : Ct) (x : Qn) (ys : List Str), vs = [.ref s, .ref q, .ref n, .int size] ∧ SkC K H s r m off kvs ∧ SkG r m off kvs ∧ QnAt K H q x ∧ QnOk x ∧ SqX K H n (ys.map V.str) ∧ ys.length ≤ 100 ∧ size < 2 ^ 100 ∧ (0 < size ∨ (fillZ off ys (nullZ x.names [], m - sumC kvs)).2 = 0) ∧
  ∀ H' p, Same H H' → H p = none → PlanAt H' p (planZ kvs m off size x.names ys) → Q (.ref p) H'
theorem ok_filled (T : Blt mg) (dP_lost_of : DnLostOf K mg) (dP_asked : DnAsked K mg) (dP_parted : DnParted K mg) (d : DnFilled K mg) : FnOk P w K mg base CX0 2 d.f d.fd ["sketch", "question", "names", "size"] (spFilled K) := by
  have GP_lost_of : FnOk P w K mg base CX0 1 dP_lost_of.f dP_lost_of.fd ["sketch"] (spLostOf K) := ok_lost_of T dP_lost_of
  have GP_asked : FnOk P w K mg base CX0 1 dP_asked.f dP_asked.fd ["question"] (spAsked K) := ok_asked T dP_asked
  have GP_parted : FnOk P w K mg base CX0 1 dP_parted.f dP_parted.fd ["amount", "size"] spParted := ok_parted T dP_parted
  refine d.F.ok scP_filled (fun vs H Q E h => ?_) (fun cdv A outer s H vs Q E hr h => ?_)
  · obtain ⟨s, q, n, r, m, off, size, kvs, x, ys, rfl, _⟩ := h
    rfl
  · obtain ⟨sk, q, n, r, m, off, size, kvs, x, ys, rfl, hs, hg, hq, hx, hn, hyl, hs100, hsz, k⟩ := h
    have hu := hu_of hr
    refine ⟨_, (pss_cons (ps_set (i := 4) scP_filled.nd rfl (Or.inl rfl) (pe_ix ix_tup (pv 0) pe_int (fun _ _ => rfl)))
    (pss_cons (ps_set (i := 5) scP_filled.nd rfl (Or.inl rfl) (pe_call GP_lost_of (hr.mono (by omega)) (by rfl) dP_lost_of.g dP_lost_of.F.kp dP_lost_of.b .nil pass0 (pa_cons (pv 0) pa_nil)))
    (pss_cons (ps_setDc (i := 6) (own := [("name", 7)]) (g := gName 7) (tt := tYes) rfl scP_filled.nd rfl rfl (sw_trueD rfl rfl rfl (by decide +kernel)) (pi_tup (pe_call GP_asked (hr.mono (by omega)) (by rfl) dP_asked.g dP_asked.F.kp dP_asked.b .nil pass0 (pa_cons (pv 1) pa_nil))) (blkOk_by (N := NP_filled) (sc := defScope sP_filled) (by decide +kernel)) (fun _ _ _ _ _ => pg_name (i := 7) scP_filled.nd rfl (Or.inl rfl)) (fun _ _ _ _ _ => pts_nil) (fun _ _ _ _ _ => (pv 7)) (fun _ _ _ _ _ => pe_int))
    (pss_cons (ps_for PassesOwn.never rfl (pi_or (pi_tup (pv 2)) (pi_list (pv 2))) (pg_name (i := 7) scP_filled.nd rfl (Or.inl rfl))
      (pss_cons (ps_dput hu (pv 6) (pv 7) (pe_callB (call_min2 rfl) (by rfl) T.n_min (by decide +kernel) (pa_cons (pv 4) (pa_cons (pv 5) pa_nil))) rfl)
      (pss_one (ps_aug (i := 5) scP_filled.nd rfl (Or.inl rfl) (pe_dget hu (pv 6) (pv 7) (fun _ _ => rfl)) ip_sub))))
    (pss_one (ps_ret (pe_tup (pa_cons (pv 6) (pa_cons (pe_call GP_parted (hr.mono (by omega)) (by rfl) dP_parted.g dP_parted.F.kp dP_parted.b .nil pass0 (pa_cons (pv 5) (pa_cons (pv 3) pa_nil))) pa_nil))))))))), ?_⟩
    obtain ⟨kk, ts, h1, h2, h3⟩ := hs.ob
    have hlen := hg.len
    have hr64 := hg.r64
    have hnl := hx.len
    refine ⟨.ref sk, rfl, sk, _, _, _, rfl, rfl, h1, atI_nat (j := 2) rfl, ?_⟩
    refine ⟨.ref sk, rfl, sk, kk, r, m, off, kvs, rfl, h1, ⟨ts, h2.seq, h3⟩, by omega, fun H1 s1 => ?_⟩
    refine ⟨.ref q, rfl, q, x, rfl, hq.same s1, fun H2 a s2 ha => ?_⟩
    refine ⟨a, rfl, ⟨_, ha⟩, fun D nD => ?_⟩
    have s12 : Same H H2 := fun b u e => s2 _ _ (s1 _ _ e)
    have nD0 : H D = none := Same.gone s12 nD
    refine dc_it (walk_tup (K := K) (xs := x.names.map V.str)) (fun i H3 => Same H2 H3 ∧ H3 D = some (.dK ((nullZ (x.names.take i) []).map entZ))) ⟨same_upd nD, upd_same⟩ (fun i H3 _ h3 => seqT ha h3.1) (fun i v H3 H3' hi h3 y => ?_) (fun H3 h3 => ?_)
    · obtain ⟨rfl, hv⟩ := y
      obtain ⟨z, hz, rfl⟩ := map_at hv
      have tk : x.names.take (i + 1) = x.names.take i ++ [z] := by rw [List.take_add_one, hz]; rfl
      have hlt := (List.getElem?_eq_some_iff.mp hz).1
      have nl := nullZ_len (x.names.take i) []
      rw [List.length_take, List.length_nil] at nl
      refine ⟨rfl, .str z, rfl, (nullZ (x.names.take i) []).map entZ, Sum.inr z, rfl, h3.2, by rw [List.length_map, sizeLine_eq]; omega, Same.put h3.1 nD, ?_⟩
      rw [upd_same, tk, nullZ_snoc]
      exact congrArg (fun l => some (HO.dK l)) (putZ_put _ _ _)
    · obtain ⟨s3, hD⟩ := h3
      rw [List.length_map, List.take_length] at hD
      have s03 : Same H H3 := fun b u e => s3 _ _ (s12 _ _ e)
      have h1l : (nullZ x.names []).length ≤ 40 := by
        have := nullZ_len x.names []
        rw [List.length_nil] at this
        omega
      rcases hn with hn | hn
      case' inl => refine .inl ⟨.ref n, rfl, n, rfl, ⟨_, seqT hn s03⟩, for_tup (xs := ys.map V.str) (fun i σ H4 => ∃ y7, σ = [some (.ref sk), some (.ref q), some (.ref n), some (.int size), some (.int off), some (.int (fillZ off (ys.take i) (nullZ x.names [], m - sumC kvs)).2), some (.ref D), y7] ∧ Same H H4 ∧ H4 D = some (.dK ((fillZ off (ys.take i) (nullZ x.names [], m - sumC kvs)).1.map entZ)))
        ⟨none, rfl, s03, hD⟩ (fun i σ H4 _ ⟨_, _, s4, _⟩ => seqT hn s4) ?t1 ?t2⟩
      case' inr => refine .inr ⟨.ref n, rfl, n, rfl, ⟨_, sql (s03 _ _ hn)⟩, for_list (xs := ys.map V.str) (fun i σ H4 => ∃ y7, σ = [some (.ref sk), some (.ref q), some (.ref n), some (.int size), some (.int off), some (.int (fillZ off (ys.take i) (nullZ x.names [], m - sumC kvs)).2), some (.ref D), y7] ∧ Same H H4 ∧ H4 D = some (.dK ((fillZ off (ys.take i) (nullZ x.names [], m - sumC kvs)).1.map entZ)))
        ⟨none, rfl, s03, hD⟩ (fun i σ H4 _ ⟨_, _, s4, _⟩ => sql (s4 _ _ hn)) ?u1 ?u2⟩
      case t1 | u1 =>
        rintro i v σ H4 hi ⟨y7, rfl, s4, hD4⟩
        obtain ⟨y, hy, rfl⟩ := map_at hi
        have tk : ys.take (i + 1) = ys.take i ++ [y] := by rw [List.take_add_one, hy]; rfl
        have hlt := (List.getElem?_eq_some_iff.mp hy).1
        have hll := fillZ_len off (ys.take i) (nullZ x.names [], m - sumC kvs)
        rw [List.length_take] at hll
        dsimp only at hll
        have st := fillZ_snoc off y (ys.take i) (nullZ x.names [], m - sumC kvs)
        rw [← tk] at st
        generalize fillZ off (ys.take i) (nullZ x.names [], m - sumC kvs) = x1 at hD4 hll st ⊢
        have st : fillZ off (ys.take (i + 1)) (nullZ x.names [], m - sumC kvs) = (putZ x1.1 y (if x1.2 < off then x1.2 else off), x1.2 - (if x1.2 < off then x1.2 else off)) := st
        refine ⟨.int off, rfl, .int x1.2, rfl, off, x1.2, rfl, ?_⟩
        refine ⟨.ref D, rfl, .str y, rfl, D, _, rfl, DPut.k (k := Sum.inr y) hD4 (by rw [List.length_map, sizeLine_eq]; omega), ?_⟩
        rw [putZ_put]
        generalize hw : (if x1.2 < off then x1.2 else off) = w at st ⊢
        have hD5 : (upd H4 D (.dK ((putZ x1.1 y w).map entZ))) D = some (.dK ((putZ x1.1 y w).map entZ)) := upd_same
        have s5 : Same H (upd H4 D (.dK ((putZ x1.1 y w).map entZ))) := Same.put s4 nD0
        generalize upd H4 D (.dK ((putZ x1.1 y w).map entZ)) = H5 at hD5 s5 ⊢
        have gv : valV ((putZ x1.1 y w).map entZ) (Sum.inr y : Key) = some (.int w) := by
          rw [getZ_val, getZ_put, if_pos rfl]
          rfl
        have dg : DGet H5 D (.str y) (some (.int w)) := by
          rw [← gv]
          exact DGet.k (k := Sum.inr y) hD5
        refine ⟨.int x1.2, rfl, .ref D, rfl, .str y, rfl, D, _, rfl, dg, _, _, rfl, rfl, some (.str y), by rw [st]; rfl, s5, by rw [st]; exact hD5⟩
      case t2 | u2 =>
        rintro σ H4 ⟨y7, rfl, s4, hD4⟩
        rw [List.length_map, List.take_length] at hD4 ⊢
        have hlo := hg.lo
        have ho := hg.o0
        have hr1 := hg.r1
        have hl0 : 0 ≤ m - sumC kvs := Int.le_trans (Int.mul_nonneg (by omega) ho) hlo
        have hf := fillZ_left ho ys (nullZ x.names [], m - sumC kvs) hl0
        refine ⟨.ref D, rfl, .int _, rfl, .int size, rfl, _, size, rfl, hf.1, ?_, fun H5 l us s5 nl hl hus => ⟨(by show 2 ≤ sizeLine; decide), fun p np => ?_⟩⟩
        · rcases hsz with h | h
          · exact .inr ⟨h, hs100⟩
          · exact .inl h
        · have s45 : Same H4 (upd H5 p (.tup [.ref D, .ref l])) := Same.new s5 np
          have lp : l ≠ p := ne_of_none hl np
          refine k _ p (fun b u e => s45 _ _ (s4 _ _ e)) (Same.gone s4 (Same.gone s5 np)) ⟨D, l, us, upd_same, s45 _ _ hD4, by rw [upd_ne lp]; exact hl, paired_imp (fun t e h => ?_) hus⟩
          show upd H5 p _ t = _
          rw [upd_ne (ne_of_none h np)]
          exact h
end
end Kb

namespace Kb
open PySem PySem.Spec PyProof.Rows L2 SrtZ SrtO FlX LamX
section
variable {P : Program} {w : World} {K : PySem.W.Frag} {mg : Str → Option Value} {base : Heap}
theorem dget_of {H : Hp} {d : Addr} {kvs : Ct} {y : Str} {v : Int} (h : H d = some (.dK (kvs.map entZ))) (g : getZ kvs y = some v) : DGet H d (.str y) (some (.int v)) := by
  have gv : valV (kvs.map entZ) (Sum.inr y : Key) = some (.int v) := by
    rw [getZ_val, g]
    rfl
  rw [← gv]
  exact DGet.k (k := Sum.inr y) h
theorem sumC_pos : ∀ {l : Ct}, (∀ e ∈ l, 1 ≤ e.2) → 0 ≤ sumC l
  | [], _ => Int.le_refl _
  | e :: l, h => by
    have h1 := h e List.mem_cons_self
    have h2 := sumC_pos (l := l) fun x hx => h x (List.mem_cons_of_mem _ hx)
    unfold sumC at h2 ⊢
    rw [List.map_cons, List.sum_cons]
    omega
theorem SkG.lost {r m o : Int} {kvs : Ct} (g : SkG r m o kvs) : 0 ≤ m - sumC kvs ∧ o ≤ m - sumC kvs ∧ (o = 0 → m - sumC kvs = 0) ∧ o < 2 ^ 100 := by
  have h1 := g.lo
  have h2 := g.hi
  have h3 := g.o0
  have h4 := g.r1
  have h5 := g.big
  have h6 := sumC_pos g.cts.pos
  have h7 : 1 * o ≤ (r + 1) * o := Int.mul_le_mul_of_nonneg_right (by omega) h3
  refine ⟨by omega, by omega, fun e => ?_, by omega⟩
  rw [e, Int.mul_zero] at h2
  omega
/-! _passed -/
def spPassed (K : PySem.W.Frag) (Pt : Addr) : Sp := fun vs H Q _ => ∃ (s : Addr) (r m off : Int) (kvs : Ct) (z : Str), vs = [.ref s, .str z] ∧ SkC K H s r m off kvs ∧ SkG r m off kvs ∧ TabS H Pt qFall ∧
  ∀ H' p, ExT Pt qFall H H' → H p = none → PlanAt H' p (planP kvs m off z) → Q (.ref p) H'
theorem ok_passed (T : Blt mg) (F : Flr K mg base) (dP_lost_of : DnLostOf K mg) (dP_parted : DnParted K mg) (d : DnPassed K mg) : FnOk P w K mg base CX0 2 d.f d.fd ["sketch", "name"] (spPassed K F.P) := by
  have GP_lost_of : FnOk P w K mg base CX0 1 dP_lost_of.f dP_lost_of.fd ["sketch"] (spLostOf K) := ok_lost_of T dP_lost_of
  have GP_parted : FnOk P w K mg base CX0 1 dP_parted.f dP_parted.fd ["amount", "size"] spParted := ok_parted T dP_parted
  have GP_falling : FnOk P w K mg base CX0 1 F.d.f F.d.fd ["kept"] (spFalling K F.P) := ok_falling T F
  refine d.F.ok scP_passed (fun vs H Q E h => ?_) (fun cdv A outer s H vs Q E hr h => ?_)
  · obtain ⟨s, r, m, off, kvs, z, rfl, _⟩ := h
    rfl
  · obtain ⟨sk, r, m, off, kvs, z, rfl, hs, hg, hT, k⟩ := h
    have hu := hu_of hr
    refine ⟨_, (pss_cons (ps_set (i := 2) scP_passed.nd rfl (Or.inl rfl) (pe_ix ix_tup (pv 0) pe_int (fun _ _ => rfl)))
    (pss_cons (ps_set (i := 3) scP_passed.nd rfl (Or.inl rfl) (pe_call GP_lost_of (hr.mono (by omega)) (by rfl) dP_lost_of.g dP_lost_of.F.kp dP_lost_of.b .nil pass0 (pa_cons (pv 0) pa_nil)))
    (pss_cons (ps_set (i := 4) scP_passed.nd rfl (Or.inl rfl) (pe_callTy (call_dictPT rfl) (by rfl) T.n_dict (by decide +kernel) (pa_cons (pe_ix ix_tup (pv 0) pe_int (fun _ _ => rfl)) pa_nil)))
    (pss_cons (ps_set (i := 5) scP_passed.nd rfl (Or.inl rfl) (pe_dget2 hu (pv 4) (pv 1) pe_int ⟨rfl, rfl, rfl, rfl⟩))
    (pss_cons (ps_set (i := 6) scP_passed.nd rfl (Or.inl rfl) (pe_disp (pps_cons (pv 1) pe_int pps_nil) (by rfl) (by rfl) (fun z => by cases z) (by decide)))
    (pss_cons (ps_for PassesOwn.never rfl (pi_list (pe_call GP_falling (hr.mono (by omega)) (by rfl) F.d.g F.d.F.kp F.d.b .nil pass0 (pa_cons (pe_ix ix_tup (pv 0) pe_int (fun _ _ => rfl)) pa_nil))) (pg_name (i := 7) scP_passed.nd rfl (Or.inl rfl))
      (pss_cons (ps_set (i := 8) scP_passed.nd rfl (Or.inl rfl) (pe_callB (call_max2 rfl) (by rfl) T.n_max (by decide +kernel) (pa_cons pe_int (pa_cons (pe_op op_sub (pe_op op_add (pv 5) pe_int) (pe_dget hu (pv 4) (pv 7) (fun _ _ => rfl))) pa_nil))))
      (pss_one (ps_if (PW.pt (pw_and (pt_cmpR op_ne (pv 7) (pv 1) (nomark _)) (pw_and1 (pt_cmpR op_le (pv 8) (pe_callB (call_min2 rfl) (by rfl) T.n_min (by decide +kernel) (pa_cons (pv 2) (pa_cons (pv 3) pa_nil))) (nomark _)))))
        (pss_cons (ps_dput hu (pv 6) (pv 7) (pv 8) rfl)
        (pss_one (ps_aug (i := 3) scP_passed.nd rfl (Or.inl rfl) (pv 8) ip_sub)))
        pss_nil))))
    (pss_one (ps_ret (pe_tup (pa_cons (pv 6) (pa_cons (pe_call GP_parted (hr.mono (by omega)) (by rfl) dP_parted.g dP_parted.F.kp dP_parted.b .nil pass0 (pa_cons (pv 3) (pa_cons (pe_callB (call_min2 rfl) (by rfl) T.n_min (by decide +kernel) (pa_cons (pe_op op_add (pv 5) pe_int) (pa_cons (pv 2) pa_nil))) pa_nil))) pa_nil))))))))))), ?_⟩
    obtain ⟨kk, ts, h1, h2, h3⟩ := hs.ob
    have hlen := hg.len
    have hr64 := hg.r64
    have hnd := asc_nd hg.cts.asc
    refine ⟨.ref sk, rfl, sk, _, _, _, rfl, rfl, h1, atI_nat (j := 2) rfl, ?_⟩
    refine ⟨.ref sk, rfl, sk, kk, r, m, off, kvs, rfl, h1, ⟨ts, h2.seq, h3⟩, by omega, fun H1 s1 => ?_⟩
    refine ⟨.ref sk, rfl, sk, _, _, _, rfl, rfl, seqT h1 s1, atI_nat (j := 3) rfl, kk, ts, kvs.map entZ, rfl, h2.same s1, ents_paired (paired_imp (fun t e h => seqT h s1) h3), fun cc ncc => ?_⟩
    rw [show mergeK [] (kvs.map entZ) = kvs.map entZ from mergeZ kvs [] (by rw [List.nil_append]; exact hnd)]
    have hcc : (upd H1 cc (.dK (kvs.map entZ))) cc = some (.dK (kvs.map entZ)) := upd_same
    have s2 : Same H (upd H1 cc (.dK (kvs.map entZ))) := Same.new s1 ncc
    generalize upd H1 cc (.dK (kvs.map entZ)) = H2 at hcc s2 ⊢
    refine ⟨.ref cc, rfl, cc, rfl, .inl ⟨_, .inl hcc⟩, .str z, rfl, _, DGet.k (k := Sum.inr z) hcc, ?_⟩
    rw [getZ_val]
    have emine : (((getZ kvs z).map V.int).getD (.int 0)) = .int (gd kvs z) := by
      unfold gd
      cases getZ kvs z <;> rfl
    rw [emine]
    intro D nD
    refine ⟨.str z, rfl, upd_same, [(Sum.inr z, .int 0)], rfl, (by show 1 ≤ 15; decide), ?_⟩
    rw [show mergeK [] [((Sum.inr z : Key), V.int 0)] = ([(z, 0)] : Ct).map entZ from rfl]
    rw [show upd (upd H2 D (.dK [])) D (.dK (([(z, 0)] : Ct).map entZ)) = upd H2 D (.dK (([(z, 0)] : Ct).map entZ)) from upd_upd]
    have hD3 : (upd H2 D (.dK (([(z, 0)] : Ct).map entZ))) D = some (.dK (([(z, 0)] : Ct).map entZ)) := upd_same
    have nD0 : H D = none := Same.gone s2 nD
    have s3 : Same H (upd H2 D (.dK (([(z, 0)] : Ct).map entZ))) := Same.new s2 nD
    have hcc3 : (upd H2 D (.dK (([(z, 0)] : Ct).map entZ))) cc = some (.dK (kvs.map entZ)) := by rw [upd_ne (ne_of_none hcc nD)]; exact hcc
    generalize upd H2 D (.dK (([(z, 0)] : Ct).map entZ)) = H3 at hD3 s3 hcc3 ⊢
    have T3 := tabS_same hT s3
    have Dp : D ≠ F.P := tab_no T3 hD3 (by intro _ z; cases z)
    refine ⟨.ref sk, rfl, sk, _, _, _, rfl, rfl, seqT h1 s3, atI_nat (j := 3) rfl, kk, ts, kvs, rfl, ?_, paired_imp (fun t e h => seqT h s3) h3, by omega, T3, fun H4 pl x4 npl hpl => ?_⟩
    · exact (h2.same s3).seq
    have hD4 := x4.at T3 hD3 (by intro _ z; cases z)
    have hcc4 := x4.at T3 hcc3 (by intro _ z; cases z)
    have x04 : ExT F.P qFall H H4 := (FlX.Same.exT s3 hT).trans x4
    have lD : pl ≠ D := ne_of hpl hD4 (by intro z; cases z)
    have plc : pl ≠ cc := ne_of hpl hcc4 (by intro z; cases z)
    have cD : cc ≠ D := (ne_of_none hcc nD)
    have pm : (fallBy (·.2) kvs).Perm kvs := List.mergeSort_perm _ _
    have hml := pm.length_eq
    have hget : ∀ e ∈ fallBy (·.2) kvs, getZ kvs e.1 = some e.2 := fun e he => getZ_mem hnd (pm.mem_iff.mp he)
    have hplan : planP kvs m off z = ((passZ off (gd kvs z) z (fallBy (·.2) kvs) ([(z, 0)], m - sumC kvs)).1, partedZ (passZ off (gd kvs z) z (fallBy (·.2) kvs) ([(z, 0)], m - sumC kvs)).2 (mnI (gd kvs z + 1) off)) := rfl
    rw [hplan] at k
    generalize fallBy (·.2) kvs = ys at hpl pm hml hget k
    have hm0 : 0 ≤ gd kvs z := getZ_pos hg.cts.pos
    generalize gd kvs z = mine at k hm0 ⊢
    refine ⟨pl, rfl, ⟨_, sql hpl⟩, for_list (xs := (ys.map (·.1)).map V.str) (fun i σ H5 => ∃ y7 y8, σ = [some (.ref sk), some (.str z), some (.int off), some (.int (passZ off mine z (ys.take i) ([(z, 0)], m - sumC kvs)).2), some (.ref cc), some (.int mine), some (.ref D), y7, y8] ∧ ExT F.P qFall H H5 ∧ H5 pl = some (.lst ((ys.map (·.1)).map V.str)) ∧ H5 cc = some (.dK (kvs.map entZ)) ∧ H5 D = some (.dK ((passZ off mine z (ys.take i) ([(z, 0)], m - sumC kvs)).1.map entZ)))
      ⟨none, none, rfl, x04, hpl, hcc4, hD4⟩ (fun i σ H5 _ ⟨_, _, _, _, h, _⟩ => sql h) ?_ ?_⟩
    · rintro i v σ H5 hi ⟨y7, y8, rfl, x5, hpl5, hcc5, hD5⟩
      obtain ⟨e0, he0, rfl⟩ := map_at hi
      obtain ⟨e, he, rfl⟩ := map_at he0
      have tk : ys.take (i + 1) = ys.take i ++ [e] := by rw [List.take_add_one, he]; rfl
      have hlt := (List.getElem?_eq_some_iff.mp he).1
      have hll := passZ_len off mine z (ys.take i) ([(z, 0)], m - sumC kvs)
      rw [List.length_take] at hll
      have hll : (passZ off mine z (ys.take i) ([(z, 0)], m - sumC kvs)).1.length ≤ 1 + min i ys.length := hll
      have st := passZ_snoc off mine z e (ys.take i) ([(z, 0)], m - sumC kvs)
      rw [← tk] at st
      generalize passZ off mine z (ys.take i) ([(z, 0)], m - sumC kvs) = x1 at hD5 hll st ⊢
      have st : passZ off mine z (ys.take (i + 1)) ([(z, 0)], m - sumC kvs) = (if passB off mine z e x1.2 = true then (putZ x1.1 e.1 (needZ mine e.2), x1.2 - needZ mine e.2) else x1) := st
      rw [st]
      have ge := hget e (List.mem_of_getElem? he)
      refine ⟨.int mine, rfl, _, _, rfl, rfl, .ref cc, rfl, .str e.1, rfl, cc, _, rfl, dget_of hcc5 ge, _, _, rfl, rfl, 0, mine + 1 - e.2, rfl, ?_⟩
      show tSeq _ _ _ _ _
      rw [show (if mine + 1 - e.2 > 0 then mine + 1 - e.2 else 0) = needZ mine e.2 from rfl]
      refine ⟨.str e.1, rfl, .str z, rfl, rfl, !decide (e.1 = z), ?_, ?_⟩
      · exact congrArg (fun b => V.bl (!b)) (decide_eq_decide.mpr ⟨fun h => by injection h, fun h => by rw [h]⟩)
      by_cases hez : e.1 = z
      · rw [show (!decide (e.1 = z)) = false by rw [decide_eq_true hez]; rfl]
        refine iteF ⟨some (.str e.1), some (.int (needZ mine e.2)), ?_, x5, hpl5, hcc5, ?_⟩
        · rw [if_neg (by unfold passB; rw [decide_eq_true hez]; simp)]
          rfl
        · rw [if_neg (by unfold passB; rw [decide_eq_true hez]; simp)]
          exact hD5
      · rw [show (!decide (e.1 = z)) = true by rw [decide_eq_false hez]; rfl]
        have pb : passB off mine z e x1.2 = decide (needZ mine e.2 ≤ mnI off x1.2) := by unfold passB; rw [decide_eq_false hez]; rfl
        refine iteT ⟨.int (needZ mine e.2), rfl, .int off, rfl, .int x1.2, rfl, off, x1.2, rfl, _, _, rfl, rfl, _, rfl, ite2 (fun h => ?_) fun h => ?_⟩
        · have pb1 : passB off mine z e x1.2 = true := by rw [pb]; exact h
          rw [if_pos pb1]
          refine ⟨.int (needZ mine e.2), rfl, .ref D, rfl, .str e.1, rfl, D, _, rfl, DPut.k (k := Sum.inr e.1) hD5 (by rw [List.length_map, sizeLine_eq]; omega), ?_⟩
          rw [putZ_put]
          have x6 : ExT F.P qFall H (upd H5 D (.dK ((putZ x1.1 e.1 (needZ mine e.2)).map entZ))) := x5.put nD0 Dp (by intro cq; rw [hD5]; intro z; cases z)
          refine ⟨.int x1.2, rfl, .int (needZ mine e.2), rfl, _, _, rfl, rfl, some (.str e.1), some (.int (needZ mine e.2)), rfl, x6, by rw [upd_ne lD]; exact hpl5, by rw [upd_ne cD]; exact hcc5, upd_same⟩
        · have pb1 : ¬ passB off mine z e x1.2 = true := by rw [pb]; exact h
          rw [if_neg pb1]
          exact ⟨some (.str e.1), some (.int (needZ mine e.2)), rfl, x5, hpl5, hcc5, hD5⟩
    · rintro σ H5 ⟨y7, y8, rfl, x5, hpl5, hcc5, hD5⟩
      rw [List.length_map, List.length_map, List.take_length] at hD5 ⊢
      have hlo := hg.lo
      have ho := hg.o0
      have hr1 := hg.r1
      have hhi := hg.hi
      have hbig := hg.big
      have hl0 : 0 ≤ m - sumC kvs := Int.le_trans (Int.mul_nonneg (by omega) ho) hlo
      have hf := passZ_left (off := off) (mine := mine) z ys ([(z, 0)], m - sumC kvs) hl0
      dsimp only at hf
      refine ⟨.ref D, rfl, .int _, rfl, .int mine, rfl, _, _, rfl, rfl, .int off, rfl, mine + 1, off, rfl, _, _, rfl, hf.1, ?_, fun H6 l us s6 nl hl hus => ⟨(by show 2 ≤ sizeLine; decide), fun p np => ?_⟩⟩
      · obtain ⟨a1, a2, a3, a4⟩ := hg.lost
        by_cases e : off = 0
        · exact .inl (by have := a3 e; omega)
        · refine .inr ⟨?_, ?_⟩
          · show (0 : Int) < if off < mine + 1 then off else mine + 1
            split <;> omega
          · show (if off < mine + 1 then off else mine + 1) < (2 ^ 100 : Int)
            split <;> omega
      · have s45 : Same H5 (upd H6 p (.tup [.ref D, .ref l])) := Same.new s6 np
        have lp : l ≠ p := ne_of_none hl np
        refine k _ p (x5.same s45) (x5.gone (Same.gone s6 np)) ⟨D, l, us, upd_same, s45 _ _ hD5, by rw [upd_ne lp]; exact hl, paired_imp (fun t e h => ?_) hus⟩
        show upd H6 p _ t = _
        rw [upd_ne (ne_of_none h np)]
        exact h
end
end Kb

namespace Kb
open PySem PySem.Spec PyProof.Rows L2 SrtZ SrtO FlX LamX
abbrev sP_plans_of : Stmt := topS 27
theorem scP_plans_of : FnScope ["sketch", "question", "off", "word", "spread", "lumped"] ["sketch", "question"] (defScope sP_plans_of) := ⟨rfl, rfl, rfl, by decide +kernel, rfl, by decide +kernel, by decide +kernel⟩
abbrev DnPlansOf (K : PySem.W.Frag) (mg : Str → Option Value) := Dn K mg "plans_of" sP_plans_of ["sketch", "question"]
abbrev Plan := Ct × List (Int × Int)
def lumped (kvs : Ct) (m off : Int) : Plan := planZ kvs m off off [] ((fallBy (·.2) kvs).map (·.1))
def spread (kvs : Ct) (m off : Int) : Plan := planZ kvs m off 1 [] []
/-- the plans of the least and of the greatest value -/
def plansZ (kvs : Ct) (m off : Int) : Qn → Plan × Plan
  | .count z => (planZ kvs m off off [z] [], planZ kvs m off off [z] [z])
  | .lot zs => (planZ kvs m off off zs [], planZ kvs m off off zs zs)
  | .apart y z => (planZ kvs m off off [y, z] [z], planZ kvs m off off [y, z] [y])
  | .place z => (planZ kvs m off off [z] [z], planP kvs m off z)
  | .first _ => (spread kvs m off, lumped kvs m off)
  | .unlike => (lumped kvs m off, spread kvs m off)
  | .squares => (spread kvs m off, lumped kvs m off)
theorem fallB_perm (kvs : Ct) : (fallBy (·.2) kvs).Perm kvs := List.mergeSort_perm _ _
theorem fallB_len (kvs : Ct) : (fallBy (·.2) kvs).length = kvs.length := (fallB_perm kvs).length_eq
theorem size_ok {r m off : Int} {kvs : Ct} (hg : SkG r m off kvs) (zs ys : List Str) : 0 < off ∨ (fillZ off ys (nullZ zs [], m - sumC kvs)).2 = 0 := by
  obtain ⟨a1, a2, a3, a4⟩ := hg.lost
  have ho := hg.o0
  by_cases e : off = 0
  · have := fillZ_left ho ys (nullZ zs [], m - sumC kvs) a1
    dsimp only at this
    have := a3 e
    exact .inr (by omega)
  · exact .inl (by omega)
section
variable {P : Program} {w : World} {K : PySem.W.Frag} {mg : Str → Option Value} {base : Heap}
/-! plans_of -/
def spPlansOf (K : PySem.W.Frag) (Pt : Addr) : Sp := fun vs H Q _ => ∃ (s q : Addr) (r m off : Int) (kvs : Ct) (x : Qn), vs = [.ref s, .ref q] ∧ SkC K H s r m off kvs ∧ SkG r m off kvs ∧ QnAt K H q x ∧ QnOk x ∧ TabS H Pt qFall ∧
  ∀ H' p p1 p2, ExT Pt qFall H H' → H' p = some (.tup [.ref p1, .ref p2]) → PlanAt H' p1 (plansZ kvs m off x).1 → PlanAt H' p2 (plansZ kvs m off x).2 → Q (.ref p) H'
theorem ok_plans_of (T : Blt mg) (F : Flr K mg base) (dP_lost_of : DnLostOf K mg) (dP_asked : DnAsked K mg) (dP_parted : DnParted K mg) (dP_filled : DnFilled K mg) (dP_passed : DnPassed K mg) (d : DnPlansOf K mg) : FnOk P w K mg base CX0 3 d.f d.fd ["sketch", "question"] (spPlansOf K F.P) := by
  have GP_filled : FnOk P w K mg base CX0 2 dP_filled.f dP_filled.fd ["sketch", "question", "names", "size"] (spFilled K) := ok_filled T dP_lost_of dP_asked dP_parted dP_filled
  have GP_passed : FnOk P w K mg base CX0 2 dP_passed.f dP_passed.fd ["sketch", "name"] (spPassed K F.P) := ok_passed T F dP_lost_of dP_parted dP_passed
  have GP_asked : FnOk P w K mg base CX0 1 dP_asked.f dP_asked.fd ["question"] (spAsked K) := ok_asked T dP_asked
  have GP_falling : FnOk P w K mg base CX0 1 F.d.f F.d.fd ["kept"] (spFalling K F.P) := ok_falling T F
  refine d.F.ok scP_plans_of (fun vs H Q E h => ?_) (fun cdv A outer s H vs Q E hr h => ?_)
  · obtain ⟨s, q, r, m, off, kvs, x, rfl, _⟩ := h
    rfl
  · obtain ⟨sk, q, r, m, off, kvs, x, rfl, hs, hg, hq, hx, hT, k⟩ := h
    refine ⟨_, (pss_cons (ps_set (i := 2) scP_plans_of.nd rfl (Or.inl rfl) (pe_ix ix_tup (pv 0) pe_int (fun _ _ => rfl)))
    (pss_cons (ps_set (i := 3) scP_plans_of.nd rfl (Or.inl rfl) (pe_ix ix_tup (pv 1) pe_int (fun _ _ => rfl)))
    (pss_cons (ps_set (i := 4) scP_plans_of.nd rfl (Or.inl rfl) (pe_call GP_filled (hr.mono (by omega)) (by rfl) dP_filled.g dP_filled.F.kp dP_filled.b .nil pass0 (pa_cons (pv 0) (pa_cons (pv 1) (pa_cons (pe_tup pa_nil) (pa_cons pe_int pa_nil))))))
    (pss_cons (ps_if (pt_cmpR op_in_seq (pv 3) (pe_tup (pa_cons pe_str (pa_cons pe_str (pa_cons pe_str pa_nil)))) rfl)
      (pss_cons (ps_set (i := 5) scP_plans_of.nd rfl (Or.inl rfl) (pe_call GP_filled (hr.mono (by omega)) (by rfl) dP_filled.g dP_filled.F.kp dP_filled.b .nil pass0 (pa_cons (pv 0) (pa_cons (pv 1) (pa_cons (pe_call GP_falling (hr.mono (by omega)) (by rfl) F.d.g F.d.F.kp F.d.b .nil pass0 (pa_cons (pe_ix ix_tup (pv 0) pe_int (fun _ _ => rfl)) pa_nil)) (pa_cons (pv 2) pa_nil))))))
      (pss_one (ps_ret (pe_ifExp (pt_cmpR op_eq (pv 3) pe_str (nomark _)) (pe_tup (pa_cons (pv 5) (pa_cons (pv 4) pa_nil))) (pe_tup (pa_cons (pv 4) (pa_cons (pv 5) pa_nil)))))))
      pss_nil)
    (pss_cons (ps_if (pt_cmpR op_eq (pv 3) pe_str (nomark _))
      (pss_one (ps_ret (pe_tup (pa_cons (pe_call GP_filled (hr.mono (by omega)) (by rfl) dP_filled.g dP_filled.F.kp dP_filled.b .nil pass0 (pa_cons (pv 0) (pa_cons (pv 1) (pa_cons (pe_call GP_asked (hr.mono (by omega)) (by rfl) dP_asked.g dP_asked.F.kp dP_asked.b .nil pass0 (pa_cons (pv 1) pa_nil)) (pa_cons (pv 2) pa_nil))))) (pa_cons (pe_call GP_passed (hr.mono (by omega)) (by rfl) dP_passed.g dP_passed.F.kp dP_passed.b .nil pass0 (pa_cons (pv 0) (pa_cons (pe_ix ix_tup (pv 1) pe_int (fun _ _ => rfl)) pa_nil))) pa_nil)))))
      pss_nil)
    (pss_cons (ps_if (pt_cmpR op_eq (pv 3) pe_str (nomark _))
      (pss_one (ps_ret (pe_tup (pa_cons (pe_call GP_filled (hr.mono (by omega)) (by rfl) dP_filled.g dP_filled.F.kp dP_filled.b .nil pass0 (pa_cons (pv 0) (pa_cons (pv 1) (pa_cons (pe_slice sl_tup (pv 1) (po_some pe_int) po_none) (pa_cons (pv 2) pa_nil))))) (pa_cons (pe_call GP_filled (hr.mono (by omega)) (by rfl) dP_filled.g dP_filled.F.kp dP_filled.b .nil pass0 (pa_cons (pv 0) (pa_cons (pv 1) (pa_cons (pe_slice sl_tup (pv 1) (po_some pe_int) (po_some pe_int)) (pa_cons (pv 2) pa_nil))))) pa_nil)))))
      pss_nil)
    (pss_one (ps_ret (pe_tup (pa_cons (pe_call GP_filled (hr.mono (by omega)) (by rfl) dP_filled.g dP_filled.F.kp dP_filled.b .nil pass0 (pa_cons (pv 0) (pa_cons (pv 1) (pa_cons (pe_tup pa_nil) (pa_cons (pv 2) pa_nil))))) (pa_cons (pe_call GP_filled (hr.mono (by omega)) (by rfl) dP_filled.g dP_filled.F.kp dP_filled.b .nil pass0 (pa_cons (pv 0) (pa_cons (pv 1) (pa_cons (pe_call GP_asked (hr.mono (by omega)) (by rfl) dP_asked.g dP_asked.F.kp dP_asked.b .nil pass0 (pa_cons (pv 1) pa_nil)) (pa_cons (pv 2) pa_nil))))) pa_nil))))))))))), ?_⟩
    obtain ⟨kk, ts, h1, h2, h3⟩ := hs.ob
    obtain ⟨a1, a2, a3, a4⟩ := hg.lost
    have hlen := hg.len
    have hr64 := hg.r64
    have hnl := hx.len
    obtain ⟨xs, hq0⟩ := hq.word
    refine ⟨.ref sk, rfl, sk, _, _, _, rfl, rfl, h1, atI_nat (j := 2) rfl, ?_⟩
    refine ⟨.ref q, rfl, q, _, _, _, rfl, rfl, hq0, atI_nat (j := 0) rfl, ?_⟩
    refine ⟨.ref sk, rfl, .ref q, rfl, (by show 0 ≤ sizeLine; decide), fun e0 ne0 => ?_⟩
    have s0 : Same H (upd H e0 (.tup [])) := same_upd ne0
    have he0 : (upd H e0 (.tup [])) e0 = some (.tup (([] : List Str).map V.str)) := upd_same
    generalize upd H e0 (.tup []) = H1 at s0 he0 ⊢
    refine ⟨sk, q, e0, r, m, off, 1, kvs, x, [], rfl, hs.same s0, hg, hq.same s0, hx, .inl (.inl (.inl he0)), by decide, by decide, .inl (by decide), fun H2 p0 s2 np0 pl0 => ?_⟩
    have s02 : Same H H2 := fun b u e => s2 _ _ (s0 _ _ e)
    refine ⟨.str x.word, rfl, (by show 3 ≤ sizeLine; decide), fun t0 nt0 => ⟨t0, _, rfl, .inr (.inl (.inl upd_same)), rfl, rfl, ?_⟩⟩
    have s3 : Same H (upd H2 t0 (.tup [.str (Str.ofString "first"), .str (Str.ofString "unlike"), .str (Str.ofString "squares")])) := Same.new s02 nt0
    have pl3 := pl0.same (same_upd (o := .tup [.str (Str.ofString "first"), .str (Str.ofString "unlike"), .str (Str.ofString "squares")]) nt0)
    generalize upd H2 t0 (.tup [.str (Str.ofString "first"), .str (Str.ofString "unlike"), .str (Str.ofString "squares")]) = H3 at s3 pl3 ⊢
    have T3 := tabS_same hT s3
    -- the question is of a word that wants falling, or it is not
    have lump : (x.names = []) → ∀ (σ : L2.St) (R : VK), σ[0]? = some (some (.ref sk)) → σ[1]? = some (some (.ref q)) → σ[2]? = some (some (.int off)) → (∀ H' p, ExT F.P qFall H3 H' → PlanAt H' p (lumped kvs m off) → R (.ref p) H') →
        tCall (spFilled K) [] E0 (tCons (tVar 0) (tCons (tVar 1) (tCons (tCall (spFalling K F.P) [] E0 (tCons (tOp (rIxT K) (tVar 0) (tC (.int 3))) tNil)) (tCons (tVar 2) tNil)))) σ H3 R := by
      intro hn σ R e0 e1 e2 hk
      refine ⟨.ref sk, e0, .ref q, e1, .ref sk, e0, sk, _, _, _, rfl, rfl, seqT h1 s3, atI_nat (j := 3) rfl, kk, ts, kvs, rfl, (h2.same s3).seq, paired_imp (fun t e h => seqT h s3) h3, by omega, T3, fun H4 pl x4 npl hpl => ?_⟩
      refine ⟨.int off, e2, sk, q, pl, r, m, off, off, kvs, x, (fallBy (·.2) kvs).map (·.1), rfl, (hs.same s3).ext T3 x4, hg, (hq.same s3).ext T3 x4, hx, .inr hpl, ?_, by omega, size_ok hg _ _, fun H5 p s5 np pl5 => ?_⟩
      · rw [List.length_map, fallB_len]
        omega
      · rw [hn] at pl5
        exact hk H5 p (x4.same s5) pl5
    have rest : ∀ (σ : L2.St), (∀ H' p p1 p2, ExT F.P qFall H H' → H' p = some (.tup [.ref p1, .ref p2]) → PlanAt H' p1 (planZ kvs m off off x.names []) → PlanAt H' p2 (planZ kvs m off off x.names x.names) → Q (.ref p) H') → σ[0]? = some (some (.ref sk)) → σ[1]? = some (some (.ref q)) → σ[2]? = some (some (.int off)) →
        tTup (tCons (tCall (spFilled K) [] E0 (tCons (tVar 0) (tCons (tVar 1) (tCons (tTup tNil) (tCons (tVar 2) tNil))))) (tCons (tCall (spFilled K) [] E0 (tCons (tVar 0) (tCons (tVar 1) (tCons (tCall (spAsked K) [] E0 (tCons (tVar 1) tNil)) (tCons (tVar 2) tNil))))) tNil)) σ H3 Q := by
      intro σ kk e0 e1 e2
      refine ⟨.ref sk, e0, .ref q, e1, (by show 0 ≤ sizeLine; decide), fun b nb => ?_⟩
      have s4 : Same H (upd H3 b (.tup [])) := Same.new s3 nb
      have hb : (upd H3 b (.tup [])) b = some (.tup (([] : List Str).map V.str)) := upd_same
      generalize upd H3 b (.tup []) = H4 at s4 hb ⊢
      refine ⟨.int off, e2, sk, q, b, r, m, off, off, kvs, x, [], rfl, hs.same s4, hg, hq.same s4, hx, .inl (.inl (.inl hb)), by decide, by omega, size_ok hg _ _, fun H5 p1 s5 np1 pl1 => ?_⟩
      have s05 : Same H H5 := fun b u e => s5 _ _ (s4 _ _ e)
      refine ⟨.ref sk, e0, .ref q, e1, .ref q, e1, q, x, rfl, hq.same s05, fun H6 a s6 ha => ?_⟩
      have s06 : Same H H6 := fun b u e => s6 _ _ (s05 _ _ e)
      refine ⟨.int off, e2, sk, q, a, r, m, off, off, kvs, x, x.names, rfl, hs.same s06, hg, hq.same s06, hx, .inl ha, by omega, by omega, size_ok hg _ _, fun H7 p2 s7 np2 pl2 => ⟨(by show 2 ≤ sizeLine; decide), fun t nt => ?_⟩⟩
      have s8 := same_upd (o := .tup [.ref p1, .ref p2]) nt
      exact kk _ t p1 p2 (FlX.Same.exT (fun c u e => s8 _ _ (s7 _ _ (s06 _ _ e))) hT) upd_same (pl1.same fun c u e => s8 _ _ (s7 _ _ (s6 _ _ e))) (pl2.same s8)
    cases x with
    | first j =>
      refine ⟨true, congrArg V.bl (by dsimp only [Qn.word]; decide +kernel), iteT ?_⟩
      refine lump rfl _ _ rfl rfl rfl fun H4 p x4 pl4 => ?_
      refine ⟨_, rfl, rfl, false, congrArg V.bl (decide_eq_false (by dsimp only [Qn.word]; decide +kernel)), iteF ⟨.ref p0, rfl, .ref p, rfl, (by show 2 ≤ sizeLine; decide), fun t nt => ?_⟩⟩
      have x04 : ExT F.P qFall H H4 := (FlX.Same.exT s3 hT).trans x4
      exact k _ t p0 p (x04.new nt) upd_same ((pl3.ext T3 x4).same (same_upd nt)) (pl4.same (same_upd nt))
    | unlike =>
      refine ⟨true, congrArg V.bl (by decide +kernel), iteT ?_⟩
      refine lump rfl _ _ rfl rfl rfl fun H4 p x4 pl4 => ?_
      refine ⟨_, rfl, rfl, true, congrArg V.bl (decide_eq_true (by decide +kernel)), iteT ⟨.ref p, rfl, .ref p0, rfl, (by show 2 ≤ sizeLine; decide), fun t nt => ?_⟩⟩
      have x04 : ExT F.P qFall H H4 := (FlX.Same.exT s3 hT).trans x4
      exact k _ t p p0 (x04.new nt) upd_same (pl4.same (same_upd nt)) ((pl3.ext T3 x4).same (same_upd nt))
    | squares =>
      refine ⟨true, congrArg V.bl (by decide +kernel), iteT ?_⟩
      refine lump rfl _ _ rfl rfl rfl fun H4 p x4 pl4 => ?_
      refine ⟨_, rfl, rfl, false, congrArg V.bl (decide_eq_false (by decide +kernel)), iteF ⟨.ref p0, rfl, .ref p, rfl, (by show 2 ≤ sizeLine; decide), fun t nt => ?_⟩⟩
      have x04 : ExT F.P qFall H H4 := (FlX.Same.exT s3 hT).trans x4
      exact k _ t p0 p (x04.new nt) upd_same ((pl3.ext T3 x4).same (same_upd nt)) (pl4.same (same_upd nt))
    | place z =>
      refine ⟨false, congrArg V.bl (by dsimp only [Qn.word]; decide +kernel), iteF ?_⟩
      refine ⟨_, rfl, rfl, true, congrArg V.bl (decide_eq_true (by dsimp only [Qn.word])), iteT ?_⟩
      refine ⟨.ref sk, rfl, .ref q, rfl, .ref q, rfl, q, .place z, rfl, hq.same s3, fun H4 a s4 ha => ?_⟩
      have s04 : Same H H4 := fun b u e => s4 _ _ (s3 _ _ e)
      refine ⟨.int off, rfl, sk, q, a, r, m, off, off, kvs, .place z, [z], rfl, hs.same s04, hg, hq.same s04, hx, .inl ha, (by show 1 ≤ 100; decide), by omega, size_ok hg _ _, fun H5 p1 s5 np1 pl1 => ?_⟩
      have s05 : Same H H5 := fun b u e => s5 _ _ (s04 _ _ e)
      have hq5 : SqT K H5 q [.str (Str.ofString "place"), .str z] := seqT hq s05
      have T5 := tabS_same hT s05
      refine ⟨.ref sk, rfl, .ref q, rfl, q, _, _, _, rfl, rfl, hq5, atI_nat (j := 1) rfl, sk, r, m, off, kvs, z, rfl, hs.same s05, hg, T5, fun H6 p2 x6 np2 pl2 => ⟨(by show 2 ≤ sizeLine; decide), fun t nt => ?_⟩⟩
      have x06 : ExT F.P qFall H H6 := (FlX.Same.exT s05 hT).trans x6
      exact k _ t p1 p2 (x06.new nt) upd_same ((pl1.ext T5 x6).same (same_upd nt)) (pl2.same (same_upd nt))
    | apart y z =>
      refine ⟨false, congrArg V.bl (by dsimp only [Qn.word]; decide +kernel), iteF ?_⟩
      refine ⟨_, rfl, rfl, false, congrArg V.bl (decide_eq_false (by dsimp only [Qn.word]; decide +kernel)), iteF ?_⟩
      refine ⟨_, rfl, rfl, true, congrArg V.bl (decide_eq_true (by dsimp only [Qn.word])), iteT ?_⟩
      have hq3 : SqT K H3 q [.str (Str.ofString "apart"), .str y, .str z] := seqT hq s3
      refine ⟨.ref sk, rfl, .ref q, rfl, .ref q, rfl, 2, rfl, q, _, rfl, hq3, fun z => absurd (show HT.sIx 3 0 (some 2) = 0 from z.1) (by decide +kernel), fun a na => ?_⟩
      rw [show cutV [V.str (Str.ofString "apart"), V.str y, V.str z] (some 2) none = [V.str z] from rfl]
      have s4 : Same H (upd H3 a (.tup [.str z])) := Same.new s3 na
      have ha : (upd H3 a (.tup [.str z])) a = some (.tup [.str z]) := upd_same
      generalize upd H3 a (.tup [.str z]) = H4 at s4 ha ⊢
      refine ⟨.int off, rfl, sk, q, a, r, m, off, off, kvs, .apart y z, [z], rfl, hs.same s4, hg, hq.same s4, hx, .inl (.inl (.inl ha)), (by show 1 ≤ 100; decide), by omega, size_ok hg _ _, fun H5 p1 s5 np1 pl1 => ?_⟩
      have s05 : Same H H5 := fun b u e => s5 _ _ (s4 _ _ e)
      have hq5 : SqT K H5 q [.str (Str.ofString "apart"), .str y, .str z] := seqT hq s05
      refine ⟨.ref sk, rfl, .ref q, rfl, .ref q, rfl, 1, rfl, 2, rfl, q, _, rfl, hq5, fun z => absurd (show HT.sIx 3 0 (some 1) = 0 from z.1) (by decide +kernel), fun b nb => ?_⟩
      rw [show cutV [V.str (Str.ofString "apart"), V.str y, V.str z] (some 1) (some 2) = [V.str y] from rfl]
      have s6 : Same H (upd H5 b (.tup [.str y])) := Same.new s05 nb
      have hb : (upd H5 b (.tup [.str y])) b = some (.tup [.str y]) := upd_same
      have pl1' := pl1.same (same_upd (o := .tup [.str y]) nb)
      generalize upd H5 b (.tup [.str y]) = H6 at s6 hb pl1' ⊢
      refine ⟨.int off, rfl, sk, q, b, r, m, off, off, kvs, .apart y z, [y], rfl, hs.same s6, hg, hq.same s6, hx, .inl (.inl (.inl hb)), (by show 1 ≤ 100; decide), by omega, size_ok hg _ _, fun H7 p2 s7 np2 pl2 => ⟨(by show 2 ≤ sizeLine; decide), fun t nt => ?_⟩⟩
      have s8 := same_upd (o := .tup [.ref p1, .ref p2]) nt
      exact k _ t p1 p2 (FlX.Same.exT (fun c u e => s8 _ _ (s7 _ _ (s6 _ _ e))) hT) upd_same (pl1'.same fun c u e => s8 _ _ (s7 _ _ e)) (pl2.same s8)
    | count z =>
      refine ⟨false, congrArg V.bl (by dsimp only [Qn.word]; decide +kernel), iteF ?_⟩
      refine ⟨_, rfl, rfl, false, congrArg V.bl (decide_eq_false (by dsimp only [Qn.word]; decide +kernel)), iteF ?_⟩
      refine ⟨_, rfl, rfl, false, congrArg V.bl (decide_eq_false (by dsimp only [Qn.word]; decide +kernel)), iteF ?_⟩
      exact rest _ k rfl rfl rfl
    | lot zs =>
      refine ⟨false, congrArg V.bl (by dsimp only [Qn.word]; decide +kernel), iteF ?_⟩
      refine ⟨_, rfl, rfl, false, congrArg V.bl (decide_eq_false (by dsimp only [Qn.word]; decide +kernel)), iteF ?_⟩
      refine ⟨_, rfl, rfl, false, congrArg V.bl (decide_eq_false (by dsimp only [Qn.word]; decide +kernel)), iteF ?_⟩
      exact rest _ k rfl rfl rfl
end
end Kb

namespace Kb
open PySem PySem.Spec PyProof.Rows L2 SrtZ SrtO FlX LamX RZ
abbrev sP_is_question : Stmt := topS 32
theorem scP_is_question : FnScope ["thing", "word"] ["thing"] (defScope sP_is_question) := ⟨rfl, rfl, rfl, by decide +kernel, rfl, by decide +kernel, by decide +kernel⟩
abbrev sP_is_lot : Stmt := topS 33
abbrev NP_is_lot : List Str := ["thing", "one", "other", "name"]
theorem scP_is_lot : FnScope ["thing", "one", "other", "name"] ["thing"] (defScope sP_is_lot) := ⟨rfl, rfl, rfl, by decide +kernel, rfl, by decide +kernel, by decide +kernel⟩
abbrev DnIsQuestion (K : PySem.W.Frag) (mg : Str → Option Value) := Dn K mg "is_question" sP_is_question ["thing"]
abbrev DnIsLot (K : PySem.W.Frag) (mg : Str → Option Value) := Dn K mg "_is_lot" sP_is_lot ["thing"]
/-- zip of two tuples, turn by turn -/
theorem walk_zipT {K : PySem.W.Frag} {a b : Addr} {xs ys : List V} {n : Nat} (hn : n = min xs.length ys.length) : Walk (ItzT K a b) n (fun H => SqT K H a xs ∧ SqT K H b ys) (YPair (fun i => xs[i]?) (fun i => ys[i]?)) := by
  subst hn
  refine ⟨fun i _ hi q => ?_, fun _ q => ⟨xs, ys, q.1, q.2, by omega⟩, fun i H v H' _ q y => ?_⟩
  · have h1 : i < xs.length := by omega
    have h2 : i < ys.length := by omega
    exact ⟨xs, ys, xs[i], ys[i], q.1, q.2, by simp [h1], by simp [h2]⟩
  · obtain ⟨T, x, z, h1, h2, h3, h4, h5⟩ := y
    exact ⟨T, x, z, h1, h2, h3, h4 xs q.1, h5 ys q.2⟩
section
variable {P : Program} {w : World} {K : PySem.W.Frag} {mg : Str → Option Value} {base : Heap}
/-! _is_lot -/
def spIsLot (K : PySem.W.Frag) : Sp := fun vs H Q _ => ∃ (t : Addr) (zs : List Str), vs = [.ref t] ∧ SqT K H t (zs.map V.str) ∧ zs.length ≤ 40 ∧ (∀ z ∈ zs, Nm z) ∧ (zs.Pairwise fun a b => ltZ a b = true) ∧ ∀ H', Same H H' → Q (.bl true) H'
theorem ok_is_lot (T : Blt mg) (cL : Cst mg "LONGEST_NAME" (.int 8)) (cA : Cst mg "MOST_ASKED" (.int 40)) (n_zip : mg "zip" = none) (dP_is_name : DnIsName K mg) (d : DnIsLot K mg) : FnOk P w K mg base CX0 2 d.f d.fd ["thing"] (spIsLot K) := by
  have GP_is_name : FnOk P w K mg base CX0 1 dP_is_name.f dP_is_name.fd ["thing"] spIsName := ok_is_name T cL dP_is_name
  refine d.F.ok scP_is_lot (fun vs H Q E h => ?_) (fun cdv A outer s H vs Q E hr h => ?_)
  · obtain ⟨t, zs, rfl, _⟩ := h
    rfl
  · obtain ⟨t, zs, rfl, ht, hl, hnm, hasc, k⟩ := h
    refine ⟨_, (pss_cons (ps_if (PW.pt (pw_or (pt_not (pt_val (pe_callB call_isi (by rfl) T.n_isinstance (by decide +kernel) (pa_cons (pv 0) (pa_cons (pe_bltn (v := .ty "tuple") (by rfl) T.n_tuple (by decide +kernel) rfl) pa_nil))))) (pw_or (pt_cmpR op_gt (pe_callB call_len_seq (by rfl) T.n_len (by decide +kernel) (pa_cons (pv 0) pa_nil)) (pe_glob rfl cA.g cA.r) (nomark _)) (pw_or1 (pt_not (pt_val (pe_callB (cr_all rfl) (by rfl) T.n_all (by decide +kernel) (pa_cons (pe_lc (own := [("name", 3)]) (g := gName 3) (tt := tYes) rfl scP_is_lot.nd (pi_tup (pv 0)) (blkOk_by (N := NP_is_lot) (sc := defScope sP_is_lot) (by decide +kernel)) (fun _ _ _ _ _ => pg_name (i := 3) scP_is_lot.nd rfl (Or.inl rfl)) (fun _ _ _ _ _ => pts_nil) (fun _ _ _ _ _ => (pe_call GP_is_name (hr.mono (by omega)) (by rfl) dP_is_name.g dP_is_name.F.kp dP_is_name.b .nil pass0 (pa_cons (pv 3) pa_nil)))) pa_nil))))))))
      (pss_one (ps_ret pe_bl))
      pss_nil)
    (pss_one (ps_ret (pe_callB (cr_all rfl) (by rfl) T.n_all (by decide +kernel) (pa_cons (pe_lc (own := [("one", 1), ("other", 2)]) (g := gTup K 2 (gCons (gName 1) (gCons (gName 2) gNil))) (tt := tYes) rfl scP_is_lot.nd (pi_zipA (by rfl) n_zip (pa_cons (pv 0) (pa_cons (pe_slice sl_tupA (pv 0) (po_some pe_int) po_none) pa_nil))) (blkOk_by (N := NP_is_lot) (sc := defScope sP_is_lot) (by decide +kernel)) (fun _ _ _ _ _ => pg_tup (by rfl) (pgs_cons (pg_name (i := 1) scP_is_lot.nd rfl (Or.inl rfl)) (pgs_cons (pg_name (i := 2) scP_is_lot.nd rfl (Or.inl rfl)) pgs_nil))) (fun _ _ _ _ _ => pts_nil) (fun _ _ _ _ _ => (pe_cmpR op_lt_str (pv 1) (pv 2) (nomark _)))) pa_nil))))), ?_⟩
    refine ⟨.ref t, rfl, .ref t, _, _, _, true, rfl, .ty "tuple", tyT ht, kit_ty (by decide +kernel), true, rfl, iteF ?_⟩
    refine ⟨.ref t, rfl, t, _, rfl, .inr ht, _, _, rfl, rfl, false, congrArg V.bl (decide_eq_false (by rw [List.length_map]; omega)), iteF ?_⟩
    refine ⟨.ref t, rfl, t, rfl, ⟨_, ht⟩, fun D nD => ?_⟩
    refine lc_tup (xs := zs.map V.str) (fun i H3 => Same H H3 ∧ H3 D = some (.lst ((List.replicate i true).map V.bl))) ⟨same_upd nD, upd_same⟩ (fun i H3 _ h3 => seqT ht h3.1) (fun i v H3 hv h3 => ?_) (fun H3 h3 => ?_)
    · obtain ⟨z, hz, rfl⟩ := map_at hv
      have hi := (List.getElem?_eq_some_iff.mp hz).1
      refine ⟨rfl, .str z, rfl, z, rfl, hnm z (List.mem_of_getElem? hz), fun H4 s4 => ⟨_, s4 _ _ h3.2, by rw [List.length_map, List.length_replicate, sizeLine_eq]; omega, Same.put (fun b u e => s4 _ _ (h3.1 b u e)) nD, ?_⟩⟩
      rw [upd_same, List.replicate_succ', List.map_append]
      rfl
    · obtain ⟨s3, hD⟩ := h3
      refine ⟨D, _, rfl, sql hD, true, congrArg V.bl (by simp), iteF ?_⟩
      have ht3 := seqT ht s3
      generalize H3 = H5 at s3 ht3 ⊢
      have sx1 : HT.sIx (zs.map V.str).length 0 (some 1) = min 1 zs.length := by
        rw [show HT.sIx (zs.map V.str).length 0 (some 1) = min 1 (zs.map V.str).length from HT.sIx_nat _ _ 1, List.length_map]
      have ecut : cutV (zs.map V.str) (some 1) none = (zs.drop 1).map V.str := by
        unfold cutV
        rw [sx1, HT.sIx_none, List.length_map]
        match zs with
        | [] => rfl
        | z :: r =>
          rw [List.length_cons, show min 1 (r.length + 1) = 1 by omega]
          show List.take (r.length + 1 - 1) (r.map V.str) = r.map V.str
          exact List.take_of_length_le (by rw [List.length_map]; omega)
      refine ⟨.ref t, rfl, .ref t, rfl, 1, rfl, t, _, rfl, ht3, fun hw => ?ea, fun hw p np => ?eb⟩
      case' ea =>
        have hz : zs = [] := by
          have := sx1.symm.trans hw.1
          exact List.length_eq_zero_iff.mp (by omega)
        have hp6 : SqT K H5 t ((zs.drop 1).map V.str) := by
          rw [hz] at ht3 ⊢
          exact ht3
        have ht6 := ht3
        have s6 := s3
      case' eb =>
        have hp6 : SqT K (upd H5 p (.tup (cutV (zs.map V.str) (some 1) none))) p ((zs.drop 1).map V.str) := by
          rw [← ecut]
          exact .inl (.inl upd_same)
        have s6 : Same H (upd H5 p (.tup (cutV (zs.map V.str) (some 1) none))) := Same.new s3 np
        have ht6 : SqT K (upd H5 p (.tup (cutV (zs.map V.str) (some 1) none))) t (zs.map V.str) := seqT ht s6
        generalize upd H5 p (.tup (cutV (zs.map V.str) (some 1) none)) = H6 at hp6 s6 ht6 ⊢
      all_goals
        refine ⟨t, _, _, _, rfl, .inr ⟨ht6, hp6, fun D2 nD2 => ?_⟩⟩
        have nD20 := Same.gone s6 nD2
        refine lc_it (walk_zipT (K := K) (xs := zs.map V.str) (ys := (zs.drop 1).map V.str) rfl) (fun i H7 => Same H H7 ∧ SqT K H7 t (zs.map V.str) ∧ SqT K H7 _ ((zs.drop 1).map V.str) ∧ H7 D2 = some (.lst ((List.replicate i true).map V.bl))) ⟨Same.new s6 nD2, seqT ht6 (same_upd nD2), seqT hp6 (same_upd nD2), upd_same⟩ (fun i H7 _ h7 => ⟨h7.2.1, h7.2.2.1⟩) (fun i v H7 H8 hi h7 y => ?_) (fun H7 h7 => ?_)
        · obtain ⟨s7, ht7, hp7, hD7⟩ := h7
          obtain ⟨TT, x1, x2, rfl, nT, rfl, hx1, hx2⟩ := y
          obtain ⟨z1, hz1, rfl⟩ := map_at hx1
          obtain ⟨z2, hz2, rfl⟩ := map_at hx2
          have hi1 := (List.getElem?_eq_some_iff.mp hz1).1
          rw [List.getElem?_drop] at hz2
          have lt12 : ltZ z1 z2 = true := by
            obtain ⟨h1, e1⟩ := List.getElem?_eq_some_iff.mp hz1
            obtain ⟨h2, e2⟩ := List.getElem?_eq_some_iff.mp hz2
            have := List.pairwise_iff_getElem.mp hasc i (1 + i) h1 h2 (by omega)
            rw [e1, e2] at this
            exact this
          have DT : D2 ≠ TT := ne_of_none hD7 nT
          refine ⟨TT, _, rfl, .inl (.inl upd_same), rfl, _, _, rfl, _, _, rfl, rfl, rfl, .str z1, rfl, .str z2, rfl, z1, z2, rfl, rfl, ?_⟩
          have sT : Same H (upd H7 TT (.tup [.str z1, .str z2])) := Same.new s7 nT
          refine ⟨_, by rw [upd_ne DT]; exact hD7, by rw [List.length_map, List.length_replicate, sizeLine_eq]; omega, Same.put sT nD20, ?_, ?_, ?_⟩
          · exact seqT ht (Same.put sT nD20)
          · have sp : SqT K (upd H7 TT (.tup [.str z1, .str z2])) _ ((zs.drop 1).map V.str) := seqT hp7 (same_upd nT)
            rcases sp with (h | ⟨o, h⟩) | h
            · exact .inl (.inl (by rw [upd_ne (ne_of h (by rw [upd_ne DT]; exact hD7) (by intro z; cases z))]; exact h))
            · exact .inl (.inr ⟨o, by rw [upd_ne (ne_of h (by rw [upd_ne DT]; exact hD7) (by intro z; cases z))]; exact h⟩)
            · exact .inr h
          · rw [upd_same, List.replicate_succ', List.map_append]
            show some (HO.lst (_ ++ [V.bl (ltZ z1 z2)])) = _
            rw [lt12]
            rfl
        · obtain ⟨s7, ht7, hp7, hD7⟩ := h7
          refine ⟨D2, _, rfl, sql hD7, ?_⟩
          rw [show (List.replicate (min (zs.map V.str).length ((zs.drop 1).map V.str).length) true).all id = true by simp]
          exact k H7 s7
/-! is_question -/
def spIsQuestion (K : PySem.W.Frag) : Sp := fun vs H Q _ => ∃ (q : Addr) (x : Qn), vs = [.ref q] ∧ QnAt K H q x ∧ QnOk x ∧ ∀ H', Same H H' → Q (.bl true) H'
theorem ok_is_question (T : Blt mg) (cL : Cst mg "LONGEST_NAME" (.int 8)) (cA : Cst mg "MOST_ASKED" (.int 40)) (n_zip : mg "zip" = none) (dP_is_int : DnIsInt K mg) (dP_is_name : DnIsName K mg) (dP_is_lot : DnIsLot K mg) (d : DnIsQuestion K mg) : FnOk P w K mg base CX0 3 d.f d.fd ["thing"] (spIsQuestion K) := by
  have GP_is_name : FnOk P w K mg base CX0 1 dP_is_name.f dP_is_name.fd ["thing"] spIsName := ok_is_name T cL dP_is_name
  have GP_is_int : FnOk P w K mg base CX0 1 dP_is_int.f dP_is_int.fd ["thing"] spIsInt := ok_is_int T dP_is_int
  have GP_is_lot : FnOk P w K mg base CX0 2 dP_is_lot.f dP_is_lot.fd ["thing"] (spIsLot K) := ok_is_lot T cL cA n_zip dP_is_name dP_is_lot
  refine d.F.ok scP_is_question (fun vs H Q E h => ?_) (fun cdv A outer s H vs Q E hr h => ?_)
  · obtain ⟨q, x, rfl, _⟩ := h
    rfl
  · obtain ⟨q, x, rfl, hq, hx, k⟩ := h
    refine ⟨_, (pss_cons (ps_if (PW.pt (pw_or (pt_not (pt_val (pe_callB call_isi (by rfl) T.n_isinstance (by decide +kernel) (pa_cons (pv 0) (pa_cons (pe_bltn (v := .ty "tuple") (by rfl) T.n_tuple (by decide +kernel) rfl) pa_nil))))) (pw_or (pt_not (pt_truth (pv 0) (by intro _; rfl))) (pw_or1 (pt_not (pt_val (pe_callB call_isi (by rfl) T.n_isinstance (by decide +kernel) (pa_cons (pe_ix ix_tup (pv 0) pe_int (fun _ _ => rfl)) (pa_cons (pe_bltn (v := .ty "str") (by rfl) T.n_str (by decide +kernel) rfl) pa_nil)))))))))
      (pss_one (ps_ret pe_bl))
      pss_nil)
    (pss_cons (ps_set (i := 1) scP_is_question.nd rfl (Or.inl rfl) (pe_ix ix_tup (pv 0) pe_int (fun _ _ => rfl)))
    (pss_cons (ps_if (pt_cmpR op_in_seq (pv 1) (pe_tup (pa_cons pe_str (pa_cons pe_str pa_nil))) rfl)
      (pss_one (ps_ret (pe_cmpR op_eq (pe_callB call_len_seq (by rfl) T.n_len (by decide +kernel) (pa_cons (pv 0) pa_nil)) pe_int (nomark _))))
      pss_nil)
    (pss_cons (ps_if (pt_cmpR op_eq (pv 1) pe_str (nomark _))
      (pss_one (ps_ret (pe_and (pe_cmpR op_eq (pe_callB call_len_seq (by rfl) T.n_len (by decide +kernel) (pa_cons (pv 0) pa_nil)) pe_int (nomark _)) (pe_and (pe_call GP_is_name (hr.mono (by omega)) (by rfl) dP_is_name.g dP_is_name.F.kp dP_is_name.b .nil pass0 (pa_cons (pe_ix ix_tup (pv 0) pe_int (fun _ _ => rfl)) pa_nil)) (pe_and (pe_call GP_is_name (hr.mono (by omega)) (by rfl) dP_is_name.g dP_is_name.F.kp dP_is_name.b .nil pass0 (pa_cons (pe_ix ix_tup (pv 0) pe_int (fun _ _ => rfl)) pa_nil)) (pe_one (pe_cmpR op_ne (pe_ix ix_tup (pv 0) pe_int (fun _ _ => rfl)) (pe_ix ix_tup (pv 0) pe_int (fun _ _ => rfl)) (nomark _))))))))
      pss_nil)
    (pss_cons (ps_if (pt_cmpR op_ne (pe_callB call_len_seq (by rfl) T.n_len (by decide +kernel) (pa_cons (pv 0) pa_nil)) pe_int (nomark _))
      (pss_one (ps_ret pe_bl))
      pss_nil)
    (pss_cons (ps_if (pt_cmpR op_in_seq (pv 1) (pe_tup (pa_cons pe_str (pa_cons pe_str pa_nil))) rfl)
      (pss_one (ps_ret (pe_call GP_is_name (hr.mono (by omega)) (by rfl) dP_is_name.g dP_is_name.F.kp dP_is_name.b .nil pass0 (pa_cons (pe_ix ix_tup (pv 0) pe_int (fun _ _ => rfl)) pa_nil))))
      pss_nil)
    (pss_cons (ps_if (pt_cmpR op_eq (pv 1) pe_str (nomark _))
      (pss_one (ps_ret (pe_and (pe_call GP_is_int (hr.mono (by omega)) (by rfl) dP_is_int.g dP_is_int.F.kp dP_is_int.b .nil pass0 (pa_cons (pe_ix ix_tup (pv 0) pe_int (fun _ _ => rfl)) pa_nil)) (pe_one (pe_chain op_le op_le pe_int (pe_ix ix_tup (pv 0) pe_int (fun _ _ => rfl)) (pe_glob rfl cA.g cA.r))))))
      pss_nil)
    (pss_one (ps_ret (pe_and (pe_cmpR op_eq (pv 1) pe_str (nomark _)) (pe_one (pe_call GP_is_lot (hr.mono (by omega)) (by rfl) dP_is_lot.g dP_is_lot.F.kp dP_is_lot.b .nil pass0 (pa_cons (pe_ix ix_tup (pv 0) pe_int (fun _ _ => rfl)) pa_nil))))))))))))), ?_⟩
    obtain ⟨xs, hq0⟩ := hq.word
    refine ⟨.ref q, rfl, .ref q, _, _, _, true, rfl, .ty "tuple", tyT hq0, kit_ty (by decide +kernel), true, rfl, iteF ?_⟩
    refine ⟨.ref q, rfl, true, .inr (.inl ⟨_, hq0, rfl⟩), iteF ?_⟩
    refine ⟨.ref q, rfl, q, _, _, _, rfl, rfl, hq0, atI_nat (j := 0) rfl, .str x.word, _, _, _, true, rfl, .ty "str", .base (.str _), kit_ty (by decide +kernel), true, rfl, iteF ?_⟩
    refine ⟨.ref q, rfl, q, _, _, _, rfl, rfl, hq0, atI_nat (j := 0) rfl, ?_⟩
    refine ⟨.str x.word, rfl, (by show 2 ≤ sizeLine; decide), fun t0 nt0 => ⟨t0, _, rfl, .inr (.inl (.inl upd_same)), rfl, rfl, ?_⟩⟩
    have s1 : Same H (upd H t0 (.tup [.str (Str.ofString "unlike"), .str (Str.ofString "squares")])) := same_upd nt0
    generalize upd H t0 (.tup [.str (Str.ofString "unlike"), .str (Str.ofString "squares")]) = H1 at s1 ⊢
    cases x with
    | unlike =>
      have hq1 : SqT K H1 q [.str (Str.ofString "unlike")] := seqT hq s1
      refine ⟨true, congrArg V.bl (by decide +kernel), iteT ?_⟩
      exact ⟨.ref q, rfl, q, _, rfl, .inr hq1, rfl, k H1 s1⟩
    | squares =>
      have hq1 : SqT K H1 q [.str (Str.ofString "squares")] := seqT hq s1
      refine ⟨true, congrArg V.bl (by decide +kernel), iteT ?_⟩
      exact ⟨.ref q, rfl, q, _, rfl, .inr hq1, rfl, k H1 s1⟩
    | apart y z =>
      have hq1 : SqT K H1 q [.str (Str.ofString "apart"), .str y, .str z] := seqT hq s1
      refine ⟨false, congrArg V.bl (by dsimp only [Qn.word]; decide +kernel), iteF ?_⟩
      refine ⟨_, rfl, rfl, true, congrArg V.bl (decide_eq_true (by dsimp only [Qn.word])), iteT ?_⟩
      refine ⟨.ref q, rfl, q, _, rfl, .inr hq1, rfl, true, congrArg V.bl (decide_eq_true rfl), ?_⟩
      refine ⟨.ref q, rfl, q, _, _, _, rfl, rfl, hq1, atI_nat (j := 1) rfl, y, rfl, hx.nm y List.mem_cons_self, fun H2 s2 => ⟨true, rfl, ?_⟩⟩
      refine ⟨.ref q, rfl, q, _, _, _, rfl, rfl, seqT hq1 s2, atI_nat (j := 2) rfl, z, rfl, hx.nm z (List.mem_cons_of_mem _ List.mem_cons_self), fun H3 s3 => ⟨true, rfl, ?_⟩⟩
      have hq3 := seqT (seqT hq1 s2) s3
      refine ⟨.ref q, rfl, q, _, _, _, rfl, rfl, hq3, atI_nat (j := 1) rfl, .ref q, rfl, q, _, _, _, rfl, rfl, hq3, atI_nat (j := 2) rfl, rfl, ?_⟩
      have := k H3 fun b u e => s3 _ _ (s2 _ _ (s1 _ _ e))
      rw [show (!decide (V.str y = V.str z)) = true by rw [decide_eq_false (by intro h; injection h with h; exact hx.ne y z rfl h)]; rfl]
      exact this
    | count z =>
      have hq1 : SqT K H1 q [.str (Str.ofString "count"), .str z] := seqT hq s1
      refine ⟨false, congrArg V.bl (by dsimp only [Qn.word]; decide +kernel), iteF ?_⟩
      refine ⟨_, rfl, rfl, false, congrArg V.bl (decide_eq_false (by dsimp only [Qn.word]; decide +kernel)), iteF ?_⟩
      refine ⟨.ref q, rfl, q, _, rfl, .inr hq1, rfl, false, rfl, iteF ?_⟩
      refine ⟨_, rfl, (by show 2 ≤ sizeLine; decide), fun t1 nt1 => ⟨t1, _, rfl, .inr (.inl (.inl upd_same)), rfl, rfl, true, congrArg V.bl (by dsimp only [Qn.word]; decide +kernel), iteT ?_⟩⟩
      have s2 := Same.new (o := .tup [.str (Str.ofString "count"), .str (Str.ofString "place")]) s1 nt1
      exact ⟨.ref q, rfl, q, _, _, _, rfl, rfl, seqT hq1 (same_upd nt1), atI_nat (j := 1) rfl, z, rfl, hx.nm z List.mem_cons_self, fun H3 s3 => k H3 fun b u e => s3 _ _ (s2 _ _ e)⟩
    | place z =>
      have hq1 : SqT K H1 q [.str (Str.ofString "place"), .str z] := seqT hq s1
      refine ⟨false, congrArg V.bl (by dsimp only [Qn.word]; decide +kernel), iteF ?_⟩
      refine ⟨_, rfl, rfl, false, congrArg V.bl (decide_eq_false (by dsimp only [Qn.word]; decide +kernel)), iteF ?_⟩
      refine ⟨.ref q, rfl, q, _, rfl, .inr hq1, rfl, false, rfl, iteF ?_⟩
      refine ⟨_, rfl, (by show 2 ≤ sizeLine; decide), fun t1 nt1 => ⟨t1, _, rfl, .inr (.inl (.inl upd_same)), rfl, rfl, true, congrArg V.bl (by dsimp only [Qn.word]; decide +kernel), iteT ?_⟩⟩
      have s2 := Same.new (o := .tup [.str (Str.ofString "count"), .str (Str.ofString "place")]) s1 nt1
      exact ⟨.ref q, rfl, q, _, _, _, rfl, rfl, seqT hq1 (same_upd nt1), atI_nat (j := 1) rfl, z, rfl, hx.nm z List.mem_cons_self, fun H3 s3 => k H3 fun b u e => s3 _ _ (s2 _ _ e)⟩
    | first j =>
      have hq1 : SqT K H1 q [.str (Str.ofString "first"), .int j] := seqT hq s1
      refine ⟨false, congrArg V.bl (by dsimp only [Qn.word]; decide +kernel), iteF ?_⟩
      refine ⟨_, rfl, rfl, false, congrArg V.bl (decide_eq_false (by dsimp only [Qn.word]; decide +kernel)), iteF ?_⟩
      refine ⟨.ref q, rfl, q, _, rfl, .inr hq1, rfl, false, rfl, iteF ?_⟩
      refine ⟨_, rfl, (by show 2 ≤ sizeLine; decide), fun t1 nt1 => ⟨t1, _, rfl, .inr (.inl (.inl upd_same)), rfl, rfl, false, congrArg V.bl (by dsimp only [Qn.word]; decide +kernel), iteF ?_⟩⟩
      have s2 := Same.new (o := .tup [.str (Str.ofString "count"), .str (Str.ofString "place")]) s1 nt1
      have hq2 := seqT hq1 (same_upd (o := .tup [.str (Str.ofString "count"), .str (Str.ofString "place")]) nt1)
      generalize upd H1 t1 (.tup [.str (Str.ofString "count"), .str (Str.ofString "place")]) = H2 at s2 hq2 ⊢
      obtain ⟨j1, j2⟩ := hx.j j rfl
      refine ⟨_, rfl, rfl, true, congrArg V.bl (decide_eq_true (by dsimp only [Qn.word])), iteT ?_⟩
      refine ⟨.ref q, rfl, q, _, _, _, rfl, rfl, hq2, atI_nat (j := 1) rfl, j, rfl, true, rfl, ?_⟩
      refine ⟨.ref q, rfl, q, _, _, _, rfl, rfl, hq2, atI_nat (j := 1) rfl, _, _, rfl, rfl, true, congrArg V.bl (decide_eq_true j1), ?_⟩
      have := k H2 s2
      refine ⟨_, _, rfl, rfl, ?_⟩
      dsimp only
      rw [decide_eq_true j2]
      exact this
    | lot zs =>
      obtain ⟨t, hq, ht⟩ := hq
      have hq1 : SqT K H1 q [.str (Str.ofString "lot"), .ref t] := seqT hq s1
      refine ⟨false, congrArg V.bl (by dsimp only [Qn.word]; decide +kernel), iteF ?_⟩
      refine ⟨_, rfl, rfl, false, congrArg V.bl (decide_eq_false (by dsimp only [Qn.word]; decide +kernel)), iteF ?_⟩
      refine ⟨.ref q, rfl, q, _, rfl, .inr hq1, rfl, false, rfl, iteF ?_⟩
      refine ⟨_, rfl, (by show 2 ≤ sizeLine; decide), fun t1 nt1 => ⟨t1, _, rfl, .inr (.inl (.inl upd_same)), rfl, rfl, false, congrArg V.bl (by dsimp only [Qn.word]; decide +kernel), iteF ?_⟩⟩
      have s2 := Same.new (o := .tup [.str (Str.ofString "count"), .str (Str.ofString "place")]) s1 nt1
      have hq2 := seqT hq1 (same_upd (o := .tup [.str (Str.ofString "count"), .str (Str.ofString "place")]) nt1)
      generalize upd H1 t1 (.tup [.str (Str.ofString "count"), .str (Str.ofString "place")]) = H2 at s2 hq2 ⊢
      refine ⟨_, rfl, rfl, false, congrArg V.bl (decide_eq_false (by dsimp only [Qn.word]; decide +kernel)), iteF ?_⟩
      refine ⟨_, rfl, rfl, true, congrArg V.bl (decide_eq_true (by dsimp only [Qn.word])), ?_⟩
      exact ⟨.ref q, rfl, q, _, _, _, rfl, rfl, hq2, atI_nat (j := 1) rfl, t, zs, rfl, seqT ht s2, hx.len, hx.nm, hx.asc zs rfl, fun H3 s3 => k H3 fun b u e => s3 _ _ (s2 _ _ e)⟩
end
end Kb

namespace FlX
open PySem PySem.Spec PyProof.Rows PySem.W L2 LamX SrtZ
/-- the pair of ints that a tuple of the heap holds -/
def rdI (H : Hp) (v : V) : Int × Int := match v with
  | .ref t => (match H t with
    | some (.tup [.int x, .int y]) => (x, y)
    | _ => (0, 0))
  | _ => (0, 0)
theorem rdI_of {H : Hp} {t : Addr} {e : Int × Int} (h : H t = some (.tup [.int e.1, .int e.2])) : rdI H (.ref t) = e := by
  unfold rdI
  dsimp only
  rw [h]
theorem pairedI_rd {H : Hp} : ∀ {ts : List Addr} {ns : List (Int × Int)}, Paired (fun (t : Addr) (e : Int × Int) => H t = some (.tup [.int e.1, .int e.2])) ts ns → (ts.map V.ref).map (rdI H) = ns ∧ ∀ v ∈ ts.map V.ref, ∃ t, v = V.ref t ∧ H t = some (.tup [.int (rdI H v).1, .int (rdI H v).2])
  | _, _, .nil => ⟨rfl, fun _ h => nomatch h⟩
  | t :: ts, _ :: ns, .cons h r => by
    obtain ⟨h1, h2⟩ := pairedI_rd r
    have e := rdI_of h
    refine ⟨by rw [List.map_cons, List.map_cons, h1, e], fun v hv => ?_⟩
    rcases List.mem_cons.mp hv with rfl | hv
    · exact ⟨t, rfl, by rw [e]; exact h⟩
    · exact h2 v hv
theorem pairedI_of {H : Hp} : ∀ {vs : List V}, (∀ v ∈ vs, ∃ t, v = V.ref t ∧ H t = some (.tup [.int (rdI H v).1, .int (rdI H v).2])) → ∃ us : List Addr, vs = us.map V.ref ∧ Paired (fun (t : Addr) (e : Int × Int) => H t = some (.tup [.int e.1, .int e.2])) us (vs.map (rdI H))
  | [], _ => ⟨[], rfl, .nil⟩
  | v :: vs, h => by
    obtain ⟨t, e, ht⟩ := h v List.mem_cons_self
    obtain ⟨us, e2, hp⟩ := pairedI_of fun x hx => h x (List.mem_cons_of_mem _ hx)
    refine ⟨t :: us, by rw [e, e2]; rfl, .cons ht hp⟩
/-- the firsts of a falling list fall -/
theorem srtd_desc {k : V → Int × Int} : ∀ {ys : List V}, SrtO.Srtd (ltP k) ys → (ys.map k).Pairwise fun a b => a.1 ≤ b.1
  | [], _ => .nil
  | y :: ys, h => by
    rw [List.map_cons, List.pairwise_cons]
    have h' := List.pairwise_cons.mp h
    refine ⟨fun b hb => ?_, srtd_desc (k := k) h'.2⟩
    obtain ⟨x, hx, rfl⟩ := List.mem_map.mp hb
    have := SrtO.lexB_no.mp (h'.1 x hx)
    omega
section
variable {X : Cx}
/-- sorted(pairs, reverse=True), pairs of ints, any number of them -/
def rSortedPR (K : PySem.W.Frag) : List V → List V → Hp → VK → Prop := fun vs zs H Q => ∃ (a : Addr) (ts : List Addr) (ns : List (Int × Int)), vs = [V.ref a] ∧ zs = [.bl true] ∧ SqL K H a (ts.map V.ref) ∧ Paired (fun (t : Addr) (e : Int × Int) => H t = some (.tup [.int e.1, .int e.2])) ts ns ∧
  ∀ (p : Addr) (us : List Addr) (ms : List (Int × Int)), ms.Perm ns → (ms.Pairwise fun a b => b.1 ≤ a.1) → H p = none → Paired (fun (t : Addr) (e : Int × Int) => H t = some (.tup [.int e.1, .int e.2])) us ms → Q (.ref p) (upd H p (.lst (us.map V.ref)))
theorem cr_sortedPR : CallRK X (.builtin "sorted") [Str.ofString "reverse"] (rSortedPR X.K) := by
  intro pins s σ H vs zs us ws Q I r rz h
  obtain ⟨a, ts, ns, rfl, rfl, hs, hp, q⟩ := h
  obtain rfl := Vals.ref1 r
  obtain ⟨w1, rfl, e1⟩ := vals1 rz
  obtain rfl : w1 = Value.bool true := e1
  obtain ⟨its, rv, hl, hz⟩ := I.list hs
  obtain ⟨hk, hx⟩ := pairedI_rd hp
  obtain ⟨e1, e2⟩ := refs_back rv fun x m => by
    obtain ⟨t, e, _⟩ := hx x m
    exact ⟨t, e⟩
  have hpr : ∀ v ∈ its, Srt.IsPair s.heap v (rdI H (backV v)).1 (rdI H (backV v)).2 := fun v hv => by
    obtain ⟨t, rfl⟩ := e2 v hv
    have hm : V.ref t ∈ ts.map V.ref := by rw [e1]; exact List.mem_map.mpr ⟨_, hv, rfl⟩
    obtain ⟨t', e, ht⟩ := hx _ hm
    cases e
    obtain ⟨_, its2, r2, o, ho, hc, n, hd⟩ := I.hok _ _ ht
    obtain ⟨u1, u2, rfl, ri, rj⟩ := vals2 r2
    obtain ⟨t1, rfl⟩ := ri
    obtain ⟨t2, rfl⟩ := rj
    exact ⟨t, o, t1, t2, n, rfl, ho, hc, hd⟩
  refine SrtR.sorted_ordK (b := true) (fun _ => rfl) (PyProof.Rows.args_sorted_rev _ _) (fun _ => PyProof.Rows.args_list_sort_rev _ _) (SrtO.swo_lex fun u => rdI H (backV u)) hl.isList (by rw [← rv.length]; exact hz) (fun h2 h₁ a' ha' keep => ?_) fun out h1 h2 => ?_
  · refine SrtO.pairs_sortableO (by omega) (fun v hv => ?_) fun o e => ?_
    · obtain ⟨t, o, t1, t2, n, e, ho, hc, hd⟩ := hpr v hv
      exact ⟨t, o, t1, t2, n, e, (keep _ _ ho).2, hc, hd⟩
    · have e' : some o = some (seqObj "list" its.toArray 0) := e.symm.trans ha'
      cases e'
      intro z
      exact absurd (Value.type.inj z) (by decide)
  · have h2p : out.Perm its := h2.perm.trans (List.reverse_perm _)
    have h3 : ∀ u ∈ out, ∃ a, u = Value.ref a := fun u hu => e2 u (h2p.mem_iff.mp hu)
    have hb : (out.map backV).Perm (ts.map V.ref) := by
      rw [e1]
      exact h2p.map backV
    obtain ⟨ep, he'⟩ := PyProof.Rows.sortedAll_at s.heap its out.toArray.reverse
    have h4 : ∀ u ∈ out.reverse, ∃ a, u = Value.ref a := fun u hu => h3 u (List.mem_reverse.mp hu)
    have ea : out.reverse.toArray = out.toArray.reverse := by
      apply Array.ext'
      rw [Array.toList_reverse]
    obtain ⟨us, eu, hpu⟩ := pairedI_of (H := H) (vs := out.reverse.map backV) fun v hv => by
      refine hx v (hb.mem_iff.mp ?_)
      rw [List.map_reverse] at hv
      exact List.mem_reverse.mp hv
    have hlen : (us.map V.ref).length ≤ sizeLine := by
      rw [← eu, List.length_map, List.length_reverse, h2p.length_eq, ← rv.length]
      exact hz
    have hn : H (s.heap.objs.size + 1) = none := I.hok.fresh (Nat.le_succ _)
    refine ⟨.ref _, upd H (s.heap.objs.size + 1) (.lst (us.map V.ref)), I.laid (t' := s.toks) (fun _ _ => PyProof.Rows.sortedAll_old) (Nat.le_succ _) ⟨hlen, out.reverse, ep, by rw [← eu]; exact vals_back h4, by rw [ea]; exact he'⟩, rfl, q _ us _ ?_ ?_ hn hpu⟩
    · rw [← hk]
      refine List.Perm.map _ ?_
      rw [List.map_reverse]
      exact (List.reverse_perm _).trans hb
    · rw [List.map_reverse, List.map_reverse, List.pairwise_reverse]
      exact srtd_desc (SrtO.srtd_map h1)
end
end FlX

namespace Kb
open PySem PySem.Spec PyProof.Rows L2 SrtZ SrtO FlX LamX RZ
abbrev sP_worth : Stmt := topS 34
abbrev NP_worth : List Str := ["named", "parts", "question", "word", "groups", "mine", "count", "many", "name", "_"]
theorem scP_worth : FnScope ["named", "parts", "question", "word", "groups", "mine", "count", "many", "name", "_"] ["named", "parts", "question"] (defScope sP_worth) := ⟨rfl, rfl, rfl, by decide +kernel, rfl, by decide +kernel, by decide +kernel⟩
abbrev sP_greatest : Stmt := topS 35
theorem scP_greatest : FnScope ["groups", "j", "total", "left", "count", "many"] ["groups", "j"] (defScope sP_greatest) := ⟨rfl, rfl, rfl, by decide +kernel, rfl, by decide +kernel, by decide +kernel⟩
abbrev DnWorth (K : PySem.W.Frag) (mg : Str → Option Value) := Dn K mg "_worth" sP_worth ["named", "parts", "question"]
abbrev DnGreatest (K : PySem.W.Frag) (mg : Str → Option Value) := Dn K mg "_greatest" sP_greatest ["groups", "j"]
/-! what a plan is worth, as mathematics -/
def dscZ (ns : List (Int × Int)) : List (Int × Int) := ns.mergeSort fun a b => decide (b.1 ≤ a.1)
theorem dscZ_perm (ns : List (Int × Int)) : (dscZ ns).Perm ns := List.mergeSort_perm _ _
theorem dscZ_desc (ns : List (Int × Int)) : (dscZ ns).Pairwise fun a b => b.1 ≤ a.1 := by
  have := List.pairwise_mergeSort (le := fun a b : Int × Int => decide (b.1 ≤ a.1)) (fun a b c h1 h2 => by simp at *; omega) (fun a b => by simp; omega) ns
  exact this.imp fun h => by simpa using h
theorem exZ_fall : ∀ {ms : List (Int × Int)}, (ms.Pairwise fun a b => b.1 ≤ a.1) → Fall (exZ ms)
  | [], _ => .nil
  | e :: ms, h => by
    have h' := List.pairwise_cons.mp h
    show Fall (List.replicate e.2.toNat e.1 ++ exZ ms)
    unfold Fall
    rw [List.pairwise_append]
    refine ⟨List.pairwise_replicate.mpr (.inr (Int.le_refl _)), exZ_fall h'.2, fun a ha b hb => ?_⟩
    rw [(List.mem_replicate.mp ha).2]
    obtain ⟨f, hf, hb⟩ := List.mem_flatMap.mp hb
    rw [(List.mem_replicate.mp hb).2]
    exact h'.1 f hf
theorem exZ_perm {a b : List (Int × Int)} (p : a.Perm b) : (exZ a).Perm (exZ b) := p.flatMap_right _
def topG (ns : List (Int × Int)) (j : Int) : Int := ((exZ (dscZ ns)).take j.toNat).sum
theorem topG_of {ms ns : List (Int × Int)} {j : Int} (p : ms.Perm ns) (h : ms.Pairwise fun a b => b.1 ≤ a.1) (nn : ∀ e ∈ ns, 0 ≤ e.2) (hj : 0 ≤ j) : grtZ ms j = topG ns j := by
  rw [grtZ_ex (fun e he => nn e (p.mem_iff.mp he)) hj]
  unfold topG
  rw [fall_eq (exZ_fall h) (exZ_fall (dscZ_desc ns)) (exZ_perm (p.trans (dscZ_perm ns).symm))]
def groupsW (d : Ct) (ps : List (Int × Int)) : List (Int × Int) := ((d.filter fun e => decide (0 < e.2)).map fun e => (e.2, 1)) ++ ps
def worthZ (d : Ct) (ps : List (Int × Int)) : Qn → Int
  | .count z => gd d z
  | .lot zs => (zs.map (gd d)).sum
  | .apart y z => gd d y - gd d z
  | .place z => 1 + (((groupsW d ps).filter fun e => decide (gd d z < e.1)).map (·.2)).sum
  | .first j => topG (groupsW d ps) j
  | .unlike => ((groupsW d ps).map (·.2)).sum
  | .squares => ((groupsW d ps).map fun e => e.1 * e.1 * e.2).sum
section
variable {P : Program} {w : World} {K : PySem.W.Frag} {mg : Str → Option Value} {base : Heap}
/-! _greatest -/
def spGreatest (K : PySem.W.Frag) : Sp := fun vs H Q _ => ∃ (l : Addr) (j : Int) (ts : List Addr) (ns : List (Int × Int)), vs = [.ref l, .int j] ∧ SqL K H l (ts.map V.ref) ∧ Paired (PrI H) ts ns ∧ (∀ e ∈ ns, 0 ≤ e.2) ∧ 0 ≤ j ∧ j ≤ 40 ∧ ∀ H', Same H H' → Q (.int (topG ns j)) H'
theorem ok_greatest (T : Blt mg) (d : DnGreatest K mg) : FnOk P w K mg base CX0 1 d.f d.fd ["groups", "j"] (spGreatest K) := by
  refine d.F.ok scP_greatest (fun vs H Q E h => ?_) (fun cdv A outer s H vs Q E hr h => ?_)
  · obtain ⟨l, j, ts, ns, rfl, _⟩ := h
    rfl
  · obtain ⟨l, j, ts, ns, rfl, hl, hp, hnn, hj0, hj1, k⟩ := h
    refine ⟨_, (pss_cons (ps_set (i := 2) scP_greatest.nd rfl (Or.inl rfl) pe_int)
    (pss_cons (ps_set (i := 3) scP_greatest.nd rfl (Or.inl rfl) (pv 1))
    (pss_cons (ps_for PassesOwn.never rfl (pi_list (pe_callBK cr_sortedPR (by rfl) T.n_sorted (by decide +kernel) (pa_cons (pv 0) pa_nil) (pk_cons pe_bl pk_nil))) (pg_tup (by rfl) (pgs_cons (pg_name (i := 4) scP_greatest.nd rfl (Or.inl rfl)) (pgs_cons (pg_name (i := 5) scP_greatest.nd rfl (Or.inl rfl)) pgs_nil)))
      (pss_cons (ps_aug (i := 2) scP_greatest.nd rfl (Or.inl rfl) (pe_op op_mul (pv 4) (pe_callB (call_min2 rfl) (by rfl) T.n_min (by decide +kernel) (pa_cons (pv 5) (pa_cons (pv 3) pa_nil)))) ip_add)
      (pss_one (ps_aug (i := 3) scP_greatest.nd rfl (Or.inl rfl) (pe_callB (call_min2 rfl) (by rfl) T.n_min (by decide +kernel) (pa_cons (pv 5) (pa_cons (pv 3) pa_nil))) ip_sub))))
    (pss_one (ps_ret (pv 2)))))), ?_⟩
    refine ⟨.int j, rfl, .ref l, rfl, l, ts, ns, rfl, rfl, hl, hp, fun p us ms pm ds np hus => ?_⟩
    have hp1 : (upd H p (.lst (us.map V.ref))) p = some (.lst (us.map V.ref)) := upd_same
    have s1 : Same H (upd H p (.lst (us.map V.ref))) := same_upd np
    generalize upd H p (.lst (us.map V.ref)) = H1 at hp1 s1 ⊢
    have nnm : ∀ e ∈ ms, 0 ≤ e.2 := fun e he => hnn e (pm.mem_iff.mp he)
    refine ⟨p, rfl, ⟨_, sql hp1⟩, for_list (xs := us.map V.ref) (fun i σ H3 => H3 = H1 ∧ ∃ (y4 y5 : Option V) (t left : Int), σ = [some (.ref l), some (.int j), some (.int t), some (.int left), y4, y5] ∧ 0 ≤ left ∧ left ≤ 40 ∧ t + grtZ (ms.drop i) left = grtZ ms j)
      ⟨rfl, none, none, 0, j, rfl, hj0, hj1, by rw [List.drop_zero]; omega⟩ (fun i σ H3 _ h => by rw [h.1]; exact sql hp1) ?_ ?_⟩
    · rintro i v σ H3 hi ⟨rfl, y4, y5, t, left, rfl, l0, l1, hg⟩
      obtain ⟨u, hu, rfl⟩ := map_at hi
      obtain ⟨e, he, hat⟩ := paired_at hus hu
      have hd : ms.drop i = e :: ms.drop (i + 1) := by
        obtain ⟨h1, h2⟩ := List.getElem?_eq_some_iff.mp he
        rw [List.drop_eq_getElem_cons h1, h2]
      have e0 := nnm e (List.mem_of_getElem? he)
      have mm := mnI_le (off := e.2) (S := left)
      have m0 := mnI_nn e0 l0
      rw [hd] at hg
      have hg : t + (e.1 * mnI e.2 left + grtZ (ms.drop (i + 1)) (left - mnI e.2 left)) = grtZ ms j := hg
      have heq : (if left < e.2 then left else e.2) = mnI e.2 left := rfl
      refine ⟨u, _, rfl, .inl (.inl (s1 _ _ hat)), rfl, _, _, rfl, _, _, rfl, rfl, ?_⟩
      refine ⟨.int t, rfl, .int e.1, rfl, .int e.2, rfl, .int left, rfl, e.2, left, rfl, _, _, rfl, rfl, .inr ⟨by rw [heq]; omega, by rw [heq]; omega⟩, _, _, rfl, rfl, ?_⟩
      refine ⟨.int left, rfl, .int e.2, rfl, .int left, rfl, e.2, left, rfl, _, _, rfl, rfl, rfl, some (.int e.1), some (.int e.2), t + e.1 * mnI e.2 left, left - mnI e.2 left, rfl, by omega, by omega, ?_⟩
      omega
    · rintro σ H3 ⟨rfl, y4, y5, t, left, rfl, l0, l1, hg⟩
      rw [List.length_map, Paired.length hus, List.drop_length] at hg
      have hg : t + 0 = grtZ ms j := hg
      rw [topG_of pm ds hnn hj0] at hg
      refine ⟨.int t, rfl, ?_⟩
      rw [show t = topG ns j by omega]
      exact k H3 s1
/-! _worth -/
theorem paired_app {α β : Type} {F : α → β → Prop} : ∀ {xs : List α} {ys : List β} {us : List α} {vs : List β}, Paired F xs ys → Paired F us vs → Paired F (xs ++ us) (ys ++ vs)
  | _, _, _, _, .nil, h => h
  | _, _, _, _, .cons h t, k => .cons h (paired_app t k)
theorem gd_getD (d : Ct) (z : Str) : (((getZ d z).map V.int).getD (.int 0)) = .int (gd d z) := by
  unfold gd
  cases getZ d z <;> rfl
def spWorth (K : PySem.W.Frag) : Sp := fun vs H Q _ => ∃ (dd l q : Addr) (d : Ct) (ps : List (Int × Int)) (ts : List Addr) (x : Qn), vs = [.ref dd, .ref l, .ref q] ∧ H dd = some (.dK (d.map entZ)) ∧ d.length ≤ 1000 ∧ H l = some (.lst (ts.map V.ref)) ∧ Paired (PrI H) ts ps ∧ ps.length ≤ 1000 ∧ QnAt K H q x ∧ QnOk x ∧
  (∀ e ∈ ps, 0 ≤ e.2) ∧ (∀ e ∈ d, e.2.natAbs < 2 ^ 200) ∧ (∀ e ∈ ps, e.1.natAbs < 2 ^ 200 ∧ e.2.natAbs < 2 ^ 200) ∧ ∀ H', Same H H' → Q (.int (worthZ d ps x)) H'
theorem ok_worth (T : Blt mg) (dP_greatest : DnGreatest K mg) (d : DnWorth K mg) : FnOk P w K mg base CX0 2 d.f d.fd ["named", "parts", "question"] (spWorth K) := by
  have GP_greatest : FnOk P w K mg base CX0 1 dP_greatest.f dP_greatest.fd ["groups", "j"] (spGreatest K) := ok_greatest T dP_greatest
  refine d.F.ok scP_worth (fun vs H Q E h => ?_) (fun cdv A outer s H vs Q E hr h => ?_)
  · obtain ⟨dd, l, q, dk, ps, ts, x, rfl, _⟩ := h
    rfl
  · obtain ⟨dd, l, q, dk, ps, ts, x, rfl, hd, hk, hl, hp, hpl, hq, hx, hnn, hb1, hb2, k⟩ := h
    have hu := hu_of hr
    refine ⟨_, (pss_cons (ps_set (i := 3) scP_worth.nd rfl (Or.inl rfl) (pe_ix ix_tup (pv 2) pe_int (fun _ _ => rfl)))
    (pss_cons (ps_set (i := 4) scP_worth.nd rfl (Or.inl rfl) (pe_op op_cat (pe_lock (pe_lc (own := [("count", 6)]) (g := gName 6) rfl scP_worth.nd (pi_values (pv 0)) (blkOk_by (N := NP_worth) (sc := defScope sP_worth) (by decide +kernel)) (fun _ _ _ _ _ => pg_name (i := 6) scP_worth.nd rfl (Or.inl rfl)) (fun _ _ _ _ _ => pts_one (pt_cmpR op_gt (pv 6) pe_int (nomark _))) (fun _ _ _ _ _ => (pe_tup (pa_cons (pv 6) (pa_cons pe_int pa_nil)))))) (pv 1)))
    (pss_cons (ps_if (pt_cmpR op_eq (pv 3) pe_str (nomark _))
      (pss_one (ps_ret (pe_dget2 hu (pv 0) (pe_ix ix_tup (pv 2) pe_int (fun _ _ => rfl)) pe_int ⟨rfl, rfl, rfl, rfl⟩)))
      pss_nil)
    (pss_cons (ps_if (pt_cmpR op_eq (pv 3) pe_str (nomark _))
      (pss_one (ps_ret (pe_callB (cr_sum rfl) (by rfl) T.n_sum (by decide +kernel) (pa_cons (pe_lc (own := [("name", 8)]) (g := gName 8) (tt := tYes) rfl scP_worth.nd (pi_tup (pe_ix ix_tup (pv 2) pe_int (fun _ _ => rfl))) (blkOk_by (N := NP_worth) (sc := defScope sP_worth) (by decide +kernel)) (fun _ _ _ _ _ => pg_name (i := 8) scP_worth.nd rfl (Or.inl rfl)) (fun _ _ _ _ _ => pts_nil) (fun _ _ _ _ _ => (pe_dget2 hu (pv 0) (pv 8) pe_int ⟨rfl, rfl, rfl, rfl⟩))) pa_nil))))
      pss_nil)
    (pss_cons (ps_if (pt_cmpR op_eq (pv 3) pe_str (nomark _))
      (pss_one (ps_ret (pe_op op_sub (pe_dget2 hu (pv 0) (pe_ix ix_tup (pv 2) pe_int (fun _ _ => rfl)) pe_int ⟨rfl, rfl, rfl, rfl⟩) (pe_dget2 hu (pv 0) (pe_ix ix_tup (pv 2) pe_int (fun _ _ => rfl)) pe_int ⟨rfl, rfl, rfl, rfl⟩))))
      pss_nil)
    (pss_cons (ps_if (pt_cmpR op_eq (pv 3) pe_str (nomark _))
      (pss_cons (ps_asg (pe_dget2 hu (pv 0) (pe_ix ix_tup (pv 2) pe_int (fun _ _ => rfl)) pe_int ⟨rfl, rfl, rfl, rfl⟩) (pg_name (i := 5) scP_worth.nd rfl (Or.inr rfl)))
      (pss_one (ps_ret (pe_op op_add pe_int (pe_callB (cr_sum rfl) (by rfl) T.n_sum (by decide +kernel) (pa_cons (pe_lc (own := [("count", 6), ("many", 7)]) (g := gTup K 2 (gCons (gName 6) (gCons (gName 7) gNil))) rfl scP_worth.nd (pi_list (pv 4)) (blkOk_by (N := NP_worth) (sc := defScope sP_worth) (by decide +kernel)) (fun _ _ _ _ _ => pg_tup (by rfl) (pgs_cons (pg_name (i := 6) scP_worth.nd rfl (Or.inl rfl)) (pgs_cons (pg_name (i := 7) scP_worth.nd rfl (Or.inl rfl)) pgs_nil))) (fun _ _ _ _ _ => pts_one (pt_cmpR op_gt (pv 6) (pv 5) (nomark _))) (fun _ _ _ _ _ => (pv 7))) pa_nil))))))
      pss_nil)
    (pss_cons (ps_if (pt_cmpR op_eq (pv 3) pe_str (nomark _))
      (pss_one (ps_ret (pe_call GP_greatest (hr.mono (by omega)) (by rfl) dP_greatest.g dP_greatest.F.kp dP_greatest.b .nil pass0 (pa_cons (pv 4) (pa_cons (pe_ix ix_tup (pv 2) pe_int (fun _ _ => rfl)) pa_nil)))))
      pss_nil)
    (pss_cons (ps_if (pt_cmpR op_eq (pv 3) pe_str (nomark _))
      (pss_one (ps_ret (pe_callB (cr_sum rfl) (by rfl) T.n_sum (by decide +kernel) (pa_cons (pe_lc (own := [("_", 9), ("many", 7)]) (g := gTup K 2 (gCons (gName 9) (gCons (gName 7) gNil))) (tt := tYes) rfl scP_worth.nd (pi_list (pv 4)) (blkOk_by (N := NP_worth) (sc := defScope sP_worth) (by decide +kernel)) (fun _ _ _ _ _ => pg_tup (by rfl) (pgs_cons (pg_name (i := 9) scP_worth.nd rfl (Or.inl rfl)) (pgs_cons (pg_name (i := 7) scP_worth.nd rfl (Or.inl rfl)) pgs_nil))) (fun _ _ _ _ _ => pts_nil) (fun _ _ _ _ _ => (pv 7))) pa_nil))))
      pss_nil)
    (pss_one (ps_ret (pe_callB (cr_sum rfl) (by rfl) T.n_sum (by decide +kernel) (pa_cons (pe_lc (own := [("count", 6), ("many", 7)]) (g := gTup K 2 (gCons (gName 6) (gCons (gName 7) gNil))) (tt := tYes) rfl scP_worth.nd (pi_list (pv 4)) (blkOk_by (N := NP_worth) (sc := defScope sP_worth) (by decide +kernel)) (fun _ _ _ _ _ => pg_tup (by rfl) (pgs_cons (pg_name (i := 6) scP_worth.nd rfl (Or.inl rfl)) (pgs_cons (pg_name (i := 7) scP_worth.nd rfl (Or.inl rfl)) pgs_nil))) (fun _ _ _ _ _ => pts_nil) (fun _ _ _ _ _ => (pe_op op_mulW (pe_op op_mulW (pv 6) (pv 6)) (pv 7)))) pa_nil)))))))))))), ?_⟩
    obtain ⟨xs, hq0⟩ := hq.word
    refine ⟨.ref q, rfl, q, _, _, _, rfl, rfl, hq0, atI_nat (j := 0) rfl, ?_⟩
    refine ⟨dd, _, hd, trivial, fun od => ⟨.ref dd, rfl, dd, od, dk.map entZ, rfl, upd_same, fun D nD => ?_⟩⟩
    have dD : dd ≠ D := ne_of_none upd_same nD
    have nD0 : H D = none := by
      rw [upd_ne dD.symm] at nD
      exact nD
    generalize hHl : upd H dd (.frz od (.dK (dk.map entZ))) = Hl at nD ⊢
    have hld : Hl dd = some (.frz od (.dK (dk.map entZ))) := by rw [← hHl]; exact upd_same
    refine lc_it (walk_values (kvs := dk.map entZ)) (fun i H3 => Same Hl H3 ∧ ∃ us : List Addr, us.length ≤ i ∧ H3 D = some (.lst (us.map V.ref)) ∧ Paired (PrI H3) us (((dk.take i).filter fun e => decide (0 < e.2)).map fun e => (e.2, 1))) ⟨same_upd nD, [], Nat.le_refl _, upd_same, .nil⟩ (fun i H3 _ h3 => h3.1 _ _ hld) (fun i v H3 H4 hi h3 y => ?_) (fun H3 h3 => ?_)
    · obtain ⟨s3, us, hul, hD, hus⟩ := h3
      obtain ⟨rfl, kk, hv⟩ := y
      rw [List.getElem?_map] at hv
      obtain ⟨e, rfl, he⟩ : ∃ e : Str × Int, v = .int e.2 ∧ dk[i]? = some e := by
        cases he : dk[i]? with
        | none => rw [he] at hv; cases hv
        | some e =>
          rw [he] at hv
          injection hv with hv
          injection hv with _ hv
          exact ⟨e, hv.symm, rfl⟩
      rw [List.length_map] at hi
      have tk : dk.take (i + 1) = dk.take i ++ [e] := by rw [List.take_add_one, he]; rfl
      refine ⟨rfl, .int e.2, rfl, _, _, rfl, rfl, _, rfl, ite2 (fun h1 => ?_) fun h1 => ⟨s3, us, by omega, hD, by rw [tk, List.filter_append, List.filter_cons_of_neg (by simpa using h1)]; rw [show List.filter (fun e : Str × Int => decide (0 < e.2)) [] = [] from rfl, List.append_nil]; exact hus⟩⟩
      refine ⟨.int e.2, rfl, (by show 2 ≤ sizeLine; decide), fun u nu => ?_⟩
      have uD : D ≠ u := ne_of_none hD nu
      refine ⟨_, by rw [upd_ne uD]; exact hD, by rw [List.length_map, sizeLine_eq]; omega, fun b o e' => ?_, us ++ [u], by rw [List.length_append]; exact Nat.succ_le_succ hul, by rw [upd_same, List.map_append]; rfl, ?_⟩
      · rw [upd_ne (ne_of_none e' nD), upd_ne (ne_of_none (s3 _ _ e') nu)]
        exact s3 _ _ e'
      · rw [tk, List.filter_append, List.filter_cons_of_pos (by exact h1), List.map_append]
        refine paired_snoc (paired_imp (fun t' e' h => ?_) hus) ?_
        · show upd _ D _ t' = _
          rw [upd_ne (ne_of h hD (by intro z; cases z)), upd_ne (ne_of_none h nu)]
          exact h
        · show upd _ D _ u = _
          rw [upd_ne uD.symm]
          exact upd_same
    · obtain ⟨s3, us, hul, hD, hus⟩ := h3
      rw [List.length_map] at hul
      rw [List.length_map, List.take_length] at hus
      refine ⟨s3 _ _ hld, ?_⟩
      have s4 : Same H (upd H3 dd (.dK (dk.map entZ))) := unlock_same hd (by rw [hHl]; exact s3)
      have hD4 : (upd H3 dd (.dK (dk.map entZ))) D = some (.lst (us.map V.ref)) := by rw [upd_ne dD.symm]; exact hD
      have hus4 : Paired (PrI (upd H3 dd (.dK (dk.map entZ)))) us ((dk.filter fun e => decide (0 < e.2)).map fun e => (e.2, 1)) := paired_imp (fun t' e' h => by
        show upd _ dd _ t' = _
        rw [upd_ne (ne_of h (s3 _ _ hld) (by intro z; cases z))]
        exact h) hus
      generalize upd H3 dd (.dK (dk.map entZ)) = H4 at s4 hD4 hus4 ⊢
      refine ⟨.ref l, rfl, _, _, _, _, rfl, rfl, hD4, s4 _ _ hl, (by have := Paired.length hp; rw [List.length_map, List.length_map, sizeLine_eq]; omega), fun p np => ?_⟩
      have s5 := Same.new (o := .lst (us.map V.ref ++ ts.map V.ref)) s4 np
      have hp5 : (upd H4 p (.lst (us.map V.ref ++ ts.map V.ref))) p = some (.lst ((us ++ ts).map V.ref)) := by rw [upd_same, List.map_append]
      have hg5 : Paired (PrI (upd H4 p (.lst (us.map V.ref ++ ts.map V.ref)))) (us ++ ts) (groupsW dk ps) := paired_app (paired_imp (fun t' e' h => same_upd np _ _ h) hus4) (paired_imp (fun t' e' h => s5 _ _ h) hp)
      generalize upd H4 p (.lst (us.map V.ref ++ ts.map V.ref)) = H5 at s5 hp5 hg5 ⊢
      have hglen : (us ++ ts).length ≤ 2000 := by
        have := Paired.length hp
        rw [List.length_append]
        omega
      have hgnn : ∀ e ∈ groupsW dk ps, 0 ≤ e.2 := fun e he => by
        rcases List.mem_append.mp he with he | he
        · obtain ⟨f, _, rfl⟩ := List.mem_map.mp he
          show (0 : Int) ≤ 1
          decide
        · exact hnn e he
      have hgb : ∀ e ∈ groupsW dk ps, e.1.natAbs < 2 ^ 200 ∧ e.2.natAbs < 2 ^ 200 := fun e he => by
        rcases List.mem_append.mp he with he | he
        · obtain ⟨f, hf, rfl⟩ := List.mem_map.mp he
          exact ⟨hb1 f (List.mem_filter.mp hf).1, (by decide : (1 : Int).natAbs < 2 ^ 200)⟩
        · exact hb2 e he
      have ge : ∀ i u, (us ++ ts)[i]? = some u → ∃ e, (groupsW dk ps)[i]? = some e ∧ PrI H5 u e ∧ (groupsW dk ps).take (i + 1) = (groupsW dk ps).take i ++ [e] ∧ i < 2000 := fun i u h => by
        obtain ⟨e, he, hat⟩ := paired_at hg5 h
        exact ⟨e, he, hat, by rw [List.take_add_one, he]; rfl, by have := (List.getElem?_eq_some_iff.mp h).1; omega⟩
      have gl : (groupsW dk ps).length = (us ++ ts).length := (Paired.length hg5).symm
      cases x with
      | count z =>
        refine ⟨_, rfl, rfl, true, congrArg V.bl (decide_eq_true (by dsimp only [Qn.word])), iteT ?_⟩
        have hq5 : SqT K H5 q [.str (Str.ofString "count"), .str z] := seqT hq s5
        refine ⟨.ref dd, rfl, dd, rfl, .inl ⟨_, .inl (s5 _ _ hd)⟩, .ref q, rfl, q, _, _, _, rfl, rfl, hq5, atI_nat (j := 1) rfl, _, DGet.k (k := Sum.inr z) (s5 _ _ hd), ?_⟩
        rw [getZ_val, gd_getD]
        exact k H5 s5
      | lot zs =>
        refine ⟨_, rfl, rfl, false, congrArg V.bl (decide_eq_false (by dsimp only [Qn.word]; decide +kernel)), iteF ?_⟩
        refine ⟨_, rfl, rfl, true, congrArg V.bl (decide_eq_true (by dsimp only [Qn.word])), iteT ?_⟩
        obtain ⟨t, hq, ht⟩ := hq
        have hq5 : SqT K H5 q [.str (Str.ofString "lot"), .ref t] := seqT hq s5
        have hl40 : zs.length ≤ 40 := hx.len
        refine ⟨.ref q, rfl, q, _, _, _, rfl, rfl, hq5, atI_nat (j := 1) rfl, t, rfl, ⟨_, seqT ht s5⟩, fun D2 nD2 => ?_⟩
        have nD20 := Same.gone s5 nD2
        refine lc_tup (xs := zs.map V.str) (fun i H6 => Same H5 H6 ∧ H6 D2 = some (.lst (((zs.take i).map (gd dk)).map V.int))) ⟨same_upd nD2, upd_same⟩ (fun i H6 _ h6 => seqT (seqT ht s5) h6.1) (fun i v H6 hv h6 => ?_) (fun H6 h6 => ?_)
        · obtain ⟨z, hz, rfl⟩ := map_at hv
          have hd6 := h6.1 _ _ (s5 _ _ hd)
          refine ⟨rfl, .ref dd, rfl, dd, rfl, .inl ⟨_, .inl hd6⟩, .str z, rfl, _, DGet.k (k := Sum.inr z) hd6, ?_⟩
          rw [getZ_val, gd_getD]
          refine ⟨_, h6.2, by rw [List.length_map, List.length_map, List.length_take, sizeLine_eq]; omega, Same.put h6.1 nD2, ?_⟩
          rw [upd_same, List.take_add_one, hz, List.map_append, List.map_append]
          rfl
        · obtain ⟨s6, hD2⟩ := h6
          rw [List.length_map, List.take_length] at hD2
          exact ⟨D2, _, rfl, sql hD2, k H6 fun b u e => s6 _ _ (s5 _ _ e)⟩
      | apart y z =>
        refine ⟨_, rfl, rfl, false, congrArg V.bl (decide_eq_false (by dsimp only [Qn.word]; decide +kernel)), iteF ?_⟩
        refine ⟨_, rfl, rfl, false, congrArg V.bl (decide_eq_false (by dsimp only [Qn.word]; decide +kernel)), iteF ?_⟩
        refine ⟨_, rfl, rfl, true, congrArg V.bl (decide_eq_true (by dsimp only [Qn.word])), iteT ?_⟩
        have hq5 : SqT K H5 q [.str (Str.ofString "apart"), .str y, .str z] := seqT hq s5
        refine ⟨.ref dd, rfl, dd, rfl, .inl ⟨_, .inl (s5 _ _ hd)⟩, .ref q, rfl, q, _, _, _, rfl, rfl, hq5, atI_nat (j := 1) rfl, _, DGet.k (k := Sum.inr y) (s5 _ _ hd), ?_⟩
        rw [getZ_val, gd_getD]
        refine ⟨.ref dd, rfl, dd, rfl, .inl ⟨_, .inl (s5 _ _ hd)⟩, .ref q, rfl, q, _, _, _, rfl, rfl, hq5, atI_nat (j := 2) rfl, _, DGet.k (k := Sum.inr z) (s5 _ _ hd), ?_⟩
        rw [getZ_val, gd_getD]
        exact ⟨_, _, rfl, rfl, k H5 s5⟩
      | place z =>
        refine ⟨_, rfl, rfl, false, congrArg V.bl (decide_eq_false (by dsimp only [Qn.word]; decide +kernel)), iteF ?_⟩
        refine ⟨_, rfl, rfl, false, congrArg V.bl (decide_eq_false (by dsimp only [Qn.word]; decide +kernel)), iteF ?_⟩
        refine ⟨_, rfl, rfl, false, congrArg V.bl (decide_eq_false (by dsimp only [Qn.word]; decide +kernel)), iteF ?_⟩
        refine ⟨_, rfl, rfl, true, congrArg V.bl (decide_eq_true (by dsimp only [Qn.word])), iteT ?_⟩
        have hq5 : SqT K H5 q [.str (Str.ofString "place"), .str z] := seqT hq s5
        refine ⟨.ref dd, rfl, dd, rfl, .inl ⟨_, .inl (s5 _ _ hd)⟩, .ref q, rfl, q, _, _, _, rfl, rfl, hq5, atI_nat (j := 1) rfl, _, DGet.k (k := Sum.inr z) (s5 _ _ hd), ?_⟩
        rw [getZ_val, gd_getD]
        refine ⟨.ref p, rfl, p, rfl, ⟨_, sql hp5⟩, fun D2 nD2 => ?_⟩
        have nD20 := Same.gone s5 nD2
        refine lc_list (xs := (us ++ ts).map V.ref) (fun i H6 => Same H5 H6 ∧ H6 D2 = some (.lst (((fun g : List (Int × Int) => (g.filter fun e : Int × Int => decide (gd dk z < e.1)).map (·.2)) ((groupsW dk ps).take i)).map V.int)) ∧ ((fun g : List (Int × Int) => (g.filter fun e : Int × Int => decide (gd dk z < e.1)).map (·.2)) ((groupsW dk ps).take i)).length ≤ i) ⟨same_upd nD2, upd_same, Nat.zero_le _⟩ (fun i H6 _ h6 => sql (h6.1 _ _ hp5)) (fun i v H6 hv h6 => ?_) (fun H6 h6 => ?_)
        · obtain ⟨u, hu, rfl⟩ := map_at hv
          obtain ⟨e, he, hat, tk, hi⟩ := ge i u hu
          obtain ⟨s6, hD2, hll⟩ := h6
          refine ⟨u, _, rfl, .inl (.inl (s6 _ _ hat)), rfl, _, _, rfl, _, _, rfl, rfl, rfl, .int e.1, rfl, .int (gd dk z), rfl, _, _, rfl, rfl, _, rfl, ite2 (fun hgt => ?_) fun hgt => ?_⟩
          · refine ⟨.int e.2, rfl, _, hD2, by rw [List.length_map, sizeLine_eq]; omega, Same.put s6 nD2, ?_, ?_⟩
            · dsimp only
              rw [upd_same, tk, List.filter_append, List.filter_cons_of_pos (by exact hgt), List.map_append, List.map_append]
              rfl
            · dsimp only at hll ⊢
              rw [tk, List.filter_append, List.map_append, List.length_append, List.filter_cons_of_pos (by exact hgt)]
              show _ + 1 ≤ _
              omega
          · have : List.filter (fun e : Int × Int => decide (gd dk z < e.1)) ((groupsW dk ps).take (i + 1)) = List.filter (fun e : Int × Int => decide (gd dk z < e.1)) ((groupsW dk ps).take i) := by
              rw [tk, List.filter_append, List.filter_cons_of_neg (by exact hgt)]
              exact List.append_nil _
            dsimp only at hD2 hll ⊢
            rw [this]
            exact ⟨s6, hD2, by omega⟩
        · obtain ⟨s6, hD2, _⟩ := h6
          rw [List.length_map, ← gl, List.take_length] at hD2
          exact ⟨D2, _, rfl, sql hD2, _, _, rfl, rfl, k H6 fun b u e => s6 _ _ (s5 _ _ e)⟩
      | first j =>
        refine ⟨_, rfl, rfl, false, congrArg V.bl (decide_eq_false (by dsimp only [Qn.word]; decide +kernel)), iteF ?_⟩
        refine ⟨_, rfl, rfl, false, congrArg V.bl (decide_eq_false (by dsimp only [Qn.word]; decide +kernel)), iteF ?_⟩
        refine ⟨_, rfl, rfl, false, congrArg V.bl (decide_eq_false (by dsimp only [Qn.word]; decide +kernel)), iteF ?_⟩
        refine ⟨_, rfl, rfl, false, congrArg V.bl (decide_eq_false (by dsimp only [Qn.word]; decide +kernel)), iteF ?_⟩
        refine ⟨_, rfl, rfl, true, congrArg V.bl (decide_eq_true (by dsimp only [Qn.word])), iteT ?_⟩
        have hq5 : SqT K H5 q [.str (Str.ofString "first"), .int j] := seqT hq s5
        obtain ⟨j1, j2⟩ := hx.j j rfl
        exact ⟨.ref p, rfl, .ref q, rfl, q, _, _, _, rfl, rfl, hq5, atI_nat (j := 1) rfl, p, j, us ++ ts, groupsW dk ps, rfl, sql hp5, hg5, hgnn, by omega, j2, fun H6 s6 => k H6 fun b u e => s6 _ _ (s5 _ _ e)⟩
      | unlike =>
        refine ⟨_, rfl, rfl, false, congrArg V.bl (decide_eq_false (by dsimp only [Qn.word]; decide +kernel)), iteF ?_⟩
        refine ⟨_, rfl, rfl, false, congrArg V.bl (decide_eq_false (by dsimp only [Qn.word]; decide +kernel)), iteF ?_⟩
        refine ⟨_, rfl, rfl, false, congrArg V.bl (decide_eq_false (by dsimp only [Qn.word]; decide +kernel)), iteF ?_⟩
        refine ⟨_, rfl, rfl, false, congrArg V.bl (decide_eq_false (by dsimp only [Qn.word]; decide +kernel)), iteF ?_⟩
        refine ⟨_, rfl, rfl, false, congrArg V.bl (decide_eq_false (by dsimp only [Qn.word]; decide +kernel)), iteF ?_⟩
        refine ⟨_, rfl, rfl, true, congrArg V.bl (decide_eq_true (by dsimp only [Qn.word])), iteT ?_⟩
        refine ⟨.ref p, rfl, p, rfl, ⟨_, sql hp5⟩, fun D2 nD2 => ?_⟩
        have nD20 := Same.gone s5 nD2
        refine lc_list (xs := (us ++ ts).map V.ref) (fun i H6 => Same H5 H6 ∧ H6 D2 = some (.lst (((fun g : List (Int × Int) => g.map (·.2)) ((groupsW dk ps).take i)).map V.int)) ∧ ((fun g : List (Int × Int) => g.map (·.2)) ((groupsW dk ps).take i)).length ≤ i) ⟨same_upd nD2, upd_same, Nat.zero_le _⟩ (fun i H6 _ h6 => sql (h6.1 _ _ hp5)) (fun i v H6 hv h6 => ?_) (fun H6 h6 => ?_)
        · obtain ⟨u, hu, rfl⟩ := map_at hv
          obtain ⟨e, he, hat, tk, hi⟩ := ge i u hu
          obtain ⟨s6, hD2, hll⟩ := h6
          refine ⟨u, _, rfl, .inl (.inl (s6 _ _ hat)), rfl, _, _, rfl, _, _, rfl, rfl, rfl, .int e.2, rfl, _, hD2, by rw [List.length_map, sizeLine_eq]; omega, Same.put s6 nD2, ?_, ?_⟩
          · dsimp only
            rw [upd_same, tk, List.map_append, List.map_append]
            rfl
          · dsimp only
            rw [List.length_map, List.length_take]
            omega
        · obtain ⟨s6, hD2, _⟩ := h6
          rw [List.length_map, ← gl, List.take_length] at hD2
          exact ⟨D2, _, rfl, sql hD2, k H6 fun b u e => s6 _ _ (s5 _ _ e)⟩
      | squares =>
        refine ⟨_, rfl, rfl, false, congrArg V.bl (decide_eq_false (by dsimp only [Qn.word]; decide +kernel)), iteF ?_⟩
        refine ⟨_, rfl, rfl, false, congrArg V.bl (decide_eq_false (by dsimp only [Qn.word]; decide +kernel)), iteF ?_⟩
        refine ⟨_, rfl, rfl, false, congrArg V.bl (decide_eq_false (by dsimp only [Qn.word]; decide +kernel)), iteF ?_⟩
        refine ⟨_, rfl, rfl, false, congrArg V.bl (decide_eq_false (by dsimp only [Qn.word]; decide +kernel)), iteF ?_⟩
        refine ⟨_, rfl, rfl, false, congrArg V.bl (decide_eq_false (by dsimp only [Qn.word]; decide +kernel)), iteF ?_⟩
        refine ⟨_, rfl, rfl, false, congrArg V.bl (decide_eq_false (by dsimp only [Qn.word]; decide +kernel)), iteF ?_⟩
        refine ⟨.ref p, rfl, p, rfl, ⟨_, sql hp5⟩, fun D2 nD2 => ?_⟩
        have nD20 := Same.gone s5 nD2
        refine lc_list (xs := (us ++ ts).map V.ref) (fun i H6 => Same H5 H6 ∧ H6 D2 = some (.lst (((fun g : List (Int × Int) => g.map fun e : Int × Int => e.1 * e.1 * e.2) ((groupsW dk ps).take i)).map V.int)) ∧ ((fun g : List (Int × Int) => g.map fun e : Int × Int => e.1 * e.1 * e.2) ((groupsW dk ps).take i)).length ≤ i) ⟨same_upd nD2, upd_same, Nat.zero_le _⟩ (fun i H6 _ h6 => sql (h6.1 _ _ hp5)) (fun i v H6 hv h6 => ?_) (fun H6 h6 => ?_)
        · obtain ⟨u, hu, rfl⟩ := map_at hv
          obtain ⟨e, he, hat, tk, hi⟩ := ge i u hu
          obtain ⟨s6, hD2, hll⟩ := h6
          obtain ⟨g1, g2⟩ := hgb e (List.mem_of_getElem? he)
          refine ⟨u, _, rfl, .inl (.inl (s6 _ _ hat)), rfl, _, _, rfl, _, _, rfl, rfl, rfl, .int e.1, rfl, .int e.1, rfl, _, _, rfl, rfl, ?_, .int e.2, rfl, _, _, rfl, rfl, ?_, _, hD2, by rw [List.length_map, sizeLine_eq]; omega, Same.put s6 nD2, ?_, ?_⟩
          · exact wide_mul g1 g1 (by decide) (by decide) (by decide)
          · have gg : (e.1 * e.1).natAbs < 2 ^ 400 := by
              rw [Int.natAbs_mul, show (2 : Nat) ^ 400 = 2 ^ 200 * 2 ^ 200 from Nat.pow_add 2 200 200]
              exact Nat.mul_lt_mul'' g1 g1
            exact wide_mul gg g2 (by decide) (by decide) (by decide)
          · dsimp only
            rw [upd_same, tk, List.map_append, List.map_append]
            rfl
          · dsimp only
            rw [List.length_map, List.length_take]
            omega
        · obtain ⟨s6, hD2, _⟩ := h6
          rw [List.length_map, ← gl, List.take_length] at hD2
          exact ⟨D2, _, rfl, sql hD2, k H6 fun b u e => s6 _ _ (s5 _ _ e)⟩
end
end Kb

namespace Kb
open PySem PySem.Spec PyProof.Rows L2 SrtZ SrtO FlX LamX RZ
abbrev sP_need_both : Stmt := topS 36
theorem scP_need_both : FnScope ["sketch", "question"] ["sketch", "question"] (defScope sP_need_both) := ⟨rfl, rfl, rfl, by decide +kernel, rfl, by decide +kernel, by decide +kernel⟩
abbrev sP_named : Stmt := topS 37
abbrev NP_named : List Str := ["sketch", "taken", "named", "name", "amount"]
theorem scP_named : FnScope ["sketch", "taken", "named", "name", "amount"] ["sketch", "taken"] (defScope sP_named) := ⟨rfl, rfl, rfl, by decide +kernel, rfl, by decide +kernel, by decide +kernel⟩
abbrev sP_ends : Stmt := topS 38
abbrev NP_ends : List Str := ["sketch", "question", "low", "high", "taken", "parts"]
theorem scP_ends : FnScope ["sketch", "question", "low", "high", "taken", "parts"] ["sketch", "question"] (defScope sP_ends) := ⟨rfl, rfl, rfl, by decide +kernel, rfl, by decide +kernel, by decide +kernel⟩
abbrev DnNeedBoth (K : PySem.W.Frag) (mg : Str → Option Value) := Dn K mg "_need_both" sP_need_both ["sketch", "question"]
abbrev DnNamed (K : PySem.W.Frag) (mg : Str → Option Value) := Dn K mg "_named" sP_named ["sketch", "taken"]
abbrev DnEnds (K : PySem.W.Frag) (mg : Str → Option Value) := Dn K mg "ends" sP_ends ["sketch", "question"]
def namedZ (kvs tk : Ct) : Ct := tk.foldl (fun a e => addZ a e.1 e.2) kvs
theorem namedZ_snoc (kvs tk : Ct) (e : Str × Int) : namedZ kvs (tk ++ [e]) = addZ (namedZ kvs tk) e.1 e.2 := by
  unfold namedZ
  rw [List.foldl_append]
  rfl
theorem namedZ_len : ∀ (tk kvs : Ct), (namedZ kvs tk).length ≤ kvs.length + tk.length
  | [], _ => Nat.le_refl _
  | e :: r, kvs => by
    have := namedZ_len r (addZ kvs e.1 e.2)
    have : (addZ kvs e.1 e.2).length ≤ kvs.length + 1 := putZ_len
    show (namedZ (addZ kvs e.1 e.2) r).length ≤ kvs.length + (r.length + 1)
    omega
/-! what plans keep to -/
theorem getZ_bd {kvs : Ct} {B : Int} (h0 : 0 ≤ B) (h : ∀ e ∈ kvs, 0 ≤ e.2 ∧ e.2 ≤ B) (n : Str) : 0 ≤ gd kvs n ∧ gd kvs n ≤ B := by
  unfold gd
  cases hg : getZ kvs n with
  | none => exact ⟨Int.le_refl _, h0⟩
  | some v => exact h _ (getZ_in hg)
theorem namedZ_bd {C : Int} (c0 : 0 ≤ C) : ∀ {tk kvs : Ct} {B : Int}, 0 ≤ B → (∀ e ∈ kvs, 0 ≤ e.2 ∧ e.2 ≤ B) → (∀ e ∈ tk, 0 ≤ e.2 ∧ e.2 ≤ C) → ∀ e ∈ namedZ kvs tk, 0 ≤ e.2 ∧ e.2 ≤ B + tk.length * C
  | [], kvs, B, b0, hk, _ => fun e he => by
    have := hk e he
    show 0 ≤ e.2 ∧ e.2 ≤ B + ((0 : Nat) : Int) * C
    simp
    exact this
  | f :: tk, kvs, B, b0, hk, ht => fun e he => by
    have hf := ht f List.mem_cons_self
    have := namedZ_bd (tk := tk) (kvs := addZ kvs f.1 f.2) (B := B + C) c0 (by omega) (fun g hg => by
      rcases putZ_mem hg with hg | rfl
      · have := hk g hg
        omega
      · have := getZ_bd b0 hk f.1
        unfold gd at this
        show 0 ≤ (getZ kvs f.1).getD 0 + f.2 ∧ (getZ kvs f.1).getD 0 + f.2 ≤ B + C
        omega) (fun g hg => ht g (List.mem_cons_of_mem _ hg)) e he
    rw [List.length_cons]
    push_cast
    have e2 : ((tk.length : Int) + 1) * C = tk.length * C + C := by grind
    omega
theorem mem_le_sum : ∀ {l : Ct}, (∀ e ∈ l, 1 ≤ e.2) → ∀ e ∈ l, e.2 ≤ sumC l
  | f :: l, h, e, he => by
    have h1 := sumC_pos (l := l) fun x hx => h x (List.mem_cons_of_mem _ hx)
    have h2 := h f List.mem_cons_self
    have : sumC (f :: l) = f.2 + sumC l := by unfold sumC; rw [List.map_cons, List.sum_cons]
    rcases List.mem_cons.mp he with rfl | he
    · omega
    · have := mem_le_sum (l := l) (fun x hx => h x (List.mem_cons_of_mem _ hx)) e he
      omega
structure PlanOk (kvs : Ct) (pl : Plan) : Prop where
  len : pl.1.length ≤ 200
  plen : pl.2.length ≤ 2
  pos : ∀ e ∈ pl.2, 0 < e.1 ∧ 0 < e.2
  pb : ∀ e ∈ pl.2, e.1.natAbs < 2 ^ 200 ∧ e.2.natAbs < 2 ^ 200
  nb : ∀ e ∈ namedZ kvs pl.1, 0 ≤ e.2 ∧ e.2.natAbs < 2 ^ 200
theorem nullZ_mem : ∀ {zs : List Str} {d : Ct}, (∀ e ∈ d, e.2 = 0) → ∀ e ∈ nullZ zs d, e.2 = 0
  | [], _, h => h
  | z :: zs, d, h => nullZ_mem (zs := zs) fun e he => by
    rcases putZ_mem he with he | rfl
    · exact h e he
    · rfl
theorem fillZ_mem {off : Int} (h0 : 0 ≤ off) : ∀ {ys : List Str} {x : Ct × Int}, 0 ≤ x.2 → (∀ e ∈ x.1, 0 ≤ e.2 ∧ e.2 ≤ off) → ∀ e ∈ (fillZ off ys x).1, 0 ≤ e.2 ∧ e.2 ≤ off
  | [], _, _, h => h
  | y :: ys, x, hx, h => fillZ_mem h0 (ys := ys) (x := (putZ x.1 y (if x.2 < off then x.2 else off), x.2 - (if x.2 < off then x.2 else off))) (by dsimp only; split <;> omega) fun e he => by
    rcases putZ_mem he with he | rfl
    · exact h e he
    · dsimp only
      split <;> omega
theorem passZ_mem {off mine : Int} {z : Str} : ∀ {ys : Ct} {x : Ct × Int}, (∀ e ∈ x.1, 0 ≤ e.2 ∧ e.2 ≤ off) → ∀ e ∈ (passZ off mine z ys x).1, 0 ≤ e.2 ∧ e.2 ≤ off
  | [], _, h => h
  | y :: ys, x, h => passZ_mem (ys := ys) fun e he => by
    split at he
    · rename_i hb
      rcases putZ_mem he with he | rfl
      · exact h e he
      · unfold passB at hb
        rw [Bool.and_eq_true, decide_eq_true_eq] at hb
        have := mnI_le (off := off) (S := x.2)
        dsimp only
        refine ⟨?_, by omega⟩
        unfold needZ
        split <;> omega
    · exact h e he
theorem partedZ_ok {a sz : Int} (h0 : 0 ≤ a) (h1 : a < 2 ^ 100) (h2 : sz < 2 ^ 100) : ∀ e ∈ partedZ a sz, (0 < e.1 ∧ 0 < e.2) ∧ e.1.natAbs < 2 ^ 200 ∧ e.2.natAbs < 2 ^ 200 := fun e he => by
  unfold partedZ at he
  split at he
  · cases he
  · obtain ⟨hm, hk⟩ := List.mem_filter.mp he
    unfold okG at hk
    rw [Bool.and_eq_true, decide_eq_true_eq, decide_eq_true_eq] at hk
    refine ⟨hk, ?_⟩
    rcases List.mem_cons.mp hm with rfl | hm
    · dsimp only at hk ⊢
      have : a / sz ≤ a := Int.ediv_le_self sz h0
      omega
    · obtain rfl := List.mem_singleton.mp hm
      dsimp only at hk ⊢
      have : a % sz ≤ a := by
        have e := Int.emod_add_mul_ediv a sz
        by_cases hs : 0 ≤ sz
        · have : 0 ≤ sz * (a / sz) := Int.mul_nonneg hs (Int.ediv_nonneg h0 hs)
          omega
        · have e2 : a / sz ≤ 0 := by
            have := Int.ediv_nonneg h0 (show 0 ≤ -sz by omega)
            rw [Int.ediv_neg] at this
            omega
          have : 0 ≤ (-sz) * (-(a / sz)) := Int.mul_nonneg (by omega) (by omega)
          rw [Int.neg_mul_neg] at this
          omega
      omega
theorem planOk_of {r m off : Int} {kvs : Ct} (hg : SkG r m off kvs) {tk : Ct} {left sz : Int} (hl : tk.length ≤ 200) (ht : ∀ e ∈ tk, 0 ≤ e.2 ∧ e.2 ≤ off) (l0 : 0 ≤ left) (l1 : left ≤ m - sumC kvs) (hs : sz < 2 ^ 100) : PlanOk kvs (tk, partedZ left sz) := by
  obtain ⟨a1, a2, a3, a4⟩ := hg.lost
  have hb := hg.big
  have ho := hg.o0
  have h6 := sumC_pos hg.cts.pos
  have po := partedZ_ok l0 (by omega) hs
  refine ⟨hl, partedZ_len _ _, fun e he => (po e he).1, fun e he => (po e he).2, fun e he => ?_⟩
  have := namedZ_bd ho (B := m) (by omega) (fun e he => ⟨by have := hg.cts.pos e he; omega, by have := mem_le_sum hg.cts.pos e he; omega⟩) ht e he
  have h7 : (tk.length : Int) * off ≤ 200 * off := Int.mul_le_mul_of_nonneg_right (by omega) ho
  omega
theorem planZ_ok {r m off sz : Int} {kvs : Ct} {zs ys : List Str} (hg : SkG r m off kvs) (h1 : zs.length ≤ 40) (h2 : ys.length ≤ 100) (hs : sz < 2 ^ 100) : PlanOk kvs (planZ kvs m off sz zs ys) := by
  obtain ⟨a1, a2, a3, a4⟩ := hg.lost
  have hf := fillZ_left hg.o0 ys (nullZ zs [], m - sumC kvs) a1
  refine planOk_of hg ?_ (fillZ_mem hg.o0 a1 fun e he => ?_) hf.1 hf.2 hs
  · have := fillZ_len off ys (nullZ zs [], m - sumC kvs)
    have := nullZ_len zs []
    dsimp only [List.length_nil] at *
    omega
  · have := nullZ_mem (zs := zs) (d := []) (fun _ h => nomatch h) e he
    have := hg.o0
    omega
theorem planP_ok {r m off : Int} {kvs : Ct} {z : Str} (hg : SkG r m off kvs) : PlanOk kvs (planP kvs m off z) := by
  obtain ⟨a1, a2, a3, a4⟩ := hg.lost
  have hlen := hg.len
  have hr64 := hg.r64
  have hf := passZ_left (off := off) (mine := gd kvs z) z (fallBy (·.2) kvs) ([(z, 0)], m - sumC kvs) a1
  refine planOk_of hg ?_ (passZ_mem fun e he => ?_) hf.1 hf.2 (by have := mnI_le (off := gd kvs z + 1) (S := off); omega)
  · have := passZ_len off (gd kvs z) z (fallBy (·.2) kvs) ([(z, 0)], m - sumC kvs)
    rw [fallB_len] at this
    dsimp only [List.length_cons, List.length_nil] at *
    omega
  · rw [List.mem_singleton.mp he]
    exact ⟨Int.le_refl _, hg.o0⟩
theorem plansZ_ok {r m off : Int} {kvs : Ct} {x : Qn} (hg : SkG r m off kvs) (hx : QnOk x) : PlanOk kvs (plansZ kvs m off x).1 ∧ PlanOk kvs (plansZ kvs m off x).2 := by
  obtain ⟨a1, a2, a3, a4⟩ := hg.lost
  have hl := hx.len
  have hlen := hg.len
  have hr64 := hg.r64
  have fl : ((fallBy (·.2) kvs).map (·.1)).length ≤ 100 := by
    rw [List.length_map, fallB_len]
    omega
  have sp : PlanOk kvs (spread kvs m off) := planZ_ok hg (by decide) (by decide) (by decide)
  have lu : PlanOk kvs (lumped kvs m off) := planZ_ok hg (by decide) fl a4
  cases x with
  | count z => exact ⟨planZ_ok hg hl (by decide) a4, planZ_ok hg hl (Nat.le_trans hl (by decide)) a4⟩
  | lot zs => exact ⟨planZ_ok hg hl (Nat.zero_le _) a4, planZ_ok hg hl (Nat.le_trans hl (by decide)) a4⟩
  | apart y z => exact ⟨planZ_ok hg hl (by show 1 ≤ 100; decide) a4, planZ_ok hg hl (by show 1 ≤ 100; decide) a4⟩
  | place z => exact ⟨planZ_ok hg hl (by show 1 ≤ 100; decide) a4, planP_ok hg⟩
  | first j => exact ⟨sp, lu⟩
  | unlike => exact ⟨lu, sp⟩
  | squares => exact ⟨sp, lu⟩
/-- the ends of a question -/
def lowE (kvs : Ct) (m off : Int) (x : Qn) : Int := worthZ (namedZ kvs (plansZ kvs m off x).1.1) (plansZ kvs m off x).1.2 x
def highE (kvs : Ct) (m off : Int) (x : Qn) : Int := worthZ (namedZ kvs (plansZ kvs m off x).2.1) (plansZ kvs m off x).2.2 x
section
variable {P : Program} {w : World} {K : PySem.W.Frag} {mg : Str → Option Value} {base : Heap}
/-! _named -/
def spNamed (K : PySem.W.Frag) : Sp := fun vs H Q _ => ∃ (s dd : Addr) (r m off : Int) (kvs tk : Ct), vs = [.ref s, .ref dd] ∧ SkC K H s r m off kvs ∧ SkG r m off kvs ∧ H dd = some (.dK (tk.map entZ)) ∧ tk.length ≤ 500 ∧
  ∀ H' p, Same H H' → H p = none → H' p = some (.dK ((namedZ kvs tk).map entZ)) → Q (.ref p) H'
theorem ok_named (T : Blt mg) (d : DnNamed K mg) : FnOk P w K mg base CX0 1 d.f d.fd ["sketch", "taken"] (spNamed K) := by
  refine d.F.ok scP_named (fun vs H Q E h => ?_) (fun cdv A outer s H vs Q E hr h => ?_)
  · obtain ⟨s, dd, r, m, off, kvs, tk, rfl, _⟩ := h
    rfl
  · obtain ⟨sk, dd, r, m, off, kvs, tk, rfl, hs, hg, hd, htk, k⟩ := h
    have hu := hu_of hr
    refine ⟨_, (pss_cons (ps_set (i := 2) scP_named.nd rfl (Or.inl rfl) (pe_callTy (call_dictPT rfl) (by rfl) T.n_dict (by decide +kernel) (pa_cons (pe_ix ix_tup (pv 0) pe_int (fun _ _ => rfl)) pa_nil)))
    (pss_cons (ps_lock (ps_for PassesOwn.never rfl (pi_items (pv 1)) (pg_tup (by rfl) (pgs_cons (pg_name (i := 3) scP_named.nd rfl (Or.inl rfl)) (pgs_cons (pg_name (i := 4) scP_named.nd rfl (Or.inl rfl)) pgs_nil)))
      (pss_one (ps_dput hu (pv 2) (pv 3) (pe_op op_add (pe_dget2 hu (pv 2) (pv 3) pe_int ⟨rfl, rfl, rfl, rfl⟩) (pv 4)) rfl))))
    (pss_one (ps_ret (pv 2))))), ?_⟩
    obtain ⟨kk, ts, h1, h2, h3⟩ := hs.ob
    have hlen := hg.len
    have hr64 := hg.r64
    have nd : NdZ kvs := asc_nd hg.cts.asc
    refine ⟨.ref sk, rfl, sk, _, _, _, rfl, rfl, h1, atI_nat (j := 3) rfl, kk, ts, kvs.map entZ, rfl, h2, ents_paired h3, fun p np => ?_⟩
    rw [show mergeK [] (kvs.map entZ) = kvs.map entZ from mergeZ kvs [] nd]
    have dp : dd ≠ p := ne_of_none hd np
    have hd1 : (upd H p (.dK (kvs.map entZ))) dd = some (.dK (tk.map entZ)) := by rw [upd_ne dp]; exact hd
    refine ⟨dd, _, hd1, trivial, fun od => ?_⟩
    have hp1 : (upd (upd H p (.dK (kvs.map entZ))) dd (.frz od (.dK (tk.map entZ)))) p = some (.dK (kvs.map entZ)) := by rw [upd_ne dp.symm]; exact upd_same
    have hd2 : (upd (upd H p (.dK (kvs.map entZ))) dd (.frz od (.dK (tk.map entZ)))) dd = some (.frz od (.dK (tk.map entZ))) := upd_same
    have kp1 : ∀ b u, b ≠ p → b ≠ dd → H b = some u → (upd (upd H p (.dK (kvs.map entZ))) dd (.frz od (.dK (tk.map entZ)))) b = some u := fun b u n1 n2 e => by rw [upd_ne n2, upd_ne n1]; exact e
    generalize upd (upd H p (.dK (kvs.map entZ))) dd (.frz od (.dK (tk.map entZ))) = H1 at hp1 hd2 kp1 ⊢
    refine ⟨.ref dd, rfl, dd, od, tk.map entZ, rfl, hd2, for_it (walk_items (kvs := tk.map entZ)) (fun i σ H3 => ∃ y3 y4, σ = [some (.ref sk), some (.ref dd), some (.ref p), y3, y4] ∧ (∀ b u, b ≠ p → H1 b = some u → H3 b = some u) ∧ H3 p = some (.dK ((namedZ kvs (tk.take i)).map entZ)))
      ⟨none, none, rfl, fun _ _ _ e => e, hp1⟩ (fun i σ H3 _ ⟨_, _, _, k3, _⟩ => k3 _ _ dp hd2) (fun i x σ H3 H4 hi h3 y => ?_) (fun σ H3 h3 => ?_)⟩
    · obtain ⟨y3, y4, rfl, k3, hp3⟩ := h3
      obtain ⟨Tp, x1, y1, rfl, nT, rfl, hx, hy⟩ := y
      dsimp only at hx hy
      rw [List.length_map] at hi
      have he : tk[i]? = some tk[i] := List.getElem?_eq_getElem hi
      generalize tk[i] = e at he
      have hx1 : x1 = .str e.1 := by
        rw [List.getElem?_map, he] at hx
        exact (Option.some.inj hx).symm
      have hy1 : y1 = .int e.2 := by
        rw [List.getElem?_map, he] at hy
        exact (Option.some.inj hy).symm
      subst hx1 hy1
      have pT : p ≠ Tp := ne_of_none hp3 nT
      have te : tk.take (i + 1) = tk.take i ++ [e] := by rw [List.take_add_one, he]; rfl
      have hp4 : (upd H3 Tp (.tup [.str e.1, .int e.2])) p = some (.dK ((namedZ kvs (tk.take i)).map entZ)) := by rw [upd_ne pT]; exact hp3
      have hnl := namedZ_len (tk.take i) kvs
      rw [List.length_take] at hnl
      refine ⟨Tp, _, rfl, .inl (.inl upd_same), rfl, _, _, rfl, _, _, rfl, rfl, ?_⟩
      refine ⟨.ref p, rfl, p, rfl, .inl ⟨_, .inl hp4⟩, .str e.1, rfl, _, DGet.k (k := Sum.inr e.1) hp4, ?_⟩
      rw [getZ_val]
      refine ⟨.int e.2, rfl, (getZ (namedZ kvs (tk.take i)) e.1).getD 0, e.2, ?_, rfl, ?_⟩
      · cases getZ (namedZ kvs (tk.take i)) e.1 <;> rfl
      · refine ⟨.ref p, rfl, .str e.1, rfl, p, _, rfl, DPut.k (k := Sum.inr e.1) hp4 (by rw [List.length_map, sizeLine_eq]; omega), ?_⟩
        rw [putZ_put]
        refine ⟨some (.str e.1), some (.int e.2), rfl, fun b u n e' => ?_, by rw [upd_same, te, namedZ_snoc]; rfl⟩
        rw [upd_ne n, upd_ne (ne_of_none (k3 _ _ n e') nT)]
        exact k3 _ _ n e'
    · obtain ⟨y3, y4, rfl, k3, hp3⟩ := h3
      rw [List.length_map, List.take_length] at hp3
      refine ⟨k3 _ _ dp hd2, .ref p, rfl, k _ p (fun b u e => ?_) np ?_⟩
      · by_cases hb : b = dd
        · subst hb
          rw [hd] at e
          cases e
          exact upd_same
        · rw [upd_ne hb]
          have n := ne_of_none e np
          exact k3 _ _ n (kp1 _ _ n hb e)
      · rw [upd_ne dp.symm]
        exact hp3
/-! _need_both -/
theorem SkG.yes {r m o : Int} {kvs : Ct} (g : SkG r m o kvs) : skB r m o kvs = true := by
  unfold skB
  rw [decide_eq_true g.r1, decide_eq_true g.r64, decide_eq_true g.m0, decide_eq_true g.o0, decide_eq_true g.len, decide_eq_true g.lo, decide_eq_true g.hi]
  rfl
structure DefsE (K : PySem.W.Frag) (mg : Str → Option Value) (base : Heap) where
  T : Blt mg
  cM : Cst mg "MOST_ROOM" (.int 64)
  cL : Cst mg "LONGEST_NAME" (.int 8)
  cA : Cst mg "MOST_ASKED" (.int 40)
  n_zip : mg "zip" = none
  F : Flr K mg base
  dP_is_int : DnIsInt K mg
  dP_is_number : DnIsNumber K mg
  dP_is_room : DnIsRoom K mg
  dP_is_name : DnIsName K mg
  dP_is_counted : DnIsCounted K mg
  dP_are_counts : DnAreCounts K mg
  dP_lost_of : DnLostOf K mg
  dP_is_sketch : DnIsSketch K mg
  dP_asked : DnAsked K mg
  dP_parted : DnParted K mg
  dP_filled : DnFilled K mg
  dP_passed : DnPassed K mg
  dP_plans_of : DnPlansOf K mg
  dP_is_question : DnIsQuestion K mg
  dP_is_lot : DnIsLot K mg
  dP_worth : DnWorth K mg
  dP_greatest : DnGreatest K mg
  dP_need_both : DnNeedBoth K mg
  dP_named : DnNamed K mg
  dP_ends : DnEnds K mg
def spNeedBoth (K : PySem.W.Frag) : Sp := fun vs H Q _ => ∃ (s q : Addr) (r m off : Int) (kvs : Ct) (x : Qn), vs = [.ref s, .ref q] ∧ SkC K H s r m off kvs ∧ SkG r m off kvs ∧ QnAt K H q x ∧ QnOk x ∧ ∀ H', Same H H' → Q .non H'
theorem ok_need_both (D : DefsE K mg base) : FnOk P w K mg base CX0 5 D.dP_need_both.f D.dP_need_both.fd ["sketch", "question"] (spNeedBoth K) := by
  have GP_is_sketch : FnOk P w K mg base CX0 4 D.dP_is_sketch.f D.dP_is_sketch.fd ["thing"] (spIsSketch K) := ok_is_sketch D.T D.cM D.cL D.dP_is_int D.dP_is_number D.dP_is_room D.dP_is_name D.dP_is_counted D.dP_are_counts D.dP_lost_of D.dP_is_sketch
  have GP_is_question : FnOk P w K mg base CX0 3 D.dP_is_question.f D.dP_is_question.fd ["thing"] (spIsQuestion K) := ok_is_question D.T D.cL D.cA D.n_zip D.dP_is_int D.dP_is_name D.dP_is_lot D.dP_is_question
  refine D.dP_need_both.F.ok scP_need_both (fun vs H Q E h => ?_) (fun cdv A outer s H vs Q E hr h => ?_)
  · obtain ⟨s, q, r, m, off, kvs, x, rfl, _⟩ := h
    rfl
  · obtain ⟨sk, q, r, m, off, kvs, x, rfl, hs, hg, hq, hx, k⟩ := h
    refine ⟨_, (pss_cons (ps_if (pt_not (pt_val (pe_call GP_is_sketch (hr.mono (by omega)) (by rfl) D.dP_is_sketch.g D.dP_is_sketch.F.kp D.dP_is_sketch.b .nil pass0 (pa_cons (pv 0) pa_nil))))
      (pss_one ps_never)
      pss_nil)
    (pss_one (ps_if (pt_not (pt_val (pe_call GP_is_question (hr.mono (by omega)) (by rfl) D.dP_is_question.g D.dP_is_question.F.kp D.dP_is_question.b .nil pass0 (pa_cons (pv 1) pa_nil))))
      (pss_one ps_never)
      pss_nil))), ?_⟩
    obtain ⟨kk, ts, h1, h2, h3⟩ := hs.ob
    have hlen := hg.len
    have hr64 := hg.r64
    refine ⟨.ref sk, rfl, sk, kk, r, m, off, kvs, rfl, h1, ⟨ts, h2.seq, h3⟩, hg.cts, by omega, fun H1 s1 => ?_⟩
    rw [hg.yes]
    refine ⟨true, rfl, iteF ⟨.ref q, rfl, q, x, rfl, hq.same s1, hx, fun H2 s2 => ⟨true, rfl, iteF ?_⟩⟩⟩
    exact k H2 fun b u e => s2 _ _ (s1 _ _ e)
/-! ends -/
def spEnds (K : PySem.W.Frag) (Pt : Addr) : Sp := fun vs H Q _ => ∃ (s q : Addr) (r m off : Int) (kvs : Ct) (x : Qn), vs = [.ref s, .ref q] ∧ SkC K H s r m off kvs ∧ SkG r m off kvs ∧ QnAt K H q x ∧ QnOk x ∧ TabS H Pt qFall ∧
  ∀ H' p, ExT Pt qFall H H' → H p = none → H' p = some (.tup [.int (lowE kvs m off x), .int (highE kvs m off x)]) → Q (.ref p) H'
theorem ok_ends (D : DefsE K mg base) : FnOk P w K mg base CX0 6 D.dP_ends.f D.dP_ends.fd ["sketch", "question"] (spEnds K D.F.P) := by
  have GP_need_both : FnOk P w K mg base CX0 5 D.dP_need_both.f D.dP_need_both.fd ["sketch", "question"] (spNeedBoth K) := ok_need_both D
  have GP_plans_of : FnOk P w K mg base CX0 3 D.dP_plans_of.f D.dP_plans_of.fd ["sketch", "question"] (spPlansOf K D.F.P) := ok_plans_of D.T D.F D.dP_lost_of D.dP_asked D.dP_parted D.dP_filled D.dP_passed D.dP_plans_of
  have GP_worth : FnOk P w K mg base CX0 2 D.dP_worth.f D.dP_worth.fd ["named", "parts", "question"] (spWorth K) := ok_worth D.T D.dP_greatest D.dP_worth
  have GP_named : FnOk P w K mg base CX0 1 D.dP_named.f D.dP_named.fd ["sketch", "taken"] (spNamed K) := ok_named D.T D.dP_named
  refine D.dP_ends.F.ok scP_ends (fun vs H Q E h => ?_) (fun cdv A outer s H vs Q E hr h => ?_)
  · obtain ⟨s, q, r, m, off, kvs, x, rfl, _⟩ := h
    rfl
  · obtain ⟨sk, q, r, m, off, kvs, x, rfl, hs, hg, hq, hx, hT, k⟩ := h
    refine ⟨_, (pss_cons (ps_expr (pe_call GP_need_both (hr.mono (by omega)) (by rfl) D.dP_need_both.g D.dP_need_both.F.kp D.dP_need_both.b .nil pass0 (pa_cons (pv 0) (pa_cons (pv 1) pa_nil))))
    (pss_cons (ps_asg (pe_lc (own := [("taken", 4), ("parts", 5)]) (g := gTup K 2 (gCons (gName 4) (gCons (gName 5) gNil))) (tt := tYes) rfl scP_ends.nd (pi_tup (pe_call GP_plans_of (hr.mono (by omega)) (by rfl) D.dP_plans_of.g D.dP_plans_of.F.kp D.dP_plans_of.b .nil pass0 (pa_cons (pv 0) (pa_cons (pv 1) pa_nil)))) (blkOk_by (N := NP_ends) (sc := defScope sP_ends) (by decide +kernel)) (fun _ _ _ _ _ => pg_tup (by rfl) (pgs_cons (pg_name (i := 4) scP_ends.nd rfl (Or.inl rfl)) (pgs_cons (pg_name (i := 5) scP_ends.nd rfl (Or.inl rfl)) pgs_nil))) (fun _ _ _ _ _ => pts_nil) (fun _ _ _ _ _ => (pe_call GP_worth (hr.mono (by omega)) (by rfl) D.dP_worth.g D.dP_worth.F.kp D.dP_worth.b .nil pass0 (pa_cons (pe_call GP_named (hr.mono (by omega)) (by rfl) D.dP_named.g D.dP_named.F.kp D.dP_named.b .nil pass0 (pa_cons (pv 0) (pa_cons (pv 4) pa_nil))) (pa_cons (pv 5) (pa_cons (pv 1) pa_nil)))))) (pg_unl (by rfl) (pgs_cons (pg_name (i := 2) scP_ends.nd rfl (Or.inl rfl)) (pgs_cons (pg_name (i := 3) scP_ends.nd rfl (Or.inl rfl)) pgs_nil))))
    (pss_one (ps_ret (pe_tup (pa_cons (pv 2) (pa_cons (pv 3) pa_nil))))))), ?_⟩
    have hlen := hg.len
    have hr64 := hg.r64
    refine ⟨.ref sk, rfl, .ref q, rfl, sk, q, r, m, off, kvs, x, rfl, hs, hg, hq, hx, fun H1 s1 => ?_⟩
    have T1 := tabS_same hT s1
    refine ⟨.ref sk, rfl, .ref q, rfl, sk, q, r, m, off, kvs, x, rfl, hs.same s1, hg, hq.same s1, hx, T1, fun H2 p p1 p2 x2 hp pl1 pl2 => ?_⟩
    have x02 : ExT D.F.P qFall H H2 := (FlX.Same.exT s1 hT).trans x2
    have hs2 := hs.ext hT x02
    have hq2 := hq.ext hT x02
    obtain ⟨po1, po2⟩ := plansZ_ok hg hx
    refine ⟨p, rfl, ⟨_, .inl (.inl hp)⟩, fun Dl nD => ?_⟩
    have pD : p ≠ Dl := ne_of_none hp nD
    have vals : ([p1, p2] : List Addr).length = 2 := rfl
    refine lc_tup (xs := [.ref p1, .ref p2]) (fun i H3 => Same H2 H3 ∧ H3 Dl = some (.lst (([V.int (lowE kvs m off x), V.int (highE kvs m off x)]).take i))) ⟨same_upd nD, upd_same⟩ (fun i H3 _ h3 => .inl (.inl (h3.1 _ _ hp))) (fun i v H3 hv h3 => ?_) (fun H3 h3 => ?_)
    · obtain ⟨s3, hD⟩ := h3
      obtain ⟨pp, pl, rfl, hpl, po, hval⟩ : ∃ pp pl, v = .ref pp ∧ PlanAt H2 pp pl ∧ PlanOk kvs pl ∧ ([V.int (lowE kvs m off x), V.int (highE kvs m off x)])[i]? = some (.int (worthZ (namedZ kvs pl.1) pl.2 x)) := by
        match i, hv with
        | 0, hv =>
          cases hv
          exact ⟨p1, _, rfl, pl1, po1, rfl⟩
        | 1, hv =>
          cases hv
          exact ⟨p2, _, rfl, pl2, po2, rfl⟩
        | i + 2, hv => simp at hv
      have hi : i < 2 := (List.getElem?_eq_some_iff.mp hval).1
      obtain ⟨dd, l, ts, hpp, hdd, hll, hts⟩ := hpl.ob
      refine ⟨pp, _, rfl, .inl (.inl (s3 _ _ hpp)), rfl, _, _, rfl, _, _, rfl, rfl, rfl, ?_⟩
      have pll := po.len
      refine ⟨.ref sk, rfl, .ref dd, rfl, sk, dd, r, m, off, kvs, pl.1, rfl, hs2.same s3, hg, s3 _ _ hdd, by omega, fun H4 nd s4 nnd hnd => ?_⟩
      have hnl := namedZ_len pl.1 kvs
      have s24 : Same H2 H4 := fun b u e => s4 _ _ (s3 _ _ e)
      have plp := po.plen
      refine ⟨.ref l, rfl, .ref q, rfl, nd, l, q, namedZ kvs pl.1, pl.2, ts, x, rfl, hnd, by omega, s24 _ _ hll, paired_imp (fun t e h => s24 _ _ h) hts, by omega, hq2.same s24, hx, fun e he => by have := (po.pos e he).2; omega, fun e he => (po.nb e he).2, po.pb, fun H5 s5 => ?_⟩
      have hD5 := s5 _ _ (s4 _ _ hD)
      refine ⟨_, hD5, by rw [List.length_take, sizeLine_eq]; omega, Same.put (fun b u e => s5 _ _ (s24 _ _ e)) nD, by rw [upd_same, List.take_add_one, hval]; rfl⟩
    · obtain ⟨s3, hD⟩ := h3
      refine ⟨Dl, _, rfl, sql hD, rfl, _, _, rfl, _, _, rfl, rfl, ?_⟩
      refine ⟨.int _, rfl, .int _, rfl, (by show 2 ≤ sizeLine; decide), fun u nu => ?_⟩
      have x03 := x02.same s3
      exact k _ u (x03.new nu) (x03.gone nu) upd_same
end
end Kb

namespace Kb
open PySem PySem.Spec PyProof.Rows L2 SrtZ SrtO FlX LamX RZ
/-! the counts of a plan, and of a truth, as a bag -/
def bagZ (d : Ct) (ps : List (Int × Int)) : List Int := exZ (groupsW d ps)
theorem exZ_app (a b : List (Int × Int)) : exZ (a ++ b) = exZ a ++ exZ b := by unfold exZ; exact List.flatMap_append
theorem exZ_ones : ∀ l : Ct, exZ (l.map fun e => (e.2, (1 : Int))) = l.map (·.2)
  | [] => rfl
  | e :: l => by
    show List.replicate 1 e.2 ++ exZ (l.map fun e => (e.2, (1 : Int))) = e.2 :: l.map (·.2)
    rw [exZ_ones l]
    rfl
theorem bagZ_pos {d : Ct} {ps : List (Int × Int)} (h : ∀ e ∈ d, 0 < e.2) : bagZ d ps = d.map (·.2) ++ exZ ps := by
  unfold bagZ groupsW
  rw [exZ_app, List.filter_eq_self.mpr fun e he => by simpa using h e he, exZ_ones]
theorem ex_len : ∀ {g : List (Int × Int)}, (∀ e ∈ g, 0 ≤ e.2) → (g.map (·.2)).sum = ((exZ g).length : Nat)
  | [], _ => rfl
  | e :: g, h => by
    have := h e List.mem_cons_self
    have ih := ex_len (g := g) fun x hx => h x (List.mem_cons_of_mem _ hx)
    show (e.2 :: g.map (·.2)).sum = ((List.replicate e.2.toNat e.1 ++ exZ g).length : Nat)
    rw [List.sum_cons, ih, List.length_append, List.length_replicate]
    push_cast
    omega
theorem sqs_app (a b : List Int) : sqs (a ++ b) = sqs a + sqs b := by unfold sqs; rw [List.map_append, List.sum_append]
theorem sqs_rep (n : Nat) (c : Int) : sqs (List.replicate n c) = c * c * n := by unfold sqs; rw [List.map_replicate, sum_rep]
theorem sqs_perm {a b : List Int} (p : a.Perm b) : sqs a = sqs b := by unfold sqs; exact perm_sum (p.map _)
theorem ex_sqs : ∀ {g : List (Int × Int)}, (∀ e ∈ g, 0 ≤ e.2) → (g.map fun e => e.1 * e.1 * e.2).sum = sqs (exZ g)
  | [], _ => rfl
  | e :: g, h => by
    have := h e List.mem_cons_self
    have ih := ex_sqs (g := g) fun x hx => h x (List.mem_cons_of_mem _ hx)
    show ((e.1 * e.1 * e.2) :: g.map fun e => e.1 * e.1 * e.2).sum = sqs (List.replicate e.2.toNat e.1 ++ exZ g)
    rw [List.sum_cons, ih, sqs_app, sqs_rep, Int.toNat_of_nonneg this]
theorem ex_cnt (c : Int) : ∀ {g : List (Int × Int)}, (∀ e ∈ g, 0 ≤ e.2) → ((g.filter fun e => decide (c < e.1)).map (·.2)).sum = cntG c (exZ g)
  | [], _ => rfl
  | e :: g, h => by
    have h0 := h e List.mem_cons_self
    have ih := ex_cnt c (g := g) fun x hx => h x (List.mem_cons_of_mem _ hx)
    show _ = cntG c (List.replicate e.2.toNat e.1 ++ exZ g)
    rw [cntG_app]
    unfold cntG at ih ⊢
    rw [List.filter_replicate]
    by_cases hc : c < e.1
    · rw [List.filter_cons_of_pos (by simpa using hc), List.map_cons, List.sum_cons, ih, if_pos (by simpa using hc), List.length_replicate]
      omega
    · rw [List.filter_cons_of_neg (by simpa using hc), ih, if_neg (by simpa using hc)]
      simp
/-- the counts that the questions of all names speak of: the greatest first -/
def srtB (d : Ct) (ps : List (Int × Int)) : List Int := exZ (dscZ (groupsW d ps))
theorem srtB_fall (d : Ct) (ps : List (Int × Int)) : Fall (srtB d ps) := exZ_fall (dscZ_desc _)
theorem srtB_perm (d : Ct) (ps : List (Int × Int)) : (srtB d ps).Perm (bagZ d ps) := exZ_perm (dscZ_perm _)
theorem groups_nn {d : Ct} {ps : List (Int × Int)} (h : ∀ e ∈ ps, 0 ≤ e.2) : ∀ e ∈ groupsW d ps, 0 ≤ e.2 := fun e he => by
  rcases List.mem_append.mp he with he | he
  · obtain ⟨f, _, rfl⟩ := List.mem_map.mp he
    show (0 : Int) ≤ 1
    decide
  · exact h e he
/-! a truth -/
structure TruZ (kvs : Ct) (m off : Int) (T : Ct) : Prop where
  nd : NdZ T
  pos : ∀ e ∈ T, 1 ≤ e.2
  lo : ∀ k, gd kvs k ≤ gd T k
  hi : ∀ k, gd T k - gd kvs k ≤ off
  sum : sumC T = m
theorem fallB_fall (kvs : Ct) : Fall ((fallBy (·.2) kvs).map (·.2)) := by
  unfold Fall
  rw [List.pairwise_map]
  have := List.pairwise_mergeSort (le := fun a b : Str × Int => decide (-(a.2) ≤ -(b.2))) (fun a b c h1 h2 => by simp at *; omega) (fun a b => by simp; omega) kvs
  exact this.imp fun h => by
    have := of_decide_eq_true h
    omega
theorem nd_list {l : Ct} (h : NdZ l) : l.Nodup := by
  unfold NdZ at h
  exact List.Pairwise.of_map (·.1) (fun a b hab e => hab (by rw [e])) h
theorem gd_in {l : Ct} (nd : NdZ l) {e : Str × Int} (h : e ∈ l) : gd l e.1 = e.2 := by
  unfold gd
  rw [getZ_mem nd h]
  rfl
theorem gd_notin {l : Ct} {n : Str} (h : n ∉ l.map (·.1)) : gd l n = 0 := by
  unfold gd
  rw [getZ_none.mpr h]
  rfl
theorem in_of_gd {l : Ct} {n : Str} (h : gd l n ≠ 0) : n ∈ l.map (·.1) ∧ (n, gd l n) ∈ l := by
  cases hg : getZ l n with
  | none =>
    unfold gd at h
    rw [hg] at h
    exact absurd rfl h
  | some v =>
    have hm := getZ_in hg
    have : gd l n = v := by unfold gd; rw [hg]; rfl
    rw [this]
    exact ⟨List.mem_map.mpr ⟨_, hm, rfl⟩, hm⟩
section
variable {r m off : Int} {kvs T : Ct}
abbrev Lf (kvs : Ct) : Ct := fallBy (·.2) kvs
abbrev Ls (kvs : Ct) : List Int := (fallBy (·.2) kvs).map (·.2)
def tsZ (kvs T : Ct) : List Int := (Lf kvs).map fun e => gd T e.1 - gd kvs e.1
def frZ (kvs T : Ct) : List Int := (T.filter fun e => !decide (e.1 ∈ kvs.map (·.1))).map (·.2)
theorem lf_mem {e : Str × Int} : e ∈ Lf kvs ↔ e ∈ kvs := (fallB_perm kvs).mem_iff
theorem lf_nd (nd : NdZ kvs) : NdZ (Lf kvs) := by
  unfold NdZ at nd ⊢
  exact ((fallB_perm kvs).map (·.1)).nodup_iff.mpr nd
theorem zip_ts (nd : NdZ kvs) : List.zipWith (· + ·) (Ls kvs) (tsZ kvs T) = (Lf kvs).map fun e => gd T e.1 := by
  unfold tsZ
  rw [List.zipWith_map]
  have : ∀ l : Ct, (∀ e ∈ l, e.2 = gd kvs e.1) → List.zipWith (fun (a b : Str × Int) => a.2 + (gd T b.1 - gd kvs b.1)) l l = l.map fun e => gd T e.1 := by
    intro l
    induction l with
    | nil => intro _; rfl
    | cons e l ih =>
      intro h
      rw [List.zipWith_cons_cons, List.map_cons, ih fun x hx => h x (List.mem_cons_of_mem _ hx)]
      have := h e List.mem_cons_self
      rw [show e.2 + (gd T e.1 - gd kvs e.1) = gd T e.1 by omega]
  exact this _ fun e he => (gd_in nd (lf_mem.mp he)).symm
theorem tru_kept (nd : NdZ kvs) (pos : ∀ e ∈ kvs, 1 ≤ e.2) (t : TruZ kvs m off T) : (T.filter fun e => decide (e.1 ∈ kvs.map (·.1))).Perm ((Lf kvs).map fun e => (e.1, gd T e.1)) := by
  refine (List.perm_ext_iff_of_nodup ((nd_list t.nd).filter _) ?_).mpr fun a => ?_
  · have h1 := lf_nd nd
    unfold NdZ at h1
    refine nd_list ?_
    unfold NdZ
    rw [List.map_map]
    exact h1
  · rw [List.mem_filter]
    constructor
    · rintro ⟨h1, h2⟩
      refine List.mem_map.mpr ?_
      have h2 := of_decide_eq_true h2
      obtain ⟨e, he, hk⟩ := List.mem_map.mp h2
      refine ⟨e, lf_mem.mpr he, ?_⟩
      rw [hk, gd_in t.nd h1]
    · intro hm
      obtain ⟨e, he, rfl⟩ := List.mem_map.mp hm
      have he' := lf_mem.mp he
      have h1 := t.lo e.1
      rw [gd_in nd he'] at h1
      have := pos e he'
      exact ⟨(in_of_gd (by omega)).2, decide_eq_true (List.mem_map.mpr ⟨e, he', rfl⟩)⟩
theorem bag_T (nd : NdZ kvs) (pos : ∀ e ∈ kvs, 1 ≤ e.2) (t : TruZ kvs m off T) : (bagZ T []).Perm (List.zipWith (· + ·) (Ls kvs) (tsZ kvs T) ++ frZ kvs T) := by
  rw [bagZ_pos fun e he => by have := t.pos e he; omega, zip_ts nd]
  show (List.map (fun e : Str × Int => e.2) T ++ []).Perm _
  rw [List.append_nil]
  have p1 := (List.filter_append_perm (fun e : Str × Int => decide (e.1 ∈ kvs.map (·.1))) T).symm.map (fun e : Str × Int => e.2)
  rw [List.map_append] at p1
  refine p1.trans (List.Perm.append ?_ ?_)
  · have := (tru_kept nd pos t).map (fun e : Str × Int => e.2)
    rw [List.map_map] at this
    exact this
  · exact List.Perm.refl _
theorem ts_ok (t : TruZ kvs m off T) : ∀ x ∈ tsZ kvs T, 0 ≤ x ∧ x ≤ off := fun x hx => by
  obtain ⟨e, _, rfl⟩ := List.mem_map.mp hx
  have := t.lo e.1
  have := t.hi e.1
  omega
theorem fr_ok (t : TruZ kvs m off T) : ∀ x ∈ frZ kvs T, 1 ≤ x ∧ x ≤ off := fun x hx => by
  obtain ⟨e, he, rfl⟩ := List.mem_map.mp hx
  obtain ⟨h1, h2⟩ := List.mem_filter.mp he
  have h3 : e.1 ∉ kvs.map (·.1) := by simpa using h2
  have := t.hi e.1
  rw [gd_notin h3, gd_in t.nd h1] at this
  have := t.pos e h1
  omega
theorem ts_len : (tsZ kvs T).length = (Ls kvs).length := by unfold tsZ; rw [List.length_map, List.length_map]
theorem zip_sum : ∀ {a b : List Int}, a.length = b.length → (List.zipWith (· + ·) a b).sum = a.sum + b.sum
  | [], [], _ => rfl
  | x :: a, y :: b, h => by
    rw [List.zipWith_cons_cons, List.sum_cons, List.sum_cons, List.sum_cons, zip_sum (by simpa using h)]
    omega
theorem tru_sum (nd : NdZ kvs) (pos : ∀ e ∈ kvs, 1 ≤ e.2) (t : TruZ kvs m off T) : (tsZ kvs T).sum + (frZ kvs T).sum = m - sumC kvs := by
  have h1 := perm_sum (bag_T nd pos t)
  rw [bagZ_pos fun e he => by have := t.pos e he; omega, List.sum_append, List.sum_append, zip_sum ts_len.symm] at h1
  have h2 : (T.map (·.2)).sum = m := t.sum
  have h4 : (exZ []).sum = 0 := rfl
  have h3 : (Ls kvs).sum = sumC kvs := perm_sum ((fallB_perm kvs).map (·.2))
  omega
/-! the plan where all is new, one by one -/
theorem parts_ones {S : Int} (h : 0 ≤ S) : exZ (partedZ S 1) = List.replicate S.toNat 1 := by
  unfold partedZ
  by_cases e : S = 0
  · rw [if_pos e, e]
    rfl
  · rw [if_neg e]
    unfold groupsZ
    rw [Int.ediv_one, Int.emod_one, List.filter_cons_of_pos (by unfold okG; simp; omega), List.filter_cons_of_neg (by unfold okG; simp)]
    show List.replicate S.toNat (1 : Int) ++ exZ [] = _
    exact List.append_nil _
theorem bag_spread (pos : ∀ e ∈ kvs, 1 ≤ e.2) (h : 0 ≤ m - sumC kvs) : (bagZ (namedZ kvs (spread kvs m off).1) (spread kvs m off).2).Perm (Ls kvs ++ List.replicate (m - sumC kvs).toNat 1) := by
  show (bagZ kvs (partedZ (m - sumC kvs) 1)).Perm _
  rw [bagZ_pos fun e he => by have := pos e he; omega, parts_ones h]
  exact List.Perm.append_right _ ((fallB_perm kvs).map (·.2)).symm
/-! the plan where the greatest get the most -/
theorem fill_lump {off : Int} : ∀ {L : Ct} {x : Ct × Int}, NdZ L → NdZ x.1 →
    (fillZ off (L.map (·.1)) x).2 = lumpR off (L.map (·.2)) x.2 ∧ L.map (fun e => e.2 + gd (fillZ off (L.map (·.1)) x).1 e.1) = lumpZ off (L.map (·.2)) x.2 ∧
    (∀ n, n ∉ L.map (·.1) → gd (fillZ off (L.map (·.1)) x).1 n = gd x.1 n) ∧ NdZ (fillZ off (L.map (·.1)) x).1 ∧ ∀ e ∈ (fillZ off (L.map (·.1)) x).1, e.1 ∈ x.1.map (·.1) ∨ e.1 ∈ L.map (·.1)
  | [], x, _, nx => ⟨rfl, rfl, fun _ _ => rfl, nx, fun e he => .inl (List.mem_map.mpr ⟨e, he, rfl⟩)⟩
  | f :: L, x, nl, nx => by
    unfold NdZ at nl
    rw [List.map_cons, List.nodup_cons] at nl
    obtain ⟨h1, h2, h3, h4, h5⟩ := fill_lump (off := off) (L := L) (x := (putZ x.1 f.1 (mnI off x.2), x.2 - mnI off x.2)) nl.2 (putZ_nd nx)
    have e1 : fillZ off ((f :: L).map (·.1)) x = fillZ off (L.map (·.1)) (putZ x.1 f.1 (mnI off x.2), x.2 - mnI off x.2) := rfl
    rw [e1]
    have gp : ∀ n, gd (putZ x.1 f.1 (mnI off x.2)) n = if n = f.1 then mnI off x.2 else gd x.1 n := fun n => by
      unfold gd
      rw [getZ_put]
      split <;> rfl
    refine ⟨h1, ?_, fun n hn => ?_, h4, fun e he => ?_⟩
    · rw [List.map_cons, h2, h3 f.1 nl.1]
      dsimp only
      rw [gp, if_pos rfl]
      rfl
    · rw [List.map_cons, List.mem_cons, not_or] at hn
      rw [h3 n hn.2]
      dsimp only
      rw [gp, if_neg hn.1]
    · rcases h5 e he with h | h
      · obtain ⟨y, hy, hk⟩ := List.mem_map.mp h
        rcases putZ_mem hy with hy | rfl
        · exact .inl (List.mem_map.mpr ⟨y, hy, hk⟩)
        · exact .inr (by rw [← hk]; exact List.mem_cons_self)
      · exact .inr (List.mem_cons_of_mem _ h)
theorem addZ_in {kvs : Ct} {n : Str} {c : Int} (h : n ∈ kvs.map (·.1)) : addZ kvs n c = kvs.map fun e => if e.1 = n then (e.1, gd kvs n + c) else e := by
  unfold addZ putZ
  rw [if_pos]
  · rfl
  · obtain ⟨e, he, hk⟩ := List.mem_map.mp h
    exact List.any_eq_true.mpr ⟨e, he, decide_eq_true hk⟩
theorem named_in : ∀ {tk kvs : Ct}, NdZ kvs → NdZ tk → (∀ e ∈ tk, e.1 ∈ kvs.map (·.1)) → namedZ kvs tk = kvs.map fun e => (e.1, e.2 + gd tk e.1)
  | [], kvs, _, _, _ => by
    show kvs = _
    have : ∀ e : Str × Int, (e.1, e.2 + gd [] e.1) = e := fun e => by
      show (e.1, e.2 + 0) = e
      rw [Int.add_zero]
    rw [List.map_congr_left fun e _ => this e, List.map_id']
  | f :: tk, kvs, nk, nt, h => by
    unfold NdZ at nt
    rw [List.map_cons, List.nodup_cons] at nt
    have hf := h f List.mem_cons_self
    show namedZ (addZ kvs f.1 f.2) tk = _
    have ek : (addZ kvs f.1 f.2).map (·.1) = kvs.map (·.1) := by
      rw [addZ_in hf, List.map_map]
      refine List.map_congr_left fun e _ => ?_
      show (if e.1 = f.1 then (e.1, gd kvs f.1 + f.2) else e).1 = e.1
      split <;> rfl
    rw [named_in (tk := tk) (kvs := addZ kvs f.1 f.2) (addZ_nd nk) nt.2 (fun e he => by rw [ek]; exact h e (List.mem_cons_of_mem _ he)), addZ_in hf, List.map_map]
    refine List.map_congr_left fun e he => ?_
    show ((if e.1 = f.1 then (e.1, gd kvs f.1 + f.2) else e).1, (if e.1 = f.1 then (e.1, gd kvs f.1 + f.2) else e).2 + gd tk (if e.1 = f.1 then (e.1, gd kvs f.1 + f.2) else e).1) = (e.1, e.2 + gd (f :: tk) e.1)
    have gc : gd (f :: tk) e.1 = if f.1 = e.1 then f.2 else gd tk e.1 := by
      unfold gd
      rw [getZ_cons]
      split <;> rfl
    by_cases hk : e.1 = f.1
    · rw [if_pos hk, gc, if_pos hk.symm, ← hk, gd_in nk he]
      dsimp only
      rw [hk, gd_notin nt.1]
      simp
    · rw [if_neg hk, gc, if_neg (fun z => hk z.symm)]
end
end Kb

namespace Kb
open PySem PySem.Spec PyProof.Rows L2 SrtZ SrtO FlX LamX RZ
/-! bounds of a truth's values -/
theorem mn0 {off : Int} (h : 0 ≤ off) : mnI off 0 = 0 := by unfold mnI; split <;> omega
theorem lumpZ_zero {off : Int} (h : 0 ≤ off) : ∀ L : List Int, lumpZ off L 0 = L
  | [] => rfl
  | b :: L => by
    show (b + mnI off 0) :: lumpZ off L (0 - mnI off 0) = _
    rw [mn0 h, Int.add_zero, Int.sub_zero, lumpZ_zero h]
theorem lumpR_zero {off : Int} (h : 0 ≤ off) : ∀ L : List Int, lumpR off L 0 = 0
  | [] => rfl
  | b :: L => by
    show lumpR off L (0 - mnI off 0) = 0
    rw [mn0 h, Int.sub_zero, lumpR_zero h]
/-- the size of parts, never none -/
def offP (off : Int) : Int := if off = 0 then 1 else off
theorem parts_partE {R off : Int} (h : 0 < off) (r0 : 0 ≤ R) : exZ (partedZ R off) = partE off R := by
  have q0 : 0 ≤ R / off := Int.ediv_nonneg r0 (by omega)
  have m0 := Int.emod_nonneg R (show off ≠ 0 by omega)
  unfold partedZ partE
  by_cases e : R = 0
  · rw [if_pos e, e, Int.zero_ediv, Int.zero_emod]
    rfl
  · rw [if_neg e]
    unfold groupsZ
    have e2 : exZ ([((R % off), (1 : Int))].filter okG) = if R % off = 0 then [] else [R % off] := by
      by_cases c : R % off = 0
      · rw [if_pos c, c]
        rfl
      · rw [if_neg c, List.filter_cons_of_pos (by unfold okG; simp; omega)]
        rfl
    by_cases c : 0 < R / off
    · rw [List.filter_cons_of_pos (by unfold okG; simp; omega)]
      show List.replicate (R / off).toNat off ++ exZ ([((R % off), (1 : Int))].filter okG) = _
      rw [e2]
    · rw [List.filter_cons_of_neg (by unfold okG; simp; omega), e2, show R / off = 0 by omega]
      rfl
section
variable {r m off : Int} {kvs T : Ct}
theorem lump_same {S : Int} (h0 : 0 ≤ off) (hz : off = 0 → S = 0) (L : List Int) : lumpZ off L S = lumpZ (offP off) L S ∧ lumpR off L S = lumpR (offP off) L S := by
  unfold offP
  by_cases e : off = 0
  · rw [if_pos e, hz e, lumpZ_zero h0, lumpZ_zero (by decide), lumpR_zero h0, lumpR_zero (by decide)]
    exact ⟨rfl, rfl⟩
  · rw [if_neg e]
    exact ⟨rfl, rfl⟩
theorem offP_pos (h0 : 0 ≤ off) : 0 < offP off ∧ off ≤ offP off := by unfold offP; split <;> omega
theorem bag_lumped (g : SkG r m off kvs) : (bagZ (namedZ kvs (lumped kvs m off).1) (lumped kvs m off).2).Perm (lumpZ (offP off) (Ls kvs) (m - sumC kvs) ++ partE (offP off) (lumpR (offP off) (Ls kvs) (m - sumC kvs))) := by
  have nd := asc_nd g.cts.asc
  obtain ⟨a1, a2, a3, a4⟩ := g.lost
  obtain ⟨h1, h2, h3, h4, h5⟩ := fill_lump (off := off) (L := Lf kvs) (x := ([], m - sumC kvs)) (lf_nd nd) List.nodup_nil
  have e0 : lumped kvs m off = ((fillZ off ((Lf kvs).map (·.1)) ([], m - sumC kvs)).1, partedZ (fillZ off ((Lf kvs).map (·.1)) ([], m - sumC kvs)).2 off) := rfl
  rw [e0]
  dsimp only
  have hl := lump_same (off := off) (S := m - sumC kvs) g.o0 a3 (Ls kvs)
  have r0 : 0 ≤ lumpR off (Ls kvs) (m - sumC kvs) := lumpR_nn a1
  have hin : ∀ e ∈ (fillZ off ((Lf kvs).map (·.1)) ([], m - sumC kvs)).1, e.1 ∈ kvs.map (·.1) := fun e he => by
    rcases h5 e he with h | h
    · cases h
    · obtain ⟨f, hf, hk⟩ := List.mem_map.mp h
      exact List.mem_map.mpr ⟨f, lf_mem.mp hf, hk⟩
  rw [h1]
  generalize fillZ off ((Lf kvs).map (·.1)) ([], m - sumC kvs) = x at h2 h3 h4 hin
  have tn : ∀ n, 0 ≤ gd x.1 n ∨ True := fun _ => .inr trivial
  rw [named_in nd h4 hin]
  have hpos : ∀ e ∈ kvs.map (fun e : Str × Int => (e.1, e.2 + gd x.1 e.1)), 0 < e.2 := fun e he => by
    obtain ⟨f, hf, rfl⟩ := List.mem_map.mp he
    have := g.cts.pos f hf
    have hm : f.2 + gd x.1 f.1 ∈ (Lf kvs).map fun e => e.2 + gd x.1 e.1 := List.mem_map.mpr ⟨f, lf_mem.mpr hf, rfl⟩
    rw [h2] at hm
    have ge : ∀ {L : List Int} {S v : Int}, 0 ≤ S → (∀ b ∈ L, 1 ≤ b) → v ∈ lumpZ off L S → 0 < v := by
      intro L
      induction L with
      | nil => intro S v _ _ hv; cases hv
      | cons b L ih =>
        intro S v s0 hb hv
        have := mnI_nn (off := off) g.o0 s0
        have := mnI_le (off := off) (S := S)
        rcases List.mem_cons.mp hv with rfl | hv
        · have := hb b List.mem_cons_self
          omega
        · exact ih (by omega) (fun x hx => hb x (List.mem_cons_of_mem _ hx)) hv
    exact ge a1 (fun b hb => by
      obtain ⟨e, he, rfl⟩ := List.mem_map.mp hb
      exact g.cts.pos e (lf_mem.mp he)) hm
  rw [bagZ_pos hpos, List.map_map]
  rw [← hl.1, ← hl.2, ← h2]
  have e1 : exZ (partedZ (lumpR off (Ls kvs) (m - sumC kvs)) off) = partE (offP off) (lumpR off (Ls kvs) (m - sumC kvs)) := by
    by_cases e : off = 0
    · rw [hl.2, a3 e, lumpR_zero (Int.le_of_lt (offP_pos g.o0).1)]
      unfold partE
      rw [Int.zero_ediv, Int.zero_emod]
      rfl
    · rw [parts_partE (by have := g.o0; omega) r0]
      unfold offP
      rw [if_neg e]
  exact List.Perm.append ((fallB_perm kvs).map _).symm (by rw [e1])
theorem perm_lift {f : Int × Int → Int} : ∀ {l' : List Int} {l : List (Int × Int)}, (l.map f).Perm l' → ∃ l2 : List (Int × Int), l2.Perm l ∧ l2.map f = l'
  | [], l, p => by
    have := p.length_eq
    rw [List.length_map] at this
    exact ⟨[], by rw [List.length_eq_zero_iff.mp this], rfl⟩
  | a :: l', l, p => by
    obtain ⟨x, hx, hf⟩ := List.mem_map.mp (p.mem_iff.mpr (List.mem_cons_self (a := a) (l := l')))
    have pe := List.perm_cons_erase hx
    have p2 : ((l.erase x).map f).Perm l' := by
      have h1 := (pe.map f).symm.trans p
      rw [List.map_cons, hf] at h1
      exact h1.cons_inv
    obtain ⟨l2, h1, h2⟩ := perm_lift p2
    exact ⟨x :: l2, (h1.cons x).trans pe.symm, by rw [List.map_cons, hf, h2]⟩
theorem sum_take_ones : ∀ {f : List Int} (k : Nat), (∀ x ∈ f, 1 ≤ x) → mnI (k : Int) f.sum ≤ (f.take k).sum
  | [], k, _ => by
    rw [List.take_nil]
    show mnI (k : Int) 0 ≤ 0
    unfold mnI
    split <;> omega
  | a :: f, 0, h => by
    have := mnI_le (off := ((0 : Nat) : Int)) (S := (a :: f).sum)
    rw [List.take_zero]
    show mnI ((0 : Nat) : Int) _ ≤ 0
    omega
  | a :: f, k + 1, h => by
    have h0 := h a List.mem_cons_self
    have ih := sum_take_ones (f := f) k fun x hx => h x (List.mem_cons_of_mem _ hx)
    rw [List.take_succ_cons, List.sum_cons, List.sum_cons]
    push_cast
    revert ih
    unfold mnI
    split <;> split <;> omega
theorem first_low {L t f : List Int} {S : Int} (j : Nat) (hl : t.length = L.length) (ht : ∀ x ∈ t, 0 ≤ x) (hf : ∀ x ∈ f, 1 ≤ x) (e : t.sum + f.sum = S) :
    ((L ++ List.replicate S.toNat (1 : Int)).take j).sum ≤ ((List.zipWith (· + ·) L t ++ f).take j).sum := by
  have sf : 0 ≤ f.sum := sum_nn fun x hx => by have := hf x hx; omega
  have st : 0 ≤ t.sum := sum_nn ht
  rw [List.take_append, List.take_append, List.sum_append, List.sum_append, List.take_replicate, sum_rep, List.length_zipWith, hl, Nat.min_self, List.take_zipWith, zip_sum (by rw [List.length_take, List.length_take, hl])]
  have h1 : 0 ≤ (t.take j).sum := sum_nn fun x hx => ht x (List.mem_of_mem_take hx)
  have h2 := sum_take_ones (f := f) (j - L.length) hf
  by_cases c : j ≤ L.length
  · rw [Nat.sub_eq_zero_of_le c]
    have h3 : 0 ≤ (f.take 0).sum := by rw [List.take_zero]; exact Int.le_refl _
    simp
    omega
  · rw [show t.take j = t from List.take_of_length_le (by omega)]
    have e2 : ((min (j - L.length) S.toNat : Nat) : Int) = mnI ((j - L.length : Nat) : Int) S := by unfold mnI; split <;> omega
    rw [e2]
    have : mnI ((j - L.length : Nat) : Int) S ≤ t.sum + mnI ((j - L.length : Nat) : Int) f.sum := by unfold mnI; split <;> split <;> omega
    omega
theorem sqs_lump {o : Int} (h : 0 < o) : ∀ {L : List Int} {S : Int}, 0 ≤ S → sqs (lumpZ o L S ++ partE o (lumpR o L S)) = sqG o L S
  | [], S, s0 => by
    show sqs ([] ++ partE o S) = sqP o S
    have m0 := Int.emod_nonneg S (show o ≠ 0 by omega)
    have q0 : 0 ≤ S / o := Int.ediv_nonneg s0 (by omega)
    rw [List.nil_append]
    unfold partE sqP
    rw [sqs_app, sqs_rep, Int.toNat_of_nonneg q0]
    by_cases c : S % o = 0
    · rw [if_pos c, c, Int.mul_comm]
      rfl
    · rw [if_neg c, Int.mul_comm (o * o)]
      show _ + (S % o * (S % o) + 0) = _
      omega
  | b :: L, S, s0 => by
    have := mnI_le (off := o) (S := S)
    show sqs ((b + mnI o S) :: (lumpZ o L (S - mnI o S) ++ partE o (lumpR o L (S - mnI o S)))) = _
    rw [sqs_cons, sqs_lump h (L := L) (S := S - mnI o S) (by omega)]
    rfl
theorem fall_ones {L : List Int} {n : Nat} (fl : Fall L) (h : ∀ x ∈ L, 1 ≤ x) : Fall (L ++ List.replicate n (1 : Int)) := by
  unfold Fall
  rw [List.pairwise_append]
  refine ⟨fl, List.pairwise_replicate.mpr (.inr (Int.le_refl _)), fun a ha b hb => ?_⟩
  rw [(List.mem_replicate.mp hb).2]
  exact h a ha
/-- what the questions of all names come to: the first, unlike, squares -/
theorem bound_all (g : SkG r m off kvs) (t : TruZ kvs m off T) (x : Qn) (hx : QnOk x) (h : x = .unlike ∨ x = .squares ∨ ∃ j, x = .first j) : lowE kvs m off x ≤ worthZ T [] x ∧ worthZ T [] x ≤ highE kvs m off x := by
  have nd := asc_nd g.cts.asc
  have pos := g.cts.pos
  obtain ⟨a1, a2, a3, a4⟩ := g.lost
  obtain ⟨o1, o2⟩ := offP_pos g.o0
  have bT := bag_T nd pos t
  have bS := bag_spread (off := off) pos a1
  have bL := bag_lumped g
  have hs := tru_sum nd pos t
  have hts := ts_ok t
  have hfr := fr_ok t
  have hfl : Fall (Ls kvs) := fallB_fall kvs
  have hls : ∀ b ∈ Ls kvs, 1 ≤ b := fun b hb => by
    obtain ⟨e, he, rfl⟩ := List.mem_map.mp hb
    exact pos e (lf_mem.mp he)
  have hnn : Nn (Ls kvs) := fun b hb => by have := hls b hb; omega
  have htl := ts_len (kvs := kvs) (T := T)
  have hts' : ∀ x ∈ tsZ kvs T, 0 ≤ x ∧ x ≤ offP off := fun x hx => by have := hts x hx; omega
  have hfr' : ∀ x ∈ frZ kvs T, 0 ≤ x ∧ x ≤ offP off := fun x hx => by have := hfr x hx; omega
  have st : 0 ≤ (tsZ kvs T).sum := sum_nn fun x hx => (hts x hx).1
  have sf : 0 ≤ (frZ kvs T).sum := sum_nn fun x hx => (hfr' x hx).1
  have po := plansZ_ok (x := .unlike) g ⟨(fun _ h => nomatch h), by decide, (fun _ h => nomatch h), (fun _ _ h => nomatch h), fun _ h => nomatch h⟩
  have nS : ∀ e ∈ (spread kvs m off).2, 0 ≤ e.2 := fun e he => by have := (po.2.pos e he).2; omega
  have nL : ∀ e ∈ (lumped kvs m off).2, 0 ≤ e.2 := fun e he => by have := (po.1.pos e he).2; omega
  have nT : ∀ e ∈ ([] : List (Int × Int)), 0 ≤ e.2 := fun _ h => nomatch h
  rcases h with rfl | rfl | ⟨j, rfl⟩
  · -- unlike
    have eL : lowE kvs m off .unlike = ((bagZ (namedZ kvs (lumped kvs m off).1) (lumped kvs m off).2).length : Nat) := ex_len (groups_nn nL)
    have eS : highE kvs m off .unlike = ((bagZ (namedZ kvs (spread kvs m off).1) (spread kvs m off).2).length : Nat) := ex_len (groups_nn nS)
    have eT : worthZ T [] .unlike = ((bagZ T []).length : Nat) := ex_len (groups_nn nT)
    rw [eL, eS, eT, bL.length_eq, bS.length_eq, bT.length_eq, List.length_append, List.length_append, List.length_append, List.length_zipWith, htl, Nat.min_self, List.length_replicate]
    have lz : ∀ (L : List Int) (S : Int), (lumpZ (offP off) L S).length = L.length := by
      intro L
      induction L with
      | nil => intro S; rfl
      | cons b L ih => intro S; show (lumpZ (offP off) L _).length + 1 = L.length + 1; rw [ih]
    rw [lz]
    have h1 := partE_len (f := frZ kvs T) o1 (lumpR_nn a1) (fun x hx => (hfr' x hx).2) (lumpR_le (L := Ls kvs) (t := tsZ kvs T) (S := m - sumC kvs) (by omega) htl hts' hs sf)
    have h2 := ones_le (f := frZ kvs T) fun x hx => (hfr x hx).1
    omega
  · -- squares
    have eL : highE kvs m off .squares = sqs (bagZ (namedZ kvs (lumped kvs m off).1) (lumped kvs m off).2) := ex_sqs (groups_nn nL)
    have eS : lowE kvs m off .squares = sqs (bagZ (namedZ kvs (spread kvs m off).1) (spread kvs m off).2) := ex_sqs (groups_nn nS)
    have eT : worthZ T [] .squares = sqs (bagZ T []) := ex_sqs (groups_nn nT)
    rw [eL, eS, eT, sqs_perm bL, sqs_perm bS, sqs_perm bT, sqs_app, sqs_app (List.zipWith _ _ _), sqs_rep, sqs_lump o1 a1]
    have h1 : sqs (List.zipWith (· + ·) (Ls kvs) (tsZ kvs T)) + sqs (frZ kvs T) ≤ sqG (offP off) (Ls kvs) (m - sumC kvs) := sqG_best (off := offP off) (S := m - sumC kvs) o1 hfl hnn htl hts' hfr' hs
    have h2 := sqs_least (L := Ls kvs) (t := tsZ kvs T) (f := frZ kvs T) hnn htl (fun x hx => (hts x hx).1) (fun x hx => (hfr' x hx).1)
    rw [Int.toNat_of_nonneg a1]
    omega
  · -- first
    obtain ⟨j0, j1⟩ := hx.j j rfl
    have eL : highE kvs m off (.first j) = ((srtB (namedZ kvs (lumped kvs m off).1) (lumped kvs m off).2).take j.toNat).sum := rfl
    have eS : lowE kvs m off (.first j) = ((srtB (namedZ kvs (spread kvs m off).1) (spread kvs m off).2).take j.toNat).sum := rfl
    have eT : worthZ T [] (.first j) = ((srtB T []).take j.toNat).sum := rfl
    rw [eL, eS, eT]
    have pT := (srtB_perm T []).trans bT
    have pS := (srtB_perm (namedZ kvs (spread kvs m off).1) (spread kvs m off).2).trans bS
    have pL := (srtB_perm (namedZ kvs (lumped kvs m off).1) (lumped kvs m off).2).trans bL
    have nnT : Nn (srtB T []) := fun b hb => by
      rcases List.mem_append.mp (pT.mem_iff.mp hb) with h | h
      · rw [zip_ts nd] at h
        obtain ⟨e, he, rfl⟩ := List.mem_map.mp h
        have := t.lo e.1
        rw [gd_in nd (lf_mem.mp he)] at this
        have := pos e (lf_mem.mp he)
        omega
      · exact (hfr' b h).1
    refine ⟨?_, ?_⟩
    · rw [fall_eq (srtB_fall _ _) (fall_ones hfl hls) pS]
      refine Int.le_trans (first_low j.toNat htl (fun x hx => (hts x hx).1) (fun x hx => (hfr x hx).1) hs) ?_
      refine top_ge (rest := (List.zipWith (· + ·) (Ls kvs) (tsZ kvs T) ++ frZ kvs T).drop j.toNat) (srtB_fall _ _) nnT ?_ (by rw [List.length_take]; omega)
      rw [List.take_append_drop]
      exact pT.symm
    · -- the greatest j of a truth, as pairs of kept and taken
      have hz : ∀ {a b : List Int}, a.length = b.length → (a.zip b).map (·.1) = a ∧ (a.zip b).map (·.2) = b ∧ (a.zip b).map (fun p => p.1 + p.2) = List.zipWith (· + ·) a b := by
        intro a
        induction a with
        | nil => intro b hb; obtain rfl : b = [] := List.length_eq_zero_iff.mp hb.symm; exact ⟨rfl, rfl, rfl⟩
        | cons x a ih =>
          intro b hb
          match b, hb with
          | y :: b, hb =>
            obtain ⟨h1, h2, h3⟩ := ih (b := b) (by simpa using hb)
            exact ⟨congrArg _ h1, congrArg _ h2, congrArg _ h3⟩
      obtain ⟨z1, z2, z3⟩ := hz htl.symm
      have f1 : ∀ f : List Int, (f.map fun y => ((0 : Int), y)).map (·.1) = List.replicate f.length 0 := by
        intro f
        induction f with
        | nil => rfl
        | cons a f ih => exact congrArg _ ih
      have f2 : ∀ f : List Int, (f.map fun y => ((0 : Int), y)).map (·.2) = f := by
        intro f
        induction f with
        | nil => rfl
        | cons a f ih => exact congrArg _ ih
      have f3 : ∀ f : List Int, (f.map fun y => ((0 : Int), y)).map (fun p => p.1 + p.2) = f := by
        intro f
        induction f with
        | nil => rfl
        | cons a f ih =>
          rw [List.map_cons, List.map_cons, ih]
          show (0 + a) :: f = _
          rw [Int.zero_add]
      generalize hD : (Ls kvs).zip (tsZ kvs T) ++ (frZ kvs T).map (fun y => ((0 : Int), y)) = D
      have d1 : D.map (·.1) = Ls kvs ++ List.replicate (frZ kvs T).length 0 := by rw [← hD, List.map_append, z1, f1]
      have d2 : D.map (·.2) = tsZ kvs T ++ frZ kvs T := by rw [← hD, List.map_append, z2, f2]
      have d3 : (D.map fun p => p.1 + p.2) = List.zipWith (· + ·) (Ls kvs) (tsZ kvs T) ++ frZ kvs T := by rw [← hD, List.map_append, z3, f3]
      obtain ⟨D', p1, p2⟩ := perm_lift (f := fun p => p.1 + p.2) (l := D) (l' := srtB T []) (by rw [d3]; exact pT.symm)
      have h1 := some_le (off := offP off) (S := m - sumC kvs) (j := j.toNat) (m := D'.take j.toNat) (rest := D'.drop j.toNat) (by omega) hfl hnn d1 (fun p hp => by
        have : p.2 ∈ D.map (·.2) := List.mem_map.mpr ⟨p, hp, rfl⟩
        rw [d2] at this
        rcases List.mem_append.mp this with h | h
        · exact hts' _ h
        · exact hfr' _ h) (by rw [d2, List.sum_append]; exact hs) (by rw [List.take_append_drop]; exact p1) (by rw [List.length_take]; omega)
      rw [List.map_take, p2] at h1
      refine Int.le_trans h1 ?_
      rw [← lump_take o1 j.toNat a1]
      refine top_ge (rest := (lumpZ (offP off) (Ls kvs) (m - sumC kvs) ++ partE (offP off) (lumpR (offP off) (Ls kvs) (m - sumC kvs))).drop j.toNat) (srtB_fall _ _) (fun b hb => ?_) ?_ (by rw [List.length_take]; omega)
      · have hb' := (srtB_perm _ _).mem_iff.mp hb
        obtain ⟨e, he, hr⟩ := List.mem_flatMap.mp hb'
        rw [(List.mem_replicate.mp hr).2]
        rcases List.mem_append.mp he with he | he
        · obtain ⟨f, hf, rfl⟩ := List.mem_map.mp he
          have := of_decide_eq_true (List.mem_filter.mp hf).2
          show 0 ≤ f.2
          omega
        · have := (po.1.pos e he).1
          omega
      · rw [List.take_append_drop]
        exact pL.symm
end
end Kb

namespace Kb
open PySem PySem.Spec PyProof.Rows L2 SrtZ SrtO FlX LamX RZ
theorem nullZ_nd : ∀ {zs : List Str} {d : Ct}, NdZ d → NdZ (nullZ zs d)
  | [], _, h => h
  | _ :: zs, _, h => nullZ_nd (zs := zs) (putZ_nd h)
theorem gd_zero {d : Ct} (h : ∀ e ∈ d, e.2 = 0) (n : Str) : gd d n = 0 := by
  unfold gd
  cases hg : getZ d n with
  | none => rfl
  | some v => exact h _ (getZ_in hg)
theorem gd_null (zs : List Str) (n : Str) : gd (nullZ zs []) n = 0 := gd_zero (nullZ_mem (d := []) fun _ h => (nomatch h)) n
theorem gd_named {kvs tk : Ct} (nt : NdZ tk) (n : Str) : gd (namedZ kvs tk) n = gd kvs n + gd tk n := gd_sums nt n
theorem lump_sum {off : Int} : ∀ (L : List Int) (S : Int), (lumpZ off L S).sum = L.sum + (S - lumpR off L S)
  | [], S => by
    show (0 : Int) = 0 + (S - S)
    omega
  | b :: L, S => by
    show ((b + mnI off S) :: lumpZ off L (S - mnI off S)).sum = (b :: L).sum + (S - lumpR off L (S - mnI off S))
    rw [List.sum_cons, List.sum_cons, lump_sum L]
    omega
/-- filled names: each as much as can be, one behind another -/
theorem fill_names {off S : Int} {zs ns : List Str} (nd : zs.Nodup) : NdZ (fillZ off zs (nullZ ns [], S)).1 ∧ (∀ n, n ∉ zs → gd (fillZ off zs (nullZ ns [], S)).1 n = 0) ∧
    zs.map (fun z => gd (fillZ off zs (nullZ ns [], S)).1 z) = lumpZ off (List.replicate zs.length 0) S ∧ (fillZ off zs (nullZ ns [], S)).2 = lumpR off (List.replicate zs.length 0) S := by
  have e1 : ∀ l : List Str, (l.map fun z => (z, (0 : Int))).map (·.1) = l := by
    intro l
    induction l with
    | nil => rfl
    | cons a l ih => exact congrArg _ ih
  have e2 : ∀ l : List Str, (l.map fun z => (z, (0 : Int))).map (·.2) = List.replicate l.length 0 := by
    intro l
    induction l with
    | nil => rfl
    | cons a l ih => exact congrArg _ ih
  obtain ⟨h1, h2, h3, h4, _⟩ := fill_lump (off := off) (L := zs.map fun z => (z, (0 : Int))) (x := (nullZ ns [], S)) (by unfold NdZ; rw [e1]; exact nd) (nullZ_nd List.nodup_nil)
  rw [e1] at h1 h2 h3 h4
  rw [e2] at h1 h2
  refine ⟨h4, fun n hn => by rw [h3 n hn]; exact gd_null _ _, ?_, h1⟩
  rw [← h2, List.map_map]
  refine List.map_congr_left fun z _ => ?_
  show gd _ z = 0 + gd _ z
  omega
theorem sum_names {f : Str → Int} (h0 : ∀ n, 0 ≤ f n) : ∀ {zs ks : List Str}, zs.Nodup → ks.Nodup → (∀ n ∈ zs, n ∉ ks → f n = 0) → (zs.map f).sum ≤ (ks.map f).sum
  | [], ks, _, _, _ => sum_nn fun x hx => by
    obtain ⟨n, _, rfl⟩ := List.mem_map.mp hx
    exact h0 n
  | z :: zs, ks, nz, nk, h => by
    rw [List.nodup_cons] at nz
    rw [List.map_cons, List.sum_cons]
    by_cases hz : z ∈ ks
    · have p := List.perm_cons_erase hz
      have := perm_sum (p.map f)
      rw [List.map_cons, List.sum_cons] at this
      have ih := sum_names h0 (zs := zs) (ks := ks.erase z) nz.2 (nk.erase z) fun n hn hk => by
        refine h n (List.mem_cons_of_mem _ hn) fun hm => hk ?_
        exact (List.mem_erase_of_ne (fun e => nz.1 (by rw [← e]; exact hn))).mpr hm
      omega
    · have ih := sum_names h0 (zs := zs) (ks := ks) nz.2 nk fun n hn hk => h n (List.mem_cons_of_mem _ hn) hk
      have := h z List.mem_cons_self hz
      omega
section
variable {r m off : Int} {kvs T : Ct}
/-- of some names no more is taken than was lost -/
theorem taken_le (nd : NdZ kvs) (pos : ∀ e ∈ kvs, 1 ≤ e.2) (t : TruZ kvs m off T) {zs : List Str} (nz : zs.Nodup) : (zs.map fun z => gd T z - gd kvs z).sum ≤ m - sumC kvs := by
  rw [← tru_sum nd pos t]
  have e1 : tsZ kvs T = ((Lf kvs).map (·.1)).map fun z => gd T z - gd kvs z := by unfold tsZ; rw [List.map_map]; rfl
  have e2 : frZ kvs T = ((T.filter fun e => !decide (e.1 ∈ kvs.map (·.1))).map (·.1)).map fun z => gd T z - gd kvs z := by
    unfold frZ
    rw [List.map_map]
    refine List.map_congr_left fun e he => ?_
    obtain ⟨h1, h2⟩ := List.mem_filter.mp he
    have h3 : e.1 ∉ kvs.map (·.1) := by simpa using h2
    show e.2 = gd T e.1 - gd kvs e.1
    rw [gd_notin h3, gd_in t.nd h1]
    omega
  rw [e1, e2, ← List.sum_append, ← List.map_append]
  refine sum_names (fun n => by have := t.lo n; omega) nz ?_ fun n _ hn => ?_
  · rw [List.nodup_append]
    have h1 := lf_nd nd
    refine ⟨h1, (t.nd.sublist (List.Sublist.map _ List.filter_sublist)), fun a ha b hb e => ?_⟩
    subst e
    obtain ⟨f, hf, hk⟩ := List.mem_map.mp ha
    obtain ⟨f2, hf2, hk2⟩ := List.mem_map.mp hb
    have := (List.mem_filter.mp hf2).2
    have h3 : f2.1 ∉ kvs.map (·.1) := by simpa using this
    exact h3 (List.mem_map.mpr ⟨f, lf_mem.mp hf, by rw [hk, hk2]⟩)
  · rw [List.mem_append, not_or] at hn
    have hk : n ∉ kvs.map (·.1) := fun h => hn.1 (((fallB_perm kvs).map (·.1)).mem_iff.mpr h)
    have hT : n ∉ T.map (·.1) := fun h => by
      obtain ⟨f, hf, e⟩ := List.mem_map.mp h
      refine hn.2 (List.mem_map.mpr ⟨f, List.mem_filter.mpr ⟨hf, ?_⟩, e⟩)
      rw [e]
      simpa using hk
    rw [gd_notin hk, gd_notin hT]
    rfl
theorem one_fill (g : SkG r m off kvs) (ns : List Str) (z n : Str) : gd (fillZ off [z] (nullZ ns [], m - sumC kvs)).1 n = if n = z then off else 0 := by
  obtain ⟨a1, a2, a3, a4⟩ := g.lost
  obtain ⟨h1, h2, h3, _⟩ := fill_names (off := off) (S := m - sumC kvs) (ns := ns) (zs := [z]) (by simp)
  by_cases e : n = z
  · rw [if_pos e, e]
    have h3 := List.cons.inj h3
    refine Eq.trans h3.1 ?_
    show 0 + mnI off (m - sumC kvs) = off
    unfold mnI
    rw [if_neg (by omega)]
    omega
  · rw [if_neg e]
    exact h2 n (by simpa using e)
theorem fill_nd (ns ys : List Str) (off S : Int) : NdZ (fillZ off ys (nullZ ns [], S)).1 := by
  have : ∀ (ys : List Str) (x : Ct × Int), NdZ x.1 → NdZ (fillZ off ys x).1 := by
    intro ys
    induction ys with
    | nil => exact fun _ h => h
    | cons y ys ih => exact fun x h => ih _ (putZ_nd h)
  exact this ys _ (nullZ_nd List.nodup_nil)
theorem sum_map_add (f h : Str → Int) : ∀ zs : List Str, (zs.map fun z => f z + h z).sum = (zs.map f).sum + (zs.map h).sum
  | [] => rfl
  | z :: zs => by
    rw [List.map_cons, List.map_cons, List.map_cons, List.sum_cons, List.sum_cons, List.sum_cons, sum_map_add f h zs]
    omega
theorem asc_nodup {zs : List Str} (h : zs.Pairwise fun a b => ltZ a b = true) : zs.Nodup := h.imp fun {a b} hab e => by
  rw [e, ltZ_irr] at hab
  cases hab
/-- what the questions of named counts come to -/
theorem bound_named (g : SkG r m off kvs) (t : TruZ kvs m off T) (x : Qn) (hx : QnOk x) (h : (∃ z, x = .count z) ∨ (∃ zs, x = .lot zs) ∨ ∃ y z, x = .apart y z) : lowE kvs m off x ≤ worthZ T [] x ∧ worthZ T [] x ≤ highE kvs m off x := by
  have nd := asc_nd g.cts.asc
  have pos := g.cts.pos
  obtain ⟨a1, a2, a3, a4⟩ := g.lost
  rcases h with ⟨z, rfl⟩ | ⟨zs, rfl⟩ | ⟨y, z, rfl⟩
  · have h1 : lowE kvs m off (.count z) = gd (namedZ kvs (fillZ off [] (nullZ [z] [], m - sumC kvs)).1) z := rfl
    have h2 : highE kvs m off (.count z) = gd (namedZ kvs (fillZ off [z] (nullZ [z] [], m - sumC kvs)).1) z := rfl
    have h3 : worthZ T [] (.count z) = gd T z := rfl
    rw [h1, h2, h3, gd_named (fill_nd _ _ _ _), gd_named (fill_nd _ _ _ _), one_fill g, if_pos rfl]
    have := gd_null [z] z
    have h4 : gd (fillZ off [] (nullZ [z] [], m - sumC kvs)).1 z = 0 := this
    have := t.lo z
    have := t.hi z
    omega
  · have h1 : lowE kvs m off (.lot zs) = (zs.map (gd (namedZ kvs (fillZ off [] (nullZ zs [], m - sumC kvs)).1))).sum := rfl
    have h2 : highE kvs m off (.lot zs) = (zs.map (gd (namedZ kvs (fillZ off zs (nullZ zs [], m - sumC kvs)).1))).sum := rfl
    have h3 : worthZ T [] (.lot zs) = (zs.map (gd T)).sum := rfl
    have nz := asc_nodup (hx.asc zs rfl)
    obtain ⟨f1, f2, f3, f4⟩ := fill_names (off := off) (S := m - sumC kvs) (ns := zs) nz
    have e1 : zs.map (gd (namedZ kvs (fillZ off [] (nullZ zs [], m - sumC kvs)).1)) = zs.map (gd kvs) := List.map_congr_left fun z _ => by
      rw [gd_named (fill_nd _ _ _ _)]
      have : gd (fillZ off [] (nullZ zs [], m - sumC kvs)).1 z = 0 := gd_null zs z
      omega
    have e2 : (zs.map (gd (namedZ kvs (fillZ off zs (nullZ zs [], m - sumC kvs)).1))).sum = (zs.map (gd kvs)).sum + (m - sumC kvs - lumpR off (List.replicate zs.length 0) (m - sumC kvs)) := by
      rw [show zs.map (gd (namedZ kvs (fillZ off zs (nullZ zs [], m - sumC kvs)).1)) = zs.map (fun z => gd kvs z + gd (fillZ off zs (nullZ zs [], m - sumC kvs)).1 z) from List.map_congr_left fun z _ => gd_named (fill_nd _ _ _ _) z, sum_map_add, f3, lump_sum]
      have : (List.replicate zs.length (0 : Int)).sum = 0 := by rw [sum_rep]; simp
      omega
    have e3 : (zs.map (gd T)).sum = (zs.map (gd kvs)).sum + (zs.map fun z => gd T z - gd kvs z).sum := by
      rw [← sum_map_add]
      refine congrArg _ (List.map_congr_left fun z _ => ?_)
      omega
    have tl := taken_le nd pos t nz
    have t0 : 0 ≤ (zs.map fun z => gd T z - gd kvs z).sum := sum_nn fun x hx => by
      obtain ⟨z, _, rfl⟩ := List.mem_map.mp hx
      have := t.lo z
      omega
    have lr := lumpR_le (off := off) (L := List.replicate zs.length 0) (t := zs.map fun z => gd T z - gd kvs z) (S := m - sumC kvs) (F := m - sumC kvs - (zs.map fun z => gd T z - gd kvs z).sum) g.o0 (by rw [List.length_map, List.length_replicate]) (fun x hx => by
      obtain ⟨z, _, rfl⟩ := List.mem_map.mp hx
      have := t.lo z
      have := t.hi z
      omega) (by omega) (by omega)
    rw [h1, h2, h3, e1, e2, e3]
    omega
  · have h1 : lowE kvs m off (.apart y z) = gd (namedZ kvs (fillZ off [z] (nullZ [y, z] [], m - sumC kvs)).1) y - gd (namedZ kvs (fillZ off [z] (nullZ [y, z] [], m - sumC kvs)).1) z := rfl
    have h2 : highE kvs m off (.apart y z) = gd (namedZ kvs (fillZ off [y] (nullZ [y, z] [], m - sumC kvs)).1) y - gd (namedZ kvs (fillZ off [y] (nullZ [y, z] [], m - sumC kvs)).1) z := rfl
    have h3 : worthZ T [] (.apart y z) = gd T y - gd T z := rfl
    have ne := hx.ne y z rfl
    rw [h1, h2, h3, gd_named (fill_nd _ _ _ _), gd_named (fill_nd _ _ _ _), gd_named (fill_nd _ _ _ _), gd_named (fill_nd _ _ _ _), one_fill g, one_fill g, one_fill g, one_fill g, if_neg ne, if_pos rfl, if_pos rfl, if_neg (fun e => ne e.symm)]
    have := t.lo z
    have := t.hi z
    have := t.lo y
    have := t.hi y
    omega
end
end Kb

namespace Kb
open PySem PySem.Spec PyProof.Rows L2 SrtZ SrtO FlX LamX RZ
theorem nodup_sub : ∀ {l m : List Str}, l.Nodup → (∀ x ∈ l, x ∈ m) → l.length ≤ m.length
  | [], _, _, _ => Nat.zero_le _
  | x :: l, m, nd, h => by
    rw [List.nodup_cons] at nd
    have hx := h x List.mem_cons_self
    have ih := nodup_sub (l := l) (m := m.erase x) nd.2 fun y hy => (List.mem_erase_of_ne (fun z => nd.1 (by rw [← z]; exact hy))).mpr (h y (List.mem_cons_of_mem _ hy))
    rw [List.length_erase_of_mem hx] at ih
    have := List.length_pos_of_mem hx
    show l.length + 1 ≤ m.length
    omega
theorem bagZ_cnt {c : Int} (c0 : 0 ≤ c) (d : Ct) (ps : List (Int × Int)) : cntG c (bagZ d ps) = cntG c (d.map (·.2)) + cntG c (exZ ps) := by
  unfold bagZ groupsW
  rw [exZ_app, exZ_ones, cntG_app]
  congr 1
  induction d with
  | nil => rfl
  | cons e d ih =>
    rw [List.map_cons, cntG_cons]
    by_cases h : 0 < e.2
    · rw [List.filter_cons_of_pos (by simpa using h), List.map_cons, cntG_cons, ih]
    · rw [List.filter_cons_of_neg (by simpa using h), ih, if_neg (by omega)]
      omega
/-- names counted in a dict -/
theorem cnt_names {c : Int} (c0 : 0 ≤ c) {zs : List Str} {d : Ct} (nz : zs.Nodup) : cntG c (zs.map (gd d)) ≤ cntG c (d.map (·.2)) := by
  unfold cntG
  rw [List.filter_map, List.filter_map, List.length_map, List.length_map]
  have h1 : (zs.filter ((fun x => decide (c < x)) ∘ gd d)).Nodup := nz.filter _
  have := nodup_sub (m := (d.filter ((fun x => decide (c < x)) ∘ fun e => e.2)).map (·.1)) h1 fun n hn => by
    obtain ⟨_, h2⟩ := List.mem_filter.mp hn
    have h2 : c < gd d n := of_decide_eq_true h2
    have h3 := (in_of_gd (l := d) (n := n) (by omega)).2
    exact List.mem_map.mpr ⟨_, List.mem_filter.mpr ⟨h3, decide_eq_true h2⟩, rfl⟩
  rw [List.length_map] at this
  omega
theorem cnt_mono {α : Type} {a b : Int} {f g : α → Int} : ∀ {l : List α}, (∀ e ∈ l, a < f e → b < g e) → cntG a (l.map f) ≤ cntG b (l.map g)
  | [], _ => Int.le_refl _
  | e :: l, h => by
    rw [List.map_cons, List.map_cons, cntG_cons, cntG_cons]
    have ih := cnt_mono (a := a) (b := b) (f := f) (g := g) (l := l) fun x hx => h x (List.mem_cons_of_mem _ hx)
    have := h e List.mem_cons_self
    by_cases c : a < f e
    · rw [if_pos c, if_pos (this c)]
      omega
    · rw [if_neg c]
      split <;> omega
theorem cnt_filter {α : Type} {a : Int} {f : α → Int} {p : α → Bool} : ∀ {l : List α}, (∀ e ∈ l, p e = false → ¬ a < f e) → cntG a (l.map f) = cntG a ((l.filter p).map f)
  | [], _ => rfl
  | e :: l, h => by
    have ih := cnt_filter (a := a) (f := f) (p := p) (l := l) fun x hx => h x (List.mem_cons_of_mem _ hx)
    rw [List.map_cons, cntG_cons, ih]
    cases hp : p e with
    | true => rw [List.filter_cons_of_pos hp, List.map_cons, cntG_cons]
    | false =>
      rw [List.filter_cons_of_neg (by rw [hp]; decide), if_neg (h e List.mem_cons_self hp)]
      omega
theorem sum_filter_le {α : Type} {f : α → Int} {p : α → Bool} : ∀ {l : List α}, (∀ e ∈ l, 0 ≤ f e) → ((l.filter p).map f).sum ≤ (l.map f).sum
  | [], _ => Int.le_refl _
  | e :: l, h => by
    have ih := sum_filter_le (f := f) (p := p) (l := l) fun x hx => h x (List.mem_cons_of_mem _ hx)
    have := h e List.mem_cons_self
    rw [List.map_cons, List.sum_cons]
    cases hp : p e with
    | true => rw [List.filter_cons_of_pos hp, List.map_cons, List.sum_cons]; omega
    | false => rw [List.filter_cons_of_neg (by rw [hp]; decide)]; omega
theorem parts_le {R sz : Int} (r0 : 0 ≤ R) (h : 0 < sz ∨ R = 0) : ∀ x ∈ exZ (partedZ R sz), x ≤ sz := fun x hx => by
  obtain ⟨e, he, hr⟩ := List.mem_flatMap.mp hx
  rw [(List.mem_replicate.mp hr).2]
  unfold partedZ at he
  split at he
  · cases he
  · rename_i hR
    have hs : 0 < sz := by omega
    rcases List.mem_cons.mp (List.mem_filter.mp he).1 with rfl | hm
    · exact Int.le_refl _
    · obtain rfl := List.mem_singleton.mp hm
      exact Int.le_of_lt (Int.emod_lt_of_pos R hs)
theorem gd_putZ (d : Ct) (n : Str) (v : Int) (k : Str) : gd (putZ d n v) k = if k = n then v else gd d k := by
  unfold gd
  rw [getZ_put]
  split <;> rfl
/-- what is passed: the name itself is left, and the others that can be -/
theorem pass_count {off mine : Int} {z : Str} (m0 : 0 ≤ mine) (o0 : 0 ≤ off) : ∀ {L : Ct} {x : Ct × Int}, NdZ L → 0 ≤ x.2 → (∀ e ∈ L, e.1 ≠ z → gd x.1 e.1 = 0) →
    cntG mine ((L.filter fun e => !decide (e.1 = z)).map fun e => e.2 + gd (passZ off mine z L x).1 e.1) + (if mine + 1 ≤ off then (passZ off mine z L x).2 / (mine + 1) else 0) = plZ off mine ((L.filter fun e => !decide (e.1 = z)).map (·.2)) x.2 ∧
    (∀ n, n ∉ L.map (·.1) ∨ n = z → gd (passZ off mine z L x).1 n = gd x.1 n)
  | [], x, _, _, _ => ⟨by show (0 : Int) + (if mine + 1 ≤ off then x.2 / (mine + 1) else 0) = if mine + 1 ≤ off then x.2 / (mine + 1) else 0; omega, fun _ _ => rfl⟩
  | e :: L, x, nl, x0, hx => by
    unfold NdZ at nl
    rw [List.map_cons, List.nodup_cons] at nl
    have nn := needZ_nn (mine := mine) (c := e.2)
    have step : passZ off mine z (e :: L) x = passZ off mine z L (if passB off mine z e x.2 = true then (putZ x.1 e.1 (needZ mine e.2), x.2 - needZ mine e.2) else x) := rfl
    rw [step]
    by_cases hb : passB off mine z e x.2 = true
    · rw [if_pos hb]
      unfold passB at hb
      rw [Bool.and_eq_true, decide_eq_true_eq] at hb
      have hz : ¬ e.1 = z := by simpa using hb.1
      have hc := mnI_iff.mp hb.2
      obtain ⟨h1, h2⟩ := pass_count (off := off) (mine := mine) (z := z) m0 o0 (L := L) (x := (putZ x.1 e.1 (needZ mine e.2), x.2 - needZ mine e.2)) nl.2 (by dsimp only; omega) fun f hf hfz => by
        dsimp only
        rw [gd_putZ, if_neg (fun q => nl.1 (by rw [← q]; exact List.mem_map.mpr ⟨f, hf, rfl⟩))]
        exact hx f (List.mem_cons_of_mem _ hf) hfz
      dsimp only at h1 h2
      refine ⟨?_, fun n hn => ?_⟩
      · rw [List.filter_cons_of_pos (by simpa using hz), List.map_cons, List.map_cons, cntG_cons, h2 e.1 (.inl nl.1), gd_putZ, if_pos rfl, if_pos (by unfold needZ; split <;> omega)]
        show _ = if needZ mine e.2 ≤ mnI off x.2 then 1 + plZ off mine _ (x.2 - needZ mine e.2) else _
        rw [if_pos hb.2, ← h1]
        omega
      · have hne : ¬ n = e.1 := by
          rcases hn with hn | hn
          · rw [List.map_cons, List.mem_cons, not_or] at hn
            exact hn.1
          · rw [hn]
            exact fun q => hz q.symm
        rw [h2 n (by
          rcases hn with hn | hn
          · rw [List.map_cons, List.mem_cons, not_or] at hn
            exact .inl hn.2
          · exact .inr hn), gd_putZ, if_neg hne]
    · rw [if_neg hb]
      obtain ⟨h1, h2⟩ := pass_count (off := off) (mine := mine) (z := z) m0 o0 (L := L) (x := x) nl.2 x0 fun f hf hfz => hx f (List.mem_cons_of_mem _ hf) hfz
      refine ⟨?_, fun n hn => h2 n (by
        rcases hn with hn | hn
        · rw [List.map_cons, List.mem_cons, not_or] at hn
          exact .inl hn.2
        · exact .inr hn)⟩
      by_cases hz : e.1 = z
      · rw [List.filter_cons_of_neg (by simpa using hz)]
        exact h1
      · have hn : ¬ needZ mine e.2 ≤ mnI off x.2 := fun q => hb (by
          unfold passB
          rw [Bool.and_eq_true, decide_eq_true_eq]
          exact ⟨by simpa using hz, q⟩)
        rw [List.filter_cons_of_pos (by simpa using hz), List.map_cons, List.map_cons, cntG_cons, h2 e.1 (.inl nl.1), hx e List.mem_cons_self hz]
        have hm : ¬ mine < e.2 + 0 := fun q => hn (by
          have := mnI_nn (off := off) o0 x0
          unfold needZ
          split <;> omega)
        rw [if_neg hm]
        show 0 + _ + _ = if needZ mine e.2 ≤ mnI off x.2 then _ else plZ off mine _ x.2
        rw [if_neg hn, ← h1]
        omega
theorem parts_cnt {R mine off : Int} (r0 : 0 ≤ R) (m0 : 0 ≤ mine) : (if mine + 1 ≤ off then R / (mine + 1) else 0) ≤ cntG mine (exZ (partedZ R (mnI (mine + 1) off))) := by
  by_cases c : mine + 1 ≤ off
  · rw [if_pos c, show mnI (mine + 1) off = mine + 1 from if_neg (by omega), parts_partE (by omega) r0]
    unfold partE
    rw [cntG_app]
    have h1 := cntG_nn mine (if R % (mine + 1) = 0 then [] else [R % (mine + 1)])
    have q0 : 0 ≤ R / (mine + 1) := Int.ediv_nonneg r0 (by omega)
    have h2 : cntG mine (List.replicate (R / (mine + 1)).toNat (mine + 1)) = R / (mine + 1) := by
      unfold cntG
      rw [List.filter_replicate, if_pos (by simp; omega), List.length_replicate]
      omega
    omega
  · rw [if_neg c]
    exact cntG_nn _ _
section
variable {r m off : Int} {kvs T : Ct}
theorem place_worth {d : Ct} {ps : List (Int × Int)} {z : Str} (h : ∀ e ∈ ps, 0 ≤ e.2) : worthZ d ps (.place z) = 1 + cntG (gd d z) (bagZ d ps) := by
  show 1 + (((groupsW d ps).filter fun e => decide (gd d z < e.1)).map (·.2)).sum = _
  rw [ex_cnt _ (groups_nn h)]
  rfl
theorem bound_place (g : SkG r m off kvs) (t : TruZ kvs m off T) (z : Str) (hx : QnOk (.place z)) : lowE kvs m off (.place z) ≤ worthZ T [] (.place z) ∧ worthZ T [] (.place z) ≤ highE kvs m off (.place z) := by
  have nd := asc_nd g.cts.asc
  have pos := g.cts.pos
  obtain ⟨a1, a2, a3, a4⟩ := g.lost
  have o0 := g.o0
  have po := plansZ_ok (x := .place z) g hx
  have hm0 : 0 ≤ gd kvs z := getZ_pos g.cts.pos
  have tz := t.lo z
  have tz2 := t.hi z
  have bT := cntG_perm (mine := gd T z) (bag_T nd pos t)
  rw [cntG_app, zip_ts nd] at bT
  have eT : worthZ T [] (.place z) = 1 + cntG (gd T z) (bagZ T []) := place_worth fun _ h => nomatch h
  have npl : (Lf kvs).map (·.1) = (Lf kvs).map (·.1) := rfl
  refine ⟨?_, ?_⟩
  · -- the least
    have eL : lowE kvs m off (.place z) = 1 + cntG (gd (namedZ kvs (plansZ kvs m off (.place z)).1.1) z) (bagZ (namedZ kvs (plansZ kvs m off (.place z)).1.1) (plansZ kvs m off (.place z)).1.2) := place_worth fun e he => by have := (po.1.pos e he).2; omega
    have e1 : (plansZ kvs m off (.place z)).1 = ([(z, off)], partedZ (m - sumC kvs - off) off) := by
      show ((fillZ off [z] (nullZ [z] [], m - sumC kvs)).1, partedZ (fillZ off [z] (nullZ [z] [], m - sumC kvs)).2 off) = _
      have e2 : (if m - sumC kvs < off then m - sumC kvs else off) = off := if_neg (by omega)
      show (putZ [(z, 0)] z (if m - sumC kvs < off then m - sumC kvs else off), partedZ (m - sumC kvs - (if m - sumC kvs < off then m - sumC kvs else off)) off) = _
      rw [e2]
      unfold putZ
      rw [if_pos (by simp)]
      simp
    rw [eL, eT, e1, bT]
    show 1 + cntG (gd (addZ kvs z off) z) (bagZ (addZ kvs z off) (partedZ (m - sumC kvs - off) off)) ≤ _
    have gz : gd (addZ kvs z off) z = gd kvs z + off := by rw [gd_add, if_pos rfl]
    rw [gz, bagZ_cnt (by omega)]
    have h1 : cntG (gd kvs z + off) (exZ (partedZ (m - sumC kvs - off) off)) = 0 := by
      unfold cntG
      rw [List.filter_eq_nil_iff.mpr fun x hx => by
        have := parts_le (sz := off) (show 0 ≤ m - sumC kvs - off by omega) (by
          by_cases e : off = 0
          · exact .inr (by have := a3 e; omega)
          · exact .inl (by omega)) x hx
        simp
        omega]
      rfl
    have h2 : cntG (gd kvs z + off) ((addZ kvs z off).map (·.2)) ≤ cntG (gd kvs z + off) (kvs.map (·.2)) := by
      by_cases hz : z ∈ kvs.map (·.1)
      · rw [addZ_in hz, List.map_map]
        refine cnt_mono fun e he h => ?_
        have h : gd kvs z + off < (if e.1 = z then (e.1, gd kvs z + off) else e).2 := h
        split at h
        · exact absurd h (Int.lt_irrefl _)
        · exact h
      · have : addZ kvs z off = kvs ++ [(z, gd kvs z + off)] := by
          unfold addZ putZ
          rw [if_neg]
          · rfl
          · intro q
            obtain ⟨e, he, hk⟩ := List.any_eq_true.mp q
            exact hz (List.mem_map.mpr ⟨e, he, of_decide_eq_true hk⟩)
        rw [this, List.map_append, cntG_app]
        show _ + cntG (gd kvs z + off) [gd kvs z + off] ≤ _
        rw [cntG_cons, if_neg (Int.lt_irrefl _)]
        show _ + (0 + 0) ≤ _
        omega
    have h3 : cntG (gd kvs z + off) (kvs.map (·.2)) = cntG (gd kvs z + off) ((Lf kvs).map (·.2)) := cntG_perm ((fallB_perm kvs).map (·.2)).symm
    have h4 : cntG (gd kvs z + off) ((Lf kvs).map (·.2)) ≤ cntG (gd T z) ((Lf kvs).map fun e => gd T e.1) := cnt_mono fun e he h => by
      have := t.lo e.1
      rw [gd_in nd (lf_mem.mp he)] at this
      omega
    have := cntG_nn (gd T z) (frZ kvs T)
    omega
  · -- the greatest
    have eH : highE kvs m off (.place z) = 1 + cntG (gd (namedZ kvs (planP kvs m off z).1) z) (bagZ (namedZ kvs (planP kvs m off z).1) (planP kvs m off z).2) := place_worth fun e he => by have := (po.2.pos e he).2; omega
    rw [eH, eT, bT]
    have lnd := lf_nd nd
    obtain ⟨h1, h2⟩ := pass_count (off := off) (mine := gd kvs z) (z := z) hm0 o0 (L := Lf kvs) (x := ([(z, 0)], m - sumC kvs)) lnd a1 fun e he hz => by
      show gd [(z, 0)] e.1 = 0
      exact gd_zero (fun f hf => by rw [List.mem_singleton.mp hf]) _
    have hf := passZ_left (off := off) (mine := gd kvs z) z (Lf kvs) ([(z, 0)], m - sumC kvs) a1
    have tnd : ∀ (ys : Ct) (x : Ct × Int), NdZ x.1 → NdZ (passZ off (gd kvs z) z ys x).1 := by
      intro ys
      induction ys with
      | nil => exact fun _ h => h
      | cons y ys ih =>
        intro x h
        refine ih _ ?_
        split
        · exact putZ_nd h
        · exact h
    have tn := tnd (Lf kvs) ([(z, 0)], m - sumC kvs) (by unfold NdZ; simp)
    have gz : gd (namedZ kvs (planP kvs m off z).1) z = gd kvs z := by
      show gd (namedZ kvs (passZ off (gd kvs z) z (Lf kvs) ([(z, 0)], m - sumC kvs)).1) z = _
      rw [gd_named tn, h2 z (.inr rfl)]
      have gz0 : gd [(z, (0 : Int))] z = 0 := gd_zero (fun f hf => by rw [List.mem_singleton.mp hf]) z
      show gd kvs z + gd [(z, 0)] z = _
      omega
    rw [gz, bagZ_cnt hm0]
    -- what the plan has at least
    have hplan : plZ off (gd kvs z) (((Lf kvs).filter fun e => !decide (e.1 = z)).map (·.2)) (m - sumC kvs) ≤ cntG (gd kvs z) ((namedZ kvs (planP kvs m off z).1).map (·.2)) + cntG (gd kvs z) (exZ (planP kvs m off z).2) := by
      rw [← h1]
      have p1 := parts_cnt (mine := gd kvs z) (off := off) hf.1 hm0
      have p2 := cnt_names (c := gd kvs z) hm0 (zs := ((Lf kvs).filter fun e => !decide (e.1 = z)).map (·.1)) (d := namedZ kvs (planP kvs m off z).1) (lnd.sublist (List.Sublist.map _ List.filter_sublist))
      rw [List.map_map] at p2
      have p3 : (((Lf kvs).filter fun e => !decide (e.1 = z)).map ((gd (namedZ kvs (planP kvs m off z).1)) ∘ fun e => e.1)) = (((Lf kvs).filter fun e => !decide (e.1 = z)).map fun e => e.2 + gd (passZ off (gd kvs z) z (Lf kvs) ([(z, 0)], m - sumC kvs)).1 e.1) := List.map_congr_left fun e he => by
        show gd (namedZ kvs (passZ off (gd kvs z) z (Lf kvs) ([(z, 0)], m - sumC kvs)).1) e.1 = _
        rw [gd_named tn, gd_in nd (lf_mem.mp (List.mem_filter.mp he).1)]
      rw [p3] at p2
      have p4 : cntG (gd kvs z) (exZ (planP kvs m off z).2) = cntG (gd kvs z) (exZ (partedZ (passZ off (gd kvs z) z (Lf kvs) ([(z, 0)], m - sumC kvs)).2 (mnI (gd kvs z + 1) off))) := rfl
      omega
    -- what a truth has at most
    have q1 : cntG (gd T z) ((Lf kvs).map fun e => gd T e.1) = cntG (gd T z) (((Lf kvs).filter fun e => !decide (e.1 = z)).map fun e => gd T e.1) := cnt_filter fun e he h => by
      have : e.1 = z := by simpa using h
      rw [this]
      exact Int.lt_irrefl _
    have q2 : cntG (gd T z) (frZ kvs T) = cntG (gd T z) (((T.filter fun e => !decide (e.1 ∈ kvs.map (·.1))).filter fun e => !decide (e.1 = z)).map (·.2)) := cnt_filter fun e he h => by
      have h : e.1 = z := by simpa using h
      rw [← h, gd_in t.nd (List.mem_filter.mp he).1]
      exact Int.lt_irrefl _
    have q3 : cntG (gd T z) (((Lf kvs).filter fun e => !decide (e.1 = z)).map fun e => gd T e.1) ≤ cntG (gd kvs z) (((Lf kvs).filter fun e => !decide (e.1 = z)).map fun e => gd T e.1) := cnt_mono fun e _ h => by omega
    have q4 : cntG (gd T z) (((T.filter fun e => !decide (e.1 ∈ kvs.map (·.1))).filter fun e => !decide (e.1 = z)).map (·.2)) ≤ cntG (gd kvs z) (((T.filter fun e => !decide (e.1 ∈ kvs.map (·.1))).filter fun e => !decide (e.1 = z)).map (·.2)) := cnt_mono fun e _ h => by omega
    have hz2 : ∀ l : Ct, (∀ e ∈ l, e.2 = gd kvs e.1) → List.zipWith (· + ·) (l.map (·.2)) (l.map fun e => gd T e.1 - gd kvs e.1) = l.map fun e => gd T e.1 := by
      intro l
      induction l with
      | nil => intro _; rfl
      | cons e l ih =>
        intro h
        rw [List.map_cons, List.map_cons, List.map_cons, List.zipWith_cons_cons, ih fun x hx => h x (List.mem_cons_of_mem _ hx)]
        have := h e List.mem_cons_self
        rw [show e.2 + (gd T e.1 - gd kvs e.1) = gd T e.1 by omega]
    have q5 := plZ_best (off := off) (mine := gd kvs z) hm0 o0 (L := ((Lf kvs).filter fun e => !decide (e.1 = z)).map (·.2)) (t := ((Lf kvs).filter fun e => !decide (e.1 = z)).map fun e => gd T e.1 - gd kvs e.1) (f := ((T.filter fun e => !decide (e.1 ∈ kvs.map (·.1))).filter fun e => !decide (e.1 = z)).map (·.2)) (S := m - sumC kvs)
      (fun b hb => by
        obtain ⟨e, he, rfl⟩ := List.mem_map.mp hb
        have := pos e (lf_mem.mp (List.mem_filter.mp he).1)
        omega) (by
        have := fallB_fall kvs
        unfold Fall at this ⊢
        exact this.sublist (List.Sublist.map _ List.filter_sublist)) (by rw [List.length_map, List.length_map]) (fun x hx => by
        obtain ⟨e, he, rfl⟩ := List.mem_map.mp hx
        have := t.lo e.1
        have := t.hi e.1
        omega) (fun x hx => by
        obtain ⟨e, he, rfl⟩ := List.mem_map.mp hx
        have : e.2 ∈ frZ kvs T := List.mem_map.mpr ⟨e, (List.mem_filter.mp he).1, rfl⟩
        have := fr_ok t _ this
        omega) (by
        have s1 := sum_filter_le (f := fun e : Str × Int => gd T e.1 - gd kvs e.1) (p := fun e => !decide (e.1 = z)) (l := Lf kvs) fun e _ => by have := t.lo e.1; omega
        have s2 := sum_filter_le (f := fun e : Str × Int => e.2) (p := fun e => !decide (e.1 = z)) (l := T.filter fun e => !decide (e.1 ∈ kvs.map (·.1))) fun e he => by have := t.pos e (List.mem_filter.mp he).1; omega
        have s3 := tru_sum nd pos t
        have s4 : tsZ kvs T = (Lf kvs).map fun e => gd T e.1 - gd kvs e.1 := rfl
        have s5 : frZ kvs T = (T.filter fun e => !decide (e.1 ∈ kvs.map (·.1))).map fun e => e.2 := rfl
        rw [s4, s5] at s3
        omega)
    rw [hz2 _ fun e he => (gd_in nd (lf_mem.mp (List.mem_filter.mp he).1)).symm] at q5
    omega
/-- THE BOUNDS: no truth's value is less than the least, none more than the greatest -/
theorem bound_ends (g : SkG r m off kvs) (t : TruZ kvs m off T) (x : Qn) (hx : QnOk x) : lowE kvs m off x ≤ worthZ T [] x ∧ worthZ T [] x ≤ highE kvs m off x := by
  cases x with
  | count z => exact bound_named g t _ hx (.inl ⟨z, rfl⟩)
  | lot zs => exact bound_named g t _ hx (.inr (.inl ⟨zs, rfl⟩))
  | apart y z => exact bound_named g t _ hx (.inr (.inr ⟨y, z, rfl⟩))
  | place z => exact bound_place g t z hx
  | first j => exact bound_all g t _ hx (.inr (.inr ⟨j, rfl⟩))
  | unlike => exact bound_all g t _ hx (.inl rfl)
  | squares => exact bound_all g t _ hx (.inr (.inl rfl))
end
end Kb

namespace Kb
open PySem PySem.Spec PyProof.Rows L2 SrtZ SrtO
abbrev Ntree : List Str := ["_law_hand_here", "_law_pool_here", "_law_streams", "_law_most", "_law_steps", "_law_pile", "_law_many", "_law_k", "_law_some", "_law_names", "_law_turn"]
def Vl : Int → List Stp → Prop
  | _, [] => True
  | h, .put _ :: l => Vl (h + 1) l
  | h, .pour :: l => 2 ≤ h ∧ Vl (h - 1) l
theorem vl_at : ∀ {l : List Stp} {h : Int} {i : Nat}, Vl h l → l[i]? = some .pour → 2 ≤ (l.take i).foldl hS h
  | [], _, i, _, e => by simp at e
  | .put zs :: l, h, 0, v, e => by cases e
  | .pour :: l, h, 0, v, _ => v.1
  | .put zs :: l, h, i + 1, v, e => vl_at (l := l) (h := h + 1) v (by simpa using e)
  | .pour :: l, h, i + 1, v, e => vl_at (l := l) (h := h - 1) v.2 (by simpa using e)
theorem vl_app : ∀ {l l' : List Stp} {h : Int}, Vl h l → Vl (l.foldl hS h) l' → Vl h (l ++ l')
  | [], _, _, _, v => v
  | .put zs :: l, l', h, v, w => vl_app (l := l) (h := h + 1) v w
  | .pour :: l, l', h, v, w => ⟨v.1, vl_app (l := l) (h := h - 1) v.2 w⟩
theorem vl_pours : ∀ (n : Nat) (h : Int), (n : Int) + 1 ≤ h → Vl h (List.replicate n .pour) ∧ (List.replicate n Stp.pour).foldl hS h = h - n
  | 0, h, _ => ⟨trivial, by show h = h - 0; omega⟩
  | n + 1, h, hn => by
    obtain ⟨a, b⟩ := vl_pours n (h - 1) (by omega)
    refine ⟨⟨by omega, a⟩, ?_⟩
    show (List.replicate n Stp.pour).foldl hS (h - 1) = _
    rw [b]
    omega
theorem cs_pours : ∀ (n : Nat) (m : Int), (List.replicate n Stp.pour).foldl cS m = m
  | 0, _ => rfl
  | n + 1, m => cs_pours n m
/-- a tree as it is being drawn -/
structure Gr (Pn : Str → Prop) (i : Nat) (pile : Int) (l : List Stp) : Prop where
  vl : Vl 0 l
  ht : hgt l = pile
  pos : 1 ≤ i → 1 ≤ pile
  few : mny l ≤ 40 * i
  len : (l.length : Int) = 2 * i - pile
  nm : ∀ zs, .put zs ∈ l → ∀ z ∈ zs, Pn z
theorem gr0 {Pn : Str → Prop} : Gr Pn 0 0 [] := ⟨trivial, rfl, fun h => absurd h (by decide), Int.le_refl _, rfl, fun _ h => nomatch h⟩
theorem gr_put {Pn : Str → Prop} {i : Nat} {pile : Int} {l : List Stp} {zs : List Str} (g : Gr Pn i pile l) (hp : 0 ≤ pile) (hz : ∀ z ∈ zs, Pn z) (hl : zs.length ≤ 40) : Gr Pn (i + 1) (pile + 1) (l ++ [.put zs]) := by
  obtain ⟨vl, ht, pos, few, len, nm⟩ := g
  refine ⟨vl_app vl (by trivial), ?_, fun _ => by omega, ?_, ?_, fun ys hy => ?_⟩
  · unfold hgt at ht ⊢
    rw [List.foldl_append, ht]
    rfl
  · unfold mny at few ⊢
    rw [List.foldl_append]
    show l.foldl cS 0 + (zs.length : Nat) ≤ _
    push_cast
    omega
  · rw [List.length_append, List.length_singleton]
    push_cast
    omega
  · rcases List.mem_append.mp hy with h | h
    · exact nm ys h
    · rcases List.mem_singleton.mp h with h
      cases h
      exact hz
theorem gr_pours {Pn : Str → Prop} {i : Nat} {pile : Int} {l : List Stp} (g : Gr Pn i pile l) (n : Nat) (hn : (n : Int) + 1 ≤ pile) : Gr Pn i (pile - n) (l ++ List.replicate n .pour) := by
  obtain ⟨vl, ht, pos, few, len, nm⟩ := g
  have hh : l.foldl hS 0 = pile := ht
  obtain ⟨a, b⟩ := vl_pours n (l.foldl hS 0) (by rw [hh]; exact hn)
  refine ⟨vl_app vl a, ?_, fun h => by omega, ?_, ?_, fun ys hy => ?_⟩
  · unfold hgt
    rw [List.foldl_append, b, hh]
  · unfold mny at few ⊢
    rw [List.foldl_append, cs_pours]
    exact few
  · rw [List.length_append, List.length_replicate]
    push_cast
    omega
  · rcases List.mem_append.mp hy with h | h
    · exact nm ys h
    · cases (List.eq_of_mem_replicate h)
theorem gr_tree {Pn : Str → Prop} {i : Nat} {l : List Stp} (g : Gr Pn i 1 l) (hi : i ≤ 100) : Tree l := by
  obtain ⟨vl, ht, pos, few, len, nm⟩ := g
  exact ⟨fun j e => vl_at vl e, ht, by omega, by omega⟩
theorem sq_upd {K : PySem.W.Frag} {H : Hp} {a t : Addr} {xs ys : List V} {u : HO} (h : SqT K H a xs) (ht : H t = some (.lst ys)) : SqT K (upd H t u) a xs := by
  rcases h with (h | ⟨o, h⟩) | h
  · exact .inl (.inl (by rw [upd_ne (ne_of h ht (by intro z; cases z))]; exact h))
  · exact .inl (.inr ⟨o, by rw [upd_ne (ne_of h ht (by intro z; cases z))]; exact h⟩)
  · exact .inr h
theorem StpAt.put {K : PySem.W.Frag} {H : Hp} {t : Addr} {ys : List V} {u : HO} {v : V} {st : Stp} (h : StpAt K H v st) (ht : H t = some (.lst ys)) : StpAt K (upd H t u) v st := by
  cases st with
  | put zs =>
    obtain ⟨a, b, e, h1, h2, r⟩ := h
    exact ⟨a, b, e, sq_upd h1 ht, sq_upd h2 ht, r⟩
  | pour =>
    obtain ⟨a, e, h1⟩ := h
    exact ⟨a, e, sq_upd h1 ht⟩
theorem paired_rep {α β : Type} {F : α → β → Prop} {x : α} {y : β} (h : F x y) : ∀ n : Nat, Paired F (List.replicate n x) (List.replicate n y)
  | 0 => .nil
  | n + 1 => .cons h (paired_rep h n)
theorem rep_flat (n : Nat) (v : V) : (List.replicate n [v]).flatten = List.replicate n v := by
  induction n with
  | zero => rfl
  | succ n ih => rw [List.replicate_succ, List.flatten_cons, ih]; rfl
section
variable {P : Program} {w : World} {K : PySem.W.Frag} {mg : Str → Option Value} {base : Heap}
theorem StpAt.exw {a c : Addr} {H H' : Hp} {v : V} {t : Stp} (h : StpAt K H v t) (x : Exw a H H') (w0 : Wl a c H) : StpAt K H' v t := by
  cases t with
  | put zs =>
    obtain ⟨a, b, e, h1, h2, r⟩ := h
    exact ⟨a, b, e, x.tup w0 h1, x.tup w0 h2, r⟩
  | pour =>
    obtain ⟨a, e, h1⟩ := h
    exact ⟨a, e, x.tup w0 h1⟩
/-! _law_tree -/
def spTree (K : PySem.W.Frag) : Sp := fun vs H Q _ => ∃ (a c l : Addr) (ns : List Str) (lv : Nat) (m : Int), vs = [.ref a, .ref l, .int (lv : Int), .int m] ∧ Wl a c H ∧ l ≠ a ∧ H l = some (.lst (ns.map V.str)) ∧ 0 < ns.length ∧ ns.length ≤ 1000 ∧ (∀ z ∈ ns, Nm z) ∧ 1 ≤ lv ∧ lv ≤ 40 ∧ 0 ≤ m ∧ m ≤ 40 ∧
  ∀ H' t (i : Nat) (st : List Stp), Exw a H H' → Wl a c H' → H t = none → TreeAt K H' t st → Gr (· ∈ ns) i 1 st → i ≤ lv → Q (.ref t) H'
end
end Kb

/-! plain tuples: slices of them, their sums, turned round -/
namespace L2
open PySem PySem.Spec PyProof.Rows HT
section
variable {prog : Program} {w : World} {A : Around} {E : Value → Shared → Prop} {s : Shared}
theorem rev_places (n : Nat) : Builtin.Slice.slicePlaces ((n : Int) - 1) (-1) (-1) = n := by
  unfold Builtin.Slice.slicePlaces
  have h1 : ¬ ((-1 : Int) > 0) := by decide
  simp only [h1, if_false, show (- -1 : Int) = 1 by decide, Int.ediv_one]
  split <;> omega
theorem rev_adjust (n : Nat) : Builtin.Slice.sliceAdjust none none (-1) (n : Int) = ((n : Int) - 1, -1) := by
  unfold Builtin.Slice.sliceAdjust
  simp
theorem sliceApplied_rev {sl : Addr} {vs : Value} {n : Nat} {Q : Int × Int × Nat → Shared → Prop} (hs : s.heap.IsSliceOf sl .none .none vs) (ps : IsPart vs (some (-1)))
    (h : Q (((n : Int) - 1), -1, n) s) : wpAny (model prog w) A (Builtin.Slice.sliceApplied (.ref sl) (pure (n : Int))) Q E s := by
  obtain ⟨os, hos, hcs, hds⟩ := id hs
  unfold Builtin.Slice.sliceApplied Builtin.Slice.sliceFields
  refine wpAny_bind (wpAny_bind (wpAny_field hos hds (x := .none) rfl (wpAny_bind (wpAny_field hos hds (x := .none) rfl (wpAny_bind (wpAny_field hos hds (x := vs) rfl (wpAny_pure ?_)))))))
  refine wpAny_bind (slicePart_ ps ?_)
  show wpAny _ _ (if ((-1 : Int) == 0) = true then _ else _) _ _ s
  rw [if_neg (by decide)]
  refine wpAny_bind (slicePart_none (wpAny_bind (slicePart_none (wpAny_bind (wpAny_pure ?_)))))
  show wpAny _ _ (match Builtin.Slice.sliceAdjust none none (-1) (n : Int) with | (lo, hi) => pure (lo, (-1 : Int), Builtin.Slice.slicePlaces lo hi (-1))) _ _ s
  rw [rev_adjust]
  show wpAny _ _ (pure (((n : Int) - 1), (-1 : Int), Builtin.Slice.slicePlaces ((n : Int) - 1) (-1) (-1))) _ _ s
  rw [rev_places]
  exact wpAny_pure h
theorem fm_congr {α β : Type} {f g : α → Option β} : ∀ {l : List α}, (∀ x ∈ l, f x = g x) → l.filterMap f = l.filterMap g
  | [], _ => rfl
  | x :: l, h => by
    rw [List.filterMap_cons, List.filterMap_cons, h x List.mem_cons_self, fm_congr (l := l) fun y hy => h y (List.mem_cons_of_mem _ hy)]
theorem same_fresh {H : Hp} {p : Addr} {u : HO} (h : H p = none) : Same H (upd H p u) := fun b o e => by
  rw [upd_ne (ne_of_none e h)]
  exact e
theorem rev_pick (xs : Array Value) : ((List.range xs.size).filterMap fun (m : Nat) => xs[(((xs.size : Nat) : Int) - 1 + (m : Int) * (-1)).toNat]?).toArray = xs.toList.reverse.toArray := by
  have e1 : ((List.range xs.size).filterMap fun (m : Nat) => xs[(((xs.size : Nat) : Int) - 1 + (m : Int) * (-1)).toNat]?) = (List.range xs.size).filterMap fun (m : Nat) => xs[xs.size - 1 - m]? := by
    refine fm_congr fun m hm => ?_
    have := List.mem_range.mp hm
    rw [show (((xs.size : Nat) : Int) - 1 + (m : Int) * (-1)).toNat = xs.size - 1 - m by omega]
  rw [e1]
  have e2 : ((List.range xs.size).filterMap fun (m : Nat) => xs[xs.size - 1 - m]?) = ((List.range xs.size).map fun k => xs.size - 1 - k).filterMap (xs[·]?) := by
    rw [List.filterMap_map]
    rfl
  rw [e2, PySem.W.krv_range, List.filterMap_reverse, PySem.W.krv_all]
/-- t[::-1] makes a new tuple: the slice is never the whole, for its step is -1 -/
theorem getItem_tuple_rev {t sl : Addr} {its : Array Value} {step : Value} {Q : Value → Shared → Prop} (isT : IsTup s.heap t its) (isSl : s.heap.IsSliceOf sl .none .none step) (minus : IsPart step (some (-1)))
    (q : Q (.ref s.heap.objs.size) { s with heap := s.heap.push { cls := .type "tuple", data := .seq its.toList.reverse.toArray } }) (small : its.size ≤ sizeLine) : wpAny (model prog w) A (getItem (.ref t) (.ref sl)) Q E s := by
  have fits : sizeOk (.seq its.toList.reverse.toArray) := by
    show its.toList.reverse.toArray.size ≤ _
    simpa using small
  have tySl : s.TypeIs (.ref sl) "slice" := let ⟨o, g, c, _⟩ := isSl; ⟨o, g, c⟩
  have notWhole : (((((its.size : Nat) : Int) - 1) == 0 && (-1 : Int) == 1) && its.size == its.size) = false := by simp
  unfold getItem
  try with_reducible refine wpAny_holding ?_
  try refine wpAny_bind (wpAny_pure ?_)
  refine wpAny_bind (wpAny_sequenceKey isT.typeIs (by decide) (wpAny_bind (wpAny_callSpecial?_slot (name := Str.ofString "__getitem__") isT.typeIs PyProof.Rows.slot_tuple_getitem (wpAny_call_entry PyProof.Rows.slot_tuple_getitem isT.typeIs entry_tuple_getitem ?_ (args_tuple_getitem _ _)))))
  show wpAny _ _ (Builtin.Tuple.tupleItemsOf (.ref t) >>= _) _ _ s
  refine wpAny_bind (tupleItemsOf_ isT (wpAny_bind (wpAny_typeOf tySl ?_)))
  rw [if_pos (by decide)]
  refine wpAny_bind (sliceApplied_rev isSl minus ?_)
  show wpAny _ _ (if ((((its.size : Nat) : Int) - 1) == 0 && (-1 : Int) == 1 && its.size == its.size) = true then _ else _) _ _ s
  rw [notWhole, if_neg (by decide), rev_pick]
  first
    | exact wpAny_bind (m := Builtin.Tuple.tupleExact _) (wpAny_newObj_type (wpAny_pure ⟨_, rfl, wpAny_pure q⟩) fits)
    | exact wpAny_bind (wpAny_bind (m := Builtin.Tuple.tupleExact _) (wpAny_newObj_type (wpAny_pure (wpAny_pure ⟨_, rfl, wpAny_pure q⟩)) fits))
    | exact wpAny_bind (wpAny_bind (m := Builtin.Tuple.tupleExact _) (wpAny_newObj_type (wpAny_pure ⟨_, rfl, wpAny_pure q⟩) fits))
end
section
variable {X : Cx}
/-- t[::-1], a plain tuple -/
def tRevP (K : PySem.W.Frag) (te : TE) : TE := fun σ H Q => te σ H fun x H1 => ∃ a xs, x = .ref a ∧ SqT K H1 a xs ∧ ∀ p H', Same H1 H' → Ptp H' p xs.reverse → Q (.ref p) H'
theorem pe_revP {e : Expr} {te : TE} {k : Nat} {p1 p2 p3 pos : Pos} (he : PE X e te) : PE X (.Subscript e (.Slice none none (some (.UnaryOp .USub (.Constant (.int 1) k p1) p2)) p3) pos) (tRevP X.K te) := by
  refine ⟨fun pins s σ H Q I h => ?_⟩
  refine Subscript_ (thn (he.run pins s σ H _ I h) fun v s1 ⟨x, H1, I1, r1, q1⟩ => ?_)
  obtain ⟨a, xs, ex, hx, q⟩ := q1
  subst ex
  cases r1
  have hst : PO X (some (.UnaryOp .USub (.Constant (.int 1) k p1) p2)) (tPart (tUn (rU fun i => .int (-i)) (tC (.int 1)))) := po_some (pe_un un_neg pe_int)
  refine wpAny_Slice (thn (po_none.run pins s1 σ H1 (fun o H2 => o = none ∧ H2 = H1) I1 ⟨rfl, rfl⟩) fun vl s2 ⟨l, H2, I2, pl, el, e2⟩ => ?_)
  subst el e2
  refine thn (po_none.run pins s2 σ H2 (fun o H3 => o = none ∧ H3 = H2) I2 ⟨rfl, rfl⟩) fun vu s3 ⟨u, H3, I3, pu, eu, e3⟩ => ?_
  subst eu e3
  refine thn (hst.run pins s3 σ H3 (fun o H4 => o = some (-1) ∧ H4 = H3) I3 ⟨1, rfl, -1, rfl, rfl, rfl⟩) fun vs s4 ⟨o, H4, I4, ps, eo, e4⟩ => ?_
  subst eo e4
  cases pl
  cases pu
  have I5 : Inv X pins σ H4 { s4 with heap := s4.heap.push { cls := .type "slice", data := .fields #[.none, .none, vs] } } := I4.kept (t' := s4.toks) fun b ob q => Heap.get?_push_of_some _ q
  obtain ⟨its, r, ht, hz⟩ := I5.tuple hx
  have hlen := r.length
  show wpAny (model X.prog X.w) X.A (subscriptTail e (.Slice none none (some (.UnaryOp .USub (.Constant (.int 1) k p1) p2)) p3) (.ref a) (.ref s4.heap.objs.size)) (EP X pins σ Q) X.xe { s4 with heap := s4.heap.push { cls := .type "slice", data := .fields #[.none, .none, vs] } }
  refine tail_any (ops := [.ref a, .ref s4.heap.objs.size]) ht.typeIs (PyProof.Rows.slot_tuple_getitem.lookup) ?_ (by with_unfolding_all rfl)
  refine getItem_tuple_rev ht (Heap.IsSliceOf.new _ .none .none vs) ps ?_ (by rw [List.size_toArray]; omega)
  have hf := I5.hok.fresh (Nat.le_refl _)
  refine ⟨.ref _, _, I5.laid (t' := s4.toks) (o := .frz { cls := .type "tuple", data := .seq its.reverse.toArray } (.tup xs.reverse)) (fun b ob q => Heap.get?_push_of_some _ q) (Nat.le_refl _) ?_, rfl, q _ _ (same_fresh hf) ⟨_, upd_same, rfl⟩⟩
  exact ⟨Heap.get?_push_size _ rfl, by rw [List.length_reverse]; exact hz, _, r.reverse, ⟨_, Heap.get?_push_size _ rfl, rfl, _, rfl⟩⟩
/-- t[lo:hi], t a plain tuple: a plain tuple -/
def rSlP (K : PySem.W.Frag) : V → Option Int → Option Int → Hp → VK → Prop := fun x lo hi H Q => ∃ a xs, x = .ref a ∧ Ptp H a xs ∧ ∀ p H', Same H H' → Ptp H' p (cutV xs lo hi) → Q (.ref p) H'
theorem cutV_whole {xs : List V} {lo hi : Option Int} (h : HT.sIx xs.length 0 lo = 0 ∧ HT.sIx xs.length xs.length hi = xs.length) : cutV xs lo hi = xs := by
  unfold cutV
  rw [h.1, h.2, List.drop_zero, Nat.sub_zero, List.take_length]
theorem sl_tupP : SlR X (rSlP X.K) := by
  intro pins s σ H x v vl vu lo hi sl Q I rx hs pl pu h
  obtain ⟨a, xs, rfl, hx, q⟩ := h
  by_cases hw : HT.sIx xs.length 0 lo = 0 ∧ HT.sIx xs.length xs.length hi = xs.length
  · exact sl_tupA pins s σ H _ v vl vu lo hi sl Q I rx hs pl pu ⟨a, xs, rfl, hx.seq, fun _ => q a H (Same.refl H) (by rw [cutV_whole hw]; exact hx), fun n => absurd hw n⟩
  · cases rx
    obtain ⟨its, r, ht, hz⟩ := I.tuple hx.seq
    have hlen : its.toArray.size = xs.length := by rw [List.size_toArray]; exact r.length.symm
    refine ⟨"tuple", _, PyProof.Rows.slot_tuple_getitem.lookup, ht.typeIs, ?_⟩
    refine HT.getItem_tuple_cut ht hs pl pu (by rw [hlen]; exact hw) ?_ (by rw [hlen]; exact hz)
    rw [hlen]
    have hf := I.hok.fresh (Nat.le_refl _)
    refine ⟨.ref s.heap.objs.size, _, I.laid (t' := s.toks) (o := .frz { cls := .type "tuple", data := .seq ((its.drop (HT.sIx xs.length 0 lo)).take (HT.sIx xs.length xs.length hi - HT.sIx xs.length 0 lo)).toArray } (.tup (cutV xs lo hi))) (fun b ob q => Heap.get?_push_of_some _ q) (Nat.le_refl _) ?_, rfl, q _ _ (same_fresh hf) ⟨_, upd_same, rfl⟩⟩
    exact ⟨Heap.get?_push_size _ rfl, Nat.le_trans (cutV_length xs lo hi) hz, _, (r.drop (HT.sIx xs.length 0 lo)).take (HT.sIx xs.length xs.length hi - HT.sIx xs.length 0 lo), ⟨_, Heap.get?_push_size _ rfl, rfl, _, rfl⟩⟩
/-- t + u, plain tuples: a plain tuple -/
def rCatP (K : PySem.W.Frag) : R2 := fun x y H Q => ∃ a b xs ys, x = .ref a ∧ y = .ref b ∧ Ptp H a xs ∧ Ptp H b ys ∧ xs.length + ys.length ≤ sizeLine ∧ ∀ p H', Same H H' → Ptp H' p (xs ++ ys) → Q (.ref p) H'
theorem op_catP : OpR X (binaryOp .Add) (rCatP X.K) := by
  intro pins s σ H x y v u Q I rx ry h
  obtain ⟨a, b, xs, ys, rfl, rfl, ha, hb, hz, q⟩ := h
  by_cases hx : xs = []
  · subst hx
    exact op_catA pins s σ H _ _ v u Q I rx ry ⟨a, b, [], ys, rfl, rfl, ha.seq, hb.seq, hz, fun _ => q b H (Same.refl H) hb, fun n => absurd rfl n, fun n => absurd rfl n⟩
  · cases rx
    cases ry
    obtain ⟨its, r1, p1, _⟩ := I.tuple ha.seq
    obtain ⟨its2, r2, p2, _⟩ := I.tuple hb.seq
    refine HT.cat_tup p1 p2 (fun z => hx (r1.nil_iff.mp z)) (fun z => ⟨.ref a, H, I, rfl, q a H (Same.refl H) (by rw [r2.nil_iff.mp z, List.append_nil]; exact ha)⟩) (fun z => ?_) (by rw [← r1.length, ← r2.length]; exact hz)
    have hf := I.hok.fresh (Nat.le_refl _)
    refine ⟨.ref s.heap.objs.size, _, I.laid (t' := s.toks) (o := .frz { cls := .type "tuple", data := .seq (its ++ its2).toArray } (.tup (xs ++ ys))) (fun b ob q => Heap.get?_push_of_some _ q) (Nat.le_refl _) ?_, rfl, q _ _ (same_fresh hf) ⟨_, upd_same, rfl⟩⟩
    exact ⟨Heap.get?_push_size _ rfl, by rw [List.length_append]; exact hz, _, r1.append r2, ⟨_, Heap.get?_push_size _ rfl, rfl, _, rfl⟩⟩
end
end L2

namespace Kb
open PySem PySem.Spec PyProof.Rows L2 SrtZ SrtO
abbrev Nlost : List Str := ["_law_sketch_here", "_law_name", "_law_count"]
abbrev Ntruth : List Str := ["_law_hand_here", "_law_sketch_here", "_law_fresh", "_law_taken", "_law_left", "_law_names", "_law_turn", "_law_more", "_law_counts", "_law_name", "_law_count"]
/-! mathematics: what is taken -/
def min3 (i j k : Int) : Int := if k < (if j < i then j else i) then k else (if j < i then j else i)
theorem nuMin3_int (i j k : Int) : nuMin3 (.int i) (.int j) (.int k) = some (.int (min3 i j k)) := by
  unfold nuMin3 min3
  by_cases h : j < i
  · have e : nuMin2 (.int i) (.int j) = some (.int j) := by
      show ((some (decide (j < i))).map fun c => if c = true then V.int j else V.int i) = _
      rw [decide_eq_true h]
      rfl
    rw [e, if_pos h]
    show ((some (decide (k < j))).map fun c => if c = true then V.int k else V.int j) = _
    by_cases h2 : k < j
    · rw [decide_eq_true h2, if_pos h2]
      rfl
    · rw [decide_eq_false h2, if_neg h2]
      rfl
  · have e : nuMin2 (.int i) (.int j) = some (.int i) := by
      show ((some (decide (j < i))).map fun c => if c = true then V.int j else V.int i) = _
      rw [decide_eq_false h]
      rfl
    rw [e, if_neg h]
    show ((some (decide (k < i))).map fun c => if c = true then V.int k else V.int i) = _
    by_cases h2 : k < i
    · rw [decide_eq_true h2, if_pos h2]
      rfl
    · rw [decide_eq_false h2, if_neg h2]
      rfl
theorem sumC_nn : ∀ {t : Ct}, (∀ e ∈ t, 0 ≤ e.2) → 0 ≤ sumC t
  | [], _ => Int.le_refl _
  | e :: t, h => by
    rw [sumC_cons']
    have := h e List.mem_cons_self
    have := sumC_nn (t := t) fun f hf => h f (List.mem_cons_of_mem _ hf)
    omega
theorem gd_cons (e : Str × Int) (t : Ct) (k : Str) : gd (e :: t) k = if e.1 = k then e.2 else gd t k := by
  unfold gd
  rw [getZ_cons]
  split <;> rfl
theorem gd_out {t : Ct} {k : Str} (h : k ∉ t.map (·.1)) : gd t k = 0 := by
  unfold gd
  rw [getZ_none.mpr h]
  rfl
/-- without a name -/
def wo (n : Str) (t : Ct) : Ct := t.filter fun e => !decide (e.1 = n)
theorem wo_out {n : Str} : ∀ {t : Ct}, n ∉ t.map (·.1) → wo n t = t
  | [], _ => rfl
  | e :: t, h => by
    rw [List.map_cons, List.mem_cons, not_or] at h
    unfold wo
    rw [List.filter_cons_of_pos (by simpa using fun z => h.1 z.symm)]
    exact congrArg _ (wo_out (t := t) h.2)
theorem wo_sum {n : Str} : ∀ {t : Ct}, NdZ t → sumC (wo n t) = sumC t - gd t n
  | [], _ => by show (0 : Int) = 0 - 0; rfl
  | e :: t, nd => by
    unfold NdZ at nd
    rw [List.map_cons, List.nodup_cons] at nd
    by_cases h : e.1 = n
    · have hn : n ∉ t.map (·.1) := by rw [← h]; exact nd.1
      have : wo n (e :: t) = wo n t := by
        unfold wo
        rw [List.filter_cons_of_neg (by simp [h])]
      rw [this, wo_out hn, sumC_cons', gd_cons, if_pos h]
      omega
    · have : wo n (e :: t) = e :: wo n t := by
        unfold wo
        rw [List.filter_cons_of_pos (by simpa using h)]
      rw [this, sumC_cons', sumC_cons', gd_cons, if_neg h, wo_sum nd.2]
      omega
theorem wo_gd {n k : Str} (h : ¬ k = n) : ∀ t : Ct, gd (wo n t) k = gd t k
  | [] => rfl
  | e :: t => by
    by_cases hn : e.1 = n
    · have : wo n (e :: t) = wo n t := by
        unfold wo
        rw [List.filter_cons_of_neg (by simp [hn])]
      rw [this, gd_cons, if_neg (fun z => h (z.symm.trans hn)), wo_gd h t]
    · have : wo n (e :: t) = e :: wo n t := by
        unfold wo
        rw [List.filter_cons_of_pos (by simpa using hn)]
      rw [this, gd_cons, gd_cons, wo_gd h t]
theorem wo_nd {n : Str} {t : Ct} (nd : NdZ t) : NdZ (wo n t) := by
  unfold NdZ wo
  exact nd.sublist (List.Sublist.map _ List.filter_sublist)
theorem full_sum {o : Int} : ∀ {ns : List Str} {t : Ct}, ns.Nodup → NdZ t → (∀ e ∈ t, 0 ≤ e.2) → (∀ n ∈ ns, gd t n = o) → (ns.length : Int) * o ≤ sumC t
  | [], t, _, _, nn, _ => by
    have := sumC_nn nn
    show ((0 : Nat) : Int) * o ≤ _
    rw [Int.natCast_zero, Int.zero_mul]
    exact this
  | n :: ns, t, hn, nd, nn, h => by
    rw [List.nodup_cons] at hn
    have ih := full_sum (o := o) (ns := ns) (t := wo n t) hn.2 (wo_nd nd) (fun e he => nn e (List.mem_filter.mp he).1) fun k hk => by
      rw [wo_gd (n := n) (k := k) (fun z => hn.1 (by rw [← z]; exact hk)) t]
      exact h k (List.mem_cons_of_mem _ hk)
    rw [wo_sum nd, h n List.mem_cons_self] at ih
    show ((ns.length + 1 : Nat) : Int) * o ≤ sumC t
    push_cast
    rw [Int.add_mul, Int.one_mul]
    omega
theorem nodup_len : ∀ {l m : List Str}, l.Nodup → (∀ x ∈ l, x ∈ m) → l.length ≤ m.length
  | [], _, _, _ => Nat.zero_le _
  | x :: l, m, nd, h => by
    rw [List.nodup_cons] at nd
    have hx := h x List.mem_cons_self
    have ih := nodup_len (l := l) (m := m.erase x) nd.2 fun y hy => (List.mem_erase_of_ne (fun z => nd.1 (by rw [← z]; exact hy))).mpr (h y (List.mem_cons_of_mem _ hy))
    rw [List.length_erase_of_mem hx] at ih
    have := List.length_pos_of_mem hx
    show l.length + 1 ≤ m.length
    omega
/-- what is taken so far, and what is left -/
structure Tk (ns : List Str) (o lost : Int) (t : Ct) (left : Int) : Prop where
  nd : NdZ t
  ins : ∀ e ∈ t, e.1 ∈ ns
  nn : ∀ e ∈ t, 0 ≤ e.2
  le : ∀ k, gd t k ≤ o
  sum : left = lost - sumC t
  pos : 0 ≤ left
theorem gd_nn {t : Ct} (nn : ∀ e ∈ t, 0 ≤ e.2) (k : Str) : 0 ≤ gd t k := by
  unfold gd
  cases h : getZ t k with
  | none => exact Int.le_refl _
  | some v => exact nn _ (getZ_in h)
theorem Tk.zero {ns : List Str} {o lost : Int} (h0 : 0 ≤ o) (hl : 0 ≤ lost) : Tk ns o lost [] lost := ⟨List.nodup_nil, (fun _ h => nomatch h), (fun _ h => nomatch h), fun k => h0, by show lost = lost - 0; omega, hl⟩
theorem Tk.more {ns : List Str} {o lost : Int} {t : Ct} {left more : Int} {n : Str} (h : Tk ns o lost t left) (hn : n ∈ ns) (m0 : 0 ≤ more) (m1 : more ≤ left) (m2 : more ≤ o - gd t n) : Tk ns o lost (addZ t n more) (left - more) := by
  refine ⟨addZ_nd h.nd, fun e he => ?_, fun e he => ?_, fun k => ?_, ?_, by omega⟩
  · rcases putZ_mem he with he | rfl
    · exact h.ins e he
    · exact hn
  · rcases putZ_mem he with he | rfl
    · exact h.nn e he
    · have := gd_nn h.nn n
      unfold gd at this
      show 0 ≤ (getZ t n).getD 0 + more
      omega
  · rw [gd_add]
    have := h.le k
    by_cases e : k = n
    · rw [if_pos e, e]
      omega
    · rw [if_neg e]
      omega
  · rw [sumC_add h.nd, h.sum]
    omega
theorem Tk.len {ns : List Str} {o lost : Int} {t : Ct} {left : Int} (h : Tk ns o lost t left) : t.length ≤ ns.length := by
  have hs : (t.map (·.1)).length ≤ ns.length := by
    refine nodup_len h.nd fun k hk => ?_
    obtain ⟨e, he, rfl⟩ := List.mem_map.mp hk
    exact h.ins e he
  rw [List.length_map] at hs
  exact hs
theorem take0_gd {t : Ct} (nd : NdZ t) (nn : ∀ e ∈ t, 0 ≤ e.2) (k : Str) : gd (takeZ 0 t) k = gd t k := by
  unfold gd
  rw [getZ_take nd]
  cases h : getZ t k with
  | none => rfl
  | some v =>
    have := nn _ (getZ_in h)
    show ((if (0 : Int) < v then some (v - 0) else none).getD 0) = v
    have : (0 : Int) ≤ v := this
    split
    · show v - 0 = v; omega
    · show 0 = v; omega
theorem take0_sum : ∀ {t : Ct}, (∀ e ∈ t, 0 ≤ e.2) → sumC (takeZ 0 t) = sumC t
  | [], _ => rfl
  | e :: t, h => by
    have ih := take0_sum (t := t) fun f hf => h f (List.mem_cons_of_mem _ hf)
    have h0 := h e List.mem_cons_self
    by_cases hp : 0 < e.2
    · have : takeZ 0 (e :: t) = (e.1, e.2 - 0) :: takeZ 0 t := by
        unfold takeZ
        rw [List.filter_cons_of_pos (by simpa using hp)]
        rfl
      rw [this, sumC_cons', sumC_cons', ih]
      show e.2 - 0 + sumC t = _
      omega
    · have : takeZ 0 (e :: t) = takeZ 0 t := by
        unfold takeZ
        rw [List.filter_cons_of_neg (by simpa using hp)]
      rw [this, sumC_cons', ih]
      omega
/-- a truth of a sketch -/
structure TrOf (x : Tl) (ys : Ct) : Prop where
  asc : Asc ys
  nd : NdZ ys
  pos : ∀ e ∈ ys, 1 ≤ e.2
  nm : ∀ e ∈ ys, Nm e.1
  lo : ∀ k, gd x.c k ≤ gd ys k
  hi : ∀ k, gd ys k - gd x.c k ≤ x.o
  sum : sumC ys = x.m
theorem TrOf.of_taken {ns : List Str} {x : Tl} {r : Int} {t : Ct} (ok : TlOk r x) (h : Tk ns x.o (x.m - sumC x.c) t 0) (hn : ∀ n ∈ ns, Nm n) : TrOf x (takeZ 0 (srtZ (sumsZ t (srtZ x.c)))) := by
  have okS : TlOk r (skT x) := skT_ok ok
  have ndk : NdZ (srtZ x.c) := srtZ_nd ok.nd
  have nda : NdZ (sumsZ t (srtZ x.c)) := sumsZ_nd ndk
  have nds := srtZ_nd nda
  have sg : ∀ k, gd (srtZ x.c) k = gd x.c k := fun k => by
    unfold gd
    rw [getZ_perm (srtZ_perm x.c) ndk]
  have ga : ∀ k, gd (srtZ (sumsZ t (srtZ x.c))) k = gd x.c k + gd t k := fun k => by
    have : gd (srtZ (sumsZ t (srtZ x.c))) k = gd (sumsZ t (srtZ x.c)) k := by
      unfold gd
      rw [getZ_perm (srtZ_perm _) nds]
    rw [this, gd_sums h.nd, sg]
  have nn : ∀ e ∈ srtZ (sumsZ t (srtZ x.c)), 0 ≤ e.2 := fun e he => by
    have h1 : gd (srtZ (sumsZ t (srtZ x.c))) e.1 = e.2 := by
      unfold gd
      rw [getZ_mem nds he]
      rfl
    rw [ga] at h1
    have := gd_nn h.nn e.1
    have : 0 ≤ gd x.c e.1 := getZ_pos ok.pos
    omega
  refine ⟨takeZ_asc (srtZ_asc nda), takeZ_nd nds, takeZ_pos, takeZ_nm fun e he => ?_, fun k => ?_, fun k => ?_, ?_⟩
  · have he2 := (srtZ_perm _).mem_iff.mp he
    have gen : ∀ {more kvs : Ct}, (∀ e ∈ more, Nm e.1) → (∀ e ∈ kvs, Nm e.1) → ∀ e ∈ sumsZ more kvs, Nm e.1 := sumsZ_nm
    exact gen (fun e he => hn _ (h.ins e he)) okS.nm e he2
  · rw [take0_gd nds nn, ga]
    have := gd_nn h.nn k
    omega
  · rw [take0_gd nds nn, ga]
    have := h.le k
    omega
  · rw [take0_sum nn, sumC_perm' (srtZ_perm _), sumC_sums ndk, sumC_perm' (srtZ_perm x.c)]
    have := h.sum
    omega
end Kb

namespace Kb
open PySem PySem.Spec PyProof.Rows L2 SrtZ SrtO
section
variable {P : Program} {w : World} {K : PySem.W.Frag} {mg : Str → Option Value} {base : Heap}
theorem unlk {H H3 : Hp} {d : Addr} {u : HO} {od : Obj} (hd : H d = some u) (s : Same (upd H d (.frz od u)) H3) : Same H (upd H3 d u) := unlock_same hd s
/-! _law_lost -/
def spLost : Sp := fun vs H Q _ => ∃ (s : Addr) (r : Int) (x : Tl), vs = [.ref s] ∧ SkAt H s r x ∧ x.c.length ≤ 1000 ∧ ∀ H', Same H H' → Q (.int (x.m - sumC x.c)) H'
/-! _law_truth -/
def spTruth : Sp := fun vs H Q _ => ∃ (a c s f : Addr) (r : Int) (x : Tl) (fs : List Str), vs = [.ref a, .ref s, .ref f] ∧ Wl a c H ∧ SkAt H s r x ∧ TlOk r x ∧ x.c.length ≤ 100 ∧ f ≠ a ∧ H f = some (.lst (fs.map V.str)) ∧ fs.length ≤ 700 ∧
  ((srtZ x.c).map (·.1) ++ fs).Nodup ∧ (∀ z ∈ fs, Nm z) ∧ 0 ≤ x.o ∧ x.o < 1000000000 ∧ 0 ≤ x.m - sumC x.c ∧ x.m - sumC x.c ≤ (((srtZ x.c).map (·.1) ++ fs).length : Nat) * x.o ∧
  ∀ H' k (ts : List Addr) (ys : Ct), Exw a H H' → Wl a c H' → H k = none → Ptp H' k (ts.map V.ref) → Paired (PrT H') ts ys → TrOf x ys → ys.length ≤ 900 → Q (.ref k) H'
end
end Kb

namespace Kb
open PySem PySem.Spec PyProof.Rows L2 SrtZ SrtO
/-! things that are judged: a name with an int, a name with a flag, or no pair at all -/
inductive El
  | pr (n : Str) (i : Int)
  | prb (n : Str) (b : Bool)
  | no
def ElAt (K : PySem.W.Frag) (H : Hp) (v : V) : El → Prop
  | .pr n i => ∃ t, v = .ref t ∧ H t = some (.tup [.str n, .int i]) ∧ Nm n
  | .prb n b => ∃ t, v = .ref t ∧ H t = some (.tup [.str n, .bl b]) ∧ Nm n
  | .no => v = .non ∨ (∃ i, v = .int i) ∨ ∃ t, v = .ref t ∧ ((∃ xs, H t = some (.lst xs)) ∨ (∃ kvs, H t = some (.dK kvs)) ∨ ∃ xs, Ptp H t xs ∧ xs.length ≠ 2)
theorem ElAt.same {K : PySem.W.Frag} {H H' : Hp} {v : V} {e : El} (h : ElAt K H v e) (s : Same H H') : ElAt K H' v e := by
  cases e with
  | pr n i =>
    obtain ⟨t, e, h1, h2⟩ := h
    exact ⟨t, e, s _ _ h1, h2⟩
  | prb n b =>
    obtain ⟨t, e, h1, h2⟩ := h
    exact ⟨t, e, s _ _ h1, h2⟩
  | no =>
    rcases h with h | h | ⟨t, e, h⟩
    · exact .inl h
    · exact .inr (.inl h)
    · refine .inr (.inr ⟨t, e, ?_⟩)
      rcases h with ⟨xs, h⟩ | ⟨kvs, h⟩ | ⟨xs, h, l⟩
      · exact .inl ⟨xs, s _ _ h⟩
      · exact .inr (.inl ⟨kvs, s _ _ h⟩)
      · exact .inr (.inr ⟨xs, h.same s, l⟩)
/-- a thing: a tuple of these, or no tuple -/
def ThAt (K : PySem.W.Frag) (H : Hp) (v : V) : Option (List El) → Prop
  | some es => ∃ a vs, v = .ref a ∧ Ptp H a vs ∧ Paired (ElAt K H) vs es ∧ vs.length ≤ 1000
  | none => v = .non ∨ (∃ z, v = .str z) ∨ ∃ t, v = .ref t ∧ ((∃ xs, H t = some (.lst xs)) ∨ ∃ kvs, H t = some (.dK kvs))
theorem ThAt.same {K : PySem.W.Frag} {H H' : Hp} {v : V} {e : Option (List El)} (h : ThAt K H v e) (s : Same H H') : ThAt K H' v e := by
  cases e with
  | some es =>
    obtain ⟨a, vs, e, h1, h2, h3⟩ := h
    exact ⟨a, vs, e, h1.same s, paired_imp (fun v e h => h.same s) h2, h3⟩
  | none =>
    rcases h with h | h | ⟨t, e, h⟩
    · exact .inl h
    · exact .inr (.inl h)
    · refine .inr (.inr ⟨t, e, ?_⟩)
      rcases h with ⟨xs, h⟩ | ⟨kvs, h⟩
      · exact .inl ⟨xs, s _ _ h⟩
      · exact .inr ⟨kvs, s _ _ h⟩
def prE (e : Str × Int) : El := .pr e.1 e.2
/-- these are counts -/
structure CnIs (es : List El) (ys : Ct) : Prop where
  eq : es = ys.map prE
  pos : ∀ e ∈ ys, 1 ≤ e.2
  asc : Asc ys
def Cn (th : Option (List El)) : Prop := ∃ es ys, th = some es ∧ CnIs es ys
theorem cn_none : ¬ Cn none := fun ⟨_, _, e, _⟩ => nomatch e
theorem cn_at {es : List El} {ys : Ct} (h : CnIs es ys) {i : Nat} {e : El} (he : es[i]? = some e) : ∃ y, ys[i]? = some y ∧ e = .pr y.1 y.2 := by
  rw [h.eq] at he
  obtain ⟨y, hy, rfl⟩ := map_at he
  exact ⟨y, hy, rfl⟩
theorem ltZ_nil {n : Str} (h : Nm n) : ltZ (Str.ofString "") n = true := by
  have h1 := h.pos
  refine decide_eq_true ?_
  rw [show (Str.ofString "").cps.toList = [] by decide +kernel]
  cases hz : n.cps.toList with
  | nil =>
    have : n.length = 0 := by rw [← cs_len]; unfold cs; rw [hz]; rfl
    omega
  | cons c r => exact List.nil_lt_cons c r
def lastN (ys : Ct) : Str := match ys.getLast? with
  | some e => e.1
  | none => Str.ofString ""
theorem lastN_snoc (ys : Ct) (e : Str × Int) : lastN (ys ++ [e]) = e.1 := by
  unfold lastN
  rw [List.getLast?_append]
  rfl
theorem asc_snoc {ys : Ct} {e : Str × Int} (h : Asc ys) (hl : ltZ (lastN ys) e.1 = true) : Asc (ys ++ [e]) := by
  unfold Asc
  refine List.pairwise_append.mpr ⟨h, List.pairwise_singleton _ _, fun x hx y hy => ?_⟩
  rw [List.mem_singleton.mp hy]
  rcases List.eq_nil_or_concat ys with rfl | ⟨zs, z, rfl⟩
  · cases hx
  · rw [List.concat_eq_append] at *
    rw [lastN_snoc] at hl
    rcases List.mem_append.mp hx with hx | hx
    · exact ltZ_trans ((List.pairwise_append.mp h).2.2 x hx z (List.mem_singleton.mpr rfl)) hl
    · rw [List.mem_singleton.mp hx]
      exact hl
theorem asc_last {ys : Ct} {i : Nat} {e : Str × Int} (h : Asc ys) (he : ys[i]? = some e) (hn : Nm e.1) : ltZ (lastN (ys.take i)) e.1 = true := by
  rcases List.eq_nil_or_concat (ys.take i) with hx | ⟨zs, z, hx⟩
  · rw [hx]
    exact ltZ_nil hn
  · rw [List.concat_eq_append] at hx
    rw [hx, lastN_snoc]
    have h2 : Asc (ys.take (i + 1)) := h.sublist (List.take_sublist _ _)
    rw [List.take_add_one, he, hx] at h2
    exact (List.pairwise_append.mp h2).2.2 z (List.mem_append_right _ (List.mem_singleton.mpr rfl)) e (by simp)
theorem el_ty {K : PySem.W.Frag} {H : Hp} {v : V} (h : ElAt K H v .no) : (∃ t, TyX K H v t ∧ PySem.W.kitOne K t (.type "tuple") = some false) ∨ ∃ a xs, v = .ref a ∧ SqT K H a xs ∧ xs.length ≠ 2 := by
  rcases h with rfl | ⟨i, rfl⟩ | ⟨t, rfl, h⟩
  · exact .inl ⟨_, .base .non, kit_ty (by decide +kernel)⟩
  · exact .inl ⟨_, .base (.int i), kit_ty (by decide +kernel)⟩
  · rcases h with ⟨xs, h⟩ | ⟨kvs, h⟩ | ⟨xs, h, l⟩
    · exact .inl ⟨_, .base (.lst h), kit_ty (by decide +kernel)⟩
    · exact .inl ⟨_, .base (.dK h), kit_ty (by decide +kernel)⟩
    · exact .inr ⟨t, xs, rfl, h.seq, l⟩
theorem th_ty {K : PySem.W.Frag} {H : Hp} {v : V} (h : ThAt K H v none) : ∃ t, TyX K H v t ∧ PySem.W.kitOne K t (.type "tuple") = some false := by
  rcases h with rfl | ⟨z, rfl⟩ | ⟨t, rfl, h⟩
  · exact ⟨_, .base .non, kit_ty (by decide +kernel)⟩
  · exact ⟨_, .base (.str z), kit_ty (by decide +kernel)⟩
  · rcases h with ⟨xs, h⟩ | ⟨kvs, h⟩
    · exact ⟨_, .base (.lst h), kit_ty (by decide +kernel)⟩
    · exact ⟨_, .base (.dK h), kit_ty (by decide +kernel)⟩
theorem els_prs {K : PySem.W.Frag} {H : Hp} : ∀ {vs : List V} {ys : Ct}, Paired (ElAt K H) vs (ys.map prE) → ∃ ts : List Addr, vs = ts.map V.ref ∧ Paired (PrT H) ts ys ∧ ∀ e ∈ ys, Nm e.1
  | _, [], .nil => ⟨[], rfl, .nil, fun _ h => nomatch h⟩
  | _, e :: ys, .cons h t => by
    obtain ⟨t1, rfl, h1, h2⟩ := h
    obtain ⟨ts, rfl, h3, h4⟩ := els_prs t
    refine ⟨t1 :: ts, rfl, .cons h1 h3, fun f hf => ?_⟩
    rcases List.mem_cons.mp hf with rfl | hf
    · exact h2
    · exact h4 f hf
section
variable {P : Program} {w : World} {K : PySem.W.Frag} {mg : Str → Option Value} {base : Heap}
/-! is_int, of ints and flags -/
def spIsIntB : Sp := fun vs H Q _ => (∃ i, vs = [.int i] ∧ Q (.bl true) H) ∨ ∃ b, vs = [.bl b] ∧ Q (.bl false) H
theorem ok_is_intB (T : Blt mg) (d : DnIsInt K mg) : FnOk P w K mg base CX0 1 d.f d.fd ["thing"] spIsIntB := by
  refine d.F.ok scP_is_int (fun vs H Q E h => ?_) (fun cdv A outer s H vs Q E hr h => ?_)
  · rcases h with ⟨i, rfl, _⟩ | ⟨b, rfl, _⟩ <;> rfl
  · refine ⟨_, (pss_one (ps_ret (pe_and (pe_callB call_isi (by rfl) T.n_isinstance (by decide +kernel) (pa_cons (pv 0) (pa_cons (pe_bltn (v := .ty "int") (by rfl) T.n_int (by decide +kernel) rfl) pa_nil))) (pe_one (pe_not (pe_callB call_isi (by rfl) T.n_isinstance (by decide +kernel) (pa_cons (pv 0) (pa_cons (pe_bltn (v := .ty "bool") (by rfl) T.n_bool (by decide +kernel) rfl) pa_nil)))))))), ?_⟩
    rcases h with ⟨i, rfl, q⟩ | ⟨b, rfl, q⟩
    · refine ⟨.int i, rfl, .int i, _, _, _, true, rfl, .ty "int", .base (.int i), kit_ty (by decide +kernel), true, rfl, iteT ?_⟩
      exact ⟨.int i, rfl, .int i, _, _, _, false, rfl, .ty "bool", .base (.int i), kit_ty (by decide +kernel), false, rfl, q⟩
    · refine ⟨.bl b, rfl, .bl b, _, _, _, true, rfl, .ty "int", .base (.bl b), kit_ty (by decide +kernel), true, rfl, iteT ?_⟩
      exact ⟨.bl b, rfl, .bl b, _, _, _, true, rfl, .ty "bool", .base (.bl b), kit_ty (by decide +kernel), true, rfl, q⟩
/-! _is_counted, of anything -/
def elB : El → Bool
  | .pr _ i => decide (1 ≤ i)
  | .prb _ _ => false
  | .no => false
def spIsCountedA (K : PySem.W.Frag) : Sp := fun vs H Q _ => ∃ (v : V) (e : El), vs = [v] ∧ ElAt K H v e ∧ ∀ H', Same H H' → Q (.bl (elB e)) H'
theorem ok_is_countedA (T : Blt mg) (cL : Cst mg "LONGEST_NAME" (.int 8)) (dP_is_int : DnIsInt K mg) (dP_is_name : DnIsName K mg) (d : DnIsCounted K mg) : FnOk P w K mg base CX0 2 d.f d.fd ["pair"] (spIsCountedA K) := by
  have GP_is_int : FnOk P w K mg base CX0 1 dP_is_int.f dP_is_int.fd ["thing"] spIsIntB := ok_is_intB T dP_is_int
  have GP_is_name : FnOk P w K mg base CX0 1 dP_is_name.f dP_is_name.fd ["thing"] spIsName := ok_is_name T cL dP_is_name
  refine d.F.ok scP_is_counted (fun vs H Q E h => ?_) (fun cdv A outer s H vs Q E hr h => ?_)
  · obtain ⟨v, e, rfl, _⟩ := h
    rfl
  · obtain ⟨v, e, rfl, hat, q⟩ := h
    refine ⟨_, (pss_cons (ps_if (PW.pt (pw_or (pt_not (pt_val (pe_callB call_isi (by rfl) T.n_isinstance (by decide +kernel) (pa_cons (pv 0) (pa_cons (pe_bltn (v := .ty "tuple") (by rfl) T.n_tuple (by decide +kernel) rfl) pa_nil))))) (pw_or1 (pt_cmpR op_ne (pe_callB call_len_seq (by rfl) T.n_len (by decide +kernel) (pa_cons (pv 0) pa_nil)) pe_int (nomark _)))))
      (pss_one (ps_ret pe_bl))
      pss_nil)
    (pss_one (ps_ret (pe_and (pe_call GP_is_name (hr.mono (by omega)) (by rfl) dP_is_name.g dP_is_name.F.kp dP_is_name.b .nil pass0 (pa_cons (pe_ix ix_tup (pv 0) pe_int (fun _ _ => rfl)) pa_nil)) (pe_and (pe_call GP_is_int (hr.mono (by omega)) (by rfl) dP_is_int.g dP_is_int.F.kp dP_is_int.b .nil pass0 (pa_cons (pe_ix ix_tup (pv 0) pe_int (fun _ _ => rfl)) pa_nil)) (pe_one (pe_cmpR op_ge (pe_ix ix_tup (pv 0) pe_int (fun _ _ => rfl)) pe_int (nomark _)))))))), ?_⟩
    cases e with
    | pr n i =>
      obtain ⟨t, rfl, h1, h2⟩ := hat
      have hp : SqT K H t [.str n, .int i] := .inl (.inl h1)
      refine ⟨.ref t, rfl, .ref t, _, _, _, true, rfl, .ty "tuple", tyT hp, kit_ty (by decide +kernel), true, rfl, iteF ?_⟩
      refine ⟨.ref t, rfl, t, _, rfl, .inr hp, rfl, false, rfl, iteF ?_⟩
      refine ⟨.ref t, rfl, t, _, _, _, rfl, rfl, hp, atI_nat (j := 0) rfl, n, rfl, h2, fun H1 s1 => ⟨true, rfl, iteT ?_⟩⟩
      have hp1 : SqT K H1 t [.str n, .int i] := seqT hp s1
      refine ⟨.ref t, rfl, t, _, _, _, rfl, rfl, hp1, atI_nat (j := 1) rfl, .inl ⟨i, rfl, true, rfl, iteT ?_⟩⟩
      exact ⟨.ref t, rfl, t, _, _, _, rfl, rfl, hp1, atI_nat (j := 1) rfl, _, _, rfl, rfl, q H1 s1⟩
    | prb n b =>
      obtain ⟨t, rfl, h1, h2⟩ := hat
      have hp : SqT K H t [.str n, .bl b] := .inl (.inl h1)
      refine ⟨.ref t, rfl, .ref t, _, _, _, true, rfl, .ty "tuple", tyT hp, kit_ty (by decide +kernel), true, rfl, iteF ?_⟩
      refine ⟨.ref t, rfl, t, _, rfl, .inr hp, rfl, false, rfl, iteF ?_⟩
      refine ⟨.ref t, rfl, t, _, _, _, rfl, rfl, hp, atI_nat (j := 0) rfl, n, rfl, h2, fun H1 s1 => ⟨true, rfl, iteT ?_⟩⟩
      have hp1 : SqT K H1 t [.str n, .bl b] := seqT hp s1
      exact ⟨.ref t, rfl, t, _, _, _, rfl, rfl, hp1, atI_nat (j := 1) rfl, .inr ⟨b, rfl, false, rfl, iteF (q H1 s1)⟩⟩
    | no =>
      rcases el_ty hat with ⟨t, ty, kt⟩ | ⟨a, xs, rfl, hS, hl⟩
      · exact ⟨v, rfl, v, _, _, _, false, rfl, .ty "tuple", ty, kt, false, rfl, iteT (iteT (q H (Same.refl H)))⟩
      · refine ⟨.ref a, rfl, .ref a, _, _, _, true, rfl, .ty "tuple", tyT hS, kit_ty (by decide +kernel), true, rfl, iteF ?_⟩
        refine ⟨.ref a, rfl, a, xs, rfl, .inr hS, rfl, true, ?_, iteT (q H (Same.refl H))⟩
        rw [show decide (V.int ((xs.length : Nat) : Int) = V.int 2) = false from decide_eq_false (fun z => hl (by injection z with z; omega))]
        rfl
/-! are_counts, of anything -/
def spAreCountsA (K : PySem.W.Frag) : Sp := fun vs H Q _ => ∃ (v : V) (th : Option (List El)), vs = [v] ∧ ThAt K H v th ∧ ∀ H' b, Same H H' → (b = true ↔ Cn th) → Q (.bl b) H'
theorem ok_are_countsA (T : Blt mg) (cL : Cst mg "LONGEST_NAME" (.int 8)) (dP_is_int : DnIsInt K mg) (dP_is_name : DnIsName K mg) (dP_is_counted : DnIsCounted K mg) (d : DnAreCounts K mg) : FnOk P w K mg base CX0 3 d.f d.fd ["thing"] (spAreCountsA K) := by
  have GP_is_counted : FnOk P w K mg base CX0 2 dP_is_counted.f dP_is_counted.fd ["pair"] (spIsCountedA K) := ok_is_countedA T cL dP_is_int dP_is_name dP_is_counted
  refine d.F.ok scP_are_counts (fun vs H Q E h => ?_) (fun cdv A outer s H vs Q E hr h => ?_)
  · obtain ⟨v, th, rfl, _⟩ := h
    rfl
  · obtain ⟨v, th, rfl, hat, q⟩ := h
    refine ⟨_, (pss_cons (ps_if (pt_not (pt_val (pe_callB call_isi (by rfl) T.n_isinstance (by decide +kernel) (pa_cons (pv 0) (pa_cons (pe_bltn (v := .ty "tuple") (by rfl) T.n_tuple (by decide +kernel) rfl) pa_nil)))))
      (pss_one (ps_ret pe_bl))
      pss_nil)
    (pss_cons (ps_set (i := 1) scP_are_counts.nd rfl (Or.inl rfl) pe_str)
    (pss_cons (ps_for PassesOwn.never rfl (pi_tup (pv 0)) (pg_name (i := 2) scP_are_counts.nd rfl (Or.inl rfl))
      (pss_cons (ps_if (PW.pt (pw_or (pt_not (pt_val (pe_call GP_is_counted (hr.mono (by omega)) (by rfl) dP_is_counted.g dP_is_counted.F.kp dP_is_counted.b .nil pass0 (pa_cons (pv 2) pa_nil)))) (pw_or1 (pt_cmpR op_le_str (pe_ix ix_tup (pv 2) pe_int (fun _ _ => rfl)) (pv 1) (nomark _)))))
        (pss_one (ps_ret pe_bl))
        pss_nil)
      (pss_one (ps_set (i := 1) scP_are_counts.nd rfl (Or.inl rfl) (pe_ix ix_tup (pv 2) pe_int (fun _ _ => rfl))))))
    (pss_one (ps_ret pe_bl))))), ?_⟩
    cases th with
    | none =>
      obtain ⟨t, ty, kt⟩ := th_ty hat
      exact ⟨v, rfl, v, _, _, _, false, rfl, .ty "tuple", ty, kt, false, rfl, iteT (q H false (Same.refl H) ⟨fun z => (nomatch z), fun z => absurd z cn_none⟩)⟩
    | some es =>
      obtain ⟨a, vs, rfl, hS, hp, hl⟩ := hat
      refine ⟨.ref a, rfl, .ref a, _, _, _, true, rfl, .ty "tuple", tyT hS.seq, kit_ty (by decide +kernel), true, rfl, iteF ?_⟩
      have no : ∀ {H' : Hp}, Same H H' → ¬ Cn (some es) → Q (.bl false) H' := fun s h => q _ false s ⟨fun z => (nomatch z), fun z => absurd z h⟩
      refine ⟨.ref a, rfl, a, rfl, ⟨_, hS.seq⟩, for_tup (xs := vs) (fun i σ H3 => ∃ (ys : Ct) (x : Option V), σ = [some (.ref a), some (.str (lastN ys)), x] ∧ Same H H3 ∧ CnIs (es.take i) ys)
        ⟨[], none, rfl, Same.refl H, ⟨rfl, (fun _ h => nomatch h), .nil⟩⟩ (fun i σ H3 _ ⟨_, _, _, s3, _⟩ => (hS.same s3).seq) ?_ ?_⟩
      · rintro i v σ H3 hi ⟨ys, x, rfl, s3, cn⟩
        obtain ⟨e, he, hat⟩ := paired_at hp hi
        have hat3 := hat.same s3
        refine ⟨v, rfl, v, e, rfl, hat3, fun H4 s4 => ⟨_, rfl, ?_⟩⟩
        have s04 := s3.trans s4
        have bad : (∀ n j, e = .pr n j → ¬ 1 ≤ j) → ¬ Cn (some es) := fun hb ⟨es', ys', e1, c⟩ => by
          cases e1
          obtain ⟨y, hy, rfl⟩ := cn_at c he
          exact hb _ _ rfl (c.pos y (List.mem_of_getElem? hy))
        cases e with
        | no => exact iteT (iteT (no s04 (bad fun _ _ z => nomatch z)))
        | prb n b => exact iteT (iteT (no s04 (bad fun _ _ z => nomatch z)))
        | pr n j =>
          obtain ⟨t, rfl, h1, h2⟩ := hat3.same s4
          have hp4 : SqT K H4 t [.str n, .int j] := .inl (.inl h1)
          by_cases hj : 1 ≤ j
          · rw [show elB (.pr n j) = true from decide_eq_true hj]
            refine iteF ⟨.ref t, rfl, t, _, _, _, rfl, rfl, hp4, atI_nat (j := 0) rfl, .str (lastN ys), rfl, _, _, rfl, rfl, _, rfl, ?_⟩
            have hv : (!decide ((lastN ys).cps.toList < n.cps.toList)) = !ltZ (lastN ys) n := rfl
            rw [hv]
            cases hlt : ltZ (lastN ys) n with
            | false =>
              refine iteT (no s04 fun ⟨es', ys', e1, c⟩ => ?_)
              cases e1
              obtain ⟨y, hy, hye⟩ := cn_at c he
              injection hye with hy1 hy2
              have := asc_last c.asc hy (by rw [← hy1]; exact h2)
              have hty : ys'.take i = ys := by
                have h3 : es.take i = (ys'.take i).map prE := by rw [c.eq, List.map_take]
                rw [cn.eq] at h3
                have inj : ∀ {a b : Ct}, a.map prE = b.map prE → b = a := by
                  intro a
                  induction a with
                  | nil => intro b h; cases b with | nil => rfl | cons => cases h
                  | cons x a ih =>
                    intro b h
                    cases b with
                    | nil => cases h
                    | cons y b =>
                      injection h with h4 h5
                      injection h4 with h6 h7
                      rw [ih h5, show y = x from Prod.ext h6.symm h7.symm]
                exact inj h3
              rw [hty, ← hy1, hlt] at this
              cases this
            | true =>
              refine iteF ⟨.ref t, rfl, t, _, _, _, rfl, rfl, hp4, atI_nat (j := 0) rfl, ys ++ [(n, j)], some (.ref t), ?_, s04, ⟨?_, fun e' he' => ?_, asc_snoc cn.asc hlt⟩⟩
              · rw [lastN_snoc]
                rfl
              · rw [List.take_add_one, he, cn.eq, List.map_append]
                rfl
              · rcases List.mem_append.mp he' with h | h
                · exact cn.pos e' h
                · rw [List.mem_singleton.mp h]
                  exact hj
          · rw [show elB (.pr n j) = false from decide_eq_false hj]
            exact iteT (iteT (no s04 (bad fun n' j' z => by injection z with _ z; rw [← z]; exact hj)))
      · rintro σ H3 ⟨ys, x, rfl, s3, cn⟩
        rw [Paired.length hp, List.take_length] at cn
        exact q H3 true s3 ⟨fun _ => ⟨es, ys, rfl, cn⟩, fun _ => rfl⟩
end
end Kb

namespace Kb
open PySem PySem.Spec PyProof.Rows L2 SrtZ SrtO
abbrev NP_is_truth : List Str := ["sketch", "thing", "_", "many", "off", "kept", "left", "total", "name", "count"]
theorem prE_inj : ∀ {a b : Ct}, a.map prE = b.map prE → a = b
  | [], [], _ => rfl
  | [], _ :: _, h => nomatch h
  | _ :: _, [], h => nomatch h
  | x :: a, y :: b, h => by
    injection h with h4 h5
    injection h4 with h6 h7
    rw [prE_inj h5, show x = y from Prod.ext h6 h7]
/-- these counts are a truth -/
structure TrB (x : Tl) (ys : Ct) : Prop where
  lo : ∀ e ∈ ys, 0 ≤ e.2 - gd x.c e.1
  hi : ∀ e ∈ ys, e.2 - gd x.c e.1 ≤ x.o
  ins : ∀ e ∈ x.c, e.1 ∈ ys.map (·.1)
  sum : sumC ys = x.m
def Tr (x : Tl) (th : Option (List El)) : Prop := ∃ es ys, th = some es ∧ CnIs es ys ∧ TrB x ys
theorem tr_cn {x : Tl} {es : List El} {ys : Ct} (c : CnIs es ys) (h : Tr x (some es)) : TrB x ys := by
  obtain ⟨es', ys', e, c', t⟩ := h
  cases e
  have : ys = ys' := prE_inj (c.eq.symm.trans c'.eq)
  rw [this]
  exact t
/-- what is left over of the kept names -/
def lf (ys kvs : Ct) : Ct := kvs.filter fun e => !decide (e.1 ∈ ys.map (·.1))
theorem lf_nil (kvs : Ct) : lf [] kvs = kvs := by
  unfold lf
  rw [List.filter_eq_self]
  intro e _
  rfl
theorem lf_wo (ys kvs : Ct) (e : Str × Int) : wo e.1 (lf ys kvs) = lf (ys ++ [e]) kvs := by
  unfold wo lf
  rw [List.filter_filter]
  refine List.filter_congr fun f _ => ?_
  have hr : decide (f.1 ∈ (ys ++ [e]).map (·.1)) = (decide (f.1 ∈ ys.map (·.1)) || decide (f.1 = e.1)) := by
    rw [List.map_append]
    by_cases h1 : f.1 = e.1
    · rw [decide_eq_true h1, Bool.or_true]
      exact decide_eq_true (List.mem_append_right _ (List.mem_singleton.mpr h1))
    · rw [decide_eq_false h1, Bool.or_false]
      exact decide_eq_decide.mpr ⟨fun z => (List.mem_append.mp z).elim id fun z => absurd (List.mem_singleton.mp z) h1, fun z => List.mem_append_left _ z⟩
  show _ = !decide (f.1 ∈ (ys ++ [e]).map (·.1))
  rw [hr]
  cases decide (f.1 ∈ ys.map (·.1)) <;> cases decide (f.1 = e.1) <;> rfl
theorem lf_gd {ys : Ct} {n : Str} (h : n ∉ ys.map (·.1)) : ∀ kvs : Ct, gd (lf ys kvs) n = gd kvs n
  | [] => rfl
  | e :: t => by
    by_cases hn : e.1 ∈ ys.map (·.1)
    · have : lf ys (e :: t) = lf ys t := by
        unfold lf
        rw [List.filter_cons_of_neg (by simp [hn])]
      rw [this, gd_cons, if_neg (fun z => h (by rw [← z]; exact hn)), lf_gd h t]
    · have : lf ys (e :: t) = e :: lf ys t := by
        unfold lf
        rw [List.filter_cons_of_pos (by simpa using hn)]
      rw [this, gd_cons, gd_cons, lf_gd h t]
theorem dropZ (n : Str) (kvs : Ct) : dropK (kvs.map entZ) (Sum.inr n : Key) = (wo n kvs).map entZ := by
  unfold dropK wo
  rw [List.filter_map]
  congr 1
  refine List.filter_congr fun e _ => ?_
  show decide ((entZ e).1 ≠ (Sum.inr n : Key)) = _
  rw [decide_not, ent_dec]
theorem sumC_snoc (ys : Ct) (e : Str × Int) : sumC (ys ++ [e]) = sumC ys + e.2 := by
  rw [sumC_app]
  show sumC ys + (e.2 + 0) = _
  omega
theorem gd_srt {kvs : Ct} (nd : NdZ kvs) (k : Str) : gd (srtZ kvs) k = gd kvs k := by
  unfold gd
  rw [getZ_perm (srtZ_perm kvs) (srtZ_nd nd)]
theorem wo_gone {n : Str} {kvs : Ct} (h : getZ kvs n = none) : wo n kvs = kvs := wo_out (getZ_none.mp h)
section
variable {P : Program} {w : World} {K : PySem.W.Frag} {mg : Str → Option Value} {base : Heap}
/-! is_truth, of anything -/
def spIsTruth (K : PySem.W.Frag) : Sp := fun vs H Q _ => ∃ (s : Addr) (v : V) (r : Int) (x : Tl) (th : Option (List El)), vs = [.ref s, v] ∧ SkAt H s r x ∧ TlOk r x ∧ r ≤ 64 ∧ skB r x.m x.o (srtZ x.c) = true ∧ ThAt K H v th ∧ ∀ H' b, Same H H' → (b = true ↔ Tr x th) → Q (.bl b) H'
end
end Kb

namespace L2
open PySem PySem.Spec PyProof.Rows SrtO SrtZ
/-- a set of texts, in such a table as a walk wants -/
structure StrS (P : Program) (w : World) (h : Heap) (a : Addr) (S : Str → Bool) (n : Nat) (es : Array (Int × Value)) (ep : Nat) (t : SetTable) : Prop where
  ob : ∃ o, h.get? a = some o ∧ o.ExactSet ∧ o.data = .set es ep t
  el : ElemsOf (strKind P w) es.toList
  is_ : ∀ k : Str, S k = true ↔ ∃ e, e ∈ es.toList ∧ (strKind P w).is k e.2 = true
  lt : es.size < scanBound
  fits : t.fits es.size = true
  sz : es.size = n
  ris : Ris t.place.toList
  led : w.params.followText "set-order" = true ∨ t.led = true
def StrSet (P : Program) (w : World) (h : Heap) (a : Addr) (S : Str → Bool) (n : Nat) : Prop := ∃ es ep t, StrS P w h a S n es ep t
section
variable {P : Program} {w : World} {A : Around} {E : Value → Shared → Prop} {s : Shared} {a : Addr}
theorem strS_store {h : Heap} {o : Obj} {es0 : Array (Int × Value)} {ep : Nat} {t0 : SetTable} (h1 : h.get? a = some o) (h2 : o.ExactSet) (h3 : o.data = .set es0 ep t0) {es : Array (Int × Value)} {t : SetTable} {S : Str → Bool}
    (el : ElemsOf (strKind P w) es.toList) (is_ : ∀ k : Str, S k = true ↔ ∃ e, e ∈ es.toList ∧ (strKind P w).is k e.2 = true) (lt : es.size < scanBound) (fits : t.fits es.size = true) (ris : Ris t.place.toList) (led : w.params.followText "set-order" = true ∨ t.led = true) :
    StrS P w (h.update a (Obj.putSet es t)) a S es.size es (ep + 1) t :=
  ⟨⟨_, (SetOf_store (knd := strKind P w) h1 h2 h3 el is_ lt fits).1, h2, rfl⟩, el, is_, lt, fits, rfl, ris, led⟩
theorem strS_tail {g : Bool → Sem Unit} (hg : ∀ (b : Bool) (s₁ : Shared) (Q' : Unit → Shared → Prop), Q' () s₁ → wpAny (model P w) A (g b) Q' E s₁) {o : Obj} {es : Array (Int × Value)} {ep : Nat} {t : SetTable} (h1 : s.heap.get? a = some o) (h2 : o.ExactSet) (h3 : o.data = .set es ep t)
    {es1 : Array (Int × Value)} {t2 : SetTable} {S' : Str → Bool} (el : ElemsOf (strKind P w) es1.toList) (is_ : ∀ k : Str, S' k = true ↔ ∃ e, e ∈ es1.toList ∧ (strKind P w).is k e.2 = true) (lt : es1.size < scanBound) (fits : t2.fits es1.size = true) (ris : Ris t2.place.toList)
    (led : w.params.followText "set-order" = true ∨ t2.led = true) {wasDummy : Bool} {R : Option Bool → Shared → Prop}
    (q : ∀ h' : Heap, Heap.SameBut a s.heap h' → StrSet P w h' a S' es1.size → R (some true) { s with heap := h' }) :
    wpAny (model P w) A (do
      storeSet a es1 t2
      if (!wasDummy && t2.tooFull) = true then do
          g (relayAll t2 es1 (SetTable.grown es1.size)).2.2
          storeSet a (relayAll t2 es1 (SetTable.grown es1.size)).1 (relayAll t2 es1 (SetTable.grown es1.size)).2.1
          pure (some true)
        else pure (some true)) R E s := by
  have st := strS_store (P := P) (w := w) h1 h2 h3 el is_ lt fits ris led
  refine wpAny_bind (wpAny_storeSet_of h1 h3 ?_ (fits_of_scanBound lt))
  obtain ⟨o1, k1, k2, k3⟩ := st.ob
  split
  · refine wpAny_bind (hg _ _ _ ?_)
    have pm := relayAll_perm t2 es1 (SetTable.grown es1.size)
    have sz : (relayAll t2 es1 (SetTable.grown es1.size)).1.size = es1.size := by
      have := pm.length_eq
      simpa using this
    refine wpAny_bind (wpAny_storeSet_of k1 k3 ?_ (by rw [sz]; exact fits_of_scanBound lt))
    refine wpAny_pure ?_
    have st2 := strS_store (P := P) (w := w) (S := S') k1 k2 k3 (el.perm pm) (fun k => (is_ k).trans ⟨fun ⟨e, he, hk⟩ => ⟨e, pm.mem_iff.mpr he, hk⟩, fun ⟨e, he, hk⟩ => ⟨e, pm.mem_iff.mp he, hk⟩⟩) (by rw [sz]; exact lt) (relayAll_fits _ _ _) (relayAll_ris _ _ _) (by rw [relayAll_led]; exact led)
    rw [sz] at st2
    exact q _ (Heap.SameBut.trans (Heap.SameBut.update _ _ _) (Heap.SameBut.update _ _ _)) ⟨_, _, _, st2⟩
  · exact wpAny_pure (q _ (Heap.SameBut.update _ _ _) ⟨_, _, _, st⟩)
theorem gave_of {g : Bool → Sem Unit} (h1 : g true = rule "set.scan.the-table-gave-way") (h2 : g false = pure ()) : ∀ (b : Bool) (s₁ : Shared) (Q' : Unit → Shared → Prop), Q' () s₁ → wpAny (model P w) A (g b) Q' E s₁ := fun b s₁ Q' h => by
  cases b
  · rw [h2]
    exact wpAny_pure h
  · rw [h1]
    exact wpAny_rule h
theorem strS_add {S : Str → Bool} {n : Nat} {z : Str} {tk : Tok} {Q : Bool → Shared → Prop} (h : StrSet P w s.heap a S n) (hn : n + 1 < scanBound)
    (q : ∀ (b : Bool) (h' : Heap), Heap.SameBut a s.heap h' → StrSet P w h' a (fun k => S k || decide (k = z)) (if S z = true then n else n + 1) → Q b { s with heap := h' }) :
    wpAny (model P w) A (setAddHashed a (.str z tk) ((strKind P w).hash z)) Q E s := by
  obtain ⟨es, ep, t, ⟨⟨o, h1, h2, h3⟩, el, is_, lt, fits, sz, ris, led⟩⟩ := h
  subst sz
  unfold setAddHashed
  refine wpAny_holding ?_
  rw [setAddHashedIn.eq_def]
  dsimp only
  refine wpAny_bind (wpAny_setState_of h1 h3 fits ?_)
  dsimp only
  have hb : byScan (.str z tk) es = true := by
    unfold byScan
    rw [decide_eq_true lt]
    simp only [Bool.and_eq_true]
    refine ⟨⟨rfl, trivial⟩, ?_⟩
    rw [Array.all_eq_true']
    intro e he
    exact (el e (by simpa using he)).2
  rw [if_pos hb]
  refine wpAny_bind ?_
  unfold setAddByScan
  refine wpAny_bind (wpAny_rule ?_)
  have hk := strKind_is P w z tk
  refine wpAny_bind (wpAny_setScan_of hk h1 h3 fits el ?_)
  cases hf : List.findIdx? (fun e => (strKind P w).is z e.2) es.toList with
  | some j =>
    dsimp only
    refine wpAny_pure ?_
    dsimp only
    refine wpAny_pure ?_
    have hS : S z = true := by
      obtain ⟨hlt, hj, _⟩ := List.findIdx?_eq_some_iff_getElem.mp hf
      exact (is_ z).mpr ⟨_, List.getElem_mem hlt, hj⟩
    refine q _ _ (Heap.SameBut.refl _ _) ?_
    rw [if_pos hS]
    refine ⟨es, ep, t, ⟨⟨o, h1, h2, h3⟩, el, fun k => ?_, lt, fits, rfl, ris, led⟩⟩
    rw [← is_ k]
    by_cases hkz : k = z
    · subst hkz
      rw [hS]
      rfl
    · rw [decide_eq_false hkz, Bool.or_false]
  | none =>
    dsimp only
    have hS : S z = false := by
      cases e : S z with
      | false => rfl
      | true =>
        obtain ⟨e, he, hke⟩ := (is_ z).mp e
        have := List.findIdx?_eq_none_iff.mp hf e he
        rw [hke] at this
        cases this
    have pm := layNew_perm t es ((strKind P w).hash z) (.str z tk)
    have fi := layNew_fits t es ((strKind P w).hash z) (.str z tk)
    have ri := layNew_ris t es ((strKind P w).hash z) (.str z tk) ris
    have le := layNew_led t es ((strKind P w).hash z) (.str z tk)
    generalize layNew t es ((strKind P w).hash z) (.str z tk) = y at pm fi ri le ⊢
    obtain ⟨es1, t1, wasDummy, gave⟩ := y
    dsimp only at pm fi ri le ⊢
    have sz1 : es1.size = es.size + 1 := by
      have := pm.length_eq
      simpa using this
    have el1 : ElemsOf (strKind P w) es1.toList := fun e he => by
      have := pm.mem_iff.mp he
      rw [Array.toList_push, List.mem_append] at this
      rcases this with h | h
      · exact el e h
      · rw [List.mem_singleton.mp h]
        exact ⟨⟨z, hk, rfl⟩, rfl⟩
    have is1 : ∀ k : Str, (S k || decide (k = z)) = true ↔ ∃ e, e ∈ es1.toList ∧ (strKind P w).is k e.2 = true := fun k => by
      rw [Bool.or_eq_true, is_ k, decide_eq_true_eq]
      constructor
      · rintro (⟨e, he, h⟩ | rfl)
        · exact ⟨e, pm.mem_iff.mpr (by rw [Array.toList_push, List.mem_append]; exact .inl he), h⟩
        · exact ⟨_, pm.mem_iff.mpr (by rw [Array.toList_push, List.mem_append]; exact .inr (List.mem_singleton.mpr rfl)), hk⟩
      · rintro ⟨e, he, h⟩
        have := pm.mem_iff.mp he
        rw [Array.toList_push, List.mem_append] at this
        rcases this with h' | h'
        · exact .inl ⟨e, h', h⟩
        · rw [List.mem_singleton.mp h'] at h
          exact .inr ((strKind P w).inj _ _ _ h hk)
    have led1 : w.params.followText "set-order" = true ∨ t1.led = true := by rw [le]; exact led
    have fin : ∀ h' : Heap, Heap.SameBut a s.heap h' → StrSet P w h' a (fun k => S k || decide (k = z)) es1.size → Q true { s with heap := h' } := fun h' sb st => by
      refine q true h' sb ?_
      rw [hS, if_neg (by decide), ← sz1]
      exact st
    refine wpAny_bind (gave_of (by rfl) (by rfl) gave _ _ ?_)
    split
    · refine wpAny_bind ?_
      show wpAny _ _ (pure false) _ _ _
      refine wpAny_pure ?_
      rw [if_neg (by decide)]
      refine strS_tail (t2 := { t1 with plain := false }) ?hg1 h1 h2 h3 el1 is1 (by omega) fi ri led1 ?q1
      case q1 => exact fun h' sb st => wpAny_pure (fin h' sb st)
      case hg1 => exact gave_of (by rfl) (by rfl)
    · refine wpAny_bind (wpAny_pure ?_)
      rw [if_pos rfl]
      refine strS_tail ?hg2 h1 h2 h3 el1 is1 (by omega) fi ri led1 ?q2
      case q2 => exact fun h' sb st => wpAny_pure (fin h' sb st)
      case hg2 => exact gave_of (by rfl) (by rfl)
theorem StrSet.keep {S : Str → Bool} {n : Nat} {h h' : Heap} (st : StrSet P w h a S n) (k : ∀ o, h.get? a = some o → h'.get? a = some o) : StrSet P w h' a S n := by
  obtain ⟨es, ep, t, ⟨⟨o, h1, h2, h3⟩, el, is_, lt, fits, sz, ris, led⟩⟩ := st
  exact ⟨es, ep, t, ⟨⟨o, k o h1, h2, h3⟩, el, is_, lt, fits, sz, ris, led⟩⟩
theorem StrSet.congr {S S' : Str → Bool} {n : Nat} {h : Heap} (st : StrSet P w h a S n) (e : ∀ k, S k = S' k) : StrSet P w h a S' n := by
  rw [← show S = S' from funext e]
  exact st
def hasZ (xs : List Str) (i : Nat) : Str → Bool := fun k => (xs.take i).any fun x => decide (x = k)
theorem hasZ_snoc {xs : List Str} {i : Nat} {x : Str} (h : xs[i]? = some x) (k : Str) : hasZ xs (i + 1) k = (hasZ xs i k || decide (k = x)) := by
  unfold hasZ
  rw [List.take_add_one, h, List.any_append]
  congr 1
  show (decide (x = k) || false) = _
  rw [Bool.or_false]
  by_cases e : x = k
  · rw [decide_eq_true e, decide_eq_true e.symm]
  · rw [decide_eq_false e, decide_eq_false (Ne.symm e)]
/-- how many unlike ones stand before i -/
def dcz (xs : List Str) : Nat → Nat
  | 0 => 0
  | i + 1 => dcz xs i + (match xs[i]? with | some x => (if hasZ xs i x = true then 0 else 1) | none => 0)
theorem dcz_snoc {xs : List Str} {i : Nat} {x : Str} (h : xs[i]? = some x) : dcz xs (i + 1) = dcz xs i + (if hasZ xs i x = true then 0 else 1) := by
  show dcz xs i + _ = _
  rw [h]
theorem dcz_le (xs : List Str) : ∀ i, dcz xs i ≤ i
  | 0 => Nat.le_refl _
  | i + 1 => by
    have := dcz_le xs i
    show dcz xs i + _ ≤ i + 1
    split
    · split <;> omega
    · omega
theorem strS_loop {R : Result → Shared → Prop} {I : Addr} {fp wr : List Addr} {G : Array GenState → Array GenState → Prop} {n : Nat} {Pv : Nat → Value → Prop} {St : Nat → Shared → Prop} (wk : WalksS P w A.in1 I fp wr G n Pv St) (S : Addr) (hS : S ∉ fp) (xs : List Str) (hl : xs.length = n) (hn : n + 1 < scanBound)
    (hv : ∀ i v, Pv i v → ∃ x t, xs[i]? = some x ∧ v = Value.str x t) : ∀ (k i : Nat) (s : Shared), n - i = k → i ≤ n → St i s → (∃ m, m ≤ dcz xs i ∧ StrSet P w s.heap S (hasZ xs i) m) →
    (∀ s' : Shared, Moved (S :: wr) G s s' → (∃ m, m ≤ dcz xs n ∧ StrSet P w s'.heap S (hasZ xs n) m) → R (.ok (.ret .none)) s') →
    codeAny (model P w) A (.builtin "set.update.loop" { pos := [.ref S, .ref I] }) R s := by
  intro k
  induction k with
  | zero =>
    intro i s hk hi st ⟨m, hm, ss⟩ q
    have : i = n := by omega
    subst this
    refine codeAny_builtin F.entry_set_update_loop ?_
    rw [Around.under_plainId F.plain_set_update_loop]
    unfold Builtin.«set.update.loop»
    dsimp only
    refine wpAny_bind (wk.done s _ _ st fun s' mv => ?_)
    dsimp only
    refine wpAny_pure ?_
    dsimp only
    refine q s' (mv.mono fun b hb => List.mem_cons_of_mem _ hb) ⟨m, hm, ss.keep fun o e => mv.heap _ _ (fun z => hS (wk.sub _ z)) e⟩
  | succ k ih =>
    intro i s hk hi st ⟨m, hm, ss⟩ q
    refine codeAny_builtin F.entry_set_update_loop ?_
    rw [Around.under_plainId F.plain_set_update_loop]
    unfold Builtin.«set.update.loop»
    dsimp only
    refine wpAny_bind (wk.item i s _ _ (by omega) st fun v s' hp st' mv => ?_)
    obtain ⟨x, t, hx, rfl⟩ := hv i v hp
    dsimp only
    refine wpAny_bind (wpAny_holding ?_)
    unfold setAdd
    refine wpAny_holding (wpAny_bind ((strKind P w).pyHash (strKind_is P w x t) ?_))
    have ss' : StrSet P w s'.heap S (hasZ xs i) m := ss.keep fun o e => mv.heap _ _ (fun z => hS (wk.sub _ z)) e
    refine strS_add (s := { s' with toks := s'.toks + 1 }) ss' (by have := dcz_le xs i; omega) fun b h' sb ss2 => ?_
    refine wpAny_pure ?_
    refine ⟨plainId_quiet F.plain_set_update_loop _, ?_⟩
    have fr := wk.frame (i + 1) s' h' (s'.toks + 1) st' (Nat.le_succ _) fun b hb o e => by
      rw [sb.2 b (fun z => hS (z ▸ hb))]
      exact e
    refine ih (i + 1) _ (by omega) (by omega) fr ⟨_, ?_, ss2.congr fun k => (hasZ_snoc hx k).symm⟩ fun s2 mv2 ss3 => ?_
    · rw [dcz_snoc hx]
      split <;> omega
    · refine q s2 (Moved.trans (wk.gtrans) ?_ mv2) ss3
      refine (mv.mono fun b hb => List.mem_cons_of_mem _ hb).then_heap (Nat.le_succ _) fun b o hb e => ?_
      rw [sb.2 b (fun z => hb (z ▸ List.mem_cons_self))]
      exact e
end
end L2

namespace L2
open PySem PySem.Spec PyProof.Rows SrtO SrtZ
section
variable {P : Program} {w : World} {A : Around} {E : Value → Shared → Prop} {s : Shared} {a : Addr}
theorem call_set_init {self x : Value} {Q : Value → Shared → Prop} (hty : s.TypeIs self "set") (h : wpAny (model P w) A.in1 (Builtin.«set.__init__» { pos := [self, x] }) (fun fin s' => ∃ v, fin = Fin.done (.ret v) ∧ Q v s') E s) : wpAny (model P w) A (call (.builtin "set.__init__") [self, x]) Q E s := by
  refine wpAny_call (codeAny_call_builtin F.called_set.init.plain F.entry_set_init (check_set_init_1 hty (wpAny_mono h ?_ ?_)))
  · rintro fin s' ⟨v, rfl, hq⟩
    exact hq
  · exact fun _ _ h => h
theorem call_set_strs {l : Addr} {items : Array Value} {xs : List Str} {Q : Value → Shared → Prop} (hA : A.handled = none) (hl : s.heap.IsList l items) (hx : StrsAre items.toList xs) (hn : xs.length + 1 < scanBound)
    (q : ∀ (h' : Heap) (tk m : Nat), m ≤ dcz xs xs.length → StrSet P w h' s.heap.objs.size (hasZ xs xs.length) m → (∀ b o, s.heap.get? b = some o → h'.get? b = some o) → Q (.ref s.heap.objs.size) { s with heap := h', toks := tk }) :
    wpAny (model P w) A (call (.type "set") [.ref l]) Q E s := by
  have T := F.called_set
  obtain ⟨c, tl, hm⟩ := T.mro
  refine wpAny_call (codeAny_of_tree (wpAny_pure ⟨Code.quiet_builtin _ (by decide +kernel), ?_⟩))
  refine codeAny_builtin F.entry_type_call ?_
  rw [Around.under_plain (weight_type_call_type "set" [.ref l] []) rfl]
  unfold Builtin.«type.__call__»
  dsimp only
  rw [if_neg (by rw [T.notType]; decide), if_neg (by rw [show _ = false from T.canCreate]; decide)]
  rw [F.typeCall_set_1]
  refine wpAny_bind (wpAny_pure ?_)
  refine wpAny_bind (wpAny_of_eq hm ?_)
  rw [if_neg (by simp)]
  refine wpAny_bind (wpAny_of_eq T.made ?_)
  dsimp only
  refine wpAny_bind (wpAny_pure ?_)
  refine wpAny_bind (wpAny_holding (wpAny_call ?_))
  refine codeAny_mono (code_set_led1 (E := E) (Q₁ := fun v s' => v = .ref s.heap.objs.size ∧ s' = { s with heap := s.heap.push { cls := .type "set", data := .set #[] 0 (SetTable.fresh 0 0 !w.params.followText "set-order") } }) (.ref l) ⟨rfl, rfl⟩) fun r s' h => ?_
  match r, h with
  | .ok (.ret v), h =>
    obtain ⟨rfl, rfl⟩ := h
    dsimp only
    generalize hob : ({ cls := .type "set", data := .set #[] 0 (SetTable.fresh 0 0 !w.params.followText "set-order") } : Obj) = ob
    have hnew : (s.heap.push ob).get? s.heap.objs.size = some ob := Heap.get?_push_size _ (by rw [← hob]; rfl)
    have hty : ({ s with heap := s.heap.push ob } : Shared).TypeIs (.ref s.heap.objs.size) "set" := ⟨ob, hnew, by rw [← hob]⟩
    refine wpAny_bind (wpAny_isInstance hty T.sub ?_)
    rw [if_neg (by decide)]
    refine wpAny_bind (wpAny_holding ?_)
    unfold callSpecial?
    refine wpAny_bind (wpAny_specialOf hty T.init.lookup ?_)
    dsimp only
    refine wpAny_holding (wpAny_bind (wpAny_of_eq (T.init.bind _) ?_))
    dsimp only
    refine wpAny_bind (call_set_init hty ?_)
    unfold Builtin.«set.__init__»
    dsimp only
    refine wpAny_bind ?_
    unfold noKeywords
    rw [if_pos (by rfl)]
    refine wpAny_pure ?_
    unfold typeNameOfCut
    refine wpAny_bind (wpAny_bind ?_)
    unfold shownTypeOf
    refine wpAny_bind (wpAny_typeOf hty ?_)
    rw [if_neg (by decide +kernel)]
    refine wpAny_pure ?_
    unfold typeNameCut
    dsimp only
    unfold typeName
    refine wpAny_pure ?_
    refine wpAny_bind (show wpAny _ _ (pure ()) _ _ _ from wpAny_pure ?_)
    refine wpAny_bind (show wpAny _ _ (pure _) _ _ _ from wpAny_pure ?_)
    unfold setUsed
    have hfr : (SetTable.fresh 0 0 !w.params.followText "set-order").fits (#[] : Array (Int × Value)).size = true := rfl
    have hdat : ob.data = .set #[] 0 (SetTable.fresh 0 0 !w.params.followText "set-order") := by rw [← hob]
    refine wpAny_bind (wpAny_bind (wpAny_setState_of hnew hdat hfr (wpAny_pure ?_)))
    rw [if_neg (by simp [SetTable.fresh, SetTable.fill])]
    refine wpAny_bind ?_
    unfold Builtin.Frozenset.updateFrom Builtin.Frozenset.isAnySet
    obtain ⟨lo, hlo, hlc, hld⟩ := id hl
    have htl : ({ s with heap := s.heap.push ob } : Shared).TypeIs (.ref l) "list" := ⟨lo, Heap.get?_push_of_some _ hlo, hlc⟩
    refine wpAny_bind ?_
    unfold orM
    refine wpAny_bind (wpAny_isInstance htl F.sub_list_set ?_)
    refine wpAny_isInstance htl F.sub_list_frozenset ?_
    rw [if_neg (by decide)]
    refine wpAny_bind (wpAny_typeOf htl ?_)
    rw [if_neg (by decide +kernel)]
    refine wpAny_bind (wpAny_pyIter_list (hl.push ob) ?_)
    refine wpAny_bind (wpAny_runValue ?_)
    have hnl : s.heap.objs.size ≠ l := fun z => absurd (Heap.lt_size hlo) (by rw [← z]; exact Nat.lt_irrefl _)
    have isz : (s.heap.push ob).objs.size = s.heap.objs.size + 1 := size_push' _ _
    have hlI : l ≠ (s.heap.push ob).objs.size := fun z => by
      have h0 := Heap.lt_size hlo
      rw [z, isz] at h0
      exact Nat.not_lt.mpr (Nat.le_succ _) h0
    have hA2 : (A.in1.in1.in1).handled = none := hA
    have wk := (Walks.list (prog := P) (w := w) hA2 (s.heap.push ob).objs.size l hlI items).toS
    have hlen : xs.length = items.size := by
      have := hx.len_eq
      simpa using this.symm
    have hfp : s.heap.objs.size ∉ [(s.heap.push ob).objs.size, l] := fun z => by
      rcases List.mem_cons.mp z with z | z
      · omega
      · exact hnl (List.mem_singleton.mp z)
    have st0 : StrSet P w ((s.heap.push ob).push { cls := .type "list_iterator", data := .fields #[.ref l, .int 0 0] }) s.heap.objs.size (hasZ xs 0) 0 := by
      refine ⟨#[], 0, _, ⟨⟨ob, Heap.get?_push_of_some _ hnew, ?_, hdat⟩, (fun e he => by simp at he), fun k => ?_, (by decide), hfr, rfl, List.Pairwise.nil, ?_⟩⟩
      · rw [← hob]
        exact ⟨rfl, rfl, rfl⟩
      · unfold hasZ
        simp
      · show _ ∨ (!w.params.followText "set-order") = true
        cases w.params.followText "set-order" <;> simp
    refine strS_loop wk s.heap.objs.size hfp xs hlen (by omega) (fun i v hv => ?_) items.size 0 _ rfl (Nat.zero_le _) ⟨⟨_, Heap.get?_push_size _ rfl, rfl, rfl⟩, (hl.push ob).push _⟩ ⟨0, Nat.le_refl _, st0⟩ fun s' mv hs => ?_
    · obtain ⟨t, ht⟩ := SS.strs_at hx i v (by simpa using hv)
      have hi : i < xs.length := by
        rw [hlen]
        exact (Array.getElem?_eq_some_iff.mp hv).1
      exact ⟨_, t, List.getElem?_eq_getElem hi, by rw [ht]; simp [List.getD, hi]⟩
    obtain ⟨m, hm, ss⟩ := hs
    rw [← hlen] at hm ss
    dsimp only
    refine wpAny_pure (wpAny_pure ⟨_, rfl, wpAny_pure ?_⟩)
    dsimp only
    rw [if_neg (by decide)]
    refine wpAny_pure ?_
    dsimp only
    obtain ⟨h', g', d', tk', os'⟩ := s'
    have e1 := mv.gens
    have e2 := mv.drawn
    have e3 := mv.os
    dsimp only at e1 e2 e3 ss ⊢
    subst e1 e2 e3
    refine q h' tk' m hm ss fun b o e => mv.heap b o (fun z => ?_) (Heap.get?_push_of_some _ (Heap.get?_push_of_some _ e))
    have hb := Heap.lt_size e
    rcases List.mem_cons.mp z with z | z
    · rw [z] at hb
      exact absurd hb (Nat.lt_irrefl _)
    · rw [List.mem_singleton.mp z, isz] at hb
      exact Nat.not_lt.mpr (Nat.le_succ _) hb
  | .error e, h => exact h
end
end L2

namespace L2
open PySem PySem.Spec PyProof.Rows SrtO SrtZ
section
variable {P : Program} {w : World} {A : Around} {E : Value → Shared → Prop} {s : Shared} {a : Addr}
theorem isStr_of {z : Str} {v : Value} (h : (strKind P w).is z v = true) : ∃ t, v = .str z t := by
  cases v with
  | str x t =>
    have h := (strKind P w).inj (.str x t) z x h (strKind_is P w x t)
    exact ⟨t, by rw [h]⟩
  | _ => exact absurd h (by first | decide | (intro z; cases z))
theorem sorted_strS {S : Str → Bool} {n : Nat} {Q : Value → Shared → Prop} (hs : StrSet P w s.heap a S n) (hA : A.handled = none)
    (q : ∀ (s' : Shared) (p : Nat) (ys : List Str) (out : List Value), (∀ b o, s.heap.get? b = some o → s'.heap.get? b = some o) → s'.gens = s.gens → s'.os = s.os → s.heap.objs.size ≤ p → (∃ c, s'.heap.get? p = some (seqObj "list" out.toArray c)) → StrsAre out ys → (∀ z, z ∈ ys ↔ S z = true) → ys.length = n → Srtd ltZ ys → Q (.ref p) s') :
    wpAny (model P w) A (call (.builtin "sorted") [.ref a]) Q E s := by
  obtain ⟨es, ep, t, ⟨⟨o, h1, h2, h3⟩, el, is_, lt, fits, sz, ris, led⟩⟩ := hs
  subst sz
  refine call_function_entry_kw kind_sorted plain_sorted entry_sorted (args_sorted1 _) ?_
  unfold Builtin.«sorted»
  refine wpAny_bind (m := checkCount "sorted" 1 1 _) (wpAny_pure ?_)
  refine wpAny_bind (collect_set (A := A.in1) hA ⟨o, h1, h2.1, h3⟩ fits lt ris led fun s1 vs kp1 sz1 g1 os1 pm => ?_)
  have vl : vs.length = es.size := by
    have := pm.length_eq
    simpa using this
  have isS : ∀ v ∈ vs, ∃ x t, v = Value.str x t := fun v hv => by
    obtain ⟨e, he, rfl⟩ := List.mem_map.mp (pm.mem_iff.mp hv)
    obtain ⟨⟨k, hk, _⟩, _⟩ := el e he
    obtain ⟨t, ht⟩ := isStr_of hk
    exact ⟨k, t, ht⟩
  have hz : vs.length ≤ sizeLine := by rw [vl]; exact fits_of_scanBound lt
  refine wpAny_bind (wpAny_newList ?_ hz)
  have hoL : (s1.heap.push (seqObj "list" vs.toArray 0)).get? s1.heap.objs.size = some (seqObj "list" vs.toArray 0) := Heap.get?_push_size _ rfl
  refine wpAny_bind (wpAny_holding (wpAny_call_entry_kw slot_list_sort ⟨_, hoL, rfl⟩ entry_list_sort ?_ (args_list_sort _)))
  rw [plain_rev]
  refine SrtR.list_sort_ordR (s := { s1 with heap := s1.heap.push (seqObj "list" vs.toArray 0) }) (b := false) (ltv := ltSv) swo_str hoL hz (fun h2 => strs_sortable (strsAre_map vs isS) h2) fun out hs hb => ⟨_, rfl, ?_⟩
  refine wpAny_pure ⟨_, rfl, ?_⟩
  have pm2 : out.Perm vs := by
    have := hb.perm
    rwa [if_neg (by decide)] at this
  have isO : ∀ v ∈ out, ∃ x t, v = Value.str x t := fun v hv => isS v (pm2.mem_iff.mp hv)
  refine q _ _ (out.map strOf) out (fun b u e => ?_) g1 os1 sz1 (sortedHeap_at hoL) (strsAre_map out isO) (fun z => ?_) ?_ (srtd_map hs)
  · have k1 := kp1 b u e
    exact (sortedHeap_old (Nat.ne_of_lt (Heap.lt_size k1)) (Heap.lt_size (Heap.get?_push_of_some _ k1))).trans (Heap.get?_push_of_some _ k1)
  · rw [is_ z]
    constructor
    · intro h
      obtain ⟨v, hv, rfl⟩ := List.mem_map.mp h
      obtain ⟨e, he, rfl⟩ := List.mem_map.mp (pm.mem_iff.mp (pm2.mem_iff.mp hv))
      obtain ⟨⟨k, hk, _⟩, _⟩ := el e he
      obtain ⟨t, ht⟩ := isStr_of hk
      refine ⟨e, he, ?_⟩
      rw [ht] at hk ⊢
      exact hk
    · rintro ⟨e, he, hk⟩
      obtain ⟨t, ht⟩ := isStr_of hk
      refine List.mem_map.mpr ⟨e.2, pm2.mem_iff.mpr (pm.mem_iff.mpr (List.mem_map.mpr ⟨e, he, rfl⟩)), ?_⟩
      rw [ht]
      rfl
  · rw [List.length_map, pm2.length_eq, vl]
end
def SetS (P : Program) (w : World) (a : Addr) (S : Str → Bool) (n : Nat) : HO := .ext fun h => StrSet P w h a S n
theorem setS_ok {P : Program} {w : World} {H : Hp} {h : Heap} {a : Addr} {S : Str → Bool} {n : Nat} (st : StrSet P w h a S n) : ObjOk P w H h a (SetS P w a S n) :=
  ⟨st, (let ⟨_, _, _, ⟨⟨o, e, _⟩, _, _, _, _, _, _, _⟩⟩ := st; ⟨o, e⟩), fun h1 h2 x k => StrSet.keep x k⟩
section
variable {X : Cx}
/-- set(xs), xs a list of texts -/
def rSetOfS (K : PySem.W.Frag) (P : Program) (w : World) : List V → Hp → VK → Prop := fun xs H Q => ∃ (l : Addr) (zs : List Str), xs = [V.ref l] ∧ SqL K H l (zs.map V.str) ∧ zs.length ≤ 1000 ∧ ∀ (p : Addr) (n : Nat), H p = none → n ≤ dcz zs zs.length → Q (.ref p) (upd H p (SetS P w p (hasZ zs zs.length) n))
theorem cr_setOfS (hc : X.calm = true) : CallR X (.type "set") (rSetOfS X.K X.prog X.w) := by
  intro pins s σ H xs us Q I r h
  obtain ⟨l, zs, rfl, hS, hz, q⟩ := h
  obtain rfl := Vals.ref1 r
  obtain ⟨its, r', pl, hz'⟩ := I.list hS
  have h1 := strs_of_vals r'
  refine call_set_strs (items := its.toArray) (xs := zs) (I.ok.hd hc) pl.isList (by simpa using h1) (by show zs.length + 1 < 4096; omega) fun h' tk m hm ss kp => ?_
  have hf : H s.heap.objs.size = none := I.hok.fresh (Nat.le_refl _)
  exact ⟨.ref s.heap.objs.size, _, I.laid (t' := tk) kp (Nat.le_refl _) (setS_ok ss), rfl, q _ m hf hm⟩
/-- sorted(s), s a set of texts -/
def rSortedSS (P : Program) (w : World) : List V → Hp → VK → Prop := fun vs H Q => ∃ (a : Addr) (S : Str → Bool) (n : Nat), vs = [V.ref a] ∧ H a = some (SetS P w a S n) ∧ n ≤ 1000 ∧ ∀ (ys : List Str) (l : Addr), Srtd ltZ ys → (∀ z, z ∈ ys ↔ S z = true) → ys.length = n → H l = none → Q (.ref l) (upd H l (.lst (ys.map V.str)))
theorem cr_sortedSS (hc : X.calm = true) : CallR X (.builtin "sorted") (rSortedSS X.prog X.w) := by
  intro pins s σ H xs us Q I r h
  obtain ⟨a, S, n, rfl, ha, hn, q⟩ := h
  obtain rfl := Vals.ref1 r
  have ss : StrSet X.prog X.w s.heap a S n := (show ObjOk X.prog X.w H s.heap a (SetS X.prog X.w a S n) from I.hok a _ ha).1
  refine sorted_strS ss (I.ok.hd hc) fun s' p ys out kp g1 os1 hp hat hys hmem hlen hsrt => ?_
  obtain ⟨c, hat⟩ := hat
  have hf : H p = none := I.hok.fresh hp
  have hlen2 : (ys.map V.str).length ≤ sizeLine := by rw [List.length_map, hlen, sizeLine_eq]; omega
  have ok : ObjOk X.prog X.w (upd H p (.lst (ys.map V.str))) s'.heap p (.lst (ys.map V.str)) := ⟨hlen2, out, c, vals_of_strs hys, hat⟩
  obtain ⟨h', g', d', tk', os'⟩ := s'
  dsimp only at g1 os1 kp hat ok
  subst g1 os1
  exact ⟨.ref p, _, I.call (ch := []) (Un.laid kp hp hf) (I.hok.laid kp hp ok) I.bare (fun _ h => nomatch h), rfl, q ys p hsrt hmem hlen hf⟩
end
theorem memlen : ∀ {l m : List Str}, l.Nodup → (∀ x ∈ l, x ∈ m) → l.length ≤ m.length
  | [], _, _, _ => Nat.zero_le _
  | x :: l, m, nd, h => by
    rw [List.nodup_cons] at nd
    have hx := h x List.mem_cons_self
    have ih := memlen (l := l) (m := m.erase x) nd.2 fun y hy => (List.mem_erase_of_ne (fun z => nd.1 (by rw [← z]; exact hy))).mpr (h y (List.mem_cons_of_mem _ hy))
    rw [List.length_erase_of_mem hx] at ih
    have := List.length_pos_of_mem hx
    show l.length + 1 ≤ m.length
    omega
theorem memnd : ∀ {l m : List Str}, l.Nodup → (∀ x ∈ l, x ∈ m) → m.length ≤ l.length → m.Nodup
  | [], m, _, _, h => by
    have : m = [] := List.eq_nil_of_length_eq_zero (Nat.le_zero.mp h)
    rw [this]
    exact List.nodup_nil
  | x :: l, m, nd, h, hl => by
    have nd' := nd
    rw [List.nodup_cons] at nd
    have hx := h x List.mem_cons_self
    have hsub : ∀ y ∈ l, y ∈ m.erase x := fun y hy => (List.mem_erase_of_ne (fun z => nd.1 (by rw [← z]; exact hy))).mpr (h y (List.mem_cons_of_mem _ hy))
    have hle := List.length_erase_of_mem hx
    have hl' : m.length ≤ l.length + 1 := hl
    have ih := memnd (l := l) (m := m.erase x) nd.2 hsub (by omega)
    have hno : x ∉ m.erase x := fun z => by
      have := memlen (l := x :: l) (m := m.erase x) nd' fun y hy => by
        rcases List.mem_cons.mp hy with rfl | hy
        · exact z
        · exact hsub y hy
      have h0 : l.length + 1 ≤ (m.erase x).length := this
      have := List.length_pos_of_mem hx
      omega
    exact (List.perm_cons_erase hx).nodup_iff.mpr (List.nodup_cons.mpr ⟨hno, ih⟩)
/-- the unlike ones, each once -/
theorem dcz_list (xs : List Str) : ∀ i, i ≤ xs.length → ∃ l : List Str, l.Nodup ∧ l.length = dcz xs i ∧ ∀ z, z ∈ l ↔ hasZ xs i z = true
  | 0, _ => ⟨[], List.nodup_nil, rfl, fun z => by unfold hasZ; simp⟩
  | i + 1, h => by
    obtain ⟨l, nd, hl, hm⟩ := dcz_list xs i (by omega)
    have hx : xs[i]? = some xs[i] := List.getElem?_eq_getElem (by omega)
    generalize xs[i] = x at hx
    have hs := hasZ_snoc hx
    have hd := dcz_snoc hx
    cases e : hasZ xs i x with
    | true =>
      rw [e, if_pos rfl] at hd
      refine ⟨l, nd, by omega, fun z => ?_⟩
      rw [hm, hs, Bool.or_eq_true]
      constructor
      · exact .inl
      · rintro (h | h)
        · exact h
        · rw [of_decide_eq_true h]
          exact e
    | false =>
      rw [e, if_neg (by decide)] at hd
      refine ⟨x :: l, List.nodup_cons.mpr ⟨fun z => ?_, nd⟩, by rw [List.length_cons]; omega, fun z => ?_⟩
      · rw [hm, e] at z
        cases z
      · rw [List.mem_cons, hm, hs, Bool.or_eq_true, decide_eq_true_eq]
        exact Or.comm
theorem dcz_nd {xs ys : List Str} (h : ∀ z, z ∈ ys ↔ hasZ xs xs.length z = true) (hl : ys.length ≤ dcz xs xs.length) : ys.Nodup := by
  obtain ⟨l, nd, h1, h2⟩ := dcz_list xs xs.length (Nat.le_refl _)
  exact memnd nd (fun z hz => (h z).mpr ((h2 z).mp hz)) (by omega)
theorem hasZ_all (xs : List Str) (z : Str) : hasZ xs xs.length z = true ↔ z ∈ xs := by
  unfold hasZ
  rw [List.take_length, List.any_eq_true]
  constructor
  · rintro ⟨x, hx, e⟩
    rw [← of_decide_eq_true e]
    exact hx
  · intro h
    exact ⟨z, h, decide_eq_true rfl⟩
end L2

namespace Kb
open PySem PySem.Spec PyProof.Rows L2 SrtZ SrtO
abbrev sis_int : Stmt := topS 56
abbrev Nis_int : List Str := ["_law_thing"]
theorem scis_int : FnScope ["_law_thing"] ["_law_thing"] (defScope sis_int) := ⟨rfl, rfl, rfl, by decide +kernel, rfl, by decide +kernel, by decide +kernel⟩
abbrev sis_name : Stmt := topS 57
abbrev Nis_name : List Str := ["_law_thing", "_law_letters", "_law_sign"]
theorem scis_name : FnScope ["_law_thing", "_law_letters", "_law_sign"] ["_law_thing"] (defScope sis_name) := ⟨rfl, rfl, rfl, by decide +kernel, rfl, by decide +kernel, by decide +kernel⟩
abbrev Nare_counts : List Str := ["_law_thing", "_law_names", "_law_pair"]
abbrev Dnis_int (K : PySem.W.Frag) (mg : Str → Option Value) := Dn K mg "_law_is_int" sis_int ["_law_thing"]
abbrev Dnis_name (K : PySem.W.Frag) (mg : Str → Option Value) := Dn K mg "_law_is_name" sis_name ["_law_thing"]
abbrev rLenK (K : PySem.W.Frag) : List V → Hp → VK → Prop := fun xs H Q => ∃ p ys, xs = [V.ref p] ∧ (SqL K H p ys ∨ SqT K H p ys) ∧ Q (V.int (ys.length : Nat)) H
theorem sign_in : ∀ m : Fin 26, (!(Builtin.Str.occurrences (Str.ofString "abcdefghijklmnopqrstuvwxyz") ⟨#[97 + m.val]⟩ 0 (Str.ofString "abcdefghijklmnopqrstuvwxyz").length 1).isEmpty) = true := by decide +kernel
theorem sign_in' {c : Nat} (h : nmC c = true) : (!(Builtin.Str.occurrences (Str.ofString "abcdefghijklmnopqrstuvwxyz") ⟨#[c]⟩ 0 (Str.ofString "abcdefghijklmnopqrstuvwxyz").length 1).isEmpty) = true := by
  unfold nmC at h
  have h1 : ¬ c < 97 := fun z => by rw [decide_eq_true z] at h; cases h
  have h2 : ¬ 122 < c := fun z => by rw [decide_eq_true z] at h; simp at h
  have := sign_in ⟨c - 97, by omega⟩
  rw [show 97 + (c - 97) = c by omega] at this
  exact this
def isP : El → Bool
  | .pr _ _ => true
  | .prb _ _ => true
  | .no => false
def nmE : El → Str
  | .pr n _ => n
  | .prb n _ => n
  | .no => Str.ofString ""
theorem posE {es : List El} (h : ∀ e ∈ es, elB e = true) : es = (es.map fun e => (nmE e, match e with | .pr _ i => i | _ => 0)).map prE := by
  rw [List.map_map]
  conv => lhs; rw [← List.map_id es]
  refine List.map_congr_left fun e he => ?_
  have := h e he
  cases e with
  | pr n i => rfl
  | prb n b => cases this
  | no => cases this
theorem eqv_strs : ∀ a b : List Str, PyData.eqvAll (a.map PyData.str) (b.map PyData.str) = true ↔ a = b
  | [], [] => ⟨fun _ => rfl, fun _ => rfl⟩
  | [], y :: b => ⟨fun h => (nomatch h), fun h => (nomatch h)⟩
  | x :: a, [] => ⟨fun h => (nomatch h), fun h => (nomatch h)⟩
  | x :: a, y :: b => by
    show ((x == y) && PyData.eqvAll (a.map PyData.str) (b.map PyData.str)) = true ↔ _
    rw [Bool.and_eq_true, eqv_strs a b, beq_iff_eq]
    constructor
    · rintro ⟨rfl, rfl⟩
      rfl
    · intro h
      injection h with h1 h2
      exact ⟨h1, h2⟩
/-- the names sorted, each once: the names themselves only if they ascend -/
theorem names_asc {L S : List Str} (so : Srtd ltZ S) (nd : S.Nodup) (hm : ∀ z, z ∈ S ↔ z ∈ L) : L = S ↔ L.Pairwise fun a b => ltZ a b = true := by
  have sS : S.Pairwise fun a b => ltZ a b = true := by
    refine List.Pairwise.imp₂ (fun {a b} h1 h2 => ?_) so nd
    rcases bcase (ltZ a b) with q | q
    · exact q
    · exact absurd (ltZ_tri q h1) h2
  constructor
  · rintro rfl
    exact sS
  · intro h
    have ndL : L.Nodup := by
      refine List.Pairwise.imp (fun {a b} h e => ?_) h
      rw [e, ltZ_irr] at h
      cases h
    have p : L.Perm S := (List.perm_ext_iff_of_nodup ndL nd).mpr fun z => (hm z).symm
    exact List.Perm.eq_of_pairwise (le := fun (a b : Str) => ltZ a b = true) (fun a b _ _ h1 h2 => by
      have := ltZ_asym h1
      rw [this] at h2
      cases h2) h sS p
section
variable {P : Program} {w : World} {K : PySem.W.Frag} {mg : Str → Option Value} {base : Heap}
/-! _law_is_int -/
theorem ok_is_intL (T : Blt mg) (d : Dnis_int K mg) : FnOk P w K mg base CX0 1 d.f d.fd ["_law_thing"] spIsIntB := by
  refine d.F.ok scis_int (fun vs H Q E h => ?_) (fun cdv A outer s H vs Q E hr h => ?_)
  · rcases h with ⟨i, rfl, _⟩ | ⟨b, rfl, _⟩ <;> rfl
  · refine ⟨_, (pss_one (ps_ret (pe_and (pe_callB call_isi (by rfl) T.n_isinstance (by decide +kernel) (pa_cons (pv 0) (pa_cons (pe_bltn (v := .ty "int") (by rfl) T.n_int (by decide +kernel) rfl) pa_nil))) (pe_one (pe_not (pe_callB call_isi (by rfl) T.n_isinstance (by decide +kernel) (pa_cons (pv 0) (pa_cons (pe_bltn (v := .ty "bool") (by rfl) T.n_bool (by decide +kernel) rfl) pa_nil)))))))), ?_⟩
    rcases h with ⟨i, rfl, q⟩ | ⟨b, rfl, q⟩
    · refine ⟨.int i, rfl, .int i, _, _, _, true, rfl, .ty "int", .base (.int i), kit_ty (by decide +kernel), true, rfl, iteT ?_⟩
      exact ⟨.int i, rfl, .int i, _, _, _, false, rfl, .ty "bool", .base (.int i), kit_ty (by decide +kernel), false, rfl, q⟩
    · refine ⟨.bl b, rfl, .bl b, _, _, _, true, rfl, .ty "int", .base (.bl b), kit_ty (by decide +kernel), true, rfl, iteT ?_⟩
      exact ⟨.bl b, rfl, .bl b, _, _, _, true, rfl, .ty "bool", .base (.bl b), kit_ty (by decide +kernel), true, rfl, q⟩
/-! _law_is_name -/
theorem ok_is_nameL (T : Blt mg) (d : Dnis_name K mg) : FnOk P w K mg base CX0 1 d.f d.fd ["_law_thing"] spIsName := by
  refine d.F.ok scis_name (fun vs H Q E h => ?_) (fun cdv A outer s H vs Q E hr h => ?_)
  · obtain ⟨z, rfl, _⟩ := h
    rfl
  · obtain ⟨z, rfl, nm, q⟩ := h
    refine ⟨_, (pss_cons (ps_set (i := 1) scis_name.nd rfl (Or.inr rfl) pe_str)
    (pss_one (ps_ret (pe_and (pe_callB call_isi (by rfl) T.n_isinstance (by decide +kernel) (pa_cons (pv 0) (pa_cons (pe_bltn (v := .ty "str") (by rfl) T.n_str (by decide +kernel) rfl) pa_nil))) (pe_and (pe_chain op_le op_le pe_int (pe_callB call_len_str (by rfl) T.n_len (by decide +kernel) (pa_cons (pv 0) pa_nil)) pe_int) (pe_one (pe_callB (cr_all rfl) (by rfl) T.n_all (by decide +kernel) (pa_cons (pe_lc (own := [("_law_sign", 2)]) (g := gName 2) (tt := tYes) rfl scis_name.nd (pi_str (pv 0)) (blkOk_by (N := Nis_name) (sc := defScope sis_name) (by decide +kernel)) (fun _ _ _ _ _ => pg_name (i := 2) scis_name.nd rfl (Or.inl rfl)) (fun _ _ _ _ _ => pts_nil) (fun _ _ _ _ _ => (pe_cmpR op_in_str (pv 2) (pv 1) rfl))) pa_nil)))))))), ?_⟩
    have h1 : decide ((1 : Int) ≤ (z.length : Int)) = true := decide_eq_true (by have := nm.pos; omega)
    have h8 : decide ((z.length : Int) ≤ 8) = true := decide_eq_true (by have := nm.len; omega)
    refine ⟨.str z, rfl, .str z, _, _, _, true, rfl, .ty "str", .base (.str z), kit_ty (by decide +kernel), true, rfl, iteT ?_⟩
    refine ⟨.str z, rfl, z, rfl, (by rw [sizeLine_eq]; have := nm.len; omega), _, _, rfl, rfl, true, congrArg V.bl h1, iteT ⟨_, _, rfl, rfl, true, congrArg V.bl h8, iteT ?_⟩⟩
    refine ⟨.str z, rfl, z, rfl, fun D nD => ?_⟩
    refine lc_it walk_str (fun i H3 => Same H H3 ∧ H3 D = some (.lst (((cs z).take i).map fun c => V.bl true))) ⟨same_upd nD, upd_same⟩ (fun _ _ _ _ => trivial) (fun i x H3 H4 hi h3 y => ?_) (fun H3 h3 => ?_)
    · obtain ⟨rfl, c, hc, rfl⟩ := y
      have hc2 : (cs z)[i]? = some c := by
        rw [← hc]
        simp [cs]
      have hcn := nm.abc c (List.mem_of_getElem? hc2)
      refine ⟨rfl, .str ⟨#[c]⟩, rfl, _, rfl, _, _, rfl, rfl, ?_⟩
      rw [sign_in' hcn]
      refine ⟨_, h3.2, ?_, fun b o e => ?_, ?_⟩
      · rw [List.length_map, List.length_take, sizeLine_eq]
        have := cs_len z
        have := nm.len
        omega
      · rw [upd_ne (ne_of_none e nD)]
        exact h3.1 b o e
      · rw [upd_same, List.take_add_one, hc2, List.map_append]
        rfl
    · refine ⟨D, (cs z).map fun _ => true, rfl, sql ?_, ?_⟩
      · rw [h3.2, List.map_map]
        rw [List.take_of_length_le (by
          show (cs z).length ≤ z.cps.size
          simp [cs])]
        rfl
      · rw [show (((cs z).map fun _ => true).all id) = true by simp]
        exact q H3 h3.1
/-! _law_are_counts -/
end
end Kb

namespace Kb
open PySem PySem.Spec PyProof.Rows L2 SrtZ SrtO
abbrev Nis_truth : List Str := ["_law_sketch", "_law_thing", "_law_counts", "_law_kept", "_law_taken", "_law_name", "_law_one"]
theorem dg_open {H : Hp} {d : Addr} {kvs : Ct} (h : H d = some (.dK (kvs.map entZ))) (n : Str) : DGet H d (.str n) ((getZ kvs n).map V.int) := by
  rw [← getZ_val]
  exact DGet.k (k := Sum.inr n) h
theorem dg_lock {H : Hp} {d : Addr} {kvs : Ct} {od : Obj} (h : H d = some (.frz od (.dK (kvs.map entZ)))) (n : Str) : DGet H d (.str n) ((getZ kvs n).map V.int) := by
  rw [← getZ_val]
  exact .inl ⟨kvs.map entZ, Sum.inr n, .inr ⟨od, h⟩, rfl, rfl⟩
/-- with all kept names among them, the sum of what is taken is what is lost -/
theorem taken_sum {ks : Ct} (ndk : NdZ ks) : ∀ {ys : Ct}, NdZ ys → (∀ e ∈ ks, e.1 ∈ ys.map (·.1)) → (ys.map fun e => e.2 - gd ks e.1).sum = sumC ys - sumC ks
  | [], _, h => by
    have : ks = [] := by
      cases ks with
      | nil => rfl
      | cons e r => exact absurd (h e List.mem_cons_self) (by simp)
    rw [this]
    rfl
  | y :: ys, nd, h => by
    unfold NdZ at nd
    rw [List.map_cons, List.nodup_cons] at nd
    have ih := taken_sum (ks := wo y.1 ks) (wo_nd ndk) (ys := ys) nd.2 fun e he => by
      obtain ⟨h1, h2⟩ := List.mem_filter.mp he
      have h3 : ¬ e.1 = y.1 := by simpa using h2
      rcases List.mem_cons.mp (h e h1) with h4 | h4
      · exact absurd h4 h3
      · exact h4
    have hc : (ys.map fun e => e.2 - gd ks e.1) = ys.map fun e => e.2 - gd (wo y.1 ks) e.1 := by
      refine List.map_congr_left fun e he => ?_
      rw [wo_gd (n := y.1) (k := e.1) (fun z => nd.1 (by rw [← z]; exact List.mem_map.mpr ⟨e, he, rfl⟩)) ks]
    rw [List.map_cons, List.sum_cons, hc, ih, wo_sum ndk, sumC_cons']
    omega
section
variable {P : Program} {w : World} {K : PySem.W.Frag} {mg : Str → Option Value} {base : Heap}
/-! _law_is_truth -/
def spIsTruthL (K : PySem.W.Frag) : Sp := fun vs H Q _ => ∃ (s : Addr) (v : V) (r : Int) (x : Tl) (th : Option (List El)), vs = [.ref s, v] ∧ SkAt H s r x ∧ TlOk r x ∧ r ≤ 64 ∧ ThAt K H v th ∧ ∀ H' b, Same H H' → (b = true ↔ Tr x th) → Q (.bl b) H'
end
end Kb

namespace Kb
open PySem PySem.Spec PyProof.Rows L2 SrtZ SrtO
/-- each tally of the pile within its bounds, beside its true counts; together they are those of the tree -/
theorem runL_true {r : Int} (hr : 1 ≤ r) : ∀ {l : List Stp} {st : List Tl} {fs : List (Str → Int)} {kc : Ct} {m : Int}, (∀ zs, .put zs ∈ l → ∀ z ∈ zs, Nm z) → (∀ x ∈ st, TlOk r x ∧ Bd r x) → Paired TruF fs st → (∀ k, (fs.map fun f => f k).sum = gd kc k) → (st.map (·.m)).sum = m →
    ∃ gs, Paired TruF gs (l.foldl (stepL r) st) ∧ (∀ x ∈ l.foldl (stepL r) st, Bd r x) ∧ (∀ k, (gs.map fun f => f k).sum = gd (l.foldl cntS kc) k) ∧ ((l.foldl (stepL r) st).map (·.m)).sum = l.foldl cS m
  | [], st, fs, kc, m, _, h, p, s, e => ⟨fs, p, fun x hx => (h x hx).2, s, e⟩
  | t :: l, st, fs, kc, m, hn, h, p, s, e => by
    have hn' : ∀ zs, .put zs ∈ l → ∀ z ∈ zs, Nm z := fun zs hz => hn zs (List.mem_cons_of_mem _ hz)
    cases t with
    | put zs =>
      have hz := hn zs List.mem_cons_self
      have ok := feedsT_ok hr (tl0_ok hr) hz
      obtain ⟨b1, b2⟩ := bd_stream hr hz
      refine runL_true hr (l := l) (st := feedsT r zs tl0 :: st) (fs := (fun k => gd (cntZ zs []) k) :: fs) (kc := cntZ zs kc) (m := m + (zs.length : Nat)) hn' (fun x hx => ?_) (.cons (tru_stream hr (tl0_ok hr) tru0 hz) p) (fun k => ?_) ?_
      · rcases List.mem_cons.mp hx with rfl | hx
        · exact ⟨ok, b1⟩
        · exact h x hx
      · rw [List.map_cons, List.sum_cons, s k, gd_cntZ zs kc k]
        exact Int.add_comm _ _
      · rw [List.map_cons, List.sum_cons, e, b2]
        omega
    | pour =>
      match st, fs, p, h, s, e with
      | [], fs, p, h, s, e => exact runL_true hr (l := l) hn' h p s e
      | [_], fs, p, h, s, e => exact runL_true hr (l := l) hn' h p s e
      | a :: b :: st, _, .cons pa (.cons pb p), h, s, e =>
        rename_i fa fb fs
        obtain ⟨oa, ba⟩ := h a List.mem_cons_self
        obtain ⟨ob, bb⟩ := h b (List.mem_cons_of_mem _ List.mem_cons_self)
        have em : (pourT r a b).m = b.m + a.m := by
          unfold pourT
          dsimp only
          split <;> rfl
        refine runL_true hr (l := l) (st := pourT r a b :: st) (fs := (fun k => fb k + fa k) :: fs) (kc := kc) (m := m) hn' (fun x hx => ?_) (.cons (tru_pour hr ob oa pb pa) p) (fun k => ?_) ?_
        · rcases List.mem_cons.mp hx with rfl | hx
          · exact ⟨pourT_ok ob oa (by omega), bd_pour hr ob oa bb ba⟩
          · exact h x (List.mem_cons_of_mem _ (List.mem_cons_of_mem _ hx))
        · have := s k
          rw [List.map_cons, List.map_cons, List.sum_cons, List.sum_cons] at this
          rw [List.map_cons, List.sum_cons]
          show fb k + fa k + (fs.map fun f => f k).sum = gd kc k
          omega
        · rw [List.map_cons, List.map_cons, List.sum_cons, List.sum_cons] at e
          rw [List.map_cons, List.sum_cons, em]
          omega
theorem cntZ_in {Pn : Str → Prop} : ∀ {zs : List Str} {kc : Ct}, (∀ z ∈ zs, Pn z) → (∀ e ∈ kc, 1 ≤ e.2 ∧ Pn e.1) → ∀ e ∈ cntZ zs kc, 1 ≤ e.2 ∧ Pn e.1
  | [], _, _, h => h
  | z :: zs, kc, hz, h => cntZ_in (zs := zs) (kc := addZ kc z 1) (fun y hy => hz y (List.mem_cons_of_mem _ hy)) fun e he => by
    refine ⟨addZ_pos (fun e he => (h e he).1) (by decide) e he, ?_⟩
    rcases putZ_mem he with he | rfl
    · exact (h e he).2
    · exact hz z List.mem_cons_self
theorem cntT_in {Pn : Str → Prop} : ∀ {l : List Stp} {kc : Ct}, (∀ zs, .put zs ∈ l → ∀ z ∈ zs, Pn z) → (∀ e ∈ kc, 1 ≤ e.2 ∧ Pn e.1) → ∀ e ∈ l.foldl cntS kc, 1 ≤ e.2 ∧ Pn e.1
  | [], _, _, h => h
  | .put zs :: l, kc, hn, h => cntT_in (l := l) (kc := cntZ zs kc) (fun zs hz => hn zs (List.mem_cons_of_mem _ hz)) (cntZ_in (hn zs List.mem_cons_self) h)
  | .pour :: l, kc, hn, h => cntT_in (l := l) (kc := kc) (fun zs hz => hn zs (List.mem_cons_of_mem _ hz)) h
/-- what a drawn tree leads to -/
structure Out (r : Int) (ns : List Str) (st : List Stp) (x x' : Tl) : Prop where
  rt : runT r st = [x]
  rl : runL r st = [x']
  sk : skT x = skT x'
  ok : TlOk r x'
  bd : Bd r x'
  tr : TrOf x' (srtZ (cntT st))
  inn : ∀ e ∈ x'.c, e.1 ∈ ns
  few : x'.m ≤ 40 * 9
theorem tree_out {r : Int} {ns : List Str} {st : List Stp} {i : Nat} (hr : 1 ≤ r) (hns : ∀ z ∈ ns, Nm z) (g : Gr (· ∈ ns) i 1 st) (hi : i ≤ 9) : ∃ x x', Out r ns st x x' := by
  have tr := gr_tree g (by omega)
  have hN : ∀ zs, .put zs ∈ st → ∀ z ∈ zs, Nm z := fun zs hz z hzz => hns z (g.nm zs hz z hzz)
  have hl := run_len (r := r) tr.two st.length (Nat.le_refl _)
  rw [List.take_length, tr.one] at hl
  have hlL := runL_lenT hr hN
  obtain ⟨x, hx⟩ : ∃ x, runT r st = [x] := by
    match h : runT r st, hl with
    | [x], _ => exact ⟨x, rfl⟩
    | [], hl => exact absurd hl (by decide)
    | _ :: _ :: _, hl => exact absurd hl (by simp only [List.length_cons]; omega)
  obtain ⟨x', hx'⟩ : ∃ x, runL r st = [x] := by
    rw [hx] at hlL
    match h : runL r st, hlL with
    | [x], _ => exact ⟨x, rfl⟩
    | [], hl => exact absurd hl (by simp)
    | _ :: _ :: _, hl => exact absurd hl (by simp)
  have hs := runTL (r := r) hr (l := st) (st := []) (st' := []) hN (fun _ h => nomatch h) (fun _ h => nomatch h) rfl
  have hs2 : (runT r st).map skT = (runL r st).map skT := hs
  rw [hx, hx'] at hs2
  injection hs2 with hs2 _
  have ok : TlOk r x' := runL_ok (l := st) (st := []) hr hN (fun _ h => nomatch h) x' (by show x' ∈ runL r st; rw [hx']; exact List.mem_cons_self)
  obtain ⟨gs, p, bd, sm, mm⟩ := runL_true hr (l := st) (st := []) (fs := []) (kc := []) (m := 0) hN (fun _ h => nomatch h) .nil (fun k => rfl) rfl
  have hfl : st.foldl (stepL r) [] = [x'] := hx'
  rw [hfl] at p bd mm
  have cin := cntT_in (Pn := (· ∈ ns)) (l := st) (kc := []) g.nm (fun _ h => nomatch h)
  have ndc := cntT_nd st
  have mx : x'.m = mny st := by
    have : x'.m + 0 = st.foldl cS 0 := mm
    show x'.m = st.foldl cS 0
    omega
  cases p with
  | cons pf pt =>
    rename_i f _
    cases pt
    have hf : ∀ k, f k = gd (cntT st) k := fun k => by
      have : f k + 0 = gd (st.foldl cntS []) k := sm k
      show f k = gd (st.foldl cntS []) k
      omega
    have gS : ∀ k, gd (srtZ (cntT st)) k = gd (cntT st) k := gd_srt ndc
    refine ⟨x, x', hx, hx', hs2, ok, bd x' List.mem_cons_self, ⟨srtZ_asc ndc, srtZ_nd ndc, fun e he => (cin e ((srtZ_perm _).mem_iff.mp he)).1, fun e he => hns _ (cin e ((srtZ_perm _).mem_iff.mp he)).2, fun k => ?_, fun k => ?_, ?_⟩, fun e he => ?_, ?_⟩
    · have := (pf k).1
      rw [hf] at this
      rw [gS]
      omega
    · have := (pf k).2
      rw [hf] at this
      rw [gS]
      exact this
    · rw [sumC_perm' (srtZ_perm _), mx]
      exact sum_cnt st [] 0 List.nodup_nil rfl
    · have h1 := (pf e.1).1
      rw [hf] at h1
      have hg : gd x'.c e.1 = e.2 := by
        unfold gd
        rw [getZ_mem ok.nd he]
        rfl
      have h2 := ok.pos e he
      have h3 : 1 ≤ gd (cntT st) e.1 := by omega
      unfold gd at h3
      cases hz : getZ (cntT st) e.1 with
      | none =>
        rw [hz] at h3
        exact absurd h3 (by decide)
      | some v => exact (cin _ (getZ_in hz)).2
    · rw [mx]
      have := g.few
      omega
theorem Bd.yes {r : Int} {x : Tl} (b : Bd r x) (ok : TlOk r x) (h1 : 1 ≤ r) (h2 : r ≤ 64) : skB r x.m x.o (srtZ x.c) = true := by
  unfold skB
  have hl : (((srtZ x.c).length : Nat) : Int) ≤ r := by
    have := ok.len
    have := (srtZ_perm x.c).length_eq
    omega
  rw [sumC_perm' (srtZ_perm x.c), decide_eq_true h1, decide_eq_true h2, decide_eq_true b.many, decide_eq_true b.off, decide_eq_true hl, decide_eq_true b.low, decide_eq_true b.high]
  rfl
theorem TrOf.tr {x : Tl} {ys : Ct} {r : Int} (ok : TlOk r x) (t : TrOf x ys) : Tr x (some (ys.map prE)) := by
  have hg : ∀ e ∈ ys, gd ys e.1 = e.2 := fun e he => by
    unfold gd
    rw [getZ_mem t.nd he]
    rfl
  refine ⟨_, ys, rfl, ⟨rfl, t.pos, t.asc⟩, ⟨fun e he => ?_, fun e he => ?_, fun e he => ?_, t.sum⟩⟩
  · have := t.lo e.1
    rw [hg e he] at this
    omega
  · have := t.hi e.1
    rw [hg e he] at this
    exact this
  · have h1 := t.lo e.1
    have h2 : gd x.c e.1 = e.2 := by
      unfold gd
      rw [getZ_mem ok.nd he]
      rfl
    have h3 := ok.pos e he
    by_cases hz : e.1 ∈ ys.map (·.1)
    · exact hz
    · rw [gd_out hz] at h1
      omega
/-! names that are fresh -/
def frL (P P2 : List Nat) (n : Nat) : List Str := S (cs (pnm P 0) ++ [120]) :: (List.range n).map fun k => S ([122, 122] ++ cs (pnm P2 k))
theorem frL_len (P P2 : List Nat) (n : Nat) : (frL P P2 n).length = n + 1 := by
  unfold frL
  rw [List.length_cons, List.length_map, List.length_range]
theorem frL_nm {P P2 : List Nat} {n : Nat} (hP : Pre P) (hP2 : Pre P2) (hn : n ≤ 702) : ∀ z ∈ frL P P2 n, Nm z := fun z hz => by
  rcases List.mem_cons.mp hz with rfl | hz
  · have l0 := pnm_len (k := 0) hP
    refine nm_of (cs_S _) (by rw [List.length_append]; omega) (by rw [List.length_append]; show _ + 1 ≤ 8; omega) fun c hc => ?_
    rcases List.mem_append.mp hc with hc | hc
    · exact pnm_abc hP (by decide) c hc
    · rw [List.mem_singleton.mp hc]
      decide
  · obtain ⟨k, hk, rfl⟩ := List.mem_map.mp hz
    have hk := List.mem_range.mp hk
    have l0 := pnm_len (k := k) hP2
    refine nm_of (cs_S _) (by rw [List.length_append]; show 1 ≤ 2 + _; omega) (by rw [List.length_append]; show 2 + _ ≤ 8; omega) fun c hc => ?_
    rcases List.mem_append.mp hc with hc | hc
    · rcases List.mem_cons.mp hc with rfl | hc
      · decide
      · rw [List.mem_singleton.mp hc]
        decide
    · exact pnm_abc hP2 (by omega) c hc
theorem fr_zz {P : List Nat} (hP : Pre P) {j : Nat} {t : List Nat} : cs (pnm P j) ≠ [122, 122] ++ t ∨ t.length = 0 := by
  rw [pnm_cs]
  by_cases h : t.length = 0
  · exact .inr h
  refine .inl fun e => ?_
  have hl := congrArg List.length e
  rcases hP.is with rfl | rfl | rfl
  · rw [List.length_append, List.length_append, List.length_append] at hl
    split at hl <;> simp only [List.length_append, List.length_cons, List.length_nil] at hl <;> omega
  · simp at e
  · simp at e
theorem frL_nd {P P2 : List Nat} {n : Nat} (hP : Pre P) : (frL P P2 n).Nodup := by
  unfold frL
  rw [List.nodup_cons]
  constructor
  · intro hz
    obtain ⟨k, _, e⟩ := List.mem_map.mp hz
    have e2 := congrArg cs e
    rw [cs_S, cs_S, pnm_cs P 0] at e2
    rcases hP.is with rfl | rfl | rfl
    · simp at e2
    · simp at e2
    · simp at e2
  · rw [List.Nodup, List.pairwise_map]
    refine (List.nodup_range (n := n)).imp fun {a b} h e => h ?_
    have e2 := congrArg cs e
    rw [cs_S, cs_S] at e2
    have e3 := List.append_cancel_left e2
    exact pnm_inj (cs_inj e3)
theorem fr_out {P P2 : List Nat} {n m : Nat} (hP : Pre P) (hP2 : Pre P2) (hm : m ≤ 600) {z : Str} (h1 : z ∈ poolL P m) : z ∉ frL P P2 n := fun h2 => by
  obtain ⟨j, hj, rfl⟩ := List.mem_map.mp h1
  have hj := List.mem_range.mp hj
  rcases List.mem_cons.mp h2 with e | h2
  · have e2 := congrArg cs e
    rw [cs_S, pnm_cs, pnm_cs, show (if 25 < 0 then [97 + (0 / 26 - 1)] else []) = ([] : List Nat) from rfl, List.append_nil, List.append_assoc, List.append_assoc] at e2
    have e3 := List.append_cancel_left e2
    by_cases h25 : 25 < j
    · rw [if_pos h25] at e3
      injection e3 with e4 e5
      injection e5 with e6 _
      omega
    · rw [if_neg h25] at e3
      injection e3 with e4 e5
      cases e5
  · obtain ⟨k, _, e⟩ := List.mem_map.mp h2
    have e2 := congrArg cs e
    rw [cs_S] at e2
    have l2 := pnm_len (k := k) hP2
    rcases fr_zz hP (j := j) (t := cs (pnm P2 k)) with h | h
    · exact h e2.symm
    · omega
end Kb

namespace Kb
open PySem PySem.Spec PyProof.Rows L2 SrtZ SrtO FlX LamX RZ
abbrev sP_name_at : Stmt := topS 13
theorem scP_name_at : FnScope ["index", "letters", "left", "place"] ["index"] (defScope sP_name_at) := ⟨rfl, rfl, rfl, by decide +kernel, rfl, by decide +kernel, by decide +kernel⟩
abbrev sP_least_names : Stmt := topS 14
abbrev NP_least_names : List Str := ["many", "index"]
theorem scP_least_names : FnScope ["many", "index"] ["many"] (defScope sP_least_names) := ⟨rfl, rfl, rfl, by decide +kernel, rfl, by decide +kernel, by decide +kernel⟩
abbrev NP_fresh_names : List Str := ["many", "known", "found", "name"]
abbrev DnNameAt (K : PySem.W.Frag) (mg : Str → Option Value) := Dn K mg "name_at" sP_name_at ["index"]
abbrev DnLeastNames (K : PySem.W.Frag) (mg : Str → Option Value) := Dn K mg "least_names" sP_least_names ["many"]
/-! names in their order -/
def lfN : Nat → List Nat
  | 0 => []
  | n + 1 => lfN (n / 26) ++ [97 + n % 26]
decreasing_by omega
theorem lfN_0 : lfN 0 = [] := by unfold lfN; rfl
theorem lfN_s (n : Nat) : lfN (n + 1) = lfN (n / 26) ++ [97 + n % 26] := by rw [lfN]
theorem lfN_abc (n : Nat) : ∀ c ∈ lfN n, 97 ≤ c ∧ c ≤ 122 := by
  induction n using Nat.strongRecOn with
  | _ n ih =>
    match n with
    | 0 => rw [lfN_0]; exact fun _ h => nomatch h
    | n + 1 =>
      rw [lfN_s]
      intro c hc
      rcases List.mem_append.mp hc with h | h
      · exact ih _ (by omega) c h
      · rw [List.mem_singleton.mp h]
        omega
theorem lfN_len : ∀ (d n : Nat), n < 26 ^ d → (lfN n).length ≤ d
  | d, 0, _ => by rw [lfN_0]; exact Nat.zero_le _
  | 0, n + 1, h => by rw [Nat.pow_zero] at h; omega
  | d + 1, n + 1, h => by
    rw [lfN_s, List.length_append]
    have : n / 26 < 26 ^ d := by
      rw [Nat.pow_succ] at h
      exact (Nat.div_lt_iff_lt_mul (by decide)).mpr (by omega)
    have := lfN_len d _ this
    show _ + 1 ≤ _
    omega
theorem lfN_inj : ∀ (a b : Nat), lfN a = lfN b → a = b := by
  intro a
  induction a using Nat.strongRecOn with
  | _ a ih =>
    intro b h
    match a, b with
    | 0, 0 => rfl
    | 0, b + 1 =>
      rw [lfN_0, lfN_s] at h
      have := congrArg List.length h
      rw [List.length_append] at this
      simp at this
    | a + 1, 0 =>
      rw [lfN_0, lfN_s] at h
      have := congrArg List.length h
      rw [List.length_append] at this
      simp at this
    | a + 1, b + 1 =>
      rw [lfN_s, lfN_s] at h
      obtain ⟨h1, h2⟩ := List.append_inj' h rfl
      have e1 := ih (a / 26) (by omega) (b / 26) h1
      injection h2 with h2 _
      omega
def nameF (k : Nat) : Str := S (lfN (k + 1))
theorem nameF_nm {k : Nat} (h : k < 100000) : Nm (nameF k) := by
  have := lfN_len 8 (k + 1) (by have : (26 : Nat) ^ 8 = 208827064576 := by decide
                                omega)
  exact nm_of (l := lfN (k + 1)) (cs_S _) (by rw [lfN_s, List.length_append]; exact Nat.le_add_left _ _) this (lfN_abc _)
theorem nameF_inj {a b : Nat} (h : nameF a = nameF b) : a = b := by
  have := congrArg cs h
  unfold nameF at this
  rw [cs_S, cs_S] at this
  have := lfN_inj _ _ this
  omega
def leastL (n : Nat) : List Str := (List.range n).map nameF
theorem least_nd (n : Nat) : (leastL n).Nodup := by
  unfold leastL List.Nodup
  rw [List.pairwise_map]
  exact List.nodup_range.imp fun h e => h (nameF_inj e)
/-- the first names that are not known -/
def freshL (n : Nat) (known : Ct) : List Str := ((leastL (n + known.length)).filter fun z => !(getZ known z).isSome).take n
theorem fresh_nd (n : Nat) (known : Ct) : (freshL n known).Nodup := ((least_nd _).sublist List.filter_sublist).sublist (List.take_sublist _ _)
theorem fresh_new {n : Nat} {known : Ct} {z : Str} (h : z ∈ freshL n known) : getZ known z = none := by
  have := (List.mem_filter.mp (List.mem_of_mem_take h)).2
  cases hz : getZ known z with
  | none => rfl
  | some v => rw [hz] at this; cases this
theorem fresh_nm {n : Nat} {known : Ct} (hl : n + known.length ≤ 100000) {z : Str} (h : z ∈ freshL n known) : Nm z := by
  obtain ⟨k, hk, rfl⟩ := List.mem_map.mp (List.mem_filter.mp (List.mem_of_mem_take h)).1
  have := List.mem_range.mp hk
  exact nameF_nm (by omega)
/-- there are as many as asked for -/
theorem fresh_len (n : Nat) (known : Ct) : (freshL n known).length = n := by
  unfold freshL
  rw [List.length_take]
  have h1 : ((leastL (n + known.length)).filter fun z => !(getZ known z).isSome).length + ((leastL (n + known.length)).filter fun z => (getZ known z).isSome).length = n + known.length := by
    have hl : (leastL (n + known.length)).length = n + known.length := by unfold leastL; rw [List.length_map, List.length_range]
    have gen : ∀ l : List Str, (l.filter fun z => !(getZ known z).isSome).length + (l.filter fun z => (getZ known z).isSome).length = l.length := by
      intro l
      induction l with
      | nil => rfl
      | cons z l ih =>
        by_cases hs : (getZ known z).isSome = true
        · rw [List.filter_cons_of_neg (by rw [hs]; decide), List.filter_cons_of_pos (p := fun z => (getZ known z).isSome) hs, List.length_cons, List.length_cons]
          omega
        · rw [List.filter_cons_of_pos (by simpa using hs), List.filter_cons_of_neg (p := fun z => (getZ known z).isSome) hs, List.length_cons, List.length_cons]
          omega
    have := gen (leastL (n + known.length))
    omega
  have h2 : ((leastL (n + known.length)).filter fun z => (getZ known z).isSome).length ≤ known.length := by
    have nd : ((leastL (n + known.length)).filter fun z => (getZ known z).isSome).Nodup := (least_nd _).sublist List.filter_sublist
    have := nodup_len nd (m := known.map (·.1)) fun x hx => by
      have hs := (List.mem_filter.mp hx).2
      cases hz : getZ known x with
      | none => rw [hz] at hs; cases hs
      | some v => exact List.mem_map.mpr ⟨(x, v), getZ_in hz, rfl⟩
    rwa [List.length_map] at this
  omega
section
variable {P : Program} {w : World} {K : PySem.W.Frag} {mg : Str → Option Value} {base : Heap}
/-! name_at -/
def spNameAt : Sp := fun vs H Q _ => ∃ k : Nat, vs = [.int (k : Int)] ∧ k < 100000 ∧ ∀ H', Same H H' → Q (.str (nameF k)) H'
theorem ok_name_at (T : Blt mg) (cLT : Cst mg "LETTERS" (.str "abcdefghijklmnopqrstuvwxyz")) (n_divmod : mg "divmod" = none) (d : DnNameAt K mg) : FnOk P w K mg base CX0 1 d.f d.fd ["index"] spNameAt := by
  refine d.F.ok scP_name_at (fun vs H Q E h => ?_) (fun cdv A outer s H vs Q E hr h => ?_)
  · obtain ⟨k, rfl, _⟩ := h
    rfl
  · obtain ⟨k, rfl, hk, q⟩ := h
    refine ⟨_, (pss_cons (ps_set (i := 1) scP_name_at.nd rfl (Or.inl rfl) pe_str)
    (pss_cons (ps_set (i := 2) scP_name_at.nd rfl (Or.inl rfl) (pe_op op_add (pv 0) pe_int))
    (pss_cons (ps_while PassesOwn.never (pt_cmpR op_gt (pv 2) pe_int (nomark _))
      (pss_cons (ps_asg (pe_callB call_divmod (by rfl) n_divmod (by decide +kernel) (pa_cons (pe_op op_sub (pv 2) pe_int) (pa_cons pe_int pa_nil))) (pg_tup (by rfl) (pgs_cons (pg_name (i := 2) scP_name_at.nd rfl (Or.inl rfl)) (pgs_cons (pg_name (i := 3) scP_name_at.nd rfl (Or.inl rfl)) pgs_nil))))
      (pss_one (ps_set (i := 1) scP_name_at.nd rfl (Or.inl rfl) (pe_op op_add_str (pe_ix ix_str (pe_glob rfl cLT.g cLT.r) (pv 3) (fun _ _ => rfl)) (pv 1))))))
    (pss_one (ps_ret (pv 1)))))), ?_⟩
    refine ⟨.int (k : Int), rfl, _, _, rfl, rfl, ?_⟩
    refine ⟨fun μ σ H2 => ∃ (n : Nat) (l : List Nat) (y3 : Option V), μ = n ∧ σ = [some (.int (k : Int)), some (.str (S l)), some (.int (n : Int)), y3] ∧ Same H H2 ∧ lfN n ++ l = lfN (k + 1), ⟨_, k + 1, [], none, rfl, by push_cast; rfl, fun _ _ e => e, List.append_nil _⟩, ?_⟩
    rintro n σ H2 ⟨_, l, y3, rfl, rfl, s2, hl⟩
    have hlen := lfN_len 8 (k + 1) (by have : (26 : Nat) ^ 8 = 208827064576 := by decide
                                       omega)
    rw [← hl, List.length_append] at hlen
    refine ⟨.int (n : Int), rfl, _, _, rfl, rfl, _, rfl, ite2 (fun hgt => ⟨fun σ' H' => ∃ (n' : Nat) (l' : List Nat) (y3' : Option V), n' < n ∧ σ' = [some (.int (k : Int)), some (.str (S l')), some (.int (n' : Int)), y3'] ∧ Same H H' ∧ lfN n' ++ l' = lfN (k + 1), fun σ' H' ⟨n', l', y, h1, h2⟩ => ⟨_, h1, n', l', y, rfl, h2⟩, ?_⟩) fun hle => ?_⟩
    · have hgt := of_decide_eq_true hgt
      obtain ⟨m, rfl⟩ : ∃ m, n = m + 1 := ⟨n - 1, by omega⟩
      refine ⟨.int ((m + 1 : Nat) : Int), rfl, _, _, rfl, rfl, _, _, rfl, ⟨by decide, by decide⟩, fun p np => ?_⟩
      rw [show ((m + 1 : Nat) : Int) - 1 = (m : Int) by omega, show (m : Int) / 26 = ((m / 26 : Nat) : Int) by omega, show (m : Int) % 26 = ((m % 26 : Nat) : Int) by omega]
      refine ⟨p, _, rfl, .inl (.inl upd_same), rfl, _, _, rfl, _, _, rfl, rfl, ?_⟩
      have hz : (Str.ofString "abcdefghijklmnopqrstuvwxyz").length ≤ sizeLine := by
        rw [show (Str.ofString "abcdefghijklmnopqrstuvwxyz").length = 26 by decide +kernel, sizeLine_eq]
        decide
      refine ⟨.int ((m % 26 : Nat) : Int), rfl, _, _, _, rfl, rfl, hz, atI_nat (abc_at ⟨m % 26, by omega⟩), .str (S l), rfl, _, _, rfl, rfl, ?_, ?_⟩
      · rw [sizeLine_eq]
        have e1 : (S l).length = l.length := by simp [S, Str.length]
        show 1 + (S l).length ≤ _
        omega
      · refine ⟨m / 26, (97 + m % 26) :: l, some (.int ((m % 26 : Nat) : Int)), by omega, ?_, Same.new s2 np, ?_⟩
        · have : (⟨#[97 + m % 26]⟩ : Str) ++ S l = S ((97 + m % 26) :: l) := by
            refine cs_inj ?_
            rw [cs_app, cs_S, cs_S]
            rfl
          rw [this]
          rfl
        · rw [lfN_s, List.append_assoc] at hl
          exact hl
    · have h0 : n = 0 := by
        have : ¬ (0 : Int) < (n : Int) := fun z => hle (decide_eq_true z)
        omega
      subst h0
      rw [lfN_0, List.nil_append] at hl
      refine ⟨.str (S l), rfl, ?_⟩
      rw [hl]
      exact q H2 s2
/-! least_names -/
def spLeastNames : Sp := fun vs H Q _ => ∃ n : Nat, vs = [.int (n : Int)] ∧ n ≤ 100000 ∧ ∀ H' p, Same H H' → H p = none → H' p = some (.lst ((leastL n).map V.str)) → Q (.ref p) H'
theorem ok_least_names (T : Blt mg) (cLT : Cst mg "LETTERS" (.str "abcdefghijklmnopqrstuvwxyz")) (n_divmod : mg "divmod" = none) (dP_name_at : DnNameAt K mg) (d : DnLeastNames K mg) : FnOk P w K mg base CX0 2 d.f d.fd ["many"] spLeastNames := by
  have GP_name_at : FnOk P w K mg base CX0 1 dP_name_at.f dP_name_at.fd ["index"] spNameAt := ok_name_at T cLT n_divmod dP_name_at
  refine d.F.ok scP_least_names (fun vs H Q E h => ?_) (fun cdv A outer s H vs Q E hr h => ?_)
  · obtain ⟨n, rfl, _⟩ := h
    rfl
  · obtain ⟨n, rfl, hn, q⟩ := h
    refine ⟨_, (pss_one (ps_ret (pe_lc (own := [("index", 1)]) (g := gName 1) (tt := tYes) rfl scP_least_names.nd (pi_range1 (by rfl) T.n_range (pa_cons (pv 0) pa_nil)) (blkOk_by (N := NP_least_names) (sc := defScope sP_least_names) (by decide +kernel)) (fun _ _ _ _ _ => pg_name (i := 1) scP_least_names.nd rfl (Or.inl rfl)) (fun _ _ _ _ _ => pts_nil) (fun _ _ _ _ _ => (pe_call GP_name_at (hr.mono (by omega)) (by rfl) dP_name_at.g dP_name_at.F.kp dP_name_at.b .nil pass0 (pa_cons (pv 1) pa_nil)))))), ?_⟩
    refine ⟨.int (n : Int), rfl, (n : Int), rfl, by omega, by omega, fun D nD => ?_⟩
    rw [Int.toNat_natCast]
    refine lc_range (lo := 0) (n := n) (fun i H3 => Same H H3 ∧ H3 D = some (.lst ((leastL i).map V.str))) ⟨same_upd nD, upd_same⟩ (fun i H3 hi h3 => ?_) (fun H3 h3 => q H3 D h3.1 nD h3.2)
    obtain ⟨s3, hD⟩ := h3
    refine ⟨rfl, .int (0 + (i : Int)), rfl, i, by rw [Int.zero_add]; rfl, by omega, fun H4 s4 => ⟨_, s4 _ _ hD, ?_, Same.put (fun b u e => s4 _ _ (s3 _ _ e)) nD, ?_⟩⟩
    · unfold leastL
      rw [List.length_map, List.length_map, List.length_range, sizeLine_eq]
      omega
    · unfold leastL
      rw [upd_same, List.range_succ, List.map_append, List.map_append]
      rfl
/-! fresh_names -/
def spFreshNames : Sp := fun vs H Q _ => ∃ (n : Nat) (d : Addr) (known : Ct), vs = [.int (n : Int), .ref d] ∧ H d = some (.dK (known.map entZ)) ∧ n + known.length ≤ 100000 ∧ ∀ H' p, Same H H' → H p = none → H' p = some (.lst ((freshL n known).map V.str)) → Q (.ref p) H'
end
end Kb

namespace Kb
open PySem PySem.Spec PyProof.Rows L2 SrtZ SrtO
abbrev sdeep : Stmt := topS 58
abbrev Ndeep : List Str := ["_law_hand_here", "_law_found", "_law_turn"]
theorem scdeep : FnScope ["_law_hand_here", "_law_found", "_law_turn"] ["_law_hand_here"] (defScope sdeep) := ⟨rfl, rfl, rfl, by decide +kernel, rfl, by decide +kernel, by decide +kernel⟩
abbrev Dndeep (K : PySem.W.Frag) (mg : Str → Option Value) := Dn K mg "_law_deep" sdeep ["_law_hand_here"]
theorem ElAt.exw {K : PySem.W.Frag} {a c : Addr} {H H' : Hp} {v : V} {e : El} (h : ElAt K H v e) (x : Exw a H H') (w0 : Wl a c H) (w1 : Wl a c H') : ElAt K H' v e := by
  cases e with
  | pr n i =>
    obtain ⟨t, e, h1, h2⟩ := h
    exact ⟨t, e, x.at w0 h1 (by intro _ z; cases z), h2⟩
  | prb n b =>
    obtain ⟨t, e, h1, h2⟩ := h
    exact ⟨t, e, x.at w0 h1 (by intro _ z; cases z), h2⟩
  | no =>
    rcases h with h | h | ⟨t, e, h⟩
    · exact .inl h
    · exact .inr (.inl h)
    · refine .inr (.inr ⟨t, e, ?_⟩)
      rcases h with ⟨xs, h⟩ | ⟨kvs, h⟩ | ⟨xs, ⟨o, h, d⟩, l⟩
      · by_cases ta : t = a
        · subst ta
          obtain ⟨_, ns, i, u, s, t', e1, _⟩ := w1
          exact .inl ⟨_, e1⟩
        · exact .inl ⟨xs, x _ _ ta h⟩
      · exact .inr (.inl ⟨kvs, x.at w0 h (by intro _ z; cases z)⟩)
      · exact .inr (.inr ⟨xs, ⟨o, x.at w0 h (by intro _ z; cases z), d⟩, l⟩)
/-- something that can be judged -/
def Th (K : PySem.W.Frag) (H : Hp) (v : V) : Prop := ∃ th, ThAt K H v th
theorem Th.same {K : PySem.W.Frag} {H H' : Hp} {v : V} (h : Th K H v) (s : Same H H') : Th K H' v := let ⟨th, h⟩ := h; ⟨th, h.same s⟩
theorem Th.exw {K : PySem.W.Frag} {a c : Addr} {H H' : Hp} {v : V} (h : Th K H v) (x : Exw a H H') (w0 : Wl a c H) (w1 : Wl a c H') : Th K H' v := by
  obtain ⟨th, h⟩ := h
  refine ⟨th, ?_⟩
  cases th with
  | some es =>
    obtain ⟨t, vs, e, ⟨o, h1, d⟩, h2, h3⟩ := h
    exact ⟨t, vs, e, ⟨o, x.at w0 h1 (by intro _ z; cases z), d⟩, paired_imp (fun v e h => h.exw x w0 w1) h2, h3⟩
  | none =>
    rcases h with h | h | ⟨t, e, h⟩
    · exact .inl h
    · exact .inr (.inl h)
    · refine .inr (.inr ⟨t, e, ?_⟩)
      rcases h with ⟨xs, h⟩ | ⟨kvs, h⟩
      · by_cases ta : t = a
        · subst ta
          obtain ⟨_, ns, i, u, s, t', e1, _⟩ := w1
          exact .inl ⟨_, e1⟩
        · exact .inl ⟨xs, x _ _ ta h⟩
      · exact .inr ⟨kvs, x.at w0 h (by intro _ z; cases z)⟩
theorem ElAt.putL {K : PySem.W.Frag} {H : Hp} {v : V} {e : El} {D : Addr} {xs ys : List V} (h : ElAt K H v e) (hD : H D = some (.lst xs)) : ElAt K (upd H D (.lst ys)) v e := by
  cases e with
  | pr n i =>
    obtain ⟨t, e, h1, h2⟩ := h
    exact ⟨t, e, by rw [upd_ne (ne_of h1 hD (by intro z; cases z))]; exact h1, h2⟩
  | prb n b =>
    obtain ⟨t, e, h1, h2⟩ := h
    exact ⟨t, e, by rw [upd_ne (ne_of h1 hD (by intro z; cases z))]; exact h1, h2⟩
  | no =>
    rcases h with h | h | ⟨t, e, h⟩
    · exact .inl h
    · exact .inr (.inl h)
    · refine .inr (.inr ⟨t, e, ?_⟩)
      rcases h with ⟨zs, h⟩ | ⟨kvs, h⟩ | ⟨zs, ⟨o, h, d⟩, l⟩
      · by_cases ta : t = D
        · subst ta
          exact .inl ⟨_, upd_same⟩
        · exact .inl ⟨zs, by rw [upd_ne ta]; exact h⟩
      · exact .inr (.inl ⟨kvs, by rw [upd_ne (ne_of h hD (by intro z; cases z))]; exact h⟩)
      · exact .inr (.inr ⟨zs, ⟨o, by rw [upd_ne (ne_of h hD (by intro z; cases z))]; exact h, d⟩, l⟩)
theorem Th.putL {K : PySem.W.Frag} {H : Hp} {v : V} {D : Addr} {xs ys : List V} (h : Th K H v) (hD : H D = some (.lst xs)) : Th K (upd H D (.lst ys)) v := by
  obtain ⟨th, h⟩ := h
  refine ⟨th, ?_⟩
  cases th with
  | some es =>
    obtain ⟨t, vs, e, ⟨o, h1, d⟩, h2, h3⟩ := h
    exact ⟨t, vs, e, ⟨o, by rw [upd_ne (ne_of h1 hD (by intro z; cases z))]; exact h1, d⟩, paired_imp (fun v e h => h.putL hD) h2, h3⟩
  | none =>
    rcases h with h | h | ⟨t, e, h⟩
    · exact .inl h
    · exact .inr (.inl h)
    · refine .inr (.inr ⟨t, e, ?_⟩)
      rcases h with ⟨zs, h⟩ | ⟨kvs, h⟩
      · by_cases ta : t = D
        · subst ta
          exact .inl ⟨_, upd_same⟩
        · exact .inl ⟨zs, by rw [upd_ne ta]; exact h⟩
      · exact .inr ⟨kvs, by rw [upd_ne (ne_of h hD (by intro z; cases z))]; exact h⟩
theorem els_of {K : PySem.W.Frag} {H : Hp} : ∀ {vs : List V}, (∀ v ∈ vs, ∃ e, ElAt K H v e) → ∃ es, Paired (ElAt K H) vs es
  | [], _ => ⟨[], .nil⟩
  | v :: vs, h => by
    obtain ⟨e, he⟩ := h v List.mem_cons_self
    obtain ⟨es, hs⟩ := els_of (vs := vs) fun y hy => h y (List.mem_cons_of_mem _ hy)
    exact ⟨e :: es, .cons he hs⟩
theorem Th.tup {K : PySem.W.Frag} {H : Hp} {a : Addr} {vs : List V} (h : Ptp H a vs) (hv : ∀ v ∈ vs, ∃ e, ElAt K H v e) (hl : vs.length ≤ 1000) : Th K H (.ref a) := by
  obtain ⟨es, hs⟩ := els_of hv
  exact ⟨some es, a, vs, rfl, h, hs, hl⟩
theorem Th.lst {K : PySem.W.Frag} {H : Hp} {a : Addr} {xs : List V} (h : H a = some (.lst xs)) : Th K H (.ref a) := ⟨none, .inr (.inr ⟨a, rfl, .inl ⟨xs, h⟩⟩)⟩
theorem Th.dic {K : PySem.W.Frag} {H : Hp} {a : Addr} {kvs : List (Key × V)} (h : H a = some (.dK kvs)) : Th K H (.ref a) := ⟨none, .inr (.inr ⟨a, rfl, .inr ⟨kvs, h⟩⟩)⟩
theorem Th.non {K : PySem.W.Frag} {H : Hp} : Th K H .non := ⟨none, .inl rfl⟩
theorem Th.str {K : PySem.W.Frag} {H : Hp} (z : Str) : Th K H (.str z) := ⟨none, .inr (.inl ⟨z, rfl⟩)⟩
section
variable {P : Program} {w : World} {K : PySem.W.Frag} {mg : Str → Option Value} {base : Heap}
/-! _law_deep -/
def spDeep (K : PySem.W.Frag) : Sp := fun vs H Q _ => ∃ (a c : Addr), vs = [.ref a] ∧ Wl a c H ∧ ∀ H' v, Exw a H H' → Wl a c H' → ElAt K H' v .no → Q v H'
theorem ok_deep (T : Blt mg) (ddraw : Dndraw K mg) (d : Dndeep K mg) : FnOk P w K mg base CX0 2 d.f d.fd ["_law_hand_here"] (spDeep K) := by
  have Gdraw : FnOk P w K mg base CX0 1 ddraw.f ddraw.fd ["_law_hand_here", "_law_many"] spDraw := ok_draw T ddraw
  refine d.F.ok scdeep (fun vs H Q E h => ?_) (fun cdv A outer s H vs Q E hr h => ?_)
  · obtain ⟨a, c, rfl, _⟩ := h
    rfl
  · obtain ⟨a, c, rfl, w0, q⟩ := h
    refine ⟨_, (pss_cons (ps_set (i := 1) scdeep.nd rfl (Or.inl rfl) (pe_ix ix_list (pe_lst (pa_cons pe_non (pa_cons (pe_tupF pa_nil) (pa_cons pe_int pa_nil)))) (pe_call Gdraw (hr.mono (by omega)) (by rfl) ddraw.g ddraw.F.kp ddraw.b .nil pass0 (pa_cons (pv 0) (pa_cons pe_int pa_nil))) (fun _ _ => rfl)))
    (pss_cons (ps_for PassesOwn.never rfl (pi_range1 (by rfl) T.n_range (pa_cons (pe_op op_add pe_int (pe_call Gdraw (hr.mono (by omega)) (by rfl) ddraw.g ddraw.F.kp ddraw.b .nil pass0 (pa_cons (pv 0) (pa_cons pe_int pa_nil)))) pa_nil)) (pg_name (i := 2) scdeep.nd rfl (Or.inl rfl))
      (pss_one (ps_set (i := 1) scdeep.nd rfl (Or.inl rfl) (pe_ix ix_list (pe_lst (pa_cons (pe_lst (pa_cons (pv 1) pa_nil)) (pa_cons (pe_tupF (pa_cons (pv 1) pa_nil)) (pa_cons (pe_disp (pps_cons pe_int (pv 1) pps_nil) rfl rfl (by simp) (by decide)) pa_nil)))) (pe_call Gdraw (hr.mono (by omega)) (by rfl) ddraw.g ddraw.F.kp ddraw.b .nil pass0 (pa_cons (pv 0) (pa_cons pe_int pa_nil))) (fun _ _ => rfl)))))
    (pss_one (ps_ret (pv 1))))), ?_⟩
    refine ⟨(by show 0 ≤ sizeLine; decide), fun t ob nt ho => ⟨(by show 3 ≤ sizeLine; decide), fun l nl => ?_⟩⟩
    have s1 := Same.new (o := .lst [.non, .ref t, .int 0]) (same_upd nt (o := .frz ob (.tup []))) nl
    have hl1 : (upd (upd H t (.frz ob (.tup []))) l (.lst [.non, .ref t, .int 0])) l = some (.lst [.non, .ref t, .int 0]) := upd_same
    have ht1 : Ptp (upd (upd H t (.frz ob (.tup []))) l (.lst [.non, .ref t, .int 0])) t [] := ⟨ob, by rw [upd_ne (ne_of_none upd_same nl)]; exact upd_same, ho⟩
    have la : l ≠ a := ((w0.same (same_upd nt)).ne2 nl).1
    generalize upd (upd H t (.frz ob (.tup []))) l (.lst [.non, .ref t, .int 0]) = H1 at s1 hl1 ht1 ⊢
    have w1 := w0.same s1
    refine ⟨.ref a, rfl, a, c, 3, rfl, w1, (by decide), (by decide), fun H2 r x2 w2 r0 r1 => ?_⟩
    obtain ⟨r, rfl⟩ := Int.eq_ofNat_of_zero_le r0
    have hl2 := x2 _ _ la hl1
    have x02 := (Same.exw s1).trans x2
    have ht2 : Ptp H2 t [] := by
      obtain ⟨ob', g1, g2⟩ := ht1
      exact ⟨ob', x2.at w1 g1 (by intro _ z; cases z), g2⟩
    obtain ⟨v0, hv0, e0⟩ : ∃ v, ([.non, .ref t, .int 0] : List V)[r]? = some v ∧ ElAt K H2 v .no := by
      have : r < 3 := by omega
      match r, this with
      | 0, _ => exact ⟨_, rfl, .inl rfl⟩
      | 1, _ => exact ⟨_, rfl, .inr (.inr ⟨t, rfl, .inr (.inr ⟨[], ht2, by decide⟩)⟩)⟩
      | 2, _ => exact ⟨_, rfl, .inr (.inl ⟨0, rfl⟩)⟩
    refine ⟨l, _, _, v0, rfl, rfl, sql hl2, atI_nat hv0, ?_⟩
    refine ⟨.ref a, rfl, a, c, 8, rfl, w2, (by decide), (by decide), fun H3 m x3 w3 m0 m1 => ⟨_, _, rfl, rfl, (14 + m : Int), rfl, by omega, by omega, ?_⟩⟩
    obtain ⟨m, rfl⟩ := Int.eq_ofNat_of_zero_le m0
    rw [show (14 + (m : Int)).toNat = 14 + m by omega]
    refine for_range (lo := 0) (n := 14 + m) (fun i σ H4 => ∃ (v : V) (y2 : Option V), σ = [some (.ref a), some v, y2] ∧ Exw a H H4 ∧ Wl a c H4 ∧ ElAt K H4 v .no ∧ (1 ≤ i → Th K H4 v))
      ⟨v0, none, rfl, x02.trans x3, w3, e0.exw x3 w2 w3, fun h => absurd h (by decide)⟩ ?_ ?_
    · rintro i σ H4 hi ⟨v, y2, rfl, x4, w4, e4, _⟩
      refine ⟨v, rfl, (by show 1 ≤ sizeLine; decide), fun l1 nl1 => ⟨v, rfl, (by show 1 ≤ sizeLine; decide), fun t1 ob1 nt1 ho1 => fun d1 nd1 => ⟨v, rfl, upd_same, [(Sum.inl 0, v)], rfl, (by show 1 ≤ 15; decide), (by show 3 ≤ sizeLine; decide), fun l2 nl2 => ?_⟩⟩⟩
      have s5 : Same H4 (upd (upd H4 l1 (.lst [v])) t1 (.frz ob1 (.tup [v]))) := Same.new (same_upd nl1) nt1
      have hl5 : (upd (upd H4 l1 (.lst [v])) t1 (.frz ob1 (.tup [v]))) l1 = some (.lst [v]) := by rw [upd_ne (ne_of_none upd_same nt1)]; exact upd_same
      have ht5 : Ptp (upd (upd H4 l1 (.lst [v])) t1 (.frz ob1 (.tup [v]))) t1 [v] := ⟨ob1, upd_same, ho1⟩
      generalize upd (upd H4 l1 (.lst [v])) t1 (.frz ob1 (.tup [v])) = H5 at s5 hl5 ht5 nd1 nl2 ⊢
      rw [upd_upd] at nl2 ⊢
      have s6 := same_upd (o := .dK (mergeK [] [((Sum.inl 0 : Key), v)])) nd1
      have hd6 : (upd H5 d1 (.dK (mergeK [] [((Sum.inl 0 : Key), v)]))) d1 = some (.dK (mergeK [] [((Sum.inl 0 : Key), v)])) := upd_same
      generalize upd H5 d1 (.dK (mergeK [] [((Sum.inl 0 : Key), v)])) = H6 at s6 hd6 nl2 ⊢
      have s7 := same_upd (o := .lst [.ref l1, .ref t1, .ref d1]) nl2
      have hl7 : (upd H6 l2 (.lst [.ref l1, .ref t1, .ref d1])) l2 = some (.lst [.ref l1, .ref t1, .ref d1]) := upd_same
      have s47 := (s5.trans s6).trans s7
      have l2a : l2 ≠ a := ((w4.same (s5.trans s6)).ne2 nl2).1
      generalize upd H6 l2 (.lst [.ref l1, .ref t1, .ref d1]) = H7 at s7 hl7 s47 ⊢
      have w7 := w4.same s47
      refine ⟨.ref a, rfl, a, c, 3, rfl, w7, (by decide), (by decide), fun H8 r8 x8 w8 r80 r81 => ?_⟩
      obtain ⟨r8, rfl⟩ := Int.eq_ofNat_of_zero_le r80
      have hl8 := x8 _ _ l2a hl7
      have e7 := e4.same s47
      have tl : Th K H7 (.ref l1) := Th.lst (s7 _ _ (s6 _ _ hl5))
      have tt : Th K H7 (.ref t1) := Th.tup ((ht5.same s6).same s7) (fun u hu => by rw [List.mem_singleton.mp hu]; exact ⟨.no, e7⟩) (by show 1 ≤ 1000; decide)
      have td : Th K H7 (.ref d1) := Th.dic (s7 _ _ hd6)
      obtain ⟨v8, hv8, e8, t8⟩ : ∃ u, ([.ref l1, .ref t1, .ref d1] : List V)[r8]? = some u ∧ ElAt K H7 u .no ∧ Th K H7 u := by
        have : r8 < 3 := by omega
        match r8, this with
        | 0, _ => exact ⟨_, rfl, .inr (.inr ⟨l1, rfl, .inl ⟨_, s7 _ _ (s6 _ _ hl5)⟩⟩), tl⟩
        | 1, _ => exact ⟨_, rfl, .inr (.inr ⟨t1, rfl, .inr (.inr ⟨[v], (ht5.same s6).same s7, by simp⟩)⟩), tt⟩
        | 2, _ => exact ⟨_, rfl, .inr (.inr ⟨d1, rfl, .inr (.inl ⟨_, s7 _ _ hd6⟩)⟩), td⟩
      exact ⟨l2, _, _, v8, rfl, rfl, sql hl8, atI_nat hv8, v8, _, rfl, (x4.same s47).trans x8, w8, e8.exw x8 w7 w8, fun _ => t8.exw x8 w7 w8⟩
    · rintro σ H4 ⟨v, y2, rfl, x4, w4, e4, t4⟩
      exact ⟨v, rfl, q H4 v x4 w4 e4⟩
end
end Kb

namespace PySem.SeqAt
open Builtin
open AutoSeq1 (wpAny_loadPart')
/-! a dict is no text and no tuple -/
theorem dict_no_str (l : Addr) (es : Array DictEntry) (n : Nat) (dd : Option Addr) (sl : Array (Option Value)) (i : Str) (u : Tok) :
    Meets (Builtin.«dict.__eq__» ⟨[.ref l, .str i u], []⟩) (fun _ R s => s.heap.get? l = some { cls := .type "dict", dict := dd, data := .dict es n, slots := sl } ∧ R (.ok (.ret .notImplemented)) s) := by
  refine .of_wp fun prog w A R s h => ?_
  obtain ⟨hp, g, d, tk, os⟩ := s
  obtain ⟨hl, h⟩ := h
  have f1 := F.sub_str_dict
  wp_walk using wpAny_loadPart' hl
  exact ⟨_, rfl, h⟩
theorem str_no_dict (l : Addr) (es : Array DictEntry) (n : Nat) (dd : Option Addr) (sl : Array (Option Value)) (i : Str) (u : Tok) :
    Meets (Builtin.«str.__eq__» ⟨[.str i u, .ref l], []⟩) (fun _ R s => s.heap.get? l = some { cls := .type "dict", dict := dd, data := .dict es n, slots := sl } ∧ R (.ok (.ret .notImplemented)) s) := by
  refine .of_wp fun prog w A R s h => ?_
  obtain ⟨hp, g, d, tk, os⟩ := s
  obtain ⟨hl, h⟩ := h
  wp_walk using wpAny_loadPart' hl, wpAny_load hl
  exact ⟨_, rfl, h⟩
theorem dict_no_tuple (l b : Addr) (es : Array DictEntry) (items2 : Array Value) (n n2 : Nat) (dd dd2 : Option Addr) (sl sl2 : Array (Option Value)) :
    Meets (Builtin.«dict.__eq__» ⟨[.ref l, .ref b], []⟩) (fun _ R s => s.heap.get? l = some { cls := .type "dict", dict := dd, data := .dict es n, slots := sl } ∧ s.heap.get? b = some { cls := .type "tuple", dict := dd2, data := .seq items2 n2, slots := sl2 } ∧ R (.ok (.ret .notImplemented)) s) := by
  refine .of_wp fun prog w A R s h => ?_
  obtain ⟨hp, g, d, tk, os⟩ := s
  obtain ⟨hl, hb, h⟩ := h
  have f1 := F.sub_tuple_dict
  wp_walk using wpAny_loadPart' hl, wpAny_loadPart' hb
  exact ⟨_, rfl, h⟩
theorem tuple_no_dict (l b : Addr) (items : Array Value) (es : Array DictEntry) (n n2 : Nat) (dd dd2 : Option Addr) (sl sl2 : Array (Option Value)) :
    Meets (Builtin.«tuple.__eq__» ⟨[.ref l, .ref b], []⟩) (fun _ R s => s.heap.get? l = some { cls := .type "tuple", dict := dd, data := .seq items n, slots := sl } ∧ s.heap.get? b = some { cls := .type "dict", dict := dd2, data := .dict es n2, slots := sl2 } ∧ R (.ok (.ret .notImplemented)) s) := by
  refine .of_wp fun prog w A R s h => ?_
  obtain ⟨hp, g, d, tk, os⟩ := s
  obtain ⟨hl, hb, h⟩ := h
  have f1 := F.sub_dict_tuple
  wp_walk using wpAny_loadPart' hl, wpAny_loadPart' hb
  exact ⟨_, rfl, h⟩
section
variable {A : Around} {s : Shared}
theorem RcAt.dict_str {l : Addr} {es : Array DictEntry} {n : Nat} {dd : Option Addr} {sl : Array (Option Value)} (b : Str) (u : Tok) (ho : s.heap.get? l = some { cls := .type "dict", dict := dd, data := .dict es n, slots := sl }) (hu : A.units < cLine) : RcAt A s (.ref l) (.str b u) false := fun prog w E Q h =>
  rc_eq_decline_or (k := false) ⟨_, ho, rfl⟩ (typeIs_str s b u) (by decide) F.sub_str_dict F.slot_dict_eq F.slot_str_eq_refl
    (fun _ hq => call_meets F.slot_dict_eq ⟨_, ho, rfl⟩ F.entry_dict_eq (F.args_dict_eq_2 _ _) (dict_no_str l es n dd sl b u) ⟨ho, hq⟩)
    (fun _ hq => call_meets F.slot_str_eq_refl (typeIs_str s b u) F.entry_str_eq (F.args_str_eq_2 _ _) (str_no_dict l es n dd sl b u) ⟨ho, hq⟩)
    (fun _ hq => wpAny_of_eq (rfl : isSame (.ref l) (.str b u) = pure false) hq) (.inr hu) h
theorem EqAt.dict_str {l : Addr} {es : Array DictEntry} {n : Nat} {dd : Option Addr} {sl : Array (Option Value)} (b : Str) (u : Tok) (ho : s.heap.get? l = some { cls := .type "dict", dict := dd, data := .dict es n, slots := sl }) (hu : A.units < cLine) : EqAt A s (.ref l) (.str b u) false := fun prog w E Q h => by
  unfold eqBool
  refine wpAny_holding ?_
  refine wpAny_ite_split (fun hab => absurd (eq_of_beq hab) nofun) (fun _ => ?_)
  exact wpAny_bind (RcAt.dict_str b u ho hu prog w E _ (wpAny_truthy_bool h))
theorem RcAt.dict_tuple {l b : Addr} {es : Array DictEntry} {n : Nat} {dd : Option Addr} {sl : Array (Option Value)} {items2 : Array Value} (ho : s.heap.get? l = some { cls := .type "dict", dict := dd, data := .dict es n, slots := sl }) (hb : s.heap.IsTuple b items2) (hu : A.units < cLine) : RcAt A s (.ref l) (.ref b) false := fun prog w E Q h => by
  obtain ⟨⟨cls2, dd2, data2, sl2⟩, ho2, hc2, n2, hd2⟩ := id hb
  simp only at hc2 hd2
  subst hc2 hd2
  have hne : l ≠ b := fun e => by
    subst e
    rw [ho] at ho2
    exact absurd ho2 (by simp)
  exact (rc_eq_decline_or (k := false) ⟨_, ho, rfl⟩ ⟨_, ho2, rfl⟩ (by decide) F.sub_tuple_dict F.slot_dict_eq F.slot_tuple_eq_refl
    (fun _ hq => call_meets F.slot_dict_eq ⟨_, ho, rfl⟩ F.entry_dict_eq (F.args_dict_eq_2 _ _) (dict_no_tuple l b es items2 n n2 dd dd2 sl sl2) ⟨ho, ho2, hq⟩)
    (fun _ hq => call_meets F.slot_tuple_eq_refl ⟨_, ho2, rfl⟩ F.entry_tuple_eq (F.args_tuple_eq_2 _ _) (tuple_no_dict b l items2 es n2 n dd2 dd sl2 sl) ⟨ho2, ho, hq⟩)
    (fun _ hq => wpAny_isSame_ref_other hne ho ho2 (by simp) hq) (.inr hu) h)
end
end PySem.SeqAt
namespace L2
open PySem PySem.Spec PyProof.Rows Builtin
variable {X : Cx} {pins : List (Addr × Obj)} {σ : St} {H : Hp} {s : Shared}
/-! anything against a text -/
def EqS (K : PySem.W.Frag) (H : Hp) (x : V) (z : Str) (c : Bool) : Prop :=
  (x = .non ∧ c = false) ∨ (∃ i, x = .int i ∧ c = false) ∨ (∃ b, x = .bl b ∧ c = false) ∨ (∃ y, x = .str y ∧ c = decide (y = z)) ∨
  ∃ a, x = .ref a ∧ c = false ∧ ((∃ xs, SqL K H a xs) ∨ (∃ xs, SqT K H a xs) ∨ ∃ k, H a = some (.dK k))
theorem dict_at (I : Inv X pins σ H s) {a : Addr} {k : List (Key × V)} (e : H a = some (.dK k)) : ∃ es n dd sl, s.heap.get? a = some { cls := .type "dict", dict := dd, data := .dict es n, slots := sl } := by
  obtain ⟨_, low, vs, _, dd⟩ := (show ObjOk X.prog X.w H s.heap a (.dK k) from I.hok a _ e)
  obtain ⟨o, es, n, ho, shape, r⟩ := dd
  obtain ⟨cls, dct, data, sl⟩ := o
  obtain ⟨c1, c2, c3⟩ := shape
  obtain ⟨c4, _⟩ := r
  simp only at c1 c4
  subst c1 c4
  exact ⟨es, n, dct, sl, ho⟩
theorem str_dec (y z : Str) : (y == z) = decide (y = z) := by
  by_cases h : y = z
  · rw [decide_eq_true h, h]
    exact beq_self_eq_true z
  · rw [decide_eq_false h]
    exact beq_eq_false_iff_ne.mpr h
theorem EqS.rc (I : Inv X pins σ H s) {A : Around} (hu : A.units < cLine) {x : V} {v : Value} {z : Str} {t : Tok} {c : Bool} (h : EqS X.K H x z c) (r : RelV x v) : SeqAt.RcAt A s v (.str z t) c := by
  rcases h with ⟨rfl, rfl⟩ | ⟨i, rfl, rfl⟩ | ⟨b, rfl, rfl⟩ | ⟨y, rfl, rfl⟩ | ⟨a, rfl, rfl, h⟩
  · cases (show v = Value.none from r)
    exact SeqAt.RcAt.none_str z t
  · obtain ⟨t', rfl⟩ := r
    exact SeqAt.RcAt.int_str i t' z t
  · cases (show v = Value.bool b from r)
    exact SeqAt.RcAt.bool_str b z t
  · obtain ⟨t', rfl⟩ := r
    rw [← str_dec]
    exact SeqAt.RcAt.str_str y t' z t
  · cases (show v = Value.ref a from r)
    rcases h with ⟨xs, h⟩ | ⟨xs, h⟩ | ⟨k, h⟩
    · obtain ⟨its, _, p, _⟩ := I.list h
      exact SeqAt.RcAt.list_str z t p.isList hu
    · obtain ⟨its, _, p, _⟩ := I.tuple h
      exact SeqAt.RcAt.tuple_str z t p hu
    · obtain ⟨es, n, dd, sl, ho⟩ := dict_at I h
      exact SeqAt.RcAt.dict_str z t ho hu
theorem EqS.eq (I : Inv X pins σ H s) {A : Around} (hu : A.units < cLine) {x : V} {v : Value} {z : Str} {t : Tok} {c : Bool} (h : EqS X.K H x z c) (r : RelV x v) : SeqAt.EqAt A s v (.str z t) c := by
  rcases h with ⟨rfl, rfl⟩ | ⟨i, rfl, rfl⟩ | ⟨b, rfl, rfl⟩ | ⟨y, rfl, rfl⟩ | ⟨a, rfl, rfl, h⟩
  · cases (show v = Value.none from r)
    exact SeqAt.EqAt.none_str z t
  · obtain ⟨t', rfl⟩ := r
    exact SeqAt.EqAt.int_str i t' z t
  · cases (show v = Value.bool b from r)
    exact SeqAt.EqAt.bool_str b z t
  · obtain ⟨t', rfl⟩ := r
    rw [← str_dec]
    exact SeqAt.EqAt.str_str y t' z t
  · cases (show v = Value.ref a from r)
    rcases h with ⟨xs, h⟩ | ⟨xs, h⟩ | ⟨k, h⟩
    · obtain ⟨its, _, p, _⟩ := I.list h
      exact SeqAt.EqAt.list_str z t p.isList hu
    · obtain ⟨its, _, p, _⟩ := I.tuple h
      exact SeqAt.EqAt.tuple_str z t p hu
    · obtain ⟨es, n, dd, sl, ho⟩ := dict_at I h
      exact SeqAt.EqAt.dict_str z t ho hu
/-- anything == a text -/
theorem op_eqS {K : PySem.W.Frag} (hK : X.K = K) (hu : X.A.units + 64 < cLine) : OpR X (compareOp .Eq) (fun x y H Q => ∃ z c, y = .str z ∧ EqS K H x z c ∧ Q (.bl c) H) := by
  subst hK
  intro pins s σ H x y v u Q I rx ry h
  obtain ⟨z, c, rfl, e, q⟩ := h
  obtain ⟨t, rfl⟩ := ry
  exact EqS.rc I (by omega) e rx _ _ _ _ ⟨.bl c, H, I, rfl, q⟩
/-! anything against a tuple of one text -/
def EqT (K : PySem.W.Frag) (H : Hp) (x : V) (z : Str) (c : Bool) : Prop :=
  (c = false ∧ (x = .non ∨ (∃ i, x = .int i) ∨ (∃ b, x = .bl b) ∨ ∃ y, x = .str y)) ∨
  ∃ a, x = .ref a ∧ ((c = false ∧ ((∃ xs, SqL K H a xs) ∨ ∃ k, H a = some (.dK k))) ∨ (∃ xs, SqT K H a xs ∧ ((xs = [] ∧ c = false) ∨ ∃ x0 r c0, xs = x0 :: r ∧ EqS K H x0 z c0 ∧ c = (c0 && decide (r = []))))) 
theorem vals_nil {its : List Value} (h : Vals [] its) : its = [] := by cases h; rfl
theorem vals_cons {x : V} {xs : List V} {its : List Value} (h : Vals (x :: xs) its) : ∃ v r, its = v :: r ∧ RelV x v ∧ Vals xs r := by
  cases h with
  | cons h t => exact ⟨_, _, rfl, h, t⟩
theorem EqT.rc (I : Inv X pins σ H s) {A : Around} (hu : A.units + 64 < cLine) (hu1 : A.in1.units < cLine) {x : V} {v : Value} {b : Addr} {z : Str} {c : Bool} (h : EqT X.K H x z c) (r : RelV x v) (hb : SqT X.K H b [.str z]) : SeqAt.RcAt A s v (.ref b) c := by
  obtain ⟨its2, rv2, p2, _⟩ := I.tuple hb
  have hu0 : A.units < cLine := by omega
  obtain ⟨w2, r2, rfl, rz, rr⟩ := vals_cons rv2
  obtain rfl := vals_nil rr
  obtain ⟨t, rfl⟩ := rz
  rcases h with ⟨rfl, h⟩ | ⟨a, rfl, h⟩
  · rcases h with rfl | ⟨i, rfl⟩ | ⟨j, rfl⟩ | ⟨y, rfl⟩
    · cases (show v = Value.none from r)
      exact SeqAt.RcAt.none_tuple p2 hu0
    · obtain ⟨t', rfl⟩ := r
      exact SeqAt.RcAt.int_tuple i t' p2 hu0
    · cases (show v = Value.bool j from r)
      exact SeqAt.RcAt.bool_tuple j p2 hu0
    · obtain ⟨t', rfl⟩ := r
      exact SeqAt.RcAt.str_tuple y t' p2 hu0
  · cases (show v = Value.ref a from r)
    rcases h with ⟨rfl, ⟨xs, h⟩ | ⟨k, h⟩⟩ | ⟨xs, hx, h⟩
    · obtain ⟨its, _, p, _⟩ := I.list h
      exact SeqAt.RcAt.list_tuple p.isList p2 hu0
    · obtain ⟨es, n, dd, sl, ho⟩ := dict_at I h
      exact SeqAt.RcAt.dict_tuple ho p2 hu0
    · obtain ⟨its, rv, p, _⟩ := I.tuple hx
      rcases h with ⟨rfl, rfl⟩ | ⟨x0, rs, c0, rfl, e0, rfl⟩
      · obtain rfl := vals_nil rv
        have := SeqAt.RcAt.tuples (e := fun _ => false) p p2 hu0 (fun j j1 j2 => absurd j1 (by simp))
        exact this
      · obtain ⟨v0, r0, rfl, rel0, rrs⟩ := vals_cons rv
        have := SeqAt.RcAt.tuples (A := A) (e := fun _ => c0) p p2 hu0 (fun j j1 j2 => by
          have j0 : j = 0 := by simpa using j2
          subst j0
          exact EqS.eq I hu1 e0 rel0)
        have l1 : rs.length = r0.length := Paired.length rrs
        have e2 : ((List.range (min (v0 :: r0).toArray.size [Value.str z t].toArray.size)).all (fun _ => c0) && (v0 :: r0).toArray.size == [Value.str z t].toArray.size) = (c0 && decide (rs = [])) := by
          cases rs with
          | nil =>
            cases r0 with
            | nil => simp
            | cons _ _ => simp at l1
          | cons y ys =>
            cases r0 with
            | nil => simp at l1
            | cons _ _ => simp
        rw [e2] at this
        exact this
/-- anything == a tuple of one text -/
theorem op_eqT {K : PySem.W.Frag} (hK : X.K = K) (hu : X.A.units + 64 < cLine) : OpR X (compareOp .Eq) (fun x y H Q => ∃ b z c, y = .ref b ∧ SqT K H b [.str z] ∧ EqT K H x z c ∧ Q (.bl c) H) := by
  subst hK
  intro pins s σ H x y v u Q I rx ry h
  obtain ⟨b, z, c, rfl, hb, e, q⟩ := h
  cases (show u = Value.ref b from ry)
  exact EqT.rc I hu (by have : X.A.in1.units ≤ X.A.units + 1 := by simp [Around.in1, Around.units]
                        omega) e rx hb _ _ _ _ ⟨.bl c, H, I, rfl, q⟩
end L2

namespace Kb
open PySem PySem.Spec PyProof.Rows L2
/-! try: .. except A as n: .. except ..: where each error of the body is A's -/
def wFirst (K : PySem.W.Frag) (c : Value) (i : Nat) (ts : Addr → Value → Option Addr → TS) (D : Ends) : WX := fun cls d σ H =>
  PySem.W.exmOne K cls c = some true ∧ ∀ a, H a = none → ts a cls d { nx := fun σ' H' => D.nx (σ'.set i none) H', rt := D.rt, bk := fun σ' H' => D.bk (σ'.set i none) H', ct := fun σ' H' => D.ct (σ'.set i none) H' } (σ.set i (some (.ref a))) H
section
variable {X : Cx} {x n : Str} {c : Value} {i : Nat} {body rest : List Stmt} {first : Stmt} {more : List ExceptHandler} {np pos hpos : Pos} {tb : WX → TS} {ts : Addr → Value → Option Addr → TS}
theorem ps_try_first (stk : X.stack = X.env :: X.outer) (frm : X.env.frame = some X.env.locals) (nd : X.N.Nodup) (at_ : X.N[i]? = some n) (loc : X.env.kindOf n = some .local) (nam : Names X x c)
    (runs : ∀ (W : WX) (pn : List (Addr × Obj)) (way : Value → Shared → Prop), L2.Takes (X.tr pn way) W → PassesOwn (model X.prog X.w) X.A X.env way → PSs (X.tr pn way) body (tb W))
    (caught : ∀ (a : Addr) (oe : Obj) (cls : Value) (d : Option Addr) (pn : List (Addr × Obj)), Zc cls d oe → (∃ vs, oe.data = .fields vs) → PSs (X.suite a ((a, oe) :: pn)) (first :: rest) (ts a cls d)) :
    PS X (.Try body (.ExceptHandler (some (.Name x np)) (some n) (first :: rest) hpos :: more) [] [] pos) (fun D σ H => tb (wFirst X.K c i ts D) D σ H) := by
  refine ⟨fun pins s σ H D I reads => ?_⟩
  have good := I.ok
  have fr : X.A.frames = some (X.env :: X.outer) := by rw [good.frames, stk]
  refine wpAny_Try_except ?_
  have whole := (runs (wFirst X.K c i ts D) (X.pn ++ pins) (fun e t1 => wpAny (model X.prog X.w) X.A (noteFrame e X.env) (fun _ t2 => wpAny (model X.prog X.w) X.A (setFlight e none) (fun _ t3 =>
    wpAny (model X.prog X.w) X.A (handleBy e X.env (.ExceptHandler (some (.Name x np)) (some n) (first :: rest) hpos :: more)) (SP X pins D) X.xe t3) X.xe t2) X.xe t1) (fun u s' air => ?_) PassesOwn.looking).run [] s σ H D (I.toTry _) reads
  · refine wpAny_mono whole (fun fl s1 got => ?_) fun _ _ z => z
    cases fl with
    | next => exact wpAny_execs_nil (let ⟨σ', H', J, q⟩ := got; ⟨σ', H', J.ofTry good, q⟩)
    | brk => exact let ⟨σ', H', J, q⟩ := got; ⟨σ', H', J.ofTry good, q⟩
    | cont => exact let ⟨σ', H', J, q⟩ := got; ⟨σ', H', J.ofTry good, q⟩
    | ret u => exact let ⟨v, σ', H', J, r, q⟩ := got; ⟨v, σ', H', J.ofTry good, r, q⟩
  · obtain ⟨a, B, sI, pins1, σ1, H1, cls, d, eu, J0, ground, up, sky, na, os, ag, yes, suite⟩ := air
    subst eu
    have J : L2.Inv X pins σ1 H1 sI := J0.ofTry good
    have sky : Sky B X.stack a (Zc cls d) X.env.locals s'.heap := sky
    rw [stk] at sky
    show wpAny (model X.prog X.w) X.A (noteFrame (.ref a) X.env) _ _ s'
    refine Sky.land Zc.steady fr frm sky fun g3 fly3 up3 => ?_
    have J3 : L2.Inv X pins σ1 H1 { s' with heap := g3 } := J.landed ground fly3.1 (up.trans up3) os ag
    obtain ⟨o3, v3, e3, z3, d3⟩ := fly3.there
    have offFrames : a ∉ frs (X.env :: X.outer) := fun hm => by
      obtain ⟨_, o', e', nofields⟩ := fly3.2.2.1.mem hm
      rw [e3] at e'
      cases e'
      exact nofields _ d3
    have offL : a ≠ X.env.locals := fun z => offFrames (List.mem_filterMap.mpr ⟨X.env, List.mem_cons_self, by rw [frm, z]⟩)
    have offF : a ∉ X.fs := fun hm => by
      obtain ⟨e, he, q⟩ := List.mem_filterMap.mp hm
      exact offFrames (List.mem_filterMap.mpr ⟨e, List.mem_cons_of_mem _ he, q⟩)
    have in3 := J3.suite e3 d3 na offL offF
    refine wpAny_handleBy_cons (codeAny_handlers_test ?_) (by intro q; cases q)
    have its : PySem.W.Looks (model X.prog X.w) g3 (typeOf (.ref a)) cls := fun _ _ _ _ keep q => wpAny_typeOf_ref (keep _ _ e3) (by rw [z3.1]; exact q)
    have asks := PySem.W.exm_one (M := model X.prog X.w) J3.kIn its yes
    have named : ∀ {R : Value → Shared → Prop} {way : Value → Shared → Prop}, R c { s' with heap := g3 } → wpAny (model X.prog X.w) (X.A.mark (some (.ref a))) (eval (.Name x np) X.env) R way { s' with heap := g3 } := fun {R way} q =>
      match nam with
      | ⟨gl, nodebug, .inl own⟩ => ld_glob (X := X.suite a ((a, o3) :: (X.pn ++ pins))) in3 gl own q nodebug
      | ⟨gl, nodebug, .inr ⟨none_, boot, nonm⟩⟩ => ld_blt (X := X.suite a ((a, o3) :: (X.pn ++ pins))) in3 gl none_ boot q nonm nodebug
    refine named (asks.here (codeAny_handlers_suite_as (HandSPX.lands_againZ fly3 fun g4 fly4 up4 => ?_)))
    have J4 : L2.Inv X pins σ1 H1 { s' with heap := g4 } := J.landed ground fly4.1 ((up.trans up3).trans up4) os ag
    obtain ⟨o4, v4, e4, z4, d4⟩ := fly4.there
    refine store_ok (X := X.suite a ((a, o4) :: (X.pn ++ pins))) (v := .ref a) (J4.suite e4 d4 na offL offF) nd at_ (.inl loc) rfl (fun s5 in5 => ?_) (.inr loc)
    refine wpAny_mono ((caught a o4 cls d (X.pn ++ pins) z4 ⟨_, d4⟩).run [] s5 _ H1 _ in5 (suite a na)) (fun fl s6 got => ?_) fun _ _ z => z.elim
    have over : ∀ {σ6 : L2.St} {H6 : Hp} {R : Shared → Prop}, L2.Inv (X.suite a ((a, o4) :: (X.pn ++ pins))) [] σ6 H6 s6 → (∀ s7, L2.Inv X pins (σ6.set i none) H6 s7 → R s7) →
        wpAny (model X.prog X.w) X.A (do bindName X.env n .none; unbindBehindTheSuite X.env n hpos) (fun _ s7 => R s7) X.xe s6 := fun in6 q => gone_ok (in6.unsuite good) nd at_ loc q
    cases fl with
    | next => exact let ⟨_, _, in6, q6⟩ := got; over in6 fun _ J7 => ⟨_, _, J7, q6⟩
    | brk => exact let ⟨_, _, in6, q6⟩ := got; over in6 fun _ J7 => ⟨_, _, J7, q6⟩
    | cont => exact let ⟨_, _, in6, q6⟩ := got; over in6 fun _ J7 => ⟨_, _, J7, q6⟩
    | ret u => exact let ⟨_, _, _, in6, r6, q6⟩ := got; over in6 fun _ J7 => ⟨_, _, _, J7, r6, q6⟩
end
end Kb

namespace Kb
open PySem PySem.Spec PyProof.Rows L2 SrtZ SrtO
abbrev sP_is_many : Stmt := topS 42
theorem scP_is_many : FnScope ["thing"] ["thing"] (defScope sP_is_many) := ⟨rfl, rfl, rfl, by decide +kernel, rfl, by decide +kernel, by decide +kernel⟩
abbrev DnIsMany (K : PySem.W.Frag) (mg : Str → Option Value) := Dn K mg "_is_many" sP_is_many ["thing"]
abbrev sP_most_off : Stmt := topS 43
theorem scP_most_off : FnScope ["room", "many"] ["room", "many"] (defScope sP_most_off) := ⟨rfl, rfl, rfl, by decide +kernel, rfl, by decide +kernel, by decide +kernel⟩
abbrev DnMostOff (K : PySem.W.Frag) (mg : Str → Option Value) := Dn K mg "most_off" sP_most_off ["room", "many"]
abbrev sP_room_for : Stmt := topS 44
theorem scP_room_for : FnScope ["many", "most"] ["many", "most"] (defScope sP_room_for) := ⟨rfl, rfl, rfl, by decide +kernel, rfl, by decide +kernel, by decide +kernel⟩
abbrev DnRoomFor (K : PySem.W.Frag) (mg : Str → Option Value) := Dn K mg "room_for" sP_room_for ["many", "most"]
abbrev sP_in_rounds : Stmt := topS 45
abbrev NP_in_rounds : List Str := ["names", "many", "at"]
theorem scP_in_rounds : FnScope ["names", "many", "at"] ["names", "many"] (defScope sP_in_rounds) := ⟨rfl, rfl, rfl, by decide +kernel, rfl, by decide +kernel, by decide +kernel⟩
abbrev DnInRounds (K : PySem.W.Frag) (mg : Str → Option Value) := Dn K mg "in_rounds" sP_in_rounds ["names", "many"]
abbrev sP_worst : Stmt := topS 46
theorem scP_worst : FnScope ["room", "many"] ["room", "many"] (defScope sP_worst) := ⟨rfl, rfl, rfl, by decide +kernel, rfl, by decide +kernel, by decide +kernel⟩
abbrev DnWorst (K : PySem.W.Frag) (mg : Str → Option Value) := Dn K mg "worst" sP_worst ["room", "many"]
section
variable {X : Cx} {pos : Pos} {x : Str} {p : Pos}
/-- C(), C an own class of errors without own __init__ -/
theorem pmk_bare {C : Addr} {bmB : List Value} {B newId initId : String} (F : ExcBaseFacts B newId initId bmB) (isExc : PySem.W.excIn X.K C bmB newId = true) (at_ : X.mg x = some (.ref C)) (kept : PySem.W.keepIn X.K (.ref C) = true) (may : Raises X (.ref C)) (gl : Gl X x)
    (nodebug : (x == ("__debug__" : Str)) = false := by decide) : PMk X (.Call (.Name x p) [] [] pos) (fun _ H Q => Q (.ref C) none H) := by
  intro pins s σ H Q I h
  refine wpAny_Call_Name_kw (ld_glob I gl at_ ?_ nodebug)
  refine PySem.W.callWith_K0 I.kIn kept ?_
  obtain ⟨_, _, _, _, _, _, _, _, _, _, _, _, _, _, _, _, _, isC, names, noInit, tail⟩ := exc_obj I.kIn isExc
  exact wpAny_call_exc_subT F tail isC names noInit (fun h' e' made => mk_of I made may h (I.hok.gone made.new)) (Nat.zero_le _)
end
/-- an own class of errors -/
structure TxE (K : PySem.W.Frag) (mg : Str → Option Value) (nm : Str) where
  C : Addr
  gC : mg nm = some (.ref C)
  exc : PySem.W.excIn K C [.type "ValueError", .type "Exception", .type "BaseException", .type "object"] "ValueError.__new__" = true
  kp : PySem.W.keepIn K (.ref C) = true
  sub : PySem.W.subIn K (.ref C) (.type "BaseException") = some true
  ty : PySem.W.typeIn K (.ref C) = some (.type "type")
  isC : ExcC K C
/-! numbers and other things -/
def NvAt (K : PySem.W.Frag) (H : Hp) (v : V) : Option Int → Prop
  | some i => v = .int i
  | none => (∃ b, v = .bl b) ∨ v = .non ∨ (∃ z, v = .str z) ∨ ∃ a, v = .ref a ∧ ((∃ xs, SqL K H a xs) ∨ (∃ xs, SqT K H a xs) ∨ ∃ k, H a = some (.dK k))
theorem tyL {K : PySem.W.Frag} {H : Hp} {a : Addr} {xs : List V} (h : SqL K H a xs) : TyX K H (.ref a) (.type "list") := by
  rcases h with (h | ⟨o, h⟩) | ⟨o, its, n, e, c, _⟩
  · exact .base (.lst h)
  · exact .base (.frz h)
  · exact .kList e c
theorem od_ty {K : PySem.W.Frag} {H : Hp} {v : V} (h : v = .non ∨ (∃ z, v = .str z) ∨ ∃ a, v = .ref a ∧ ((∃ xs, SqL K H a xs) ∨ (∃ xs, SqT K H a xs) ∨ ∃ k, H a = some (.dK k))) : ∃ t, TyX K H v t ∧ PySem.W.kitOne K t (.type "int") = some false := by
  rcases h with rfl | ⟨z, rfl⟩ | ⟨a, rfl, ⟨xs, h⟩ | ⟨xs, h⟩ | ⟨k, h⟩⟩
  · exact ⟨_, .base .non, kit_ty (by decide +kernel)⟩
  · exact ⟨_, .base (.str z), kit_ty (by decide +kernel)⟩
  · exact ⟨_, tyL h, kit_ty (by decide +kernel)⟩
  · exact ⟨_, tyT h, kit_ty (by decide +kernel)⟩
  · exact ⟨_, .base (.dK h), kit_ty (by decide +kernel)⟩
def isRB : Option Int → Bool
  | some i => decide (1 ≤ i) && decide (i ≤ 64)
  | none => false
def isNB : Option Int → Bool
  | some i => decide (0 ≤ i)
  | none => false
def isMB : Option Int → Bool
  | some i => decide (0 ≤ i) && decide (i ≤ 1000000000000)
  | none => false
def isLB : Option Int → Bool
  | some i => decide (0 ≤ i) && decide (i ≤ 2000)
  | none => false
section
variable {P : Program} {w : World} {K : PySem.W.Frag} {mg : Str → Option Value} {base : Heap}
def spIsIntN (K : PySem.W.Frag) : Sp := fun vs H Q _ => ∃ (v : V) (n : Option Int), vs = [v] ∧ NvAt K H v n ∧ Q (.bl n.isSome) H
theorem ok_is_intN (T : Blt mg) (d : DnIsInt K mg) : FnOk P w K mg base CX0 1 d.f d.fd ["thing"] (spIsIntN K) := by
  refine d.F.ok scP_is_int (fun vs H Q E h => ?_) (fun cdv A outer s H vs Q E hr h => ?_)
  · obtain ⟨v, n, rfl, _⟩ := h
    rfl
  · obtain ⟨v, n, rfl, hn, q⟩ := h
    refine ⟨_, (pss_one (ps_ret (pe_and (pe_callB call_isi (by rfl) T.n_isinstance (by decide +kernel) (pa_cons (pv 0) (pa_cons (pe_bltn (v := .ty "int") (by rfl) T.n_int (by decide +kernel) rfl) pa_nil))) (pe_one (pe_not (pe_callB call_isi (by rfl) T.n_isinstance (by decide +kernel) (pa_cons (pv 0) (pa_cons (pe_bltn (v := .ty "bool") (by rfl) T.n_bool (by decide +kernel) rfl) pa_nil)))))))), ?_⟩
    cases n with
    | some i =>
      obtain rfl : v = .int i := hn
      refine ⟨.int i, rfl, .int i, _, _, _, true, rfl, .ty "int", .base (.int i), kit_ty (by decide +kernel), true, rfl, iteT ?_⟩
      exact ⟨.int i, rfl, .int i, _, _, _, false, rfl, .ty "bool", .base (.int i), kit_ty (by decide +kernel), false, rfl, q⟩
    | none =>
      rcases hn with ⟨b, rfl⟩ | hn
      · refine ⟨.bl b, rfl, .bl b, _, _, _, true, rfl, .ty "int", .base (.bl b), kit_ty (by decide +kernel), true, rfl, iteT ?_⟩
        exact ⟨.bl b, rfl, .bl b, _, _, _, true, rfl, .ty "bool", .base (.bl b), kit_ty (by decide +kernel), true, rfl, q⟩
      · obtain ⟨t, ty, kt⟩ := od_ty hn
        exact ⟨v, rfl, v, _, _, _, false, rfl, .ty "int", ty, kt, false, rfl, iteF q⟩
def spIsNumberN (K : PySem.W.Frag) : Sp := fun vs H Q _ => ∃ (v : V) (n : Option Int), vs = [v] ∧ NvAt K H v n ∧ Q (.bl (isNB n)) H
theorem ok_is_numberN (T : Blt mg) (dP_is_int : DnIsInt K mg) (d : DnIsNumber K mg) : FnOk P w K mg base CX0 2 d.f d.fd ["thing"] (spIsNumberN K) := by
  have GP_is_int : FnOk P w K mg base CX0 1 dP_is_int.f dP_is_int.fd ["thing"] (spIsIntN K) := ok_is_intN T dP_is_int
  refine d.F.ok scP_is_number (fun vs H Q E h => ?_) (fun cdv A outer s H vs Q E hr h => ?_)
  · obtain ⟨v, n, rfl, _⟩ := h
    rfl
  · obtain ⟨v, n, rfl, hn, q⟩ := h
    refine ⟨_, (pss_one (ps_ret (pe_and (pe_call GP_is_int (hr.mono (by omega)) (by rfl) dP_is_int.g dP_is_int.F.kp dP_is_int.b .nil pass0 (pa_cons (pv 0) pa_nil)) (pe_one (pe_cmpR op_ge (pv 0) pe_int (nomark _)))))), ?_⟩
    refine ⟨v, rfl, v, n, rfl, hn, ?_⟩
    cases n with
    | none => exact ⟨false, rfl, iteF q⟩
    | some i =>
      obtain rfl : v = .int i := hn
      exact ⟨true, rfl, iteT ⟨.int i, rfl, _, _, rfl, rfl, q⟩⟩
def spIsRoomN (K : PySem.W.Frag) : Sp := fun vs H Q _ => ∃ (v : V) (n : Option Int), vs = [v] ∧ NvAt K H v n ∧ Q (.bl (isRB n)) H
theorem ok_is_roomN (T : Blt mg) (cM : Cst mg "MOST_ROOM" (.int 64)) (dP_is_int : DnIsInt K mg) (d : DnIsRoom K mg) : FnOk P w K mg base CX0 2 d.f d.fd ["thing"] (spIsRoomN K) := by
  have GP_is_int : FnOk P w K mg base CX0 1 dP_is_int.f dP_is_int.fd ["thing"] (spIsIntN K) := ok_is_intN T dP_is_int
  refine d.F.ok scP_is_room (fun vs H Q E h => ?_) (fun cdv A outer s H vs Q E hr h => ?_)
  · obtain ⟨v, n, rfl, _⟩ := h
    rfl
  · obtain ⟨v, n, rfl, hn, q⟩ := h
    refine ⟨_, (pss_one (ps_ret (pe_and (pe_call GP_is_int (hr.mono (by omega)) (by rfl) dP_is_int.g dP_is_int.F.kp dP_is_int.b .nil pass0 (pa_cons (pv 0) pa_nil)) (pe_one (pe_chain op_le op_le pe_int (pv 0) (pe_glob rfl cM.g cM.r)))))), ?_⟩
    refine ⟨v, rfl, v, n, rfl, hn, ?_⟩
    cases n with
    | none => exact ⟨false, rfl, iteF q⟩
    | some i =>
      obtain rfl : v = .int i := hn
      have q : Q (.bl (decide (1 ≤ i) && decide (i ≤ 64))) H := q
      refine ⟨true, rfl, iteT ⟨.int i, rfl, _, _, rfl, rfl, decide (1 ≤ i), rfl, ite2 (fun e => ⟨_, _, rfl, rfl, ?_⟩) (fun e => ?_)⟩⟩
      · rw [e, Bool.true_and] at q
        exact q
      · rw [show decide (1 ≤ i) = false from by simpa using e, Bool.false_and] at q
        exact q
def spIsManyN (K : PySem.W.Frag) : Sp := fun vs H Q _ => ∃ (v : V) (n : Option Int), vs = [v] ∧ NvAt K H v n ∧ Q (.bl (isMB n)) H
theorem ok_is_manyN (T : Blt mg) (cY : Cst mg "MOST_MANY" (.int 1000000000000)) (dP_is_int : DnIsInt K mg) (dP_is_number : DnIsNumber K mg) (d : DnIsMany K mg) : FnOk P w K mg base CX0 3 d.f d.fd ["thing"] (spIsManyN K) := by
  have GP_is_number : FnOk P w K mg base CX0 2 dP_is_number.f dP_is_number.fd ["thing"] (spIsNumberN K) := ok_is_numberN T dP_is_int dP_is_number
  refine d.F.ok scP_is_many (fun vs H Q E h => ?_) (fun cdv A outer s H vs Q E hr h => ?_)
  · obtain ⟨v, n, rfl, _⟩ := h
    rfl
  · obtain ⟨v, n, rfl, hn, q⟩ := h
    refine ⟨_, (pss_one (ps_ret (pe_and (pe_call GP_is_number (hr.mono (by omega)) (by rfl) dP_is_number.g dP_is_number.F.kp dP_is_number.b .nil pass0 (pa_cons (pv 0) pa_nil)) (pe_one (pe_cmpR op_le (pv 0) (pe_glob rfl cY.g cY.r) (nomark _)))))), ?_⟩
    refine ⟨v, rfl, v, n, rfl, hn, ?_⟩
    cases n with
    | none => exact ⟨false, rfl, iteF q⟩
    | some i =>
      obtain rfl : v = .int i := hn
      have q : Q (.bl (decide (0 ≤ i) && decide (i ≤ 1000000000000))) H := q
      refine ⟨decide (0 ≤ i), rfl, ite2 (fun e => ⟨.int i, rfl, _, _, rfl, rfl, ?_⟩) (fun e => ?_)⟩
      · rw [e, Bool.true_and] at q
        exact q
      · rw [show decide (0 ≤ i) = false from by simpa using e, Bool.false_and] at q
        exact q
/-! most_off -/
def spMostOff (K : PySem.W.Frag) (CR CN : Addr) : Sp := fun vs H Q E => ∃ (vr vm : V) (nr nm : Option Int), vs = [vr, vm] ∧ NvAt K H vr nr ∧ NvAt K H vm nm ∧ (isRB nr = false → E (.ref CR) none H) ∧ (isRB nr = true → isMB nm = false → E (.ref CN) none H) ∧ ∀ r m, nr = some r → nm = some m → isRB nr = true → isMB nm = true → Q (.int (m / (r + 1))) H
theorem ok_most_off (T : Blt mg) (R : TxE K mg "NoRoom") (N : TxE K mg "NoNumber") (cM : Cst mg "MOST_ROOM" (.int 64)) (cY : Cst mg "MOST_MANY" (.int 1000000000000)) (dP_is_int : DnIsInt K mg) (dP_is_number : DnIsNumber K mg) (dP_is_room : DnIsRoom K mg) (dP_is_many : DnIsMany K mg) (d : DnMostOff K mg) : FnOk P w K mg base (L2.CX P w) 4 d.f d.fd ["room", "many"] (spMostOff K R.C N.C) := by
  have GP_is_room : FnOk P w K mg base CX0 2 dP_is_room.f dP_is_room.fd ["thing"] (spIsRoomN K) := ok_is_roomN T cM dP_is_int dP_is_room
  have GP_is_many : FnOk P w K mg base CX0 3 dP_is_many.f dP_is_many.fd ["thing"] (spIsManyN K) := ok_is_manyN T cY dP_is_int dP_is_number dP_is_many
  refine d.F.okX scP_most_off (fun vs H Q E h => ?_) (fun cdv A outer s H vs Q E hr h => ?_)
  · obtain ⟨vr, vm, nr, nm, rfl, _⟩ := h
    rfl
  · obtain ⟨vr, vm, nr, nm, rfl, hnr, hnm, e1, e2, q⟩ := h
    refine ⟨_, (pss_cons (ps_if (pt_not (pt_val (pe_call GP_is_room (hr.mono (by omega)) (by rfl) dP_is_room.g dP_is_room.F.kp dP_is_room.b .nil pass0 (pa_cons (pv 0) pa_nil))))
      (pss_one (ps_raise rfl (takes_of rfl rfl rfl rfl) (pmk_bare PySem.F.excBase_ValueError R.exc R.gC R.kp (raises_own R.sub R.ty) rfl)))
      pss_nil)
    (pss_cons (ps_if (pt_not (pt_val (pe_call GP_is_many (hr.mono (by omega)) (by rfl) dP_is_many.g dP_is_many.F.kp dP_is_many.b .nil pass0 (pa_cons (pv 1) pa_nil))))
      (pss_one (ps_raise rfl (takes_of rfl rfl rfl rfl) (pmk_bare PySem.F.excBase_ValueError N.exc N.gC N.kp (raises_own N.sub N.ty) rfl)))
      pss_nil)
    (pss_one (ps_ret (pe_op op_fdiv (pv 1) (pe_op op_add (pv 0) pe_int)))))), ?_⟩
    refine ⟨vr, rfl, vr, nr, rfl, hnr, isRB nr, rfl, ?_⟩
    cases h1 : isRB nr with
    | false => exact iteT (e1 h1)
    | true =>
      refine iteF ⟨vm, rfl, vm, nm, rfl, hnm, isMB nm, rfl, ?_⟩
      cases h2 : isMB nm with
      | false => exact iteT (e2 h1 h2)
      | true =>
        cases nr with
        | none => cases h1
        | some r =>
          cases nm with
          | none => cases h2
          | some m =>
            obtain rfl : vr = .int r := hnr
            obtain rfl : vm = .int m := hnm
            have h1' : (decide (1 ≤ r) && decide (r ≤ 64)) = true := h1
            rw [Bool.and_eq_true, decide_eq_true_eq, decide_eq_true_eq] at h1'
            exact iteF ⟨.int m, rfl, .int r, rfl, _, _, rfl, rfl, _, _, rfl, rfl, ⟨by omega, by omega⟩, q r m rfl rfl h1 h2⟩
/-! room_for -/
def spRoomFor (K : PySem.W.Frag) (CN : Addr) : Sp := fun vs H Q E => ∃ (vm vo : V) (nm no : Option Int), vs = [vm, vo] ∧ NvAt K H vm nm ∧ NvAt K H vo no ∧ ((isMB nm && isMB no) = false → E (.ref CN) none H) ∧ ∀ m o, nm = some m → no = some o → isMB nm = true → isMB no = true → Q (.int (if m / (o + 1) > 1 then m / (o + 1) else 1)) H
theorem ok_room_for (T : Blt mg) (N : TxE K mg "NoNumber") (cY : Cst mg "MOST_MANY" (.int 1000000000000)) (dP_is_int : DnIsInt K mg) (dP_is_number : DnIsNumber K mg) (dP_is_many : DnIsMany K mg) (d : DnRoomFor K mg) : FnOk P w K mg base (L2.CX P w) 4 d.f d.fd ["many", "most"] (spRoomFor K N.C) := by
  have GP_is_many : FnOk P w K mg base CX0 3 dP_is_many.f dP_is_many.fd ["thing"] (spIsManyN K) := ok_is_manyN T cY dP_is_int dP_is_number dP_is_many
  refine d.F.okX scP_room_for (fun vs H Q E h => ?_) (fun cdv A outer s H vs Q E hr h => ?_)
  · obtain ⟨vr, vm, nr, nm, rfl, _⟩ := h
    rfl
  · obtain ⟨vm, vo, nm, no, rfl, hnm, hno, e1, q⟩ := h
    refine ⟨_, (pss_cons (ps_if (PW.pt (pw_or (pt_not (pt_val (pe_call GP_is_many (hr.mono (by omega)) (by rfl) dP_is_many.g dP_is_many.F.kp dP_is_many.b .nil pass0 (pa_cons (pv 0) pa_nil)))) (pw_or1 (pt_not (pt_val (pe_call GP_is_many (hr.mono (by omega)) (by rfl) dP_is_many.g dP_is_many.F.kp dP_is_many.b .nil pass0 (pa_cons (pv 1) pa_nil)))))))
      (pss_one (ps_raise rfl (takes_of rfl rfl rfl rfl) (pmk_bare PySem.F.excBase_ValueError N.exc N.gC N.kp (raises_own N.sub N.ty) rfl)))
      pss_nil)
    (pss_one (ps_ret (pe_callB (call_max2 rfl) (by rfl) T.n_max (by decide +kernel) (pa_cons pe_int (pa_cons (pe_op op_fdivW (pv 0) (pe_op op_add (pv 1) pe_int)) pa_nil)))))), ?_⟩
    refine ⟨vm, rfl, vm, nm, rfl, hnm, isMB nm, rfl, ?_⟩
    cases h1 : isMB nm with
    | false => exact iteT (iteT (e1 (by rw [h1]; rfl)))
    | true =>
      refine iteF ⟨vo, rfl, vo, no, rfl, hno, isMB no, rfl, ?_⟩
      cases h2 : isMB no with
      | false => exact iteT (e1 (by rw [h1, h2]; rfl))
      | true =>
        cases nm with
        | none => cases h1
        | some m =>
          cases no with
          | none => cases h2
          | some o =>
            obtain rfl : vm = .int m := hnm
            obtain rfl : vo = .int o := hno
            have h2' : (decide (0 ≤ o) && decide (o ≤ 1000000000000)) = true := h2
            rw [Bool.and_eq_true, decide_eq_true_eq, decide_eq_true_eq] at h2'
            refine iteF ⟨.int m, rfl, .int o, rfl, _, _, rfl, rfl, _, _, rfl, rfl, ⟨by omega, ?_⟩, ?_⟩
            · have : (o + 1).natAbs < 2 ^ 41 := by omega
              have := Nat.log2_lt (n := (o + 1).natAbs) (k := 41) (by omega) |>.mpr this
              omega
            · exact ⟨_, _, rfl, q m o rfl rfl h1 h2⟩
end
end Kb

namespace Kb
open PySem PySem.Spec PyProof.Rows L2 SrtZ SrtO
theorem call_lenK {X : Cx} {K : PySem.W.Frag} (hK : X.K = K) : CallR X (.builtin "len") (fun xs H Q => ∃ p ys, xs = [.ref p] ∧ (SqL K H p ys ∨ SqT K H p ys) ∧ Q (.int (ys.length : Int)) H) := by
  subst hK
  exact call_len_seq
/-- round after round -/
def rndL (ns : List Str) (n : Nat) : List Str := (List.range n).map fun i => ns.getD (i % ns.length) Str.empty
theorem rnd_at {ns : List Str} (h : 0 < ns.length) (i : Nat) : (ns.map V.str)[i % ns.length]? = some (.str (ns.getD (i % ns.length) Str.empty)) := by
  have hl : i % ns.length < ns.length := Nat.mod_lt _ h
  rw [List.getElem?_map, List.getElem?_eq_getElem hl, List.getD_eq_getElem?_getD, List.getElem?_eq_getElem hl]
  rfl
section
variable {P : Program} {w : World} {K : PySem.W.Frag} {mg : Str → Option Value} {base : Heap}
def spInRounds : Sp := fun vs H Q _ => ∃ (l : Addr) (ns : List Str) (n : Nat), vs = [.ref l, .int (n : Int)] ∧ H l = some (.lst (ns.map V.str)) ∧ 0 < ns.length ∧ n ≤ 100000 ∧ ∀ H' p, Same H H' → Ptp H' p ((rndL ns n).map V.str) → Q (.ref p) H'
theorem ok_in_rounds (T : Blt mg) (d : DnInRounds K mg) : FnOk P w K mg base CX0 1 d.f d.fd ["names", "many"] spInRounds := by
  refine d.F.ok scP_in_rounds (fun vs H Q E h => ?_) (fun cdv A outer s H vs Q E hr h => ?_)
  · obtain ⟨l, ns, n, rfl, _⟩ := h
    rfl
  · obtain ⟨l, ns, n, rfl, hl, n0, hn, q⟩ := h
    refine ⟨_, (pss_one (ps_ret (pe_callTy call_tupleF (by rfl) T.n_tuple (by decide +kernel) (pa_cons (pe_lc (own := [("at", 2)]) (g := gName 2) (tt := tYes) rfl scP_in_rounds.nd (pi_range1 (by rfl) T.n_range (pa_cons (pv 1) pa_nil)) (blkOk_by (N := NP_in_rounds) (sc := defScope sP_in_rounds) (by decide +kernel)) (fun _ _ _ _ _ => pg_name (i := 2) scP_in_rounds.nd rfl (Or.inl rfl)) (fun _ _ _ _ _ => pts_nil) (fun _ _ _ _ _ => (pe_ix (r := rIxL K) ix_list (pv 0) (pe_op op_mod (pv 2) (pe_callB (call_lenK (K := K) rfl) (by rfl) T.n_len (show bootBuiltins (Str.ofString "len") = some (Value.builtin "len") by decide +kernel) (pa_cons (pv 0) pa_nil))) (fun _ _ => rfl)))) pa_nil)))), ?_⟩
    refine ⟨.int (n : Int), rfl, (n : Int), rfl, by omega, by omega, fun D nD => ?_⟩
    rw [Int.toNat_natCast]
    refine lc_range (lo := 0) (n := n) (fun i H3 => Same H H3 ∧ H3 D = some (.lst ((rndL ns i).map V.str))) ⟨same_upd nD, upd_same⟩ (fun i H3 hi h3 => ?_) (fun H3 h3 => ?_)
    · obtain ⟨s3, hD⟩ := h3
      have hl3 := s3 _ _ hl
      have hm : (0 + (i : Int)) % (((ns.map V.str).length : Nat) : Int) = ((i % ns.length : Nat) : Int) := by
        rw [List.length_map, Int.zero_add]
        exact (Int.natCast_emod i ns.length).symm
      refine ⟨rfl, .ref l, rfl, .int (0 + (i : Int)), rfl, .ref l, rfl, l, _, rfl, .inl (sql hl3), _, _, rfl, rfl, by rw [List.length_map]; omega, l, _, _, .str (ns.getD (i % ns.length) Str.empty), rfl, rfl, sql hl3, ?_, ?_⟩
      · show atI (ns.map V.str) ((0 + (i : Int)) % (((ns.map V.str).length : Nat) : Int)) = _
        rw [hm]
        exact atI_nat (rnd_at n0 i)
      · refine ⟨_, hD, ?_, Same.put s3 nD, ?_⟩
        · unfold rndL
          rw [List.length_map, List.length_map, List.length_range, sizeLine_eq]
          omega
        · unfold rndL
          rw [upd_same, List.range_succ, List.map_append, List.map_append]
          rfl
    · refine ⟨D, _, rfl, sql h3.2, fun p o np ho => ?_⟩
      exact q _ p (Same.new h3.1 np) ⟨o, upd_same, ho⟩
/-! worst -/
def spWorst (K : PySem.W.Frag) (CR CN : Addr) : Sp := fun vs H Q E => ∃ (vr vm : V) (nr nm : Option Int), vs = [vr, vm] ∧ NvAt K H vr nr ∧ NvAt K H vm nm ∧ (isRB nr = false → E (.ref CR) none H) ∧ (isRB nr = true → isLB nm = false → E (.ref CN) none H) ∧
  ∀ r m : Nat, nr = some (r : Int) → nm = some (m : Int) → 1 ≤ r → r ≤ 64 → m ≤ 2000 → ∀ H' p, Same H H' → Ptp H' p ((rndL (leastL (r + 1)) m).map V.str) → Q (.ref p) H'
theorem ok_worst (T : Blt mg) (R : TxE K mg "NoRoom") (N : TxE K mg "NoNumber") (cM : Cst mg "MOST_ROOM" (.int 64)) (cG : Cst mg "LONGEST" (.int 2000)) (cLT : Cst mg "LETTERS" (.str "abcdefghijklmnopqrstuvwxyz")) (n_divmod : mg "divmod" = none) (dP_name_at : DnNameAt K mg) (dP_least_names : DnLeastNames K mg) (dP_is_int : DnIsInt K mg) (dP_is_number : DnIsNumber K mg) (dP_is_room : DnIsRoom K mg) (dP_in_rounds : DnInRounds K mg) (d : DnWorst K mg) : FnOk P w K mg base (L2.CX P w) 4 d.f d.fd ["room", "many"] (spWorst K R.C N.C) := by
  have GP_is_room : FnOk P w K mg base CX0 2 dP_is_room.f dP_is_room.fd ["thing"] (spIsRoomN K) := ok_is_roomN T cM dP_is_int dP_is_room
  have GP_is_number : FnOk P w K mg base CX0 2 dP_is_number.f dP_is_number.fd ["thing"] (spIsNumberN K) := ok_is_numberN T dP_is_int dP_is_number
  have GP_least_names : FnOk P w K mg base CX0 2 dP_least_names.f dP_least_names.fd ["many"] spLeastNames := ok_least_names T cLT n_divmod dP_name_at dP_least_names
  have GP_in_rounds : FnOk P w K mg base CX0 1 dP_in_rounds.f dP_in_rounds.fd ["names", "many"] spInRounds := ok_in_rounds T dP_in_rounds
  refine d.F.okX scP_worst (fun vs H Q E h => ?_) (fun cdv A outer s H vs Q E hr h => ?_)
  · obtain ⟨vr, vm, nr, nm, rfl, _⟩ := h
    rfl
  · obtain ⟨vr, vm, nr, nm, rfl, hnr, hnm, e1, e2, q⟩ := h
    refine ⟨_, (pss_cons (ps_if (pt_not (pt_val (pe_call GP_is_room (hr.mono (by omega)) (by rfl) dP_is_room.g dP_is_room.F.kp dP_is_room.b .nil pass0 (pa_cons (pv 0) pa_nil))))
      (pss_one (ps_raise rfl (takes_of rfl rfl rfl rfl) (pmk_bare PySem.F.excBase_ValueError R.exc R.gC R.kp (raises_own R.sub R.ty) rfl)))
      pss_nil)
    (pss_cons (ps_if (PW.pt (pw_or (pt_not (pt_val (pe_call GP_is_number (hr.mono (by omega)) (by rfl) dP_is_number.g dP_is_number.F.kp dP_is_number.b .nil pass0 (pa_cons (pv 1) pa_nil)))) (pw_or1 (pt_cmpR op_gt (pv 1) (pe_glob rfl cG.g cG.r) (nomark _)))))
      (pss_one (ps_raise rfl (takes_of rfl rfl rfl rfl) (pmk_bare PySem.F.excBase_ValueError N.exc N.gC N.kp (raises_own N.sub N.ty) rfl)))
      pss_nil)
    (pss_one (ps_ret (pe_call GP_in_rounds (hr.mono (by omega)) (by rfl) dP_in_rounds.g dP_in_rounds.F.kp dP_in_rounds.b .nil pass0 (pa_cons (pe_call GP_least_names (hr.mono (by omega)) (by rfl) dP_least_names.g dP_least_names.F.kp dP_least_names.b .nil pass0 (pa_cons (pe_op op_add (pv 0) pe_int) pa_nil)) (pa_cons (pv 1) pa_nil))))))), ?_⟩
    refine ⟨vr, rfl, vr, nr, rfl, hnr, isRB nr, rfl, ?_⟩
    cases h1 : isRB nr with
    | false => exact iteT (e1 h1)
    | true =>
      refine iteF ⟨vm, rfl, vm, nm, rfl, hnm, isNB nm, rfl, ?_⟩
      cases nr with
      | none => cases h1
      | some r =>
        have h1' : (decide (1 ≤ r) && decide (r ≤ 64)) = true := h1
        rw [Bool.and_eq_true, decide_eq_true_eq, decide_eq_true_eq] at h1'
        cases nm with
        | none => exact iteT (iteT (e2 h1 rfl))
        | some m =>
          obtain rfl : vr = .int r := hnr
          obtain rfl : vm = .int m := hnm
          cases h2 : isNB (some m) with
          | false =>
            refine iteT (iteT (e2 h1 ?_))
            have h2' : decide (0 ≤ m) = false := h2
            show (decide (0 ≤ m) && decide (m ≤ 2000)) = false
            rw [h2']
            rfl
          | true =>
            have h2' : decide (0 ≤ m) = true := h2
            have m0 := of_decide_eq_true h2'
            refine iteF ⟨.int m, rfl, _, _, rfl, rfl, decide (m > 2000), rfl, ?_⟩
            by_cases h3 : m > 2000
            · rw [decide_eq_true h3]
              refine iteT (e2 h1 ?_)
              show (decide (0 ≤ m) && decide (m ≤ 2000)) = false
              rw [decide_eq_false (by omega : ¬ m ≤ 2000), Bool.and_false]
            · rw [decide_eq_false h3]
              obtain ⟨r, rfl⟩ := Int.eq_ofNat_of_zero_le (show 0 ≤ r by omega)
              obtain ⟨m, rfl⟩ := Int.eq_ofNat_of_zero_le m0
              refine iteF ⟨.int (r : Int), rfl, _, _, rfl, rfl, r + 1, (by push_cast; rfl), by omega, fun H1 p s1 _ hp => ?_⟩
              have hl : (leastL (r + 1)).length = r + 1 := by unfold leastL; rw [List.length_map, List.length_range]
              exact ⟨.int (m : Int), rfl, p, _, m, rfl, hp, by rw [hl]; omega, by omega, fun H2 p2 s2 hp2 => q r m rfl rfl (by omega) (by omega) (by omega) H2 p2 (Same.trans s1 s2) hp2⟩
end
end Kb

namespace Kb
open PySem PySem.Spec PyProof.Rows L2 SrtZ SrtO FlX LamX RZ
/-! round after round, as mathematics -/
def onesZ (ns : List Str) : Ct := ns.map fun z => (z, (1 : Int))
theorem ones_keys (ns : List Str) : (onesZ ns).map (·.1) = ns := by
  unfold onesZ
  rw [List.map_map]
  exact List.map_id _
theorem ones_get {ns : List Str} {n : Str} (h : n ∉ ns) : getZ (onesZ ns) n = none := getZ_none.mpr (by rw [ones_keys]; exact h)
theorem ones_take (ns : List Str) : takeZ 1 (onesZ ns) = [] := by
  have : (onesZ ns).filter (fun e => decide (1 < e.2)) = [] := List.filter_eq_nil_iff.mpr fun e he => by
    obtain ⟨z, _, rfl⟩ := List.mem_map.mp he
    show ¬ decide ((1 : Int) < 1) = true
    decide
  unfold takeZ
  rw [this]
  rfl
theorem ones_mn {ns : List Str} (h : ns ≠ []) : mnC (onesZ ns) = 1 := by
  have h2 : onesZ ns ≠ [] := fun e => h (List.map_eq_nil_iff.mp e)
  obtain ⟨h3, _⟩ := mnC_spec h2
  obtain ⟨e, he, h4⟩ := List.mem_map.mp h3
  obtain ⟨z, _, rfl⟩ := List.mem_map.mp he
  exact h4.symm
theorem ones_add {ns : List Str} {n : Str} (h : n ∉ ns) : addZ (onesZ ns) n 1 = onesZ (ns ++ [n]) := by
  unfold addZ
  rw [ones_get h]
  unfold putZ
  rw [if_neg]
  · unfold onesZ
    rw [List.map_append]
    rfl
  · intro hh
    obtain ⟨e, he, e2⟩ := List.any_eq_true.mp hh
    obtain ⟨z, hz, rfl⟩ := List.mem_map.mp he
    exact h (by rw [← of_decide_eq_true e2]; exact hz)
theorem rr_state {r : Nat} (hr : 1 ≤ r) {ns : List Str} (nd : ns.Nodup) (hl : ns.length = r + 1) : ∀ m : Nat, feedsT (r : Int) (rndL ns m) tl0 = ⟨(m : Int), ((m / (r + 1) : Nat) : Int), onesZ (ns.take (m % (r + 1)))⟩
  | 0 => by
    rw [Nat.zero_mod, Nat.zero_div]
    rfl
  | m + 1 => by
    have ih := rr_state hr nd hl m
    have e1 : rndL ns (m + 1) = rndL ns m ++ [ns.getD (m % ns.length) Str.empty] := by
      unfold rndL
      rw [List.range_succ, List.map_append]
      rfl
    unfold feedsT at ih ⊢
    rw [e1, List.foldl_append, ih, hl]
    have hk : m % (r + 1) < r + 1 := Nat.mod_lt _ (by omega)
    have dm := Nat.div_add_mod m (r + 1)
    generalize hkk : m % (r + 1) = k at hk dm
    generalize hqq : m / (r + 1) = q at dm
    have hget : ns.getD k Str.empty = ns[k] := by rw [List.getD_eq_getElem?_getD, List.getElem?_eq_getElem (by omega)]; rfl
    rw [hget]
    have hnot : ns[k] ∉ ns.take k := fun hm => by
      obtain ⟨j, hj, e⟩ := List.getElem_of_mem hm
      rw [List.length_take] at hj
      rw [List.getElem_take] at e
      have := (List.getElem_inj nd).mp e
      omega
    show feedT (r : Int) ns[k] 1 ⟨(m : Int), (q : Int), onesZ (ns.take k)⟩ = _
    have hlen : (onesZ (ns.take k)).length = k := by unfold onesZ; rw [List.length_map, List.length_take]; omega
    unfold feedT full
    dsimp only
    rw [ones_get hnot, hlen]
    by_cases hkr : k = r
    · subst hkr
      have e2 : m + 1 = (k + 1) * (q + 1) := by rw [Nat.mul_add, Nat.mul_one]; omega
      have e3 : (m + 1) / (k + 1) = q + 1 := by rw [e2, Nat.mul_div_cancel_left _ (by omega)]
      have e4 : (m + 1) % (k + 1) = 0 := by rw [e2, Nat.mul_mod_right]
      have hne : ns.take k ≠ [] := fun e => by
        have h0 : (ns.take k).length = k := by rw [List.length_take]; omega
        rw [e, List.length_nil] at h0
        omega
      rw [e3, e4, ones_mn hne, if_pos (by simp)]
      simp only [if_neg (by decide : ¬ ((1 : Int) < 1)), Int.sub_self, if_neg (by decide : ¬ ((0 : Int) < 0)), ones_take]
      rw [List.take_zero]
      unfold onesZ
      rw [List.map_nil]
      congr 1
    · have e2 : m + 1 = (r + 1) * q + (k + 1) := by omega
      have e3 : (m + 1) / (r + 1) = q := by
        rw [e2, Nat.mul_add_div (by omega), Nat.div_eq_of_lt (by omega)]
        rfl
      have e4 : (m + 1) % (r + 1) = k + 1 := by
        rw [e2, Nat.mul_add_mod, Nat.mod_eq_of_lt (by omega)]
      rw [e3, e4, if_neg (by
        intro h
        rw [Bool.and_eq_true, decide_eq_true_eq] at h
        omega), if_pos (by decide), ones_add hnot, List.take_add_one, List.getElem?_eq_getElem (by omega)]
      rfl
/-! how far the ends are apart -/
theorem lumpR_rep {off : Int} (o0 : 0 ≤ off) : ∀ (n : Nat) (S : Int), 0 ≤ S → S - lumpR off (List.replicate n 0) S = if S ≤ (n : Int) * off then S else (n : Int) * off
  | 0, S, h => by
    show S - S = _
    rw [show ((0 : Nat) : Int) * off = 0 by simp]
    split <;> omega
  | n + 1, S, h => by
    show S - lumpR off (List.replicate n 0) (S - mnI off S) = _
    have e : ((n + 1 : Nat) : Int) * off = (n : Int) * off + off := by push_cast; rw [Int.add_mul, Int.one_mul]
    have nn : 0 ≤ (n : Int) * off := Int.mul_nonneg (by omega) o0
    have ih := lumpR_rep o0 n (S - mnI off S) (by unfold mnI; split <;> omega)
    rw [e]
    unfold mnI at ih ⊢
    split at ih <;> split at ih <;> split <;> omega
/-- how far the ends of named counts are apart -/
def wdZ (off lost : Int) : Qn → Int
  | .count _ => off
  | .apart _ _ => 2 * off
  | .lot zs => if lost ≤ (zs.length : Int) * off then lost else (zs.length : Int) * off
  | _ => 0
def NamedQ (x : Qn) : Prop := (∃ z, x = .count z) ∨ (∃ zs, x = .lot zs) ∨ ∃ y z, x = .apart y z
theorem ends_wide {r m off : Int} {kvs : Ct} (g : SkG r m off kvs) (x : Qn) (hx : QnOk x) (h : NamedQ x) : highE kvs m off x - lowE kvs m off x = wdZ off (m - sumC kvs) x := by
  obtain ⟨a1, a2, a3, a4⟩ := g.lost
  rcases h with ⟨z, rfl⟩ | ⟨zs, rfl⟩ | ⟨y, z, rfl⟩
  · have h1 : lowE kvs m off (.count z) = gd (namedZ kvs (fillZ off [] (nullZ [z] [], m - sumC kvs)).1) z := rfl
    have h2 : highE kvs m off (.count z) = gd (namedZ kvs (fillZ off [z] (nullZ [z] [], m - sumC kvs)).1) z := rfl
    rw [h1, h2, gd_named (fill_nd _ _ _ _), gd_named (fill_nd _ _ _ _), one_fill g, if_pos rfl]
    have h4 : gd (fillZ off [] (nullZ [z] [], m - sumC kvs)).1 z = 0 := gd_null [z] z
    show _ = off
    omega
  · have h1 : lowE kvs m off (.lot zs) = (zs.map (gd (namedZ kvs (fillZ off [] (nullZ zs [], m - sumC kvs)).1))).sum := rfl
    have h2 : highE kvs m off (.lot zs) = (zs.map (gd (namedZ kvs (fillZ off zs (nullZ zs [], m - sumC kvs)).1))).sum := rfl
    have nz := asc_nodup (hx.asc zs rfl)
    obtain ⟨f1, f2, f3, f4⟩ := fill_names (off := off) (S := m - sumC kvs) (ns := zs) nz
    have e1 : zs.map (gd (namedZ kvs (fillZ off [] (nullZ zs [], m - sumC kvs)).1)) = zs.map (gd kvs) := List.map_congr_left fun z _ => by
      rw [gd_named (fill_nd _ _ _ _)]
      have : gd (fillZ off [] (nullZ zs [], m - sumC kvs)).1 z = 0 := gd_null zs z
      omega
    have e2 : (zs.map (gd (namedZ kvs (fillZ off zs (nullZ zs [], m - sumC kvs)).1))).sum = (zs.map (gd kvs)).sum + (m - sumC kvs - lumpR off (List.replicate zs.length 0) (m - sumC kvs)) := by
      rw [show zs.map (gd (namedZ kvs (fillZ off zs (nullZ zs [], m - sumC kvs)).1)) = zs.map (fun z => gd kvs z + gd (fillZ off zs (nullZ zs [], m - sumC kvs)).1 z) from List.map_congr_left fun z _ => gd_named (fill_nd _ _ _ _) z, sum_map_add, f3, lump_sum]
      have : (List.replicate zs.length (0 : Int)).sum = 0 := by rw [sum_rep]; simp
      omega
    rw [h1, h2, e1, e2, lumpR_rep g.o0 _ _ a1]
    show _ = if m - sumC kvs ≤ (zs.length : Int) * off then m - sumC kvs else (zs.length : Int) * off
    omega
  · have h1 : lowE kvs m off (.apart y z) = gd (namedZ kvs (fillZ off [z] (nullZ [y, z] [], m - sumC kvs)).1) y - gd (namedZ kvs (fillZ off [z] (nullZ [y, z] [], m - sumC kvs)).1) z := rfl
    have h2 : highE kvs m off (.apart y z) = gd (namedZ kvs (fillZ off [y] (nullZ [y, z] [], m - sumC kvs)).1) y - gd (namedZ kvs (fillZ off [y] (nullZ [y, z] [], m - sumC kvs)).1) z := rfl
    have ne := hx.ne y z rfl
    rw [h1, h2, gd_named (fill_nd _ _ _ _), gd_named (fill_nd _ _ _ _), gd_named (fill_nd _ _ _ _), gd_named (fill_nd _ _ _ _), one_fill g, one_fill g, one_fill g, one_fill g, if_neg ne, if_pos rfl, if_pos rfl, if_neg (fun e => ne e.symm)]
    show _ = 2 * off
    omega
/-- the smaller of two, as min of two tells it -/
def mn2 (i j : Int) : Int := if j < i then j else i
/-- what widest tells -/
def dueZ (r many : Int) : Qn → Int
  | .count _ => many / (r + 1)
  | .apart _ _ => 2 * (many / (r + 1))
  | .lot zs => mn2 many (many / (r + 1) * mn2 (2 * r) (zs.length : Int))
  | _ => 0
theorem due_best {r many : Int} (hr : 1 ≤ r) (hm : 0 ≤ many) (x : Qn) (h : NamedQ x) : wdZ (many / (r + 1)) (mn2 (2 * r * (many / (r + 1))) many) x = dueZ r many x := by
  have q0 : 0 ≤ many / (r + 1) := Int.ediv_nonneg hm (by omega)
  rcases h with ⟨z, rfl⟩ | ⟨zs, rfl⟩ | ⟨y, z, rfl⟩
  · rfl
  · show (if mn2 (2 * r * (many / (r + 1))) many ≤ (zs.length : Int) * (many / (r + 1)) then mn2 (2 * r * (many / (r + 1))) many else (zs.length : Int) * (many / (r + 1))) = mn2 many (many / (r + 1) * mn2 (2 * r) (zs.length : Int))
    generalize many / (r + 1) = q at q0
    unfold mn2
    rw [Int.mul_comm (zs.length : Int) q, Int.mul_comm (2 * r) q]
    by_cases hz : (zs.length : Int) < 2 * r
    · rw [if_pos hz]
      have : q * (zs.length : Int) ≤ q * (2 * r) := Int.mul_le_mul_of_nonneg_left (by omega) q0
      repeat' split
      all_goals omega
    · rw [if_neg hz]
      have : q * (2 * r) ≤ q * (zs.length : Int) := Int.mul_le_mul_of_nonneg_left (by omega) q0
      repeat' split
      all_goals omega
  · rfl
theorem due_most {r many m off : Int} {kvs : Ct} (g : SkG r m off kvs) (hm : m ≤ many) (x : Qn) (h : NamedQ x) : wdZ off (m - sumC kvs) x ≤ dueZ r many x := by
  have hr := g.r1
  obtain ⟨a1, a2, a3, a4⟩ := g.lost
  have s0 : 0 ≤ sumC kvs := sumC_pos g.cts.pos
  have hoq : off ≤ many / (r + 1) := by
    refine (Int.le_ediv_iff_mul_le (by omega)).mpr ?_
    have := g.lo
    rw [Int.mul_comm]
    omega
  have o0 := g.o0
  have hi := g.hi
  rcases h with ⟨z, rfl⟩ | ⟨zs, rfl⟩ | ⟨y, z, rfl⟩
  · exact hoq
  · show (if m - sumC kvs ≤ (zs.length : Int) * off then m - sumC kvs else (zs.length : Int) * off) ≤ mn2 many (many / (r + 1) * mn2 (2 * r) (zs.length : Int))
    generalize many / (r + 1) = q at hoq
    have b1 : (zs.length : Int) * off ≤ q * (zs.length : Int) := by
      rw [Int.mul_comm q]
      exact Int.mul_le_mul_of_nonneg_left hoq (by omega)
    have b2 : 2 * r * off ≤ q * (2 * r) := by
      rw [Int.mul_comm q]
      exact Int.mul_le_mul_of_nonneg_left hoq (by omega)
    unfold mn2
    by_cases hz : (zs.length : Int) < 2 * r
    · rw [if_pos hz]
      split <;> split <;> omega
    · rw [if_neg hz]
      split <;> split <;> omega
  · show 2 * off ≤ 2 * (many / (r + 1))
    omega
end Kb

namespace PySem.SeqAt
open Builtin
section
variable {A : Around} {s : Shared}
theorem RcAt.str_dict {l : Addr} {es : Array DictEntry} {n : Nat} {dd : Option Addr} {sl : Array (Option Value)} (b : Str) (u : Tok) (ho : s.heap.get? l = some { cls := .type "dict", dict := dd, data := .dict es n, slots := sl }) (hu : A.units < cLine) : RcAt A s (.str b u) (.ref l) false := fun prog w E Q h =>
  rc_eq_decline_or (k := false) (typeIs_str s b u) ⟨_, ho, rfl⟩ (by decide) F.sub_dict_str F.slot_str_eq F.slot_dict_eq
    (fun _ hq => call_meets F.slot_str_eq (typeIs_str s b u) F.entry_str_eq (F.args_str_eq_2 _ _) (str_no_dict l es n dd sl b u) ⟨ho, hq⟩)
    (fun _ hq => call_meets F.slot_dict_eq ⟨_, ho, rfl⟩ F.entry_dict_eq (F.args_dict_eq_2 _ _) (dict_no_str l es n dd sl b u) ⟨ho, hq⟩)
    (fun _ hq => wpAny_of_eq (rfl : isSame (.str b u) (.ref l) = pure false) hq) (.inr hu) h
theorem EqAt.str_dict {l : Addr} {es : Array DictEntry} {n : Nat} {dd : Option Addr} {sl : Array (Option Value)} (b : Str) (u : Tok) (ho : s.heap.get? l = some { cls := .type "dict", dict := dd, data := .dict es n, slots := sl }) (hu : A.units < cLine) : EqAt A s (.str b u) (.ref l) false := fun prog w E Q h => by
  unfold eqBool
  refine wpAny_holding ?_
  refine wpAny_ite_split (fun hab => absurd (eq_of_beq hab) nofun) (fun _ => ?_)
  exact wpAny_bind (RcAt.str_dict b u ho hu prog w E _ (wpAny_truthy_bool h))
end
end PySem.SeqAt
namespace L2
open PySem PySem.Spec PyProof.Rows Builtin
variable {X : Cx} {pins : List (Addr × Obj)} {σ : St} {H : Hp} {s : Shared}
/-- a list, tuple or dict in a tuple of texts -/
theorem op_inO {K : PySem.W.Frag} (hK : X.K = K) (hu : X.A.units + 64 < cLine) : OpR X (compareOp .In) (fun x y H Q => ∃ (a p : Addr) (zs : List Str), x = .ref a ∧ y = .ref p ∧ ((∃ xs, SqL K H a xs) ∨ (∃ xs, SqT K H a xs) ∨ ∃ k, H a = some (.dK k)) ∧ SqT K H p (zs.map V.str) ∧ Q (.bl false) H) := by
  subst hK
  intro pins s σ H x y v u Q I rx ry h
  obtain ⟨a, p, zs, rfl, rfl, ha, hp, q⟩ := h
  cases (show v = Value.ref a from rx)
  cases (show u = Value.ref p from ry)
  obtain ⟨its, r, pl, hz⟩ := I.tuple hp
  have hu1 : X.A.in1.units < cLine := by
    have : X.A.in1.units ≤ X.A.units + 1 := by simp [Around.in1, Around.units]
    omega
  have all : ∀ {zs : List Str} {its : List Value}, Vals (zs.map V.str) its → ∀ y ∈ its, ∃ z t, y = Value.str z t := by
    intro zs
    induction zs with
    | nil =>
      intro its r y hy
      cases r
      cases hy
    | cons z zs ih =>
      intro its r y hy
      cases r with
      | cons h t =>
        obtain ⟨tk, rfl⟩ := h
        rcases List.mem_cons.mp hy with rfl | hy
        · exact ⟨z, tk, rfl⟩
        · exact ih t y hy
  refine SeqAt.in_tupleAt (fun _ => false) pl (fun y hy => ?_) ⟨.bl false, H, I, ?_, q⟩
  · obtain ⟨z, t, rfl⟩ := all r y (by simpa using hy)
    rcases ha with ⟨xs, h⟩ | ⟨xs, h⟩ | ⟨k, h⟩
    · obtain ⟨its, _, p, _⟩ := I.list h
      exact SeqAt.EqAt.str_list z t p.isList hu1
    · obtain ⟨its, _, p, _⟩ := I.tuple h
      exact SeqAt.EqAt.str_tuple z t p hu1
    · obtain ⟨es, n, dd, sl, ho⟩ := dict_at I h
      exact SeqAt.EqAt.str_dict z t ho hu1
  · show Value.bool _ = Value.bool false
    congr 1
    simp
/-- a tuple != () -/
theorem op_neT0 {K : PySem.W.Frag} (hK : X.K = K) (hu : X.A.units + 64 < cLine) : OpR X (compareOp .NotEq) (fun x y H Q => ∃ (a b : Addr) (xs : List V), x = .ref a ∧ y = .ref b ∧ SqT K H a xs ∧ SqT K H b [] ∧ Q (.bl (!decide (xs = []))) H) := by
  subst hK
  intro pins s σ H x y v u Q I rx ry h
  obtain ⟨a, b, xs, rfl, rfl, ha, hb, q⟩ := h
  cases (show v = Value.ref a from rx)
  cases (show u = Value.ref b from ry)
  obtain ⟨its, r, p, _⟩ := I.tuple ha
  obtain ⟨its2, r2, p2, _⟩ := I.tuple hb
  obtain rfl := vals_nil r2
  have := SeqAt.RcNeAt.tuples (A := X.A) (e := fun _ => false) p p2 (by omega) (fun j j1 j2 => absurd j2 (by simp))
  have e : (!((List.range (min its.toArray.size ([] : List Value).toArray.size)).all (fun _ => false) && its.toArray.size == ([] : List Value).toArray.size)) = !decide (xs = []) := by
    have hl := r.length
    cases xs with
    | nil =>
      cases its with
      | nil => simp
      | cons _ _ => simp at hl
    | cons _ _ =>
      cases its with
      | nil => simp at hl
      | cons _ _ => simp
  rw [e] at this
  exact this _ _ _ _ ⟨.bl _, H, I, rfl, q⟩
end L2

namespace Kb
open PySem PySem.Spec PyProof.Rows L2 SrtZ SrtO FlX LamX RZ
/-! what a heap keeps -/
theorem sqL_same {K : PySem.W.Frag} {H H' : Hp} {a : Addr} {xs : List V} (h : SqL K H a xs) (s : Same H H') : SqL K H' a xs := by
  rcases h with (h | ⟨o, h⟩) | h
  · exact .inl (.inl (s _ _ h))
  · exact .inl (.inr ⟨o, s _ _ h⟩)
  · exact .inr h
theorem sqT_ob {K : PySem.W.Frag} {H H' : Hp} {a : Addr} {xs : List V} (h : SqT K H a xs) (f : ∀ o, (∀ ys, o ≠ .lst ys) → H a = some o → H' a = some o) : SqT K H' a xs := by
  rcases h with (h | ⟨o, h⟩) | h
  · exact .inl (.inl (f _ (by intro _ z; cases z) h))
  · exact .inl (.inr ⟨o, f _ (by intro _ z; cases z) h⟩)
  · exact .inr h
theorem sqT_exw {K : PySem.W.Frag} {a c b : Addr} {H H' : Hp} {xs : List V} (h : SqT K H b xs) (x : Exw a H H') (w0 : Wl a c H) : SqT K H' b xs := sqT_ob h fun o n e => x.at w0 e fun ys => n ys
theorem sqT_putL {K : PySem.W.Frag} {H : Hp} {b D : Addr} {xs ys zs : List V} (h : SqT K H b xs) (hD : H D = some (.lst ys)) : SqT K (upd H D (.lst zs)) b xs := sqT_ob h fun o n e => by rw [upd_ne (ne_of e hD (by intro z; exact n _ z))]; exact e
theorem sqL_exw {K : PySem.W.Frag} {a c b : Addr} {H H' : Hp} {xs : List V} (h : SqL K H b xs) (x : Exw a H H') (w0 : Wl a c H) (w1 : Wl a c H') : ∃ xs, SqL K H' b xs := by
  rcases h with (h | ⟨o, h⟩) | h
  · by_cases ta : b = a
    · subst ta
      obtain ⟨_, ns, i, u, s, t', e1, _⟩ := w1
      exact ⟨_, .inl (.inl e1)⟩
    · exact ⟨xs, .inl (.inl (x _ _ ta h))⟩
  · exact ⟨xs, .inl (.inr ⟨o, x.at w0 h (by intro _ z; cases z)⟩)⟩
  · exact ⟨xs, .inr h⟩
theorem sqL_putL {K : PySem.W.Frag} {H : Hp} {b D : Addr} {xs ys zs : List V} (h : SqL K H b xs) (hD : H D = some (.lst ys)) : ∃ xs, SqL K (upd H D (.lst zs)) b xs := by
  rcases h with (h | ⟨o, h⟩) | h
  · by_cases ta : b = D
    · subst ta
      exact ⟨_, .inl (.inl upd_same)⟩
    · exact ⟨xs, .inl (.inl (by rw [upd_ne ta]; exact h))⟩
  · exact ⟨xs, .inl (.inr ⟨o, by rw [upd_ne (ne_of h hD (by intro z; cases z))]; exact h⟩)⟩
  · exact ⟨xs, .inr h⟩
structure Kp (K : PySem.W.Frag) (H H' : Hp) : Prop where
  t : ∀ a xs, SqT K H a xs → SqT K H' a xs
  l : ∀ a xs, SqL K H a xs → ∃ xs, SqL K H' a xs
  d : ∀ a k, H a = some (.dK k) → H' a = some (.dK k)
theorem Same.kp {K : PySem.W.Frag} {H H' : Hp} (s : Same H H') : Kp K H H' := ⟨fun _ _ h => seqT h s, fun _ xs h => ⟨xs, sqL_same h s⟩, fun _ _ h => s _ _ h⟩
theorem Exw.kp {K : PySem.W.Frag} {a c : Addr} {H H' : Hp} (x : Exw a H H') (w0 : Wl a c H) (w1 : Wl a c H') : Kp K H H' := ⟨fun _ _ h => sqT_exw h x w0, fun _ _ h => sqL_exw h x w0 w1, fun _ _ h => x.at w0 h (by intro _ z; cases z)⟩
/-- a list, a tuple, a dict -/
def RfO (K : PySem.W.Frag) (H : Hp) (v : V) : Prop := ∃ a, v = .ref a ∧ ((∃ xs, SqL K H a xs) ∨ (∃ xs, SqT K H a xs) ∨ ∃ k, H a = some (.dK k))
theorem RfO.kp {K : PySem.W.Frag} {H H' : Hp} {v : V} (h : RfO K H v) (k : Kp K H H') : RfO K H' v := by
  obtain ⟨a, e, ⟨xs, h⟩ | ⟨xs, h⟩ | ⟨d, h⟩⟩ := h
  · exact ⟨a, e, .inl (k.l _ _ h)⟩
  · exact ⟨a, e, .inr (.inl ⟨xs, k.t _ _ h⟩)⟩
  · exact ⟨a, e, .inr (.inr ⟨d, k.d _ _ h⟩)⟩
def Od0 (K : PySem.W.Frag) (H : Hp) (v : V) : Prop := v = .non ∨ (∃ i, v = .int i) ∨ RfO K H v
theorem Od0.kp {K : PySem.W.Frag} {H H' : Hp} {v : V} (h : Od0 K H v) (k : Kp K H H') : Od0 K H' v := by
  rcases h with h | h | h
  · exact .inl h
  · exact .inr (.inl h)
  · exact .inr (.inr (h.kp k))
/-- a list, a dict, a tuple of one of them -/
def Od1 (K : PySem.W.Frag) (H : Hp) (v : V) : Prop := ∃ a, v = .ref a ∧ ((∃ xs, SqL K H a xs) ∨ (∃ x0, SqT K H a [x0] ∧ RfO K H x0) ∨ ∃ k, H a = some (.dK k))
theorem Od1.kp {K : PySem.W.Frag} {H H' : Hp} {v : V} (h : Od1 K H v) (k : Kp K H H') : Od1 K H' v := by
  obtain ⟨a, e, ⟨xs, h⟩ | ⟨x0, h, h2⟩ | ⟨d, h⟩⟩ := h
  · exact ⟨a, e, .inl (k.l _ _ h)⟩
  · exact ⟨a, e, .inr (.inl ⟨x0, k.t _ _ h, h2.kp k⟩)⟩
  · exact ⟨a, e, .inr (.inr ⟨d, k.d _ _ h⟩)⟩
theorem Od1.rf {K : PySem.W.Frag} {H : Hp} {v : V} (h : Od1 K H v) : RfO K H v := by
  obtain ⟨a, e, ⟨xs, h⟩ | ⟨x0, h, h2⟩ | ⟨d, h⟩⟩ := h
  · exact ⟨a, e, .inl ⟨xs, h⟩⟩
  · exact ⟨a, e, .inr (.inl ⟨_, h⟩)⟩
  · exact ⟨a, e, .inr (.inr ⟨d, h⟩)⟩
theorem RfO.nv {K : PySem.W.Frag} {H : Hp} {v : V} (h : RfO K H v) : NvAt K H v none := .inr (.inr (.inr h))
theorem NvAt.kp {K : PySem.W.Frag} {H H' : Hp} {v : V} {n : Option Int} (h : NvAt K H v n) (k : Kp K H H') : NvAt K H' v n := by
  cases n with
  | some i => exact h
  | none =>
    rcases h with h | h | h | h
    · exact .inl h
    · exact .inr (.inl h)
    · exact .inr (.inr (.inl h))
    · exact .inr (.inr (.inr (RfO.kp h k)))
section
variable {P : Program} {w : World} {K : PySem.W.Frag} {mg : Str → Option Value} {base : Heap}
/-! _law_draw, of great numbers too -/
def spDrawW : Sp := fun vs H Q _ => ∃ (a c : Addr) (n : Int), vs = [.ref a, .int n] ∧ Wl a c H ∧ 0 < n ∧ n < 4611686018427387904 ∧ ∀ H' (r : Int), Exw a H H' → Wl a c H' → 0 ≤ r → r < n → Q (.int r) H'
theorem ok_drawW (T : Blt mg) (d : Dndraw K mg) : FnOk P w K mg base CX0 1 d.f d.fd ["_law_hand_here", "_law_many"] spDrawW := by
  refine d.F.ok scdraw (fun vs H Q E h => ?_) (fun cdv A outer s H vs Q E hr h => ?_)
  · obtain ⟨a, c, n, rfl, _⟩ := h
    rfl
  · obtain ⟨a, c, n, rfl, hw, hn0, hn1, q⟩ := h
    have logn : n.natAbs.log2 < 9000 := by
      by_cases h : n.natAbs = 0
      · rw [h]; decide
      · have := (Nat.log2_lt (n := n.natAbs) (k := 62) h).mpr (by omega)
        omega
    refine ⟨_, (C8.pss_cut (ps_if (PW.pt (pw_and (pt_cmpR op_eq (pe_ix ix_list (pv 0) pe_int (fun _ _ => rfl)) pe_int (nomark _)) (pw_and1 (pt_cmpR op_lt (pe_ix ix_list (pv 0) pe_int (fun _ _ => rfl)) (pe_callB call_len_seq (by rfl) T.n_len (by decide +kernel) (pa_cons (pe_ix ix_list (pv 0) pe_int (fun _ _ => rfl)) pa_nil)) (nomark _)))))
      (pss_cons (ps_set (i := 2) scdraw.nd rfl (Or.inl rfl) (pe_ix ix_list (pe_ix ix_list (pv 0) pe_int (fun _ _ => rfl)) (pe_ix ix_list (pv 0) pe_int (fun _ _ => rfl)) (fun _ _ => rfl)))
      (pss_cons (ps_asg (pe_op op_add (pe_ix ix_list (pv 0) pe_int (fun _ _ => rfl)) pe_int) (pg_sub (pv 0) pe_int set_list))
      (pss_cons (ps_asg (pe_op op_mod (pe_callTy call_int1 (by rfl) T.n_int (by decide +kernel) (pa_cons (pe_op op_add (pe_op op_add (pe_op op_mul (pe_ix ix_list (pv 0) pe_int (fun _ _ => rfl)) pe_int) (pv 2)) pe_int) pa_nil)) pe_int) (pg_sub (pv 0) pe_int set_list))
      (pss_one (ps_if (pt_cmpR op_ge (pv 2) (pe_op op_pow pe_int pe_int) (nomark _))
        (pss_one (ps_asg (pv 2) (pg_sub (pv 0) pe_int set_list)))
        pss_nil)))))
      pss_nil)
    (pss_cons (ps_if (pt_cmpR op_gt (pe_ix ix_list (pv 0) pe_int (fun _ _ => rfl)) pe_int (nomark _))
      (pss_cons (ps_set (i := 3) scdraw.nd rfl (Or.inl rfl) (pe_op op_modB (pe_callTy call_int1 (by rfl) T.n_int (by decide +kernel) (pa_cons (pe_ix ix_list (pv 0) pe_int (fun _ _ => rfl)) pa_nil)) (pv 1)))
      (pss_cons (ps_asg (pe_op op_fdivW (pe_ix ix_list (pv 0) pe_int (fun _ _ => rfl)) (pv 1)) (pg_sub (pv 0) pe_int set_list))
      (pss_one (ps_ret (pv 3)))))
      pss_nil)
    (pss_cons (ps_asg (pe_op op_add (pe_ix ix_list (pv 0) pe_int (fun _ _ => rfl)) pe_int) (pg_sub (pv 0) pe_int set_list))
    (pss_cons (ps_set (i := 4) scdraw.nd rfl (Or.inl rfl) (pe_op op_modB (pe_callTy call_int1 (by rfl) T.n_int (by decide +kernel) (pa_cons (pe_op op_mul (pe_callTy call_int1 (by rfl) T.n_int (by decide +kernel) (pa_cons (pe_op op_add (pe_ix ix_list (pv 0) pe_int (fun _ _ => rfl)) (pe_op op_mul pe_int (pe_ix ix_list (pv 0) pe_int (fun _ _ => rfl)))) pa_nil)) pe_int) pa_nil)) pe_int))
    (pss_cons (ps_set (i := 4) scdraw.nd rfl (Or.inl rfl) (pe_op op_modB (pe_callTy call_int1 (by rfl) T.n_int (by decide +kernel) (pa_cons (pe_op op_mul (pv 4) (pe_op op_add (pe_op op_fdiv (pv 4) pe_int) pe_int)) pa_nil)) pe_int))
    (pss_cons (ps_set (i := 4) scdraw.nd rfl (Or.inl rfl) (pe_op op_modB (pe_callTy call_int1 (by rfl) T.n_int (by decide +kernel) (pa_cons (pe_op op_mul (pv 4) (pe_op op_add (pe_op op_fdiv (pv 4) pe_int) pe_int)) pa_nil)) pe_int))
    (pss_one (ps_ret (pe_op op_modB (pe_callTy call_int1 (by rfl) T.n_int (by decide +kernel) (pa_cons (pe_op op_fdiv (pv 4) pe_int) pa_nil)) (pv 1)))))))))), ?_⟩
    refine ⟨fun σ H3 => ∃ y2, σ = [some (.ref a), some (.int n), y2, none, none] ∧ Exw a H H3 ∧ Wl a c H3, ?_, ?_⟩
    · obtain ⟨nac, ns, i, u, s, t, ea, ec, nn, u0⟩ := id hw
      refine rd_ix 2 rfl (sql ea) rfl ⟨rfl, _, rfl, ite2 (fun hu => ?_) fun _ => ⟨_, rfl, Exw.refl a H, hw⟩⟩
      refine rd_ix 1 rfl (sql ea) rfl (rd_ix 0 rfl (sql ea) rfl ⟨c, _, rfl, .inl (sql ec), _, _, rfl, rfl, _, rfl, ite2 (fun hi => ?_) fun _ => ⟨_, rfl, Exw.refl a H, hw⟩⟩)
      have hi : (i : Int) < ((ns.map V.int).length : Int) := of_decide_eq_true hi
      rw [List.length_map] at hi
      have hi : i < ns.length := by omega
      refine rd_ix 0 rfl (sql ea) rfl (rd_ix 1 rfl (sql ea) rfl ⟨c, _, _, .int ns[i], rfl, rfl, sql ec, atI_nat (j := i) (by simp [hi]), ?_⟩)
      have hcell : 0 ≤ ns[i] := nn _ (List.getElem_mem hi)
      refine rd_ix 1 rfl (sql ea) rfl ⟨_, _, rfl, rfl, rd_set 1 rfl ea (by decide : 1 < 5) ?_⟩
      have ea1 : (upd H a (.lst [.ref c, .int ((i : Int) + 1), .int u, .int s, .int t])) a = some (.lst [.ref c, .int ((i + 1 : Nat) : Int), .int u, .int s, .int t]) := upd_same
      have ec1 : (upd H a (.lst [.ref c, .int ((i : Int) + 1), .int u, .int s, .int t])) c = some (.lst (ns.map V.int)) := by rw [upd_ne nac.symm]; exact ec
      have x1 : Exw a H (upd H a (.lst [.ref c, .int ((i : Int) + 1), .int u, .int s, .int t])) := (Exw.refl a H).up
      show tSeq _ _ _ _ (upd H a (.lst [.ref c, .int ((i : Int) + 1), .int u, .int s, .int t]))
      generalize upd H a (.lst [.ref c, .int ((i : Int) + 1), .int u, .int s, .int t]) = H1 at ea1 ec1 x1 ⊢
      refine rd_ix 3 rfl (sql ea1) rfl ⟨_, _, rfl, rfl, cmulR (by decide) (by decide), .int ns[i], rfl, _, _, rfl, rfl, _, _, rfl, rfl, .inl ⟨_, rfl, _, _, rfl, rfl, (by show (0 : Int) < 2147483629; decide), rd_set 3 rfl ea1 (by decide : 3 < 5) ?_⟩⟩
      dsimp only
      generalize (s * 69621 + ns[i] + 11) % 2147483629 = s2
      have ea2 : (upd H1 a (.lst ([V.ref c, .int ((i + 1 : Nat) : Int), .int u, .int s, .int t].set 3 (.int s2)))) a = some (.lst [.ref c, .int ((i + 1 : Nat) : Int), .int u, .int s2, .int t]) := upd_same
      have ec2 : (upd H1 a (.lst ([V.ref c, .int ((i + 1 : Nat) : Int), .int u, .int s, .int t].set 3 (.int s2)))) c = some (.lst (ns.map V.int)) := by rw [upd_ne nac.symm]; exact ec1
      have x2 : Exw a H (upd H1 a (.lst ([V.ref c, .int ((i + 1 : Nat) : Int), .int u, .int s, .int t].set 3 (.int s2)))) := x1.up
      generalize upd H1 a (.lst ([V.ref c, .int ((i + 1 : Nat) : Int), .int u, .int s, .int t].set 3 (.int s2))) = H2 at ea2 ec2 x2 ⊢
      refine ⟨.int ns[i], rfl, _, _, rfl, rfl, ⟨by decide, by decide, by decide⟩, _, _, rfl, rfl, _, rfl, ite2 (fun _ => ?_) fun _ => ⟨_, rfl, x2, nac, ns, i + 1, u, s2, t, ea2, ec2, nn, u0⟩⟩
      refine ⟨.int ns[i], rfl, rd_set 2 rfl ea2 (by decide : 2 < 5) ⟨_, rfl, x2.up, nac, ns, i + 1, ns[i], s2, t, upd_same, by rw [upd_ne nac.symm]; exact ec2, nn, hcell⟩⟩
    · rintro σ H3 ⟨y2, rfl, x3, nac, ns, i, u, s, t, ea, ec, nn, u0⟩
      refine rd_ix 2 rfl (sql ea) rfl ⟨_, _, rfl, rfl, _, rfl, ite2 (fun _ => ?_) fun _ => ?_⟩
      · refine rd_ix 2 rfl (sql ea) rfl (.inl ⟨_, rfl, .int n, rfl, _, _, rfl, rfl, hn0, fun r r0 r1 _ => ?_⟩)
        refine rd_ix 2 rfl (sql ea) rfl ⟨.int n, rfl, _, _, rfl, rfl, ⟨hn0, logn⟩, rd_set 2 rfl ea (by decide : 2 < 5) ⟨.int r, rfl, ?_⟩⟩
        exact q _ r x3.up ⟨nac, ns, i, u / n, s, t, upd_same, by rw [upd_ne nac.symm]; exact ec, nn, Int.ediv_nonneg u0 (by omega)⟩ r0 r1
      · refine rd_ix 4 rfl (sql ea) rfl ⟨_, _, rfl, rfl, rd_set 4 rfl ea (by decide : 4 < 5) ?_⟩
        have ea1 : (upd H3 a (.lst [.ref c, .int (i : Int), .int u, .int s, .int (t + 1)])) a = some (.lst [.ref c, .int (i : Int), .int u, .int s, .int (t + 1)]) := upd_same
        have w1 : Wl a c (upd H3 a (.lst [.ref c, .int (i : Int), .int u, .int s, .int (t + 1)])) := ⟨nac, ns, i, u, s, t + 1, upd_same, by rw [upd_ne nac.symm]; exact ec, nn, u0⟩
        have x4 : Exw a H (upd H3 a (.lst [.ref c, .int (i : Int), .int u, .int s, .int (t + 1)])) := x3.up
        show tSeq _ _ _ _ (upd H3 a (.lst [.ref c, .int (i : Int), .int u, .int s, .int (t + 1)]))
        generalize upd H3 a (.lst [.ref c, .int (i : Int), .int u, .int s, .int (t + 1)]) = H4 at ea1 w1 x4 ⊢
        refine rd_ix 3 rfl (sql ea1) rfl (rd_ix 4 rfl (sql ea1) rfl ⟨_, _, rfl, rfl, cmulL (by decide) (by decide), _, _, rfl, rfl, .inl ⟨_, rfl, _, _, rfl, rfl, cmulR (by decide) (by decide), .inl ⟨_, rfl, _, _, rfl, rfl, (by show (0 : Int) < 2147483647; decide), fun x1 a0 a1 _ => ?_⟩⟩⟩)
        refine ⟨.int x1, rfl, .int x1, rfl, _, _, rfl, rfl, ⟨by decide, by decide⟩, _, _, rfl, rfl, _, _, rfl, rfl, cmulL a0 (by omega), .inl ⟨_, rfl, _, _, rfl, rfl, (by show (0 : Int) < 2147483647; decide), fun x2 b0 b1 _ => ?_⟩⟩
        refine ⟨.int x2, rfl, .int x2, rfl, _, _, rfl, rfl, ⟨by decide, by decide⟩, _, _, rfl, rfl, _, _, rfl, rfl, cmulL b0 (by omega), .inl ⟨_, rfl, _, _, rfl, rfl, (by show (0 : Int) < 2147483399; decide), fun x3 c0 c1 _ => ?_⟩⟩
        refine ⟨.int x3, rfl, _, _, rfl, rfl, ⟨by decide, by decide⟩, .inl ⟨_, rfl, .int n, rfl, _, _, rfl, rfl, hn0, fun r r0 r1 _ => ?_⟩⟩
        exact q H4 r x4 w1 r0 r1
/-! _law_deep -/
def spDeepQ (K : PySem.W.Frag) : Sp := fun vs H Q _ => ∃ (a c : Addr), vs = [.ref a] ∧ Wl a c H ∧ ∀ H' v, Exw a H H' → Wl a c H' → Od1 K H' v → Q v H'
theorem ok_deepQ (T : Blt mg) (ddraw : Dndraw K mg) (d : Dndeep K mg) : FnOk P w K mg base CX0 2 d.f d.fd ["_law_hand_here"] (spDeepQ K) := by
  have Gdraw : FnOk P w K mg base CX0 1 ddraw.f ddraw.fd ["_law_hand_here", "_law_many"] spDraw := ok_draw T ddraw
  refine d.F.ok scdeep (fun vs H Q E h => ?_) (fun cdv A outer s H vs Q E hr h => ?_)
  · obtain ⟨a, c, rfl, _⟩ := h
    rfl
  · obtain ⟨a, c, rfl, w0, q⟩ := h
    refine ⟨_, (pss_cons (ps_set (i := 1) scdeep.nd rfl (Or.inl rfl) (pe_ix ix_list (pe_lst (pa_cons pe_non (pa_cons (pe_tupF pa_nil) (pa_cons pe_int pa_nil)))) (pe_call Gdraw (hr.mono (by omega)) (by rfl) ddraw.g ddraw.F.kp ddraw.b .nil pass0 (pa_cons (pv 0) (pa_cons pe_int pa_nil))) (fun _ _ => rfl)))
    (pss_cons (ps_for PassesOwn.never rfl (pi_range1 (by rfl) T.n_range (pa_cons (pe_op op_add pe_int (pe_call Gdraw (hr.mono (by omega)) (by rfl) ddraw.g ddraw.F.kp ddraw.b .nil pass0 (pa_cons (pv 0) (pa_cons pe_int pa_nil)))) pa_nil)) (pg_name (i := 2) scdeep.nd rfl (Or.inl rfl))
      (pss_one (ps_set (i := 1) scdeep.nd rfl (Or.inl rfl) (pe_ix ix_list (pe_lst (pa_cons (pe_lst (pa_cons (pv 1) pa_nil)) (pa_cons (pe_tupF (pa_cons (pv 1) pa_nil)) (pa_cons (pe_disp (pps_cons pe_int (pv 1) pps_nil) rfl rfl (by simp) (by decide)) pa_nil)))) (pe_call Gdraw (hr.mono (by omega)) (by rfl) ddraw.g ddraw.F.kp ddraw.b .nil pass0 (pa_cons (pv 0) (pa_cons pe_int pa_nil))) (fun _ _ => rfl)))))
    (pss_one (ps_ret (pv 1))))), ?_⟩
    refine ⟨(by show 0 ≤ sizeLine; decide), fun t ob nt ho => ⟨(by show 3 ≤ sizeLine; decide), fun l nl => ?_⟩⟩
    have s1 := Same.new (o := .lst [.non, .ref t, .int 0]) (same_upd nt (o := .frz ob (.tup []))) nl
    have hl1 : (upd (upd H t (.frz ob (.tup []))) l (.lst [.non, .ref t, .int 0])) l = some (.lst [.non, .ref t, .int 0]) := upd_same
    have ht1 : SqT K (upd (upd H t (.frz ob (.tup []))) l (.lst [.non, .ref t, .int 0])) t [] := .inl (.inr ⟨ob, by rw [upd_ne (ne_of_none upd_same nl)]; exact upd_same⟩)
    have la : l ≠ a := ((w0.same (same_upd nt)).ne2 nl).1
    generalize upd (upd H t (.frz ob (.tup []))) l (.lst [.non, .ref t, .int 0]) = H1 at s1 hl1 ht1 ⊢
    have w1 := w0.same s1
    refine ⟨.ref a, rfl, a, c, 3, rfl, w1, (by decide), (by decide), fun H2 r x2 w2 r0 r1 => ?_⟩
    obtain ⟨r, rfl⟩ := Int.eq_ofNat_of_zero_le r0
    have hl2 := x2 _ _ la hl1
    have x02 := (Same.exw s1).trans x2
    have ht2 : SqT K H2 t [] := sqT_exw ht1 x2 w1
    obtain ⟨v0, hv0, e0⟩ : ∃ v, ([.non, .ref t, .int 0] : List V)[r]? = some v ∧ Od0 K H2 v := by
      have : r < 3 := by omega
      match r, this with
      | 0, _ => exact ⟨_, rfl, .inl rfl⟩
      | 1, _ => exact ⟨_, rfl, .inr (.inr ⟨t, rfl, .inr (.inl ⟨[], ht2⟩)⟩)⟩
      | 2, _ => exact ⟨_, rfl, .inr (.inl ⟨0, rfl⟩)⟩
    refine ⟨l, _, _, v0, rfl, rfl, sql hl2, atI_nat hv0, ?_⟩
    refine ⟨.ref a, rfl, a, c, 8, rfl, w2, (by decide), (by decide), fun H3 m x3 w3 m0 m1 => ⟨_, _, rfl, rfl, (14 + m : Int), rfl, by omega, by omega, ?_⟩⟩
    obtain ⟨m, rfl⟩ := Int.eq_ofNat_of_zero_le m0
    rw [show (14 + (m : Int)).toNat = 14 + m by omega]
    refine for_range (lo := 0) (n := 14 + m) (fun i σ H4 => ∃ (v : V) (y2 : Option V), σ = [some (.ref a), some v, y2] ∧ Exw a H H4 ∧ Wl a c H4 ∧ Od0 K H4 v ∧ (1 ≤ i → RfO K H4 v) ∧ (2 ≤ i → Od1 K H4 v))
      ⟨v0, none, rfl, x02.trans x3, w3, e0.kp (Exw.kp x3 w2 w3), (fun h => absurd h (by decide)), fun h => absurd h (by decide)⟩ ?_ ?_
    · rintro i σ H4 hi ⟨v, y2, rfl, x4, w4, e4, f4, _⟩
      refine ⟨v, rfl, (by show 1 ≤ sizeLine; decide), fun l1 nl1 => ⟨v, rfl, (by show 1 ≤ sizeLine; decide), fun t1 ob1 nt1 ho1 => fun d1 nd1 => ⟨v, rfl, upd_same, [(Sum.inl 0, v)], rfl, (by show 1 ≤ 15; decide), (by show 3 ≤ sizeLine; decide), fun l2 nl2 => ?_⟩⟩⟩
      have s5 : Same H4 (upd (upd H4 l1 (.lst [v])) t1 (.frz ob1 (.tup [v]))) := Same.new (same_upd nl1) nt1
      have hl5 : (upd (upd H4 l1 (.lst [v])) t1 (.frz ob1 (.tup [v]))) l1 = some (.lst [v]) := by rw [upd_ne (ne_of_none upd_same nt1)]; exact upd_same
      have ht5 : SqT K (upd (upd H4 l1 (.lst [v])) t1 (.frz ob1 (.tup [v]))) t1 [v] := .inl (.inr ⟨ob1, upd_same⟩)
      generalize upd (upd H4 l1 (.lst [v])) t1 (.frz ob1 (.tup [v])) = H5 at s5 hl5 ht5 nd1 nl2 ⊢
      rw [upd_upd] at nl2 ⊢
      have s6 := same_upd (o := .dK (mergeK [] [((Sum.inl 0 : Key), v)])) nd1
      have hd6 : (upd H5 d1 (.dK (mergeK [] [((Sum.inl 0 : Key), v)]))) d1 = some (.dK (mergeK [] [((Sum.inl 0 : Key), v)])) := upd_same
      generalize upd H5 d1 (.dK (mergeK [] [((Sum.inl 0 : Key), v)])) = H6 at s6 hd6 nl2 ⊢
      have s7 := same_upd (o := .lst [.ref l1, .ref t1, .ref d1]) nl2
      have hl7 : (upd H6 l2 (.lst [.ref l1, .ref t1, .ref d1])) l2 = some (.lst [.ref l1, .ref t1, .ref d1]) := upd_same
      have s47 := (s5.trans s6).trans s7
      have l2a : l2 ≠ a := ((w4.same (s5.trans s6)).ne2 nl2).1
      generalize upd H6 l2 (.lst [.ref l1, .ref t1, .ref d1]) = H7 at s7 hl7 s47 ⊢
      have w7 := w4.same s47
      refine ⟨.ref a, rfl, a, c, 3, rfl, w7, (by decide), (by decide), fun H8 r8 x8 w8 r80 r81 => ?_⟩
      obtain ⟨r8, rfl⟩ := Int.eq_ofNat_of_zero_le r80
      have hl8 := x8 _ _ l2a hl7
      have k47 : Kp K H4 H7 := Same.kp s47
      have e7 := e4.kp k47
      have f7 : 1 ≤ i → RfO K H7 v := fun h => (f4 h).kp k47
      have hL : SqL K H7 l1 [v] := .inl (.inl (s7 _ _ (s6 _ _ hl5)))
      have hT := (seqT (seqT ht5 s6) s7)
      have hD := s7 _ _ hd6
      obtain ⟨v8, hv8, e8, t8⟩ : ∃ u, ([.ref l1, .ref t1, .ref d1] : List V)[r8]? = some u ∧ RfO K H7 u ∧ (1 ≤ i → Od1 K H7 u) := by
        have : r8 < 3 := by omega
        match r8, this with
        | 0, _ => exact ⟨_, rfl, ⟨l1, rfl, .inl ⟨_, hL⟩⟩, fun _ => ⟨l1, rfl, .inl ⟨_, hL⟩⟩⟩
        | 1, _ => exact ⟨_, rfl, ⟨t1, rfl, .inr (.inl ⟨[v], hT⟩)⟩, fun h => ⟨t1, rfl, .inr (.inl ⟨v, hT, f7 h⟩)⟩⟩
        | 2, _ => exact ⟨_, rfl, ⟨d1, rfl, .inr (.inr ⟨_, hD⟩)⟩, fun _ => ⟨d1, rfl, .inr (.inr ⟨_, hD⟩)⟩⟩
      have k78 : Kp K H7 H8 := Exw.kp x8 w7 w8
      exact ⟨l2, _, _, v8, rfl, rfl, sql hl8, atI_nat hv8, v8, _, rfl, (x4.same s47).trans x8, w8, .inr (.inr (e8.kp k78)), (fun _ => e8.kp k78), fun h => (t8 (by omega)).kp k78⟩
    · rintro σ H4 ⟨v, y2, rfl, x4, w4, e4, f4, t4⟩
      exact ⟨v, rfl, q H4 v x4 w4 (t4 (by omega))⟩
/-! is_question, of what is none -/
def spIsQuestion0 (K : PySem.W.Frag) : Sp := fun vs H Q _ => ∃ v, vs = [v] ∧ (v = .non ∨ Od1 K H v) ∧ Q (.bl false) H
theorem ok_is_question0 (T : Blt mg) (d : DnIsQuestion K mg) : FnOk P w K mg base CX0 3 d.f d.fd ["thing"] (spIsQuestion0 K) := by
  refine d.F.ok scP_is_question (fun vs H Q E h => ?_) (fun cdv A outer s H vs Q E hr h => ?_)
  · obtain ⟨v, rfl, _⟩ := h
    rfl
  · obtain ⟨v, rfl, hv, q⟩ := h
    refine ⟨_, (pss_cons (ps_if (PW.pt (pw_or (pt_not (pt_val (pe_callB call_isi (by rfl) T.n_isinstance (by decide +kernel) (pa_cons (pv 0) (pa_cons (pe_bltn (v := .ty "tuple") (by rfl) T.n_tuple (by decide +kernel) rfl) pa_nil))))) (pw_or (pt_not (pt_truth (pv 0) (by intro _; rfl))) (pw_or1 (pt_not (pt_val (pe_callB call_isi (by rfl) T.n_isinstance (by decide +kernel) (pa_cons (pe_ix ix_tup (pv 0) pe_int (fun _ _ => rfl)) (pa_cons (pe_bltn (v := .ty "str") (by rfl) T.n_str (by decide +kernel) rfl) pa_nil)))))))))
      (pss_one (ps_ret pe_bl))
      pss_nil)
    pss_never), ?_⟩
    rcases hv with rfl | ⟨a, rfl, ⟨xs, h⟩ | ⟨x0, h, h2⟩ | ⟨k, h⟩⟩
    · exact ⟨.non, rfl, .non, _, _, _, false, rfl, .ty "tuple", .base .non, kit_ty (by decide +kernel), false, rfl, iteT (iteT q)⟩
    · exact ⟨.ref a, rfl, .ref a, _, _, _, false, rfl, .ty "tuple", tyL h, kit_ty (by decide +kernel), false, rfl, iteT (iteT q)⟩
    · refine ⟨.ref a, rfl, .ref a, _, _, _, true, rfl, .ty "tuple", tyT h, kit_ty (by decide +kernel), true, rfl, iteF ?_⟩
      refine ⟨.ref a, rfl, true, .inr (.inl ⟨_, h, rfl⟩), iteF ?_⟩
      obtain ⟨t, ty, kt⟩ : ∃ t, TyX K H x0 t ∧ PySem.W.kitOne K t (.type "str") = some false := by
        obtain ⟨b, rfl, ⟨xs, h⟩ | ⟨xs, h⟩ | ⟨k, h⟩⟩ := h2
        · exact ⟨_, tyL h, kit_ty (by decide +kernel)⟩
        · exact ⟨_, tyT h, kit_ty (by decide +kernel)⟩
        · exact ⟨_, .base (.dK h), kit_ty (by decide +kernel)⟩
      exact ⟨.ref a, rfl, a, _, _, _, rfl, rfl, h, atI_nat (j := 0) rfl, x0, _, _, _, false, rfl, .ty "str", ty, kt, false, rfl, iteT q⟩
    · exact ⟨.ref a, rfl, .ref a, _, _, _, false, rfl, .ty "tuple", .base (.dK h), kit_ty (by decide +kernel), false, rfl, iteT (iteT q)⟩
theorem fn_or {CX : CXT} {k : Nat} {f : Addr} {fd : FuncData} {ps : List Str} {s1 s2 : Sp} (F1 : FnOk P w K mg base CX k f fd ps s1) (F2 : FnOk P w K mg base CX k f fd ps s2) : FnOk P w K mg base CX k f fd ps (fun vs H Q E => s1 vs H Q E ∨ s2 vs H Q E) :=
  ⟨fun vs H Q E h => h.elim (F1.len vs H Q E) (F2.len vs H Q E), fun A outer s H args us vs Q E hr e0 hb r h => h.elim (F1.run A outer s H args us vs Q E hr e0 hb r) (F2.run A outer s H args us vs Q E hr e0 hb r)⟩
abbrev sP_widest : Stmt := topS 47
theorem scP_widest : FnScope ["room", "many", "question", "off"] ["room", "many", "question"] (defScope sP_widest) := ⟨rfl, rfl, rfl, by decide +kernel, rfl, by decide +kernel, by decide +kernel⟩
abbrev DnWidest (K : PySem.W.Frag) (mg : Str → Option Value) := Dn K mg "widest" sP_widest ["room", "many", "question"]
/-- a thing that may be a question -/
def QvAt (K : PySem.W.Frag) (H : Hp) (v : V) : Option Qn → Prop
  | some x => ∃ q, v = .ref q ∧ QnAt K H q x ∧ QnOk x
  | none => v = .non ∨ Od1 K H v
def NmQ : Option Qn → Prop
  | some x => NamedQ x
  | none => False
theorem nv_int {K : PySem.W.Frag} {H : Hp} {v : V} {n : Option Int} {i : Int} (h : NvAt K H v n) (e : n = some i) : v = .int i := by
  subst e
  exact h
def spWidest (K : PySem.W.Frag) (CR CN CQ : Addr) : Sp := fun vs H Q E => ∃ (vr vm vq : V) (nr nm : Option Int) (qo : Option Qn), vs = [vr, vm, vq] ∧ NvAt K H vr nr ∧ NvAt K H vm nm ∧ QvAt K H vq qo ∧ (isRB nr = false → E (.ref CR) none H) ∧ (isRB nr = true → isMB nm = false → E (.ref CN) none H) ∧ (isRB nr = true → isMB nm = true → ¬ NmQ qo → ∀ H', Same H H' → E (.ref CQ) none H') ∧
  ∀ r m x, nr = some r → nm = some m → isRB nr = true → isMB nm = true → qo = some x → NamedQ x → ∀ H', Same H H' → Q (.int (dueZ r m x)) H'
theorem ok_widest (T : Blt mg) (R : TxE K mg "NoRoom") (N : TxE K mg "NoNumber") (J : TxE K mg "NoQuestion") (cM : Cst mg "MOST_ROOM" (.int 64)) (cY : Cst mg "MOST_MANY" (.int 1000000000000)) (cL : Cst mg "LONGEST_NAME" (.int 8)) (cA : Cst mg "MOST_ASKED" (.int 40)) (n_zip : mg "zip" = none) (dP_is_int : DnIsInt K mg) (dP_is_number : DnIsNumber K mg) (dP_is_room : DnIsRoom K mg) (dP_is_name : DnIsName K mg) (dP_is_lot : DnIsLot K mg) (dP_is_question : DnIsQuestion K mg) (dP_is_many : DnIsMany K mg) (dP_most_off : DnMostOff K mg) (d : DnWidest K mg) :
    FnOk P w K mg base (L2.CX P w) 5 d.f d.fd ["room", "many", "question"] (spWidest K R.C N.C J.C) := by
  have GP_most_off : FnOk P w K mg base (L2.CX P w) 4 dP_most_off.f dP_most_off.fd ["room", "many"] (spMostOff K R.C N.C) := ok_most_off T R N cM cY dP_is_int dP_is_number dP_is_room dP_is_many dP_most_off
  have GP_is_question : FnOk P w K mg base CX0 3 dP_is_question.f dP_is_question.fd ["thing"] (fun vs H Q E => spIsQuestion K vs H Q E ∨ spIsQuestion0 K vs H Q E) := fn_or (ok_is_question T cL cA n_zip dP_is_int dP_is_name dP_is_lot dP_is_question) (ok_is_question0 T dP_is_question)
  refine d.F.okX scP_widest (fun vs H Q E h => ?_) (fun cdv A outer s H vs Q E hr h => ?_)
  · obtain ⟨vr, vm, vq, nr, nm, qo, rfl, _⟩ := h
    rfl
  · obtain ⟨vr, vm, vq, nr, nm, qo, rfl, hnr, hnm, hq, e1, e2, e3, q⟩ := h
    refine ⟨_, (pss_cons (ps_set (i := 3) scP_widest.nd rfl (Or.inl rfl) (pe_call GP_most_off (hr.mono (by omega)) (by rfl) dP_most_off.g dP_most_off.F.kp dP_most_off.b .nil (passes_call (takes_of rfl rfl rfl rfl) (fun _ _ _ _ h => h)) (pa_cons (pv 0) (pa_cons (pv 1) pa_nil))))
    (pss_cons (ps_if (PW.pt (pw_or (pt_not (pt_val (pe_call GP_is_question (hr.mono (by omega)) (by rfl) dP_is_question.g dP_is_question.F.kp dP_is_question.b .nil pass0 (pa_cons (pv 2) pa_nil)))) (pw_or1 (pt_cmpR op_notIn_seq (pe_ix ix_tup (pv 2) pe_int (fun _ _ => rfl)) (pe_tup (pa_cons pe_str (pa_cons pe_str (pa_cons pe_str pa_nil)))) rfl))))
      (pss_one (ps_raise rfl (takes_of rfl rfl rfl rfl) (pmk_bare PySem.F.excBase_ValueError J.exc J.gC J.kp (raises_own J.sub J.ty) rfl)))
      pss_nil)
    (pss_cons (ps_if (pt_cmpR op_eq (pe_ix ix_tup (pv 2) pe_int (fun _ _ => rfl)) pe_str (nomark _))
      (pss_one (ps_ret (pv 3)))
      pss_nil)
    (pss_cons (ps_if (pt_cmpR op_eq (pe_ix ix_tup (pv 2) pe_int (fun _ _ => rfl)) pe_str (nomark _))
      (pss_one (ps_ret (pe_op op_mul pe_int (pv 3))))
      pss_nil)
    (pss_one (ps_ret (pe_callB (call_min2 rfl) (by rfl) T.n_min (by decide +kernel) (pa_cons (pv 1) (pa_cons (pe_op op_mul (pv 3) (pe_callB (call_min2 rfl) (by rfl) T.n_min (by decide +kernel) (pa_cons (pe_op op_mul pe_int (pv 0)) (pa_cons (pe_callB call_len_seq (by rfl) T.n_len (by decide +kernel) (pa_cons (pe_ix ix_tup (pv 2) pe_int (fun _ _ => rfl)) pa_nil)) pa_nil)))) pa_nil))))))))), ?_⟩
    refine ⟨vr, rfl, vm, rfl, vr, vm, nr, nm, rfl, hnr, hnm, e1, e2, fun r m er em h1 h2 => ?_⟩
    obtain rfl := nv_int hnr er
    obtain rfl := nv_int hnm em
    have h1' : (decide (1 ≤ r) && decide (r ≤ 64)) = true := by rw [er] at h1; exact h1
    have h2' : (decide (0 ≤ m) && decide (m ≤ 1000000000000)) = true := by rw [em] at h2; exact h2
    rw [Bool.and_eq_true, decide_eq_true_eq, decide_eq_true_eq] at h1' h2'
    cases qo with
    | none =>
      refine ⟨vq, rfl, .inr ⟨vq, rfl, hq, false, rfl, ?_⟩⟩
      exact iteT (iteT (e3 h1 h2 (fun z => z) H (Same.refl H)))
    | some x =>
      obtain ⟨qa, rfl, hq, hx⟩ := hq
      refine ⟨.ref qa, rfl, .inl ⟨qa, x, rfl, hq, hx, fun H1 s1 => ⟨true, rfl, iteF ?_⟩⟩⟩
      obtain ⟨xs, hq1⟩ := (hq.same s1).word
      refine ⟨.ref qa, rfl, qa, _, _, _, rfl, rfl, hq1, atI_nat (j := 0) rfl, (by show 3 ≤ sizeLine; decide), fun t0 nt0 => ?_⟩
      have s2 := same_upd (o := .tup [.str (Str.ofString "count"), .str (Str.ofString "lot"), .str (Str.ofString "apart")]) nt0
      have ht2 : (upd H1 t0 (.tup [.str (Str.ofString "count"), .str (Str.ofString "lot"), .str (Str.ofString "apart")])) t0 = some (.tup [.str (Str.ofString "count"), .str (Str.ofString "lot"), .str (Str.ofString "apart")]) := upd_same
      generalize upd H1 t0 (.tup [.str (Str.ofString "count"), .str (Str.ofString "lot"), .str (Str.ofString "apart")]) = H2 at s2 ht2 ⊢
      have s02 := Same.trans s1 s2
      have hq2 := hq.same s02
      have no := fun hn : ¬ NamedQ x => e3 h1 h2 hn H2 s02
      cases x with
      | count z =>
        have h : SqT K H2 qa (.str "count" :: (Qn.count z).parts) := hq2
        refine ⟨t0, _, rfl, .inr (.inl (.inl ht2)), rfl, rfl, false, congrArg V.bl (by show (!inV (.str (Str.ofString "count")) [.str (Str.ofString "count"), .str (Str.ofString "lot"), .str (Str.ofString "apart")]) = false; decide +kernel), iteF ?_⟩
        refine ⟨.ref qa, rfl, qa, _, _, _, rfl, rfl, h, atI_nat (j := 0) rfl, rfl, true, congrArg V.bl (decide_eq_true rfl), iteT ?_⟩
        exact ⟨_, rfl, q r m _ er em h1 h2 rfl (.inl ⟨z, rfl⟩) H2 s02⟩
      | apart y z =>
        have h : SqT K H2 qa (.str "apart" :: (Qn.apart y z).parts) := hq2
        refine ⟨t0, _, rfl, .inr (.inl (.inl ht2)), rfl, rfl, false, congrArg V.bl (by show (!inV (.str (Str.ofString "apart")) [.str (Str.ofString "count"), .str (Str.ofString "lot"), .str (Str.ofString "apart")]) = false; decide +kernel), iteF ?_⟩
        refine ⟨.ref qa, rfl, qa, _, _, _, rfl, rfl, h, atI_nat (j := 0) rfl, rfl, false, congrArg V.bl (by decide +kernel), iteF ?_⟩
        refine ⟨.ref qa, rfl, qa, _, _, _, rfl, rfl, h, atI_nat (j := 0) rfl, rfl, true, congrArg V.bl (decide_eq_true rfl), iteT ?_⟩
        exact ⟨_, rfl, _, _, rfl, rfl, cmulL (by decide) (by decide), q r m _ er em h1 h2 rfl (.inr (.inr ⟨y, z, rfl⟩)) H2 s02⟩
      | lot zs =>
        obtain ⟨t, h, ht⟩ := hq2
        refine ⟨t0, _, rfl, .inr (.inl (.inl ht2)), rfl, rfl, false, congrArg V.bl (by show (!inV (.str (Str.ofString "lot")) [.str (Str.ofString "count"), .str (Str.ofString "lot"), .str (Str.ofString "apart")]) = false; decide +kernel), iteF ?_⟩
        refine ⟨.ref qa, rfl, qa, _, _, _, rfl, rfl, h, atI_nat (j := 0) rfl, rfl, false, congrArg V.bl (by decide +kernel), iteF ?_⟩
        refine ⟨.ref qa, rfl, qa, _, _, _, rfl, rfl, h, atI_nat (j := 0) rfl, rfl, false, congrArg V.bl (by decide +kernel), iteF ?_⟩
        refine ⟨.int m, rfl, _, rfl, .int r, rfl, _, _, rfl, rfl, cmulL (by decide) (by decide), .ref qa, rfl, qa, _, _, _, rfl, rfl, h, atI_nat (j := 1) rfl, t, _, rfl, .inr ht, _, _, rfl, ?_⟩
        have hl : zs.length ≤ 40 := hx.len
        rw [List.length_map]
        have qq := q r m _ er em h1 h2 rfl (.inr (.inl ⟨zs, rfl⟩)) H2 s02
        refine ⟨_, _, rfl, rfl, ?_, _, _, rfl, qq⟩
        refine cmulR ?_ ?_
        · show 0 ≤ if (zs.length : Int) < 2 * r then (zs.length : Int) else 2 * r
          split <;> omega
        · show (if (zs.length : Int) < 2 * r then (zs.length : Int) else 2 * r) < 10000000000
          split <;> omega
      | place z => exact ⟨t0, _, rfl, .inr (.inl (.inl ht2)), rfl, rfl, true, congrArg V.bl (by show (!inV (.str (Str.ofString "place")) [.str (Str.ofString "count"), .str (Str.ofString "lot"), .str (Str.ofString "apart")]) = true; decide +kernel), iteT (no (by rintro (⟨_, h⟩ | ⟨_, h⟩ | ⟨_, _, h⟩) <;> cases h))⟩
      | first j => exact ⟨t0, _, rfl, .inr (.inl (.inl ht2)), rfl, rfl, true, congrArg V.bl (by show (!inV (.str (Str.ofString "first")) [.str (Str.ofString "count"), .str (Str.ofString "lot"), .str (Str.ofString "apart")]) = true; decide +kernel), iteT (no (by rintro (⟨_, h⟩ | ⟨_, h⟩ | ⟨_, _, h⟩) <;> cases h))⟩
      | unlike => exact ⟨t0, _, rfl, .inr (.inl (.inl ht2)), rfl, rfl, true, congrArg V.bl (by show (!inV (.str (Str.ofString "unlike")) [.str (Str.ofString "count"), .str (Str.ofString "lot"), .str (Str.ofString "apart")]) = true; decide +kernel), iteT (no (by rintro (⟨_, h⟩ | ⟨_, h⟩ | ⟨_, _, h⟩) <;> cases h))⟩
      | squares => exact ⟨t0, _, rfl, .inr (.inl (.inl ht2)), rfl, rfl, true, congrArg V.bl (by show (!inV (.str (Str.ofString "squares")) [.str (Str.ofString "count"), .str (Str.ofString "lot"), .str (Str.ofString "apart")]) = true; decide +kernel), iteT (no (by rintro (⟨_, h⟩ | ⟨_, h⟩ | ⟨_, _, h⟩) <;> cases h))⟩
end
end Kb

namespace L2
open PySem PySem.Spec PyProof.Rows Builtin
section
variable {X : Cx}
theorem takes_len {W : WX} (t : Takes X W) : Takes X (fun c d σ H => σ.length = X.N.length → W c d σ H) := fun u s' ⟨a, B, sI, pins, σ, H, cls, d, e, I, nb, up, sky, na, os, ag, w⟩ => t u s' ⟨a, B, sI, pins, σ, H, cls, d, e, I, nb, up, sky, na, os, ag, w I.len⟩
def rCntB (K : PySem.W.Frag) : V → List V → Hp → VK → Prop := fun x xs H Q => ∃ (p : Addr) (ns : List Bool) (k : Bool), x = .ref p ∧ xs = [.bl k] ∧ SqL K H p (ns.map V.bl) ∧ Q (.int ((ns.countP fun b => b == k : Nat) : Int)) H
def eqb (k : Bool) : Value → Bool
  | .bool b => b == k
  | _ => false
theorem bools_of : ∀ {ns : List Bool} {its : List Value}, Vals (ns.map V.bl) its → its = ns.map Value.bool
  | [], _, .nil => rfl
  | b :: ns, _, .cons h t => by
    have e := bools_of (ns := ns) t
    cases (show _ = Value.bool b from h)
    rw [e]
    rfl
/-- xs.count(b), a list of bools -/
theorem mt_countB : MtR X "list.count" (rCntB X.K) := by
  intro pins s σ H x xs v us Q I rx rxs h
  obtain ⟨p, ns, k, rfl, rfl, hs, q⟩ := h
  cases rx
  obtain ⟨u, rfl, ru⟩ := rxs.one
  cases (show u = Value.bool k from ru)
  obtain ⟨its, rv, ⟨⟨cls, dd, data, sl⟩, n, ho, hc, hdn, hd⟩, hlen⟩ := I.list hs
  simp only at hc hd
  subst hc hd
  have hi := bools_of rv
  refine call_meets PySem.F.slot_list_count ⟨_, ho, rfl⟩ PySem.F.entry_list_count (PySem.F.args_list_count_2 _ _)
    (SeqAt.list_countAt p its.toArray n dd sl (.bool k) (eqb k)) ⟨ho, fun y hy => ?_, ?_⟩
  · have hy2 : y ∈ its := by simpa using hy
    rw [hi] at hy2
    obtain ⟨b, _, rfl⟩ := List.mem_map.mp hy2
    exact SeqAt.EqAt.bool_bool b k
  · have ec : its.toArray.toList.countP (eqb k) = ns.countP fun b => b == k := by
      rw [hi]
      show (ns.map Value.bool).countP (eqb k) = _
      rw [List.countP_map]
      rfl
    refine ⟨.int ((ns.countP fun b => b == k : Nat) : Int), H, I.tok _, ⟨s.toks, ?_⟩, q⟩
    show Value.int ((its.toArray.toList.countP (eqb k) : Nat) : Int) s.toks = _
    rw [ec]
end
end L2
namespace Kb
open PySem PySem.Spec PyProof.Rows L2 SrtZ SrtO FlX LamX RZ
/-! _law_word -/
abbrev sword : Stmt := topS 59
abbrev Nword : List Str := ["_law_ask", "_law_told", "e", "_law_flags"]
theorem scword : FnScope ["_law_ask", "_law_told", "e", "_law_flags"] ["_law_ask"] (defScope sword) := ⟨rfl, rfl, rfl, by decide +kernel, rfl, by decide +kernel, by decide +kernel⟩
abbrev Dnword (K : PySem.W.Frag) (mg : Str → Option Value) := Dn K mg "_law_word" sword ["_law_ask"]
/-- the three classes, as _law_word asks of them -/
structure TxK (K : PySem.W.Frag) (mg : Str → Option Value) where
  R : TxE K mg "NoRoom"
  N : TxE K mg "NoNumber"
  J : TxE K mg "NoQuestion"
  KE : Addr
  gKE : mg "KnownError" = some (.ref KE)
  xR : PySem.W.exmOne K (.ref R.C) (.ref KE) = some true
  xN : PySem.W.exmOne K (.ref N.C) (.ref KE) = some true
  xJ : PySem.W.exmOne K (.ref J.C) (.ref KE) = some true
  kRR : PySem.W.kitOne K (.ref R.C) (.ref R.C) = some true
  kRN : PySem.W.kitOne K (.ref R.C) (.ref N.C) = some false
  kRJ : PySem.W.kitOne K (.ref R.C) (.ref J.C) = some false
  kNR : PySem.W.kitOne K (.ref N.C) (.ref R.C) = some false
  kNN : PySem.W.kitOne K (.ref N.C) (.ref N.C) = some true
  kNJ : PySem.W.kitOne K (.ref N.C) (.ref J.C) = some false
  kJR : PySem.W.kitOne K (.ref J.C) (.ref R.C) = some false
  kJN : PySem.W.kitOne K (.ref J.C) (.ref N.C) = some false
  kJJ : PySem.W.kitOne K (.ref J.C) (.ref J.C) = some true
/-- isinstance(e, c) of an error that is one of three -/
def rIs3 (K : PySem.W.Frag) (a C1 C2 C3 : Addr) (cls : Value) (d : Option Addr) : List V → Hp → VK → Prop := fun xs H Q => d = none ∧ ((cls = .ref C1 ∧ rIsE K C1 a xs H Q) ∨ (cls = .ref C2 ∧ rIsE K C2 a xs H Q) ∨ (cls = .ref C3 ∧ rIsE K C3 a xs H Q))
theorem call_is3 {X : Cx} {a C1 C2 C3 : Addr} {oe : Obj} {cls : Value} {d : Option Addr} {pn : List (Addr × Obj)} (i1 : ExcC X.K C1) (i2 : ExcC X.K C2) (i3 : ExcC X.K C3) (hz : Zc cls d oe) (hf : ∃ vs, oe.data = .fields vs) :
    CallR (X.suite a ((a, oe) :: pn)) (.builtin "isinstance") (rIs3 X.K a C1 C2 C3 cls d) := by
  intro pins s σ H xs us Q I r h
  obtain ⟨ed, ⟨ec, h⟩ | ⟨ec, h⟩ | ⟨ec, h⟩⟩ := h
  · subst ec ed
    exact call_isE i1 hz hf pins s σ H xs us Q I r h
  · subst ec ed
    exact call_isE i2 hz hf pins s σ H xs us Q I r h
  · subst ec ed
    exact call_isE i3 hz hf pins s σ H xs us Q I r h
/-- what an error comes to -/
def EchW (K : PySem.W.Frag) (mg : Str → Option Value) (S : TxK K mg) (Q : VK) : XK := fun cls d H' => d = none ∧ ((cls = .ref S.R.C ∧ ∀ H'', Same H' H'' → Q (.str (Str.ofString "room")) H'') ∨ (cls = .ref S.N.C ∧ ∀ H'', Same H' H'' → Q (.str (Str.ofString "number")) H'') ∨ (cls = .ref S.J.C ∧ ∀ H'', Same H' H'' → Q (.str (Str.ofString "question")) H''))
def TTword (K : PySem.W.Frag) (mg : Str → Option Value) (S : TxK K mg) : (XK → Hp → VK → Prop) → Hp → VK → Prop := fun tl H Q => ∀ Q' : VK, (∀ v H', Q (.str (Str.ofString "let")) H' → Q' v H') → tl (EchW K mg S Q) H Q'
theorem word_gives {X : Cx} (T : Blt X.mg) (S : TxK X.K X.mg) {q : Str} {g : Addr} {cdg : Value} : GivesTo X Nword "_law_word" (defScope sword) g cdg (defBody sword) "_law_ask" q (TTword X.K X.mg S) := by
  intro f c' s H Q tl act hc h
  refine ⟨_, pss_cons (ps_set (i := 1) scword.nd rfl (Or.inl rfl) pe_str)
    (pss_cons (ps_try_first (X := (cxOf C8.CX0 X.prog X.w X.K X.mg X.base Nword "_law_word" (defScope sword) g cdg X.A X.stack s H C8.E0).nox) (i := 2) (c := .ref S.KE)
      (tb := fun W D σ H => ∃ Ech : XK, (∀ cls d σ' H', Ech cls d H' → σ'.length = 4 → W cls d σ' H') ∧ σ[0]? = some (some (.ref f)) ∧ H c' = some (CodeO c' q) ∧ tl Ech H (fun _ H' => D.nx σ H'))
      (ts := fun a cls d => tSeq (tAsg (tLst (tCons (tCB (rIs3 X.K a S.R.C S.N.C S.J.C cls d) (tCons (tVar 2) (tCons (tC (.ref S.R.C)) tNil))) (tCons (tCB (rIs3 X.K a S.R.C S.N.C S.J.C cls d) (tCons (tVar 2) (tCons (tC (.ref S.N.C)) tNil))) (tCons (tCB (rIs3 X.K a S.R.C S.N.C S.J.C cls d) (tCons (tVar 2) (tCons (tC (.ref S.J.C)) tNil))) tNil)))) (gName 3))
        (tAsg (tIf (tTest (tOp rEq (tBM X.K "list" (rCntB X.K) (tVar 3) (tCons (tC (.bl true)) tNil)) (tC (.int 1)))) (tOp (rIxL X.K) (tLst (tCons (tC (.str (Str.ofString "room"))) (tCons (tC (.str (Str.ofString "number"))) (tCons (tC (.str (Str.ofString "question"))) tNil)))) (tBM X.K "list" (rIndex X.K) (tVar 3) (tCons (tC (.bl true)) tNil))) (tC (.str (Str.ofString "other")))) (gName 1)))
      rfl rfl scword.nd rfl rfl ⟨rfl, by decide, Or.inl S.gKE⟩ (fun W pn way tk _ => ?_) (fun a oe cls d pn hz hf => ?_))
    (pss_one (ps_ret (pv 1)))), ?_⟩
  · refine ⟨fun pins s' σ H' D I h' => ?_⟩
    obtain ⟨Ech, hW, h1, h2, h3⟩ := h'
    have hp := act (fun c d σ H => σ.length = 4 → W c d σ H) pn way Ech ⟨264, 8, 264, 16⟩ ⟨264, 8, 264, 18⟩ (takes_len tk) hW
    have hq := pss_one (ps_expr (pos := ⟨264, 8, 264, 18⟩) hp)
    exact hq.run pins s' σ H' D I ⟨h1, h2, h3⟩
  · exact pss_cons (ps_set (i := 3) scword.nd rfl (Or.inl rfl) (by exact (pe_lst (pa_cons (pe_callB (call_is3 S.R.isC S.N.isC S.J.isC hz hf) (by rfl) T.n_isinstance (by decide +kernel) (pa_cons (pv 2) (pa_cons (pe_glob rfl S.R.gC rfl) pa_nil))) (pa_cons (pe_callB (call_is3 S.R.isC S.N.isC S.J.isC hz hf) (by rfl) T.n_isinstance (by decide +kernel) (pa_cons (pv 2) (pa_cons (pe_glob rfl S.N.gC rfl) pa_nil))) (pa_cons (pe_callB (call_is3 S.R.isC S.N.isC S.J.isC hz hf) (by rfl) T.n_isinstance (by decide +kernel) (pa_cons (pv 2) (pa_cons (pe_glob rfl S.J.gC rfl) pa_nil))) pa_nil))))))
      (pss_one (ps_set (i := 1) scword.nd rfl (Or.inl rfl) (by exact (pe_ifExp (pt_cmpR op_eq (pe_bm PySem.F.plainAttrs_list PySem.F.slot_list_count PySem.F.type_list_count mt_countB (pv 3) (pa_cons pe_bl pa_nil)) pe_int (nomark _)) (pe_ix ix_list (pe_lst (pa_cons pe_str (pa_cons pe_str (pa_cons pe_str pa_nil)))) (pe_bm PySem.F.plainAttrs_list PySem.F.slot_list_index PySem.F.type_list_index mt_index (pv 3) (pa_cons pe_bl pa_nil)) (fun _ _ => rfl)) pe_str))))
  · refine ⟨EchW X.K X.mg S Q, fun cls d σ' H' he hl => ?_, rfl, hc, h _ fun v H' hq => ⟨_, rfl, hq⟩⟩
    obtain ⟨x0, x1, x2, x3, rfl⟩ : ∃ x0 x1 x2 x3, σ' = [x0, x1, x2, x3] := match σ', hl with | [x0, x1, x2, x3], _ => ⟨x0, x1, x2, x3, rfl⟩
    obtain ⟨rfl, ⟨rfl, he⟩ | ⟨rfl, he⟩ | ⟨rfl, he⟩⟩ := he
    · refine ⟨S.xR, fun a0 na0 => ?_⟩
      refine ⟨.ref a0, rfl, rfl, .inl ⟨rfl, .ref S.R.C, .ref S.R.C, true, rfl, (fun u hu => hu), S.kRR, .ref a0, rfl, rfl, .inl ⟨rfl, .ref S.N.C, .ref S.N.C, false, rfl, (fun u hu => hu), S.kRN, .ref a0, rfl, rfl, .inl ⟨rfl, .ref S.J.C, .ref S.J.C, false, rfl, (fun u hu => hu), S.kRJ, (by show 3 ≤ sizeLine; decide), fun l nl => ?_⟩⟩⟩⟩
      have s1 := same_upd (o := .lst [.bl true, .bl false, .bl false]) nl
      have hl1 : (upd H' l (.lst [.bl true, .bl false, .bl false])) l = some (.lst ([true, false, false].map V.bl)) := upd_same
      generalize upd H' l (.lst [.bl true, .bl false, .bl false]) = H1 at s1 hl1 ⊢
      refine ⟨.ref l, rfl, .inl ⟨rfl, _, sql hl1⟩, l, [true, false, false], true, rfl, rfl, sql hl1, rfl, true, congrArg V.bl (by decide), iteT ?_⟩
      refine ⟨(by show 3 ≤ sizeLine; decide), fun l2 nl2 => ?_⟩
      have s2 := same_upd (o := .lst [.str (Str.ofString "room"), .str (Str.ofString "number"), .str (Str.ofString "question")]) nl2
      refine ⟨.ref l, rfl, .inl ⟨rfl, _, sql (s2 _ _ hl1)⟩, l, _, .bl true, 0, .bl true, rfl, rfl, sql (s2 _ _ hl1), rfl, rfl, rfl, rfl, ?_, l2, _, _, _, rfl, rfl, sql upd_same, atI_nat (j := 0) rfl, _, rfl, ?_⟩
      · intro m z' hm hz
        omega
      · exact he _ (Same.trans s1 s2)
    · refine ⟨S.xN, fun a0 na0 => ?_⟩
      refine ⟨.ref a0, rfl, rfl, .inr (.inl ⟨rfl, .ref S.R.C, .ref S.R.C, false, rfl, (fun u hu => hu), S.kNR, .ref a0, rfl, rfl, .inr (.inl ⟨rfl, .ref S.N.C, .ref S.N.C, true, rfl, (fun u hu => hu), S.kNN, .ref a0, rfl, rfl, .inr (.inl ⟨rfl, .ref S.J.C, .ref S.J.C, false, rfl, (fun u hu => hu), S.kNJ, (by show 3 ≤ sizeLine; decide), fun l nl => ?_⟩)⟩)⟩)⟩
      have s1 := same_upd (o := .lst [.bl false, .bl true, .bl false]) nl
      have hl1 : (upd H' l (.lst [.bl false, .bl true, .bl false])) l = some (.lst ([false, true, false].map V.bl)) := upd_same
      generalize upd H' l (.lst [.bl false, .bl true, .bl false]) = H1 at s1 hl1 ⊢
      refine ⟨.ref l, rfl, .inl ⟨rfl, _, sql hl1⟩, l, [false, true, false], true, rfl, rfl, sql hl1, rfl, true, congrArg V.bl (by decide), iteT ?_⟩
      refine ⟨(by show 3 ≤ sizeLine; decide), fun l2 nl2 => ?_⟩
      have s2 := same_upd (o := .lst [.str (Str.ofString "room"), .str (Str.ofString "number"), .str (Str.ofString "question")]) nl2
      refine ⟨.ref l, rfl, .inl ⟨rfl, _, sql (s2 _ _ hl1)⟩, l, _, .bl true, 1, .bl true, rfl, rfl, sql (s2 _ _ hl1), rfl, rfl, rfl, rfl, ?_, l2, _, _, _, rfl, rfl, sql upd_same, atI_nat (j := 1) rfl, _, rfl, ?_⟩
      · intro m z' hm hz
        have : m = 0 := by omega
        subst this
        cases hz
        rfl
      · exact he _ (Same.trans s1 s2)
    · refine ⟨S.xJ, fun a0 na0 => ?_⟩
      refine ⟨.ref a0, rfl, rfl, .inr (.inr ⟨rfl, .ref S.R.C, .ref S.R.C, false, rfl, (fun u hu => hu), S.kJR, .ref a0, rfl, rfl, .inr (.inr ⟨rfl, .ref S.N.C, .ref S.N.C, false, rfl, (fun u hu => hu), S.kJN, .ref a0, rfl, rfl, .inr (.inr ⟨rfl, .ref S.J.C, .ref S.J.C, true, rfl, (fun u hu => hu), S.kJJ, (by show 3 ≤ sizeLine; decide), fun l nl => ?_⟩)⟩)⟩)⟩
      have s1 := same_upd (o := .lst [.bl false, .bl false, .bl true]) nl
      have hl1 : (upd H' l (.lst [.bl false, .bl false, .bl true])) l = some (.lst ([false, false, true].map V.bl)) := upd_same
      generalize upd H' l (.lst [.bl false, .bl false, .bl true]) = H1 at s1 hl1 ⊢
      refine ⟨.ref l, rfl, .inl ⟨rfl, _, sql hl1⟩, l, [false, false, true], true, rfl, rfl, sql hl1, rfl, true, congrArg V.bl (by decide), iteT ?_⟩
      refine ⟨(by show 3 ≤ sizeLine; decide), fun l2 nl2 => ?_⟩
      have s2 := same_upd (o := .lst [.str (Str.ofString "room"), .str (Str.ofString "number"), .str (Str.ofString "question")]) nl2
      refine ⟨.ref l, rfl, .inl ⟨rfl, _, sql (s2 _ _ hl1)⟩, l, _, .bl true, 2, .bl true, rfl, rfl, sql (s2 _ _ hl1), rfl, rfl, rfl, rfl, ?_, l2, _, _, _, rfl, rfl, sql upd_same, atI_nat (j := 2) rfl, _, rfl, ?_⟩
      · intro m z' hm hz
        have : m = 0 ∨ m = 1 := by omega
        rcases this with rfl | rfl
        all_goals cases hz
        all_goals rfl
      · exact he _ (Same.trans s1 s2)
end Kb

namespace L2
theorem opR_or {X : Cx} {f : PySem.Value → PySem.Value → PySem.Sem PySem.Value} {r r' : R2} (h : OpR X f r) (h' : OpR X f r') : OpR X f (fun x y H Q => r x y H Q ∨ r' x y H Q) := by
  intro pins s σ H x y v u Q I rx ry q
  rcases q with q | q
  · exact h pins s σ H x y v u Q I rx ry q
  · exact h' pins s σ H x y v u Q I rx ry q
end L2
namespace Kb
open PySem PySem.Spec PyProof.Rows L2 SrtZ SrtO FlX LamX RZ
abbrev srefused : Stmt := topS 61
abbrev Nrefused : List Str := ["_law_hand_here", "_law_deep_here", "_law_things", "_law_rooms", "_law_numbers", "_law_words", "_law_due", "_law_plain", "_law_many", "_law_question", "_law_room"]
theorem screfused : FnScope ["_law_hand_here", "_law_deep_here", "_law_things", "_law_rooms", "_law_numbers", "_law_words", "_law_due", "_law_plain", "_law_many", "_law_question", "_law_room"] ["_law_hand_here"] (defScope srefused) := ⟨rfl, rfl, rfl, by decide +kernel, rfl, by decide +kernel, by decide +kernel⟩
abbrev Dnrefused (K : PySem.W.Frag) (mg : Str → Option Value) := Dn K mg "_law_refused" srefused ["_law_hand_here"]

abbrev qRef : Str := (("_law_refused" : Str) ++ ".<locals>.") ++ "<lambda>"
/-- the def with its lambdas, its code object's table -/
structure Ref (K : PySem.W.Frag) (mg : Str → Option Value) (base : Heap) where
  d : Dnrefused K mg
  c : Addr
  P : Addr
  code : d.fd.code = .ref c
  tb : TabB base mg c P
theorem ExtN.kp {K : PySem.W.Frag} {H H' : Hp} (x : ExtN H H') : Kp K H H' := by
  refine ⟨fun a xs h => ?_, fun a xs h => ?_, fun a k h => x _ _ h (by intro _ z; cases z)⟩
  · rcases h with (h | ⟨o, h⟩) | h
    · exact .inl (.inl (x _ _ h (by intro _ z; cases z)))
    · exact .inl (.inr ⟨o, x _ _ h (by intro _ z; cases z)⟩)
    · exact .inr h
  · rcases h with (h | ⟨o, h⟩) | h
    · exact ⟨xs, .inl (.inl (x _ _ h (by intro _ z; cases z)))⟩
    · exact ⟨xs, .inl (.inr ⟨o, x _ _ h (by intro _ z; cases z)⟩)⟩
    · exact ⟨xs, .inr h⟩
def wMost (nr nm : Option Int) : Str := if isRB nr = true then (if isMB nm = true then Str.ofString "let" else Str.ofString "number") else Str.ofString "room"
def wWorst (nr nm : Option Int) : Str := if isRB nr = true then (if isLB nm = true then Str.ofString "let" else Str.ofString "number") else Str.ofString "room"
def wFor (nm : Option Int) : Str := if isMB nm = true then Str.ofString "let" else Str.ofString "number"
def nmB : Option Qn → Bool
  | some (.count _) => true
  | some (.lot _) => true
  | some (.apart _ _) => true
  | _ => false
theorem nmB_iff (qo : Option Qn) : nmB qo = true ↔ NmQ qo := by
  cases qo with
  | none => exact ⟨fun h => (nomatch h), fun h => h.elim⟩
  | some x =>
    cases x with
    | count z => exact ⟨fun _ => .inl ⟨z, rfl⟩, fun _ => rfl⟩
    | lot zs => exact ⟨fun _ => .inr (.inl ⟨zs, rfl⟩), fun _ => rfl⟩
    | apart y z => exact ⟨fun _ => .inr (.inr ⟨y, z, rfl⟩), fun _ => rfl⟩
    | place z => exact ⟨fun h => (nomatch h), by rintro (⟨_, h⟩ | ⟨_, h⟩ | ⟨_, _, h⟩) <;> cases h⟩
    | first j => exact ⟨fun h => (nomatch h), by rintro (⟨_, h⟩ | ⟨_, h⟩ | ⟨_, _, h⟩) <;> cases h⟩
    | unlike => exact ⟨fun h => (nomatch h), by rintro (⟨_, h⟩ | ⟨_, h⟩ | ⟨_, _, h⟩) <;> cases h⟩
    | squares => exact ⟨fun h => (nomatch h), by rintro (⟨_, h⟩ | ⟨_, h⟩ | ⟨_, _, h⟩) <;> cases h⟩
def wWide (nr nm : Option Int) (qo : Option Qn) : Str := if isRB nr = true then (if isMB nm = true then (if nmB qo = true then Str.ofString "let" else Str.ofString "question") else Str.ofString "number") else Str.ofString "room"
theorem QvAt.kp {K : PySem.W.Frag} {H H' : Hp} {v : V} {qo : Option Qn} (h : QvAt K H v qo) (k : Kp K H H') : QvAt K H' v qo := by
  cases qo with
  | none =>
    rcases h with h | h
    · exact .inl h
    · exact .inr (h.kp k)
  | some x =>
    obtain ⟨q, e, h, hx⟩ := h
    refine ⟨q, e, ?_, hx⟩
    cases x with
    | lot zs =>
      obtain ⟨t, h1, h2⟩ := h
      exact ⟨t, k.t _ _ h1, k.t _ _ h2⟩
    | _ => exact k.t _ _ h
section
variable {P : Program} {w : World} {K : PySem.W.Frag} {mg : Str → Option Value} {base : Heap} {S : TxK K mg} {Ts : List (Addr × Str)} {σ : L2.St} {H : Hp} {Q : VK} {vr vm vq : V} {nr nm : Option Int} {qo : Option Qn}
theorem ext_same {H H1 H2 : Hp} (x : ExtN H H1) (s : Same H1 H2) : ExtN H H2 := x.trans (.of s)
/-- lambda: most_off(room, many) -/
theorem rd_most {i j : Nat} (h1 : σ[i]? = some (some vr)) (h2 : σ[j]? = some (some vm)) (hr : NvAt K H vr nr) (hm : NvAt K H vm nm) (hT : Tabs Ts H) (cont : ∀ H', ExtN H H' → Tabs Ts H' → Q (.str (wMost nr nm)) H') :
    tLam Ts (TTword K mg S) (fun E => tCall (spMostOff K S.R.C S.N.C) [] E (tCons (tVar i) (tCons (tVar j) tNil))) σ H Q := by
  refine ⟨hT, fun H1 x1 T1 Q' hQ => ⟨vr, h1, vm, h2, vr, vm, nr, nm, rfl, hr.kp (ExtN.kp x1), hm.kp (ExtN.kp x1), fun e => ⟨rfl, .inl ⟨rfl, fun H2 s2 => ?_⟩⟩, fun e e2 => ⟨rfl, .inr (.inl ⟨rfl, fun H2 s2 => ?_⟩)⟩, fun r m _ _ e e2 => hQ _ _ ?_⟩⟩
  · have := cont H2 (ext_same x1 s2) (T1.ext s2)
    rw [wMost, e] at this
    exact this
  · have := cont H2 (ext_same x1 s2) (T1.ext s2)
    rw [wMost, e, e2] at this
    exact this
  · have := cont H1 x1 T1
    rw [wMost, e, e2] at this
    exact this
/-- lambda: worst(room, many) -/
theorem rd_worst {i j : Nat} (h1 : σ[i]? = some (some vr)) (h2 : σ[j]? = some (some vm)) (hr : NvAt K H vr nr) (hm : NvAt K H vm nm) (hT : Tabs Ts H) (cont : ∀ H', ExtN H H' → Tabs Ts H' → Q (.str (wWorst nr nm)) H') :
    tLam Ts (TTword K mg S) (fun E => tCall (spWorst K S.R.C S.N.C) [] E (tCons (tVar i) (tCons (tVar j) tNil))) σ H Q := by
  refine ⟨hT, fun H1 x1 T1 Q' hQ => ⟨vr, h1, vm, h2, vr, vm, nr, nm, rfl, hr.kp (ExtN.kp x1), hm.kp (ExtN.kp x1), fun e => ⟨rfl, .inl ⟨rfl, fun H2 s2 => ?_⟩⟩, fun e e2 => ⟨rfl, .inr (.inl ⟨rfl, fun H2 s2 => ?_⟩)⟩, fun r m e1 e2 r1 r2 m1 H2 p s2 hp => hQ _ _ ?_⟩⟩
  · have := cont H2 (ext_same x1 s2) (T1.ext s2)
    rw [wWorst, e] at this
    exact this
  · have := cont H2 (ext_same x1 s2) (T1.ext s2)
    rw [wWorst, e, e2] at this
    exact this
  · have := cont H2 (ext_same x1 s2) (T1.ext s2)
    have b1 : isRB nr = true := by
      rw [e1]
      show (decide (1 ≤ (r : Int)) && decide ((r : Int) ≤ 64)) = true
      rw [decide_eq_true (by omega), decide_eq_true (by omega)]
      rfl
    have b2 : isLB nm = true := by
      rw [e2]
      show (decide (0 ≤ (m : Int)) && decide ((m : Int) ≤ 2000)) = true
      rw [decide_eq_true (by omega), decide_eq_true (by omega)]
      rfl
    rw [wWorst, b1, b2] at this
    exact this
/-- lambda: room_for(many, 3) -/
theorem rd_for1 {j : Nat} (h2 : σ[j]? = some (some vm)) (hm : NvAt K H vm nm) (hT : Tabs Ts H) (cont : ∀ H', ExtN H H' → Tabs Ts H' → Q (.str (wFor nm)) H') :
    tLam Ts (TTword K mg S) (fun E => tCall (spRoomFor K S.N.C) [] E (tCons (tVar j) (tCons (tC (.int 3)) tNil))) σ H Q := by
  have b3 : isMB (some 3) = true := by decide
  refine ⟨hT, fun H1 x1 T1 Q' hQ => ⟨vm, h2, vm, .int 3, nm, some 3, rfl, hm.kp (ExtN.kp x1), rfl, fun e => ⟨rfl, .inr (.inl ⟨rfl, fun H2 s2 => ?_⟩)⟩, fun m o _ _ e e2 => hQ _ _ ?_⟩⟩
  · have := cont H2 (ext_same x1 s2) (T1.ext s2)
    rw [b3, Bool.and_true] at e
    rw [wFor, e] at this
    exact this
  · have := cont H1 x1 T1
    rw [wFor, e] at this
    exact this
/-- lambda: room_for(3, many) -/
theorem rd_for2 {j : Nat} (h2 : σ[j]? = some (some vm)) (hm : NvAt K H vm nm) (hT : Tabs Ts H) (cont : ∀ H', ExtN H H' → Tabs Ts H' → Q (.str (wFor nm)) H') :
    tLam Ts (TTword K mg S) (fun E => tCall (spRoomFor K S.N.C) [] E (tCons (tC (.int 3)) (tCons (tVar j) tNil))) σ H Q := by
  have b3 : isMB (some 3) = true := by decide
  refine ⟨hT, fun H1 x1 T1 Q' hQ => ⟨vm, h2, .int 3, vm, some 3, nm, rfl, rfl, hm.kp (ExtN.kp x1), fun e => ⟨rfl, .inr (.inl ⟨rfl, fun H2 s2 => ?_⟩)⟩, fun m o _ _ e e2 => hQ _ _ ?_⟩⟩
  · have := cont H2 (ext_same x1 s2) (T1.ext s2)
    rw [b3, Bool.true_and] at e
    rw [wFor, e] at this
    exact this
  · have := cont H1 x1 T1
    rw [wFor, e2] at this
    exact this
/-- lambda: widest(room, many, question) -/
theorem rd_wide {i j k : Nat} (h1 : σ[i]? = some (some vr)) (h2 : σ[j]? = some (some vm)) (h3 : σ[k]? = some (some vq)) (hr : NvAt K H vr nr) (hm : NvAt K H vm nm) (hq : QvAt K H vq qo) (hT : Tabs Ts H) (cont : ∀ H', ExtN H H' → Tabs Ts H' → Q (.str (wWide nr nm qo)) H') :
    tLam Ts (TTword K mg S) (fun E => tCall (spWidest K S.R.C S.N.C S.J.C) [] E (tCons (tVar i) (tCons (tVar j) (tCons (tVar k) tNil)))) σ H Q := by
  refine ⟨hT, fun H1 x1 T1 Q' hQ => ⟨vr, h1, vm, h2, vq, h3, vr, vm, vq, nr, nm, qo, rfl, hr.kp (ExtN.kp x1), hm.kp (ExtN.kp x1), hq.kp (ExtN.kp x1), fun e => ⟨rfl, .inl ⟨rfl, fun H2 s2 => ?_⟩⟩, fun e e2 => ⟨rfl, .inr (.inl ⟨rfl, fun H2 s2 => ?_⟩)⟩, fun e e2 e3 H2 s2 => ⟨rfl, .inr (.inr ⟨rfl, fun H3 s3 => ?_⟩)⟩, fun r m x _ _ e e2 e3 nx H2 s2 => hQ _ _ ?_⟩⟩
  · have := cont H2 (ext_same x1 s2) (T1.ext s2)
    rw [wWide, e] at this
    exact this
  · have := cont H2 (ext_same x1 s2) (T1.ext s2)
    rw [wWide, e, e2] at this
    exact this
  · have := cont H3 (ext_same x1 (Same.trans s2 s3)) (T1.ext (Same.trans s2 s3))
    have b : nmB qo = false := by
      cases hb : nmB qo with
      | false => rfl
      | true => exact absurd ((nmB_iff qo).mp hb) e3
    rw [wWide, e, e2, b] at this
    exact this
  · have := cont H2 (ext_same x1 s2) (T1.ext s2)
    have b : nmB qo = true := (nmB_iff qo).mpr (by rw [e3]; exact nx)
    rw [wWide, e, e2, b] at this
    exact this
theorem ok_is_intNL (T : Blt mg) (d : Dnis_int K mg) : FnOk P w K mg base CX0 1 d.f d.fd ["_law_thing"] (spIsIntN K) := by
  refine d.F.ok scis_int (fun vs H Q E h => ?_) (fun cdv A outer s H vs Q E hr h => ?_)
  · obtain ⟨v, n, rfl, _⟩ := h
    rfl
  · obtain ⟨v, n, rfl, hn, q⟩ := h
    refine ⟨_, (pss_one (ps_ret (pe_and (pe_callB call_isi (by rfl) T.n_isinstance (by decide +kernel) (pa_cons (pv 0) (pa_cons (pe_bltn (v := .ty "int") (by rfl) T.n_int (by decide +kernel) rfl) pa_nil))) (pe_one (pe_not (pe_callB call_isi (by rfl) T.n_isinstance (by decide +kernel) (pa_cons (pv 0) (pa_cons (pe_bltn (v := .ty "bool") (by rfl) T.n_bool (by decide +kernel) rfl) pa_nil)))))))), ?_⟩
    cases n with
    | some i =>
      obtain rfl : v = .int i := hn
      refine ⟨.int i, rfl, .int i, _, _, _, true, rfl, .ty "int", .base (.int i), kit_ty (by decide +kernel), true, rfl, iteT ?_⟩
      exact ⟨.int i, rfl, .int i, _, _, _, false, rfl, .ty "bool", .base (.int i), kit_ty (by decide +kernel), false, rfl, q⟩
    | none =>
      rcases hn with ⟨b, rfl⟩ | hn
      · refine ⟨.bl b, rfl, .bl b, _, _, _, true, rfl, .ty "int", .base (.bl b), kit_ty (by decide +kernel), true, rfl, iteT ?_⟩
        exact ⟨.bl b, rfl, .bl b, _, _, _, true, rfl, .ty "bool", .base (.bl b), kit_ty (by decide +kernel), true, rfl, q⟩
      · obtain ⟨t, ty, kt⟩ := od_ty hn
        exact ⟨v, rfl, v, _, _, _, false, rfl, .ty "int", ty, kt, false, rfl, iteF q⟩
end
section
variable {P : Program} {w : World} {K : PySem.W.Frag} {mg : Str → Option Value} {base : Heap}
theorem kp_putL {K : PySem.W.Frag} {H : Hp} {D : Addr} {xs ys : List V} (hD : H D = some (.lst xs)) : Kp K H (upd H D (.lst ys)) := ⟨fun _ _ h => sqT_putL h hD, fun _ _ h => sqL_putL h hD, fun _ _ h => by rw [upd_ne (ne_of h hD (by intro z; cases z))]; exact h⟩
theorem tabs_putL {Ts : List (Addr × Str)} {H : Hp} {D : Addr} {xs ys : List V} (hD : H D = some (.lst xs)) (T : Tabs Ts H) : Tabs Ts (upd H D (.lst ys)) := fun p hp => by
  obtain ⟨ps, h1, h2, h3⟩ := T p hp
  refine ⟨ps, by rw [upd_ne (ne_of h1 hD (by intro z; cases z))]; exact h1, h2, fun pos cv hc => ?_⟩
  obtain ⟨c, e1, e2⟩ := h3 pos cv hc
  exact ⟨c, e1, by rw [upd_ne (ne_of e2 hD (by intro z; cases z))]; exact e2⟩
theorem tabs_exw {Ts : List (Addr × Str)} {a c : Addr} {H H' : Hp} (T : Tabs Ts H) (x : Exw a H H') (w : Wl a c H) : Tabs Ts H' := fun p hp => by
  obtain ⟨ps, h1, h2, h3⟩ := T p hp
  refine ⟨ps, x.at w h1 (by intro _ z; cases z), h2, fun pos cv hc => ?_⟩
  obtain ⟨c, e1, e2⟩ := h3 pos cv hc
  exact ⟨c, e1, x.at w e2 (by intro _ z; cases z)⟩
theorem rd_d1 {σ : L2.St} {H : Hp} {Q : VK} {b3 b4 : Bool} {x y z : Str} (h3 : σ[3]? = some (some (.bl b3))) (h4 : σ[4]? = some (some (.bl b4))) (q : Q (.str (if b3 = true then (if b4 = true then y else z) else x)) H) : tIf (tNot (tB (tVar 3))) (tC (.str x)) (tIf (tB (tVar 4)) (tC (.str y)) (tC (.str z))) σ H Q := by
  refine ⟨.bl b3, h3, b3, rfl, ?_⟩
  cases b3 with
  | false => exact iteT q
  | true =>
    refine iteF ⟨.bl b4, h4, b4, rfl, ?_⟩
    cases b4 with
    | false => exact iteF q
    | true => exact iteT q
theorem rd_d2 {σ : L2.St} {H : Hp} {Q : VK} {b3 : Bool} {u x : Str} (h3 : σ[3]? = some (some (.bl b3))) (h6 : σ[6]? = some (some (.str u))) (q : Q (.str (if b3 = true then u else x)) H) : tIf (tB (tVar 3)) (tVar 6) (tC (.str x)) σ H Q := by
  refine ⟨.bl b3, h3, b3, rfl, ?_⟩
  cases b3 with
  | false => exact iteF q
  | true => exact iteT ⟨_, h6, q⟩
theorem rd_d3 {σ : L2.St} {H : Hp} {Q : VK} {b4 : Bool} {y z : Str} (h4 : σ[4]? = some (some (.bl b4))) (q : Q (.str (if b4 = true then y else z)) H) : tIf (tB (tVar 4)) (tC (.str y)) (tC (.str z)) σ H Q := by
  refine ⟨.bl b4, h4, b4, rfl, ?_⟩
  cases b4 with
  | false => exact iteF q
  | true => exact iteT q
theorem rd_d4 {σ : L2.St} {H : Hp} {Q : VK} {b3 b4 b7 : Bool} {x y z u : Str} (h3 : σ[3]? = some (some (.bl b3))) (h4 : σ[4]? = some (some (.bl b4))) (h7 : σ[7]? = some (some (.bl b7))) (q : Q (.str (if b3 = true then (if b4 = true then (if b7 = true then z else u) else y) else x)) H) :
    tIf (tNot (tB (tVar 3))) (tC (.str x)) (tIf (tNot (tB (tVar 4))) (tC (.str y)) (tIf (tB (tVar 7)) (tC (.str z)) (tC (.str u)))) σ H Q := by
  refine ⟨.bl b3, h3, b3, rfl, ?_⟩
  cases b3 with
  | false => exact iteT q
  | true =>
    refine iteF ⟨.bl b4, h4, b4, rfl, ?_⟩
    cases b4 with
    | false => exact iteT q
    | true =>
      refine iteF ⟨.bl b7, h7, b7, rfl, ?_⟩
      cases b7 with
      | false => exact iteF q
      | true => exact iteT q
theorem eqv_two (a b : Str) : PyData.eqv (.list [.str a, .str b]) (.list [.str a, .str b]) = true := by
  show ((a == a) && ((b == b) && true)) = true
  rw [beq_self_eq_true, beq_self_eq_true]
  rfl
def wordsL : List Str := [Str.ofString "room", Str.ofString "number", Str.ofString "let", Str.ofString "question"]
theorem sh_words : ∀ a ∈ wordsL, ∀ b ∈ wordsL, SeqAt.shaped (.list [.str a, .str b]) = true := by decide +kernel
theorem most_in (nr nm : Option Int) : wMost nr nm ∈ wordsL := by
  unfold wMost
  split
  · split
    · decide +kernel
    · decide +kernel
  · decide +kernel
theorem worst_in (nr nm : Option Int) : wWorst nr nm ∈ wordsL := by
  unfold wWorst
  split
  · split
    · decide +kernel
    · decide +kernel
  · decide +kernel
def spRefused (K : PySem.W.Frag) (Pt : Addr) : Sp := fun vs H Q _ => ∃ (a c : Addr), vs = [.ref a] ∧ Wl a c H ∧ TabS H Pt qRef ∧ ∀ H', Q (.bl true) H'
theorem ok_refused (T : Blt mg) (S : TxK K mg) (F : Ref K mg base) (cM : Cst mg "MOST_ROOM" (.int 64)) (cY : Cst mg "MOST_MANY" (.int 1000000000000)) (cG : Cst mg "LONGEST" (.int 2000)) (cL : Cst mg "LONGEST_NAME" (.int 8)) (cA : Cst mg "MOST_ASKED" (.int 40)) (cLT : Cst mg "LETTERS" (.str "abcdefghijklmnopqrstuvwxyz")) (n_zip : mg "zip" = none) (n_divmod : mg "divmod" = none)
    (dP_is_int : DnIsInt K mg) (dP_is_number : DnIsNumber K mg) (dP_is_room : DnIsRoom K mg) (dP_name_at : DnNameAt K mg) (dP_least_names : DnLeastNames K mg) (dP_is_name : DnIsName K mg) (dP_is_lot : DnIsLot K mg) (dP_is_question : DnIsQuestion K mg) (dP_is_many : DnIsMany K mg) (dP_most_off : DnMostOff K mg) (dP_room_for : DnRoomFor K mg) (dP_in_rounds : DnInRounds K mg) (dP_worst : DnWorst K mg) (dP_widest : DnWidest K mg)
    (ddraw : Dndraw K mg) (dany : Dnany K mg) (dis_int : Dnis_int K mg) (ddeep : Dndeep K mg) (dword : Dnword K mg) : FnOk P w K mg base CX0 10 F.d.f F.d.fd ["_law_hand_here"] (spRefused K F.P) := by
  have GP_most_off : FnOk P w K mg base (L2.CX P w) 4 dP_most_off.f dP_most_off.fd ["room", "many"] (spMostOff K S.R.C S.N.C) := ok_most_off T S.R S.N cM cY dP_is_int dP_is_number dP_is_room dP_is_many dP_most_off
  have GP_room_for : FnOk P w K mg base (L2.CX P w) 4 dP_room_for.f dP_room_for.fd ["many", "most"] (spRoomFor K S.N.C) := ok_room_for T S.N cY dP_is_int dP_is_number dP_is_many dP_room_for
  have GP_worst : FnOk P w K mg base (L2.CX P w) 4 dP_worst.f dP_worst.fd ["room", "many"] (spWorst K S.R.C S.N.C) := ok_worst T S.R S.N cM cG cLT n_divmod dP_name_at dP_least_names dP_is_int dP_is_number dP_is_room dP_in_rounds dP_worst
  have GP_widest : FnOk P w K mg base (L2.CX P w) 5 dP_widest.f dP_widest.fd ["room", "many", "question"] (spWidest K S.R.C S.N.C S.J.C) := ok_widest T S.R S.N S.J cM cY cL cA n_zip dP_is_int dP_is_number dP_is_room dP_is_name dP_is_lot dP_is_question dP_is_many dP_most_off dP_widest
  have Gany : FnOk P w K mg base CX0 2 dany.f dany.fd ["_law_hand_here", "_law_things"] spAny := ok_any T ddraw dany
  have Gdeep : FnOk P w K mg base CX0 2 ddeep.f ddeep.fd ["_law_hand_here"] (spDeepQ K) := ok_deepQ T ddraw ddeep
  have Gis_int : FnOk P w K mg base CX0 1 dis_int.f dis_int.fd ["_law_thing"] (spIsIntN K) := ok_is_intNL T dis_int
  obtain ⟨fW, fdW, FW, gW, bW⟩ := dword
  obtain ⟨oc, od, kV, doc, pm, an, cdW, ct, osl, rfl, lkW, codeW⟩ := FW.ex
  have huT : ∀ p ∈ [(F.P, qRef)], p.1 = F.P → p.2 = qRef := fun p hp _ => by rw [List.mem_singleton.mp hp]
  refine okC F.d.F screfused (fun vs H Q E h => ?_) (fun cdv A outer s H vs Q E hcdv hr h => ?_)
  · obtain ⟨a, c, rfl, _⟩ := h
    rfl
  · obtain ⟨a, c, rfl, w0, T0, q⟩ := h
    have wg : GivesTo (cxOf CX0 P w K mg base Nrefused "_law_refused" (defScope srefused) F.d.f cdv A outer s H E).nox Nword "_law_word" (defScope sword) fW cdW (defBody sword) "_law_ask" qRef (TTword K mg S) := word_gives (X := (cxOf CX0 P w K mg base Nrefused "_law_refused" (defScope srefused) F.d.f cdv A outer s H E).nox) T S
    refine ⟨_, (pss_cons (ps_set (i := 1) screfused.nd rfl (Or.inl rfl) (pe_call Gdeep (hr.mono (by omega)) (by rfl) ddeep.g ddeep.F.kp ddeep.b .nil pass0 (pa_cons (pv 0) pa_nil)))
    (pss_cons (ps_asg (pe_call Gany (hr.mono (by omega)) (by rfl) dany.g dany.F.kp dany.b .nil pass0 (pa_cons (pv 0) (pa_cons (pe_lst (pa_cons pe_int (pa_cons pe_int (pa_cons pe_int (pa_cons pe_int (pa_cons pe_bl (pa_cons pe_non (pa_cons pe_str (pa_cons (pv 1) pa_nil))))))))) pa_nil))) (pg_name (i := 10) screfused.nd rfl (Or.inr rfl)))
    (pss_cons (ps_asg (pe_call Gany (hr.mono (by omega)) (by rfl) dany.g dany.F.kp dany.b .nil pass0 (pa_cons (pv 0) (pa_cons (pe_lst (pa_cons pe_int (pa_cons pe_int (pa_cons pe_int (pa_cons (pe_op op_pow pe_int pe_int) (pa_cons (pe_op op_add (pe_op op_pow pe_int pe_int) pe_int) (pa_cons (pe_un un_neg pe_int) (pa_cons pe_bl (pa_cons pe_non (pa_cons (pv 1) pa_nil)))))))))) pa_nil))) (pg_name (i := 8) screfused.nd rfl (Or.inr rfl)))
    (pss_cons (ps_set (i := 2) screfused.nd rfl (Or.inl rfl) (pe_lst (pa_cons (pe_tup (pa_cons pe_str (pa_cons pe_str pa_nil))) (pa_cons (pe_tup (pa_cons pe_str (pa_cons (pe_tup (pa_cons pe_str (pa_cons pe_str pa_nil))) pa_nil))) (pa_cons (pe_tup (pa_cons pe_str (pa_cons pe_str (pa_cons pe_str pa_nil)))) (pa_cons (pe_tup (pa_cons pe_str pa_nil)) (pa_cons (pe_tup (pa_cons pe_str (pa_cons pe_int pa_nil))) (pa_cons pe_non (pa_cons (pv 1) pa_nil)))))))))
    (pss_cons (ps_asg (pe_call Gany (hr.mono (by omega)) (by rfl) dany.g dany.F.kp dany.b .nil pass0 (pa_cons (pv 0) (pa_cons (pv 2) pa_nil))) (pg_name (i := 9) screfused.nd rfl (Or.inr rfl)))
    (C8.pss_cut (ps_set (i := 3) screfused.nd rfl (Or.inl rfl) (pe_and (pe_call Gis_int (hr.mono (by omega)) (by rfl) dis_int.g dis_int.F.kp dis_int.b .nil pass0 (pa_cons (pv 10) pa_nil)) (pe_one (pe_chain op_le op_le pe_int (pv 10) pe_int))))
    (C8.pss_cut (ps_set (i := 4) screfused.nd rfl (Or.inl rfl) (pe_and (pe_call Gis_int (hr.mono (by omega)) (by rfl) dis_int.g dis_int.F.kp dis_int.b .nil pass0 (pa_cons (pv 8) pa_nil)) (pe_one (pe_chain op_le op_le pe_int (pv 8) (pe_op op_pow pe_int pe_int)))))
    (pss_cons (ps_set (i := 5) screfused.nd rfl (Or.inl rfl) (pe_lst (pa_cons (pe_lamcall (k := 7) (T := [(F.P, qRef)]) (TT := TTword K mg S) (t := fun E => tCall (spMostOff K S.R.C S.N.C) [] E (tCons (tVar 10) (tCons (tVar 8) tNil))) (by rfl) gW FW.kp lkW codeW bW scword rfl (Or.inl rfl) wg F.tb (hcdv.trans F.code) (List.mem_singleton.mpr rfl) huT (hr.mono (by omega)) (lamS_by (sc := defScope srefused) (by decide +kernel)) rfl (fun _ _ _ _ _ => rfl) (fun A2 outer2 s2 H2 E2 f2 c2 hr2 => by exact (pe_call GP_most_off (hr2.mono (by omega)) (by rfl) dP_most_off.g dP_most_off.F.kp dP_most_off.b .nil (passes_call (takes_of rfl rfl rfl rfl) (fun _ _ _ _ h => h)) (by exact (pa_cons (pv 10) (pa_cons (pv 8) pa_nil)))))) pa_nil)))
    (pss_cons (ps_expr (pe_bm PySem.F.plainAttrs_list PySem.F.slot_list_append PySem.F.type_list_append mt_append (pv 5) (pa_cons (pe_lamcall (k := 7) (T := [(F.P, qRef)]) (TT := TTword K mg S) (t := fun E => tCall (spWorst K S.R.C S.N.C) [] E (tCons (tVar 10) (tCons (tVar 8) tNil))) (by rfl) gW FW.kp lkW codeW bW scword rfl (Or.inl rfl) wg F.tb (hcdv.trans F.code) (List.mem_singleton.mpr rfl) huT (hr.mono (by omega)) (lamS_by (sc := defScope srefused) (by decide +kernel)) rfl (fun _ _ _ _ _ => rfl) (fun A2 outer2 s2 H2 E2 f2 c2 hr2 => by exact (pe_call GP_worst (hr2.mono (by omega)) (by rfl) dP_worst.g dP_worst.F.kp dP_worst.b .nil (passes_call (takes_of rfl rfl rfl rfl) (fun _ _ _ _ h => h)) (by exact (pa_cons (pv 10) (pa_cons (pv 8) pa_nil)))))) pa_nil)))
    (C8.pss_cut (ps_set (i := 6) screfused.nd rfl (Or.inl rfl) (pe_ifExp (PW.pt (pw_or (pt_not (pt_val (pe_call Gis_int (hr.mono (by omega)) (by rfl) dis_int.g dis_int.F.kp dis_int.b .nil pass0 (pa_cons (pv 8) pa_nil)))) (pw_or1 (pt_not (pt_chain op_le op_le pe_int (pv 8) pe_int))))) pe_str pe_str))
    (pss_cons (ps_if (pt_cmpR (op_neD hr.units) (pv 5) (pe_lst (pa_cons (pe_ifExp (pt_not (pt_val (pv 3))) pe_str (pe_ifExp (pt_val (pv 4)) pe_str pe_str)) (pa_cons (pe_ifExp (pt_val (pv 3)) (pv 6) pe_str) pa_nil))) (nomark _))
      (pss_one (ps_ret pe_bl))
      pss_nil)
    (pss_cons (ps_if (pt_cmpR op_ne (pe_lamcall (k := 7) (T := [(F.P, qRef)]) (TT := TTword K mg S) (t := fun E => tCall (spRoomFor K S.N.C) [] E (tCons (tVar 8) (tCons (tC (.int 3)) tNil))) (by rfl) gW FW.kp lkW codeW bW scword rfl (Or.inl rfl) wg F.tb (hcdv.trans F.code) (List.mem_singleton.mpr rfl) huT (hr.mono (by omega)) (lamS_by (sc := defScope srefused) (by decide +kernel)) rfl (fun _ _ _ _ _ => rfl) (fun A2 outer2 s2 H2 E2 f2 c2 hr2 => by exact (pe_call GP_room_for (hr2.mono (by omega)) (by rfl) dP_room_for.g dP_room_for.F.kp dP_room_for.b .nil (passes_call (takes_of rfl rfl rfl rfl) (fun _ _ _ _ h => h)) (by exact (pa_cons (pv 8) (pa_cons pe_int pa_nil)))))) (pe_ifExp (pt_val (pv 4)) pe_str pe_str) (nomark _))
      (pss_one (ps_ret pe_bl))
      pss_nil)
    (pss_cons (ps_if (pt_cmpR op_ne (pe_lamcall (k := 7) (T := [(F.P, qRef)]) (TT := TTword K mg S) (t := fun E => tCall (spRoomFor K S.N.C) [] E (tCons (tC (.int 3)) (tCons (tVar 8) tNil))) (by rfl) gW FW.kp lkW codeW bW scword rfl (Or.inl rfl) wg F.tb (hcdv.trans F.code) (List.mem_singleton.mpr rfl) huT (hr.mono (by omega)) (lamS_by (sc := defScope srefused) (by decide +kernel)) rfl (fun _ _ _ _ _ => rfl) (fun A2 outer2 s2 H2 E2 f2 c2 hr2 => by exact (pe_call GP_room_for (hr2.mono (by omega)) (by rfl) dP_room_for.g dP_room_for.F.kp dP_room_for.b .nil (passes_call (takes_of rfl rfl rfl rfl) (fun _ _ _ _ h => h)) (by exact (pa_cons pe_int (pa_cons (pv 8) pa_nil)))))) (pe_ifExp (pt_val (pv 4)) pe_str pe_str) (nomark _))
      (pss_one (ps_ret pe_bl))
      pss_nil)
    (C8.pss_cut (ps_set (i := 7) screfused.nd rfl (Or.inl rfl) (pe_and (pe_callB call_isi (by rfl) T.n_isinstance (by decide +kernel) (pa_cons (pv 9) (pa_cons (pe_bltn (v := .ty "tuple") (by rfl) T.n_tuple (by decide +kernel) rfl) pa_nil))) (pe_and (pe_cmpR (op_neT0 (K := K) rfl hr.units) (pv 9) (pe_tup pa_nil) (nomark _)) (pe_one (pe_cmpR (opR_or op_in_seq (op_inO (K := K) rfl hr.units)) (pe_ix ix_tup (pv 9) pe_int (fun _ _ => rfl)) (pe_tup (pa_cons pe_str (pa_cons pe_str (pa_cons pe_str pa_nil)))) rfl)))))
    (C8.pss_cut (ps_set (i := 6) screfused.nd rfl (Or.inl rfl) (pe_ifExp (pt_not (pt_val (pv 3))) pe_str (pe_ifExp (pt_not (pt_val (pv 4))) pe_str (pe_ifExp (pt_val (pv 7)) pe_str pe_str))))
    (pss_one (ps_ret (pe_cmpR op_eq (pe_lamcall (k := 7) (T := [(F.P, qRef)]) (TT := TTword K mg S) (t := fun E => tCall (spWidest K S.R.C S.N.C S.J.C) [] E (tCons (tVar 10) (tCons (tVar 8) (tCons (tVar 9) tNil)))) (by rfl) gW FW.kp lkW codeW bW scword rfl (Or.inl rfl) wg F.tb (hcdv.trans F.code) (List.mem_singleton.mpr rfl) huT (hr.mono (by omega)) (lamS_by (sc := defScope srefused) (by decide +kernel)) rfl (fun _ _ _ _ _ => rfl) (fun A2 outer2 s2 H2 E2 f2 c2 hr2 => by exact (pe_call GP_widest (hr2.mono (by omega)) (by rfl) dP_widest.g dP_widest.F.kp dP_widest.b .nil (passes_call (takes_of rfl rfl rfl rfl) (fun _ _ _ _ h => h)) (by exact (pa_cons (pv 10) (pa_cons (pv 8) (pa_cons (pv 9) pa_nil))))))) (pv 6) (nomark _))))))))))))))))))), ?_⟩
    have Ts0 : Tabs [(F.P, qRef)] H := fun p hp => by rw [List.mem_singleton.mp hp]; exact T0
    -- a deep thing, a room
    refine ⟨.ref a, rfl, a, c, rfl, w0, fun H1 dv x1 w1 hd1 => ?_⟩
    refine ⟨.ref a, rfl, dv, rfl, (by show 8 ≤ sizeLine; decide), fun L1 nL1 => ?_⟩
    have s1 := same_upd (o := .lst [.int 1, .int 64, .int 0, .int 65, .bl true, .non, .str (Str.ofString "2"), dv]) nL1
    have hL1 : (upd H1 L1 (.lst [.int 1, .int 64, .int 0, .int 65, .bl true, .non, .str (Str.ofString "2"), dv])) L1 = some (.lst [.int 1, .int 64, .int 0, .int 65, .bl true, .non, .str (Str.ofString "2"), dv]) := upd_same
    have La1 := w1.ne2 nL1
    refine ⟨a, c, L1, _, rfl, w1.same s1, La1.1, hL1, (by show 0 < 8; decide), (by show 8 ≤ 100000; decide), fun H2 vr x2 w2 hvr => ?_⟩
    have x12 : Exw a H1 H2 := (Same.exw s1).trans x2
    have hd2 := hd1.kp (Exw.kp x12 w1 w2)
    obtain ⟨nr, hnr2⟩ : ∃ nr, NvAt K H2 vr nr := by
      simp only [List.mem_cons, List.not_mem_nil, or_false] at hvr
      rcases hvr with rfl | rfl | rfl | rfl | rfl | rfl | rfl | rfl
      · exact ⟨some 1, rfl⟩
      · exact ⟨some 64, rfl⟩
      · exact ⟨some 0, rfl⟩
      · exact ⟨some 65, rfl⟩
      · exact ⟨none, .inl ⟨_, rfl⟩⟩
      · exact ⟨none, .inr (.inl rfl)⟩
      · exact ⟨none, .inr (.inr (.inl ⟨_, rfl⟩))⟩
      · exact ⟨none, hd2.rf.nv⟩
    have x02 := x1.trans x12
    clear hvr hL1 s1 x12 x1
    -- many
    refine ⟨.ref a, rfl, _, _, rfl, rfl, ⟨by decide, by decide, by decide⟩, _, _, rfl, rfl, ⟨by decide, by decide, by decide⟩, _, _, rfl, rfl, 1, rfl, dv, rfl, (by show 9 ≤ sizeLine; decide), fun L2 nL2 => ?_⟩
    refine ⟨a, c, L2, _, rfl, w2.same (same_upd nL2), (w2.ne2 nL2).1, upd_same, (by show 0 < 9; decide), (by show 9 ≤ 100000; decide), fun H3 vm x3 w3 hvm => ?_⟩
    have x23 : Exw a H2 H3 := (Same.exw (same_upd nL2)).trans x3
    have k23 : Kp K H2 H3 := Exw.kp x23 w2 w3
    have hd3 := hd2.kp k23
    have hnr3 := hnr2.kp k23
    obtain ⟨nm, hnm3⟩ : ∃ nm, NvAt K H3 vm nm := by
      simp only [List.mem_cons, List.not_mem_nil, or_false] at hvm
      rcases hvm with rfl | rfl | rfl | rfl | rfl | rfl | rfl | rfl | rfl
      · exact ⟨some _, rfl⟩
      · exact ⟨some _, rfl⟩
      · exact ⟨some _, rfl⟩
      · exact ⟨some _, rfl⟩
      · exact ⟨some _, rfl⟩
      · exact ⟨some _, rfl⟩
      · exact ⟨none, .inl ⟨_, rfl⟩⟩
      · exact ⟨none, .inr (.inl rfl)⟩
      · exact ⟨none, hd3.rf.nv⟩
    have x03 := x02.trans x23
    clear hvm x23 k23 hd2 hnr2 x02
    -- the questions
    refine ⟨(by show 2 ≤ sizeLine; decide), fun t1 n1 => ⟨(by show 2 ≤ sizeLine; decide), fun t2 n2 => ⟨(by show 2 ≤ sizeLine; decide), fun t3 n3 => ⟨(by show 3 ≤ sizeLine; decide), fun t4 n4 => ⟨(by show 1 ≤ sizeLine; decide), fun t5 n5 => ⟨(by show 2 ≤ sizeLine; decide), fun t6 n6 => ?_⟩⟩⟩⟩⟩⟩
    have q1 := same_upd (o := .tup [.str (Str.ofString "count"), .str (Str.ofString "a")]) n1
    have q2 := same_upd (o := .tup [.str (Str.ofString "a"), .str (Str.ofString "b")]) n2
    have q3 := same_upd (o := .tup [.str (Str.ofString "lot"), .ref t2]) n3
    have q4 := same_upd (o := .tup [.str (Str.ofString "apart"), .str (Str.ofString "a"), .str (Str.ofString "b")]) n4
    have q5 := same_upd (o := .tup [.str (Str.ofString "unlike")]) n5
    have q6 := same_upd (o := .tup [.str (Str.ofString "first"), .int 2]) n6
    have h1 := q6 _ _ (q5 _ _ (q4 _ _ (q3 _ _ (q2 _ _ (upd_same (H := H3) (a := t1) (o := .tup [.str (Str.ofString "count"), .str (Str.ofString "a")]))))))
    have h2 := q6 _ _ (q5 _ _ (q4 _ _ (q3 _ _ (upd_same (a := t2) (o := .tup [.str (Str.ofString "a"), .str (Str.ofString "b")])))))
    have h3 := q6 _ _ (q5 _ _ (q4 _ _ (upd_same (a := t3) (o := .tup [.str (Str.ofString "lot"), .ref t2]))))
    have h4 := q6 _ _ (q5 _ _ (upd_same (a := t4) (o := .tup [.str (Str.ofString "apart"), .str (Str.ofString "a"), .str (Str.ofString "b")])))
    have h5 := q6 _ _ (upd_same (a := t5) (o := .tup [.str (Str.ofString "unlike")]))
    have h6 := (upd_same (H := (upd (upd (upd (upd (upd H3 t1 (.tup [.str (Str.ofString "count"), .str (Str.ofString "a")])) t2 (.tup [.str (Str.ofString "a"), .str (Str.ofString "b")])) t3 (.tup [.str (Str.ofString "lot"), .ref t2])) t4 (.tup [.str (Str.ofString "apart"), .str (Str.ofString "a"), .str (Str.ofString "b")])) t5 (.tup [.str (Str.ofString "unlike")]))) (a := t6) (o := .tup [.str (Str.ofString "first"), .int 2]))
    have s34 : Same H3 _ := (((((Same.trans q1 q2).trans q3).trans q4).trans q5).trans q6)
    clear q1 q2 q3 q4 q5 q6
    generalize (upd (upd (upd (upd (upd (upd H3 t1 (.tup [.str (Str.ofString "count"), .str (Str.ofString "a")])) t2 (.tup [.str (Str.ofString "a"), .str (Str.ofString "b")])) t3 (.tup [.str (Str.ofString "lot"), .ref t2])) t4 (.tup [.str (Str.ofString "apart"), .str (Str.ofString "a"), .str (Str.ofString "b")])) t5 (.tup [.str (Str.ofString "unlike")])) t6 (.tup [.str (Str.ofString "first"), .int 2])) = H4 at h1 h2 h3 h4 h5 h6 s34 ⊢
    clear n1 n2 n3 n4 n5 n6
    have w4 := w3.same s34
    refine ⟨dv, rfl, (by show 7 ≤ sizeLine; decide), fun L3 nL3 => ?_⟩
    have s5 := same_upd (o := .lst [.ref t1, .ref t3, .ref t4, .ref t5, .ref t6, .non, dv]) nL3
    have hL3 : (upd H4 L3 (.lst [.ref t1, .ref t3, .ref t4, .ref t5, .ref t6, .non, dv])) L3 = some (.lst [.ref t1, .ref t3, .ref t4, .ref t5, .ref t6, .non, dv]) := upd_same
    have L3a := w4.ne2 nL3
    generalize upd H4 L3 (.lst [.ref t1, .ref t3, .ref t4, .ref t5, .ref t6, .non, dv]) = H5 at s5 hL3 ⊢
    refine ⟨.ref a, rfl, .ref L3, rfl, a, c, L3, _, rfl, w4.same s5, L3a.1, hL3, (by show 0 < 7; decide), (by show 7 ≤ 100000; decide), fun H6 vq x6 w6 hvq => ?_⟩
    have x36 : Exw a H3 H6 := (Same.exw (Same.trans s34 s5)).trans x6
    have k36 : Kp K H3 H6 := Exw.kp x36 w3 w6
    have k56 : Kp K H4 H6 := Exw.kp ((Same.exw s5).trans x6) w4 w6
    have hnr := hnr3.kp k36
    have hnm := hnm3.kp k36
    have hd6 := hd3.kp k36
    obtain ⟨qo, hqo⟩ : ∃ qo, QvAt K H6 vq qo := by
      simp only [List.mem_cons, List.not_mem_nil, or_false] at hvq
      have nb : Nm (Str.ofString "b") := nm_of (l := [98]) (by decide +kernel) (by decide) (by decide) fun c hc => by
        simp only [List.mem_cons, List.not_mem_nil, or_false] at hc
        omega
      have na : Nm (Str.ofString "a") := nm_of (l := [97]) (by decide +kernel) (by decide) (by decide) fun c hc => by
        simp only [List.mem_cons, List.not_mem_nil, or_false] at hc
        omega
      rcases hvq with rfl | rfl | rfl | rfl | rfl | rfl | rfl
      · exact ⟨some (.count (Str.ofString "a")), t1, rfl, k56.t _ _ (.inl (.inl h1)), fun y hy => (by rw [List.mem_singleton.mp hy]; exact na), (by show 1 ≤ 40; decide), (fun _ e => nomatch e), (fun _ _ e => nomatch e), (fun _ e => nomatch e)⟩
      · refine ⟨some (.lot [Str.ofString "a", Str.ofString "b"]), t3, rfl, ⟨t2, k56.t _ _ (.inl (.inl h3)), k56.t _ _ (.inl (.inl h2))⟩, fun y hy => ?_, (by show 2 ≤ 40; decide), (fun ys e => by cases e; decide +kernel), (fun _ _ e => nomatch e), (fun _ e => nomatch e)⟩
        rcases List.mem_cons.mp hy with rfl | hy
        · exact na
        · rw [List.mem_singleton.mp hy]
          exact nb
      · refine ⟨some (.apart (Str.ofString "a") (Str.ofString "b")), t4, rfl, k56.t _ _ (.inl (.inl h4)), fun y hy => ?_, (by show 2 ≤ 40; decide), (fun _ e => nomatch e), (fun y z e => by cases e; decide +kernel), (fun _ e => nomatch e)⟩
        rcases List.mem_cons.mp hy with rfl | hy
        · exact na
        · rw [List.mem_singleton.mp hy]
          exact nb
      · exact ⟨some .unlike, t5, rfl, k56.t _ _ (.inl (.inl h5)), (fun _ h => nomatch h), Nat.zero_le _, (fun _ e => nomatch e), (fun _ _ e => nomatch e), fun i e => nomatch e⟩
      · exact ⟨some (.first 2), t6, rfl, k56.t _ _ (.inl (.inl h6)), (fun _ h => nomatch h), Nat.zero_le _, (fun _ e => nomatch e), (fun _ _ e => nomatch e), fun i e => (by cases e; exact ⟨by decide, by decide⟩)⟩
      · exact ⟨none, .inl rfl⟩
      · exact ⟨none, .inr hd6⟩
    have T6 := tabs_exw Ts0 (x03.trans x36) w0
    clear hvq h1 h2 h3 h4 h5 h6 s34 s5 hL3 x36 k36 k56 hnr3 hnm3 hd3 x03 w4 x6 x3 x2
    -- rooms, numbers
    refine ⟨fun σ H' => σ = [some (.ref a), some dv, some (.ref L3), some (.bl (isRB nr)), none, none, none, none, some vm, some vq, some vr] ∧ H' = H6, ?_, ?_⟩
    · refine ⟨vr, rfl, vr, nr, rfl, hnr, ?_⟩
      cases nr with
      | none => exact ⟨false, rfl, iteF ⟨rfl, rfl⟩⟩
      | some i =>
        obtain rfl : vr = .int i := hnr
        refine ⟨true, rfl, iteT ⟨.int i, rfl, _, _, rfl, rfl, decide (1 ≤ i), rfl, ite2 (fun e => ⟨_, _, rfl, rfl, ?_⟩) (fun e => ?_)⟩⟩
        · have e' : isRB (some i) = decide (i ≤ 64) := by
            show (decide (1 ≤ i) && decide (i ≤ 64)) = _
            rw [e, Bool.true_and]
          exact ⟨by rw [e']; rfl, rfl⟩
        · have e' : isRB (some i) = false := by
            show (decide (1 ≤ i) && decide (i ≤ 64)) = _
            rw [show decide (1 ≤ i) = false by simpa using e, Bool.false_and]
          exact ⟨by rw [e']; rfl, rfl⟩
    rintro σ H' ⟨rfl, rfl⟩
    refine ⟨fun σ H'' => σ = [some (.ref a), some dv, some (.ref L3), some (.bl (isRB nr)), some (.bl (isMB nm)), none, none, none, some vm, some vq, some vr] ∧ H'' = H', ?_, ?_⟩
    · refine ⟨vm, rfl, vm, nm, rfl, hnm, ?_⟩
      cases nm with
      | none => exact ⟨false, rfl, iteF ⟨rfl, rfl⟩⟩
      | some i =>
        obtain rfl : vm = .int i := hnm
        have ep : ((10 : Int) ^ (12 : Int).toNat) = 1000000000000 := by decide
        refine ⟨true, rfl, iteT ⟨.int i, rfl, _, _, rfl, rfl, decide (0 ≤ i), rfl, ite2 (fun e => ⟨_, _, rfl, rfl, ⟨by decide, by decide, by decide⟩, _, _, rfl, rfl, ?_⟩) (fun e => ?_)⟩⟩
        · have e' : isMB (some i) = decide (i ≤ (10 : Int) ^ (12 : Int).toNat) := by
            show (decide (0 ≤ i) && decide (i ≤ 1000000000000)) = _
            rw [e, Bool.true_and, ep]
          exact ⟨by rw [e']; rfl, rfl⟩
        · have e' : isMB (some i) = false := by
            show (decide (0 ≤ i) && decide (i ≤ 1000000000000)) = _
            rw [show decide (0 ≤ i) = false by simpa using e, Bool.false_and]
          exact ⟨by rw [e']; rfl, rfl⟩
    rintro σ H6 ⟨rfl, rfl⟩
    -- two words
    refine rd_most (S := S) rfl rfl hnr hnm T6 fun H7 x7 T7 => ⟨(by show 1 ≤ sizeLine; decide), fun D nD => ?_⟩
    have s8 := same_upd (o := .lst [.str (wMost nr nm)]) nD
    have hD8 : (upd H7 D (.lst [.str (wMost nr nm)])) D = some (.lst [.str (wMost nr nm)]) := upd_same
    have T8 := T7.ext s8
    have x8 := ext_same x7 s8
    generalize upd H7 D (.lst [.str (wMost nr nm)]) = H8 at s8 hD8 T8 x8 ⊢
    have k8 := ExtN.kp (K := K) x8
    have hnr8 := hnr.kp k8
    have hnm8 := hnm.kp k8
    have hq8 := hqo.kp k8
    clear T7 x7 s8 nD hnr hnm hqo T6
    refine ⟨.ref D, rfl, .inl ⟨rfl, _, sql hD8⟩, rd_worst (S := S) rfl rfl hnr8 hnm8 T8 fun H9 x9 T9 => ?_⟩
    have hD9 := x9 _ _ hD8 (by intro _ z; cases z)
    refine ⟨D, _, .str (wWorst nr nm), rfl, rfl, hD9, (by show 1 < sizeLine; decide), ?_⟩
    have k9 := (ExtN.kp (K := K) x9)
    have kD := kp_putL (K := K) (ys := [.str (wMost nr nm)] ++ [.str (wWorst nr nm)]) hD9
    have TA := tabs_putL (ys := [.str (wMost nr nm)] ++ [.str (wWorst nr nm)]) hD9 T9
    have hnrA := (hnr8.kp k9).kp kD
    have hnmA := (hnm8.kp k9).kp kD
    have hqA := (hq8.kp k9).kp kD
    have hDA : (upd H9 D (.lst ([.str (wMost nr nm)] ++ [.str (wWorst nr nm)]))) D = some (.lst [.str (wMost nr nm), .str (wWorst nr nm)]) := upd_same
    generalize upd H9 D (.lst ([.str (wMost nr nm)] ++ [.str (wWorst nr nm)])) = HA at TA hnrA hnmA hqA hDA ⊢
    clear k9 kD T9 hD9 x9 hnr8 hnm8 hq8 T8 hD8 k8 x8
    refine ⟨fun σ H' => σ = [some (.ref a), some dv, some (.ref L3), some (.bl (isRB nr)), some (.bl (isMB nm)), some (.ref D), some (.str (if isLB nm = true then Str.ofString "let" else Str.ofString "number")), none, some vm, some vq, some vr] ∧ H' = HA, ?_, ?_⟩
    · refine ⟨vm, rfl, vm, nm, rfl, hnmA, nm.isSome, rfl, ?_⟩
      cases nm with
      | none => exact iteT (iteT ⟨rfl, rfl⟩)
      | some i =>
        obtain rfl : vm = .int i := hnmA
        refine iteF ⟨.int i, rfl, _, _, rfl, rfl, decide (0 ≤ i), rfl, ite2 (fun e => ⟨_, _, rfl, rfl, decide (i ≤ 2000), rfl, ?_⟩) (fun e => ?_)⟩
        · have e' : isLB (some i) = decide (i ≤ 2000) := by
            show (decide (0 ≤ i) && decide (i ≤ 2000)) = _
            rw [e, Bool.true_and]
          rw [e']
          cases decide (i ≤ 2000) with
          | true => exact iteF ⟨rfl, rfl⟩
          | false => exact iteT ⟨rfl, rfl⟩
        · have e' : isLB (some i) = false := by
            show (decide (0 ≤ i) && decide (i ≤ 2000)) = _
            rw [show decide (0 ≤ i) = false by simpa using e, Bool.false_and]
          rw [e']
          exact ⟨false, congrArg V.bl (by simpa using e), iteT ⟨rfl, rfl⟩⟩
    rintro σ H' ⟨rfl, rfl⟩
    refine ⟨.ref D, rfl, rd_d1 (b3 := isRB nr) (b4 := isMB nm) rfl rfl (rd_d2 (b3 := isRB nr) rfl rfl ⟨(by show 2 ≤ sizeLine; decide), fun G nG => ?_⟩)⟩
    have sB := same_upd (o := .lst [.str (wMost nr nm), .str (wWorst nr nm)]) nG
    refine ⟨.list [.str (wMost nr nm), .str (wWorst nr nm)], .list [.str (wMost nr nm), .str (wWorst nr nm)], ?_, ?_, sh_words _ (most_in nr nm) _ (worst_in nr nm), sh_words _ (most_in nr nm) _ (worst_in nr nm), _, rfl, ?_⟩
    · exact .lst (.inl (.inl (sB _ _ hDA))) (.cons (.str _) (.cons (.str _) .nil))
    · exact .lst (.inl (.inl upd_same)) (.cons (.str _) (.cons (.str _) .nil))
    rw [eqv_two]
    refine iteF ?_
    have kB := Same.kp (K := K) sB
    have TB := TA.ext sB
    have hnrB := hnrA.kp kB
    have hnmB := hnmA.kp kB
    have hqB := hqA.kp kB
    clear kB TA hnrA hnmA hqA hDA
    refine rd_for1 (S := S) rfl hnmB TB fun HC xC TC => rd_d3 (b4 := isMB nm) rfl ⟨rfl, false, congrArg (fun b => V.bl (!b)) (decide_eq_true rfl), iteF ?_⟩
    have kC := ExtN.kp (K := K) xC
    have hnrC := hnrB.kp kC
    have hnmC := hnmB.kp kC
    have hqC := hqB.kp kC
    clear kC TB hnrB hnmB hqB xC
    refine rd_for2 (S := S) rfl hnmC TC fun HD xD TD => rd_d3 (b4 := isMB nm) rfl ⟨rfl, false, congrArg (fun b => V.bl (!b)) (decide_eq_true rfl), iteF ?_⟩
    have kD := ExtN.kp (K := K) xD
    have hnrD := hnrC.kp kD
    have hnmD := hnmC.kp kD
    have hqD := hqC.kp kD
    clear kD TC hnrC hnmC hqC xD
    -- is it plain
    refine ⟨fun σ H' => σ = [some (.ref a), some dv, some (.ref L3), some (.bl (isRB nr)), some (.bl (isMB nm)), some (.ref D), some (.str (if isLB nm = true then Str.ofString "let" else Str.ofString "number")), some (.bl (nmB qo)), some vm, some vq, some vr] ∧ Same HD H', ?_, ?_⟩
    · cases qo with
      | some x =>
        obtain ⟨qa, rfl, hq, hx⟩ := hqD
        obtain ⟨xs, h⟩ := hq.word
        refine ⟨.ref qa, rfl, .ref qa, _, _, _, true, rfl, .ty "tuple", tyT h, kit_ty (by decide +kernel), true, rfl, iteT ?_⟩
        refine ⟨.ref qa, rfl, (by show 0 ≤ sizeLine; decide), fun t0 n0 => ⟨qa, t0, _, rfl, rfl, seqT h (same_upd n0), .inl (.inl upd_same), true, congrArg (fun b => V.bl (!b)) (decide_eq_false (by simp)), iteT ?_⟩⟩
        have z0 := same_upd (o := .tup []) n0
        generalize upd HD t0 (.tup []) = HE at z0 ⊢
        refine ⟨.ref qa, rfl, qa, _, _, _, rfl, rfl, seqT h z0, atI_nat (j := 0) rfl, (by show 3 ≤ sizeLine; decide), fun t1 n1 => .inl ⟨t1, _, rfl, .inr (.inl (.inl upd_same)), rfl, rfl, ?_⟩⟩
        have z1 := same_upd (o := .tup [.str (Str.ofString "count"), .str (Str.ofString "lot"), .str (Str.ofString "apart")]) n1
        have ei : inV (.str x.word) [.str (Str.ofString "count"), .str (Str.ofString "lot"), .str (Str.ofString "apart")] = nmB (some x) := by
          cases x with
          | count z => show inV (.str (Str.ofString "count")) _ = true; decide +kernel
          | lot zs => show inV (.str (Str.ofString "lot")) _ = true; decide +kernel
          | apart y z => show inV (.str (Str.ofString "apart")) _ = true; decide +kernel
          | place z => show inV (.str (Str.ofString "place")) _ = false; decide +kernel
          | first j => show inV (.str (Str.ofString "first")) _ = false; decide +kernel
          | unlike => show inV (.str (Str.ofString "unlike")) _ = false; decide +kernel
          | squares => show inV (.str (Str.ofString "squares")) _ = false; decide +kernel
        exact ⟨by rw [← ei]; rfl, Same.trans z0 z1⟩
      | none =>
        rcases hqD with rfl | ⟨qa, rfl, ⟨xs, h⟩ | ⟨x0, h, h2⟩ | ⟨k, h⟩⟩
        · exact ⟨.non, rfl, .non, _, _, _, false, rfl, .ty "tuple", .base .non, kit_ty (by decide +kernel), false, rfl, iteF ⟨rfl, Same.refl HD⟩⟩
        · exact ⟨.ref qa, rfl, .ref qa, _, _, _, false, rfl, .ty "tuple", tyL h, kit_ty (by decide +kernel), false, rfl, iteF ⟨rfl, Same.refl HD⟩⟩
        · refine ⟨.ref qa, rfl, .ref qa, _, _, _, true, rfl, .ty "tuple", tyT h, kit_ty (by decide +kernel), true, rfl, iteT ?_⟩
          refine ⟨.ref qa, rfl, (by show 0 ≤ sizeLine; decide), fun t0 n0 => ⟨qa, t0, _, rfl, rfl, seqT h (same_upd n0), .inl (.inl upd_same), true, congrArg (fun b => V.bl (!b)) (decide_eq_false (by simp)), iteT ?_⟩⟩
          have z0 := same_upd (o := .tup []) n0
          generalize upd HD t0 (.tup []) = HE at z0 ⊢
          obtain ⟨a0, rfl, h3⟩ := h2.kp (Same.kp (K := K) z0)
          refine ⟨.ref qa, rfl, qa, _, _, _, rfl, rfl, seqT h z0, atI_nat (j := 0) rfl, (by show 3 ≤ sizeLine; decide), fun t1 n1 => ?_⟩
          have z1 := same_upd (o := .tup [.str (Str.ofString "count"), .str (Str.ofString "lot"), .str (Str.ofString "apart")]) n1
          obtain ⟨a1, e1, h4⟩ := (RfO.kp (v := .ref a0) ⟨a0, rfl, h3⟩ (Same.kp (K := K) z1))
          cases e1
          exact .inr ⟨a0, t1, [Str.ofString "count", Str.ofString "lot", Str.ofString "apart"], rfl, rfl, h4, .inl (.inl upd_same), rfl, Same.trans z0 z1⟩
        · exact ⟨.ref qa, rfl, .ref qa, _, _, _, false, rfl, .ty "tuple", .base (.dK h), kit_ty (by decide +kernel), false, rfl, iteF ⟨rfl, Same.refl HD⟩⟩
    rintro σ HE ⟨rfl, sE⟩
    have kE := Same.kp (K := K) sE
    have TE' := TD.ext sE
    refine ⟨fun σ H' => σ = [some (.ref a), some dv, some (.ref L3), some (.bl (isRB nr)), some (.bl (isMB nm)), some (.ref D), some (.str (wWide nr nm qo)), some (.bl (nmB qo)), some vm, some vq, some vr] ∧ H' = HE, rd_d4 (b3 := isRB nr) (b4 := isMB nm) (b7 := nmB qo) rfl rfl rfl ⟨rfl, rfl⟩, ?_⟩
    rintro σ H' ⟨rfl, rfl⟩
    refine rd_wide (S := S) rfl rfl rfl (hnrD.kp kE) (hnmD.kp kE) (hqD.kp kE) TE' fun HF xF TF => ⟨_, rfl, rfl, ?_⟩
    rw [decide_eq_true rfl]
    exact q HF
end
end Kb

namespace Kb
open PySem PySem.Spec PyProof.Rows L2 SrtZ SrtO FlX LamX RZ
abbrev swidestL : Stmt := topS 60
abbrev NwidestL : List Str := ["_law_room", "_law_many", "_law_question", "_law_off", "_law_lost", "_law_left", "_law_kept"]
theorem scwidestL : FnScope ["_law_room", "_law_many", "_law_question", "_law_off", "_law_lost", "_law_left", "_law_kept"] ["_law_room", "_law_many", "_law_question"] (defScope swidestL) := ⟨rfl, rfl, rfl, by decide +kernel, rfl, by decide +kernel, by decide +kernel⟩
abbrev DnwidestL (K : PySem.W.Frag) (mg : Str → Option Value) := Dn K mg "_law_widest" swidestL ["_law_room", "_law_many", "_law_question"]

def kvW (left : Int) : Ct := if left > 0 then [(Str.ofString "zzz", left)] else []
theorem nmZZ : Nm (Str.ofString "zzz") := nm_of (l := [122, 122, 122]) (by decide +kernel) (by decide) (by decide) fun c hc => by
  simp only [List.mem_cons, List.not_mem_nil, or_false] at hc
  omega
theorem kvW_ok {left r : Int} (hr : 1 ≤ r) (h : 0 ≤ left) : TlOk r ⟨m, o, kvW left⟩ ∧ srtZ (kvW left) = kvW left ∧ sumC (kvW left) = left ∧ Cts (kvW left) ∧ ((kvW left).length : Int) ≤ 1 := by
  unfold kvW
  by_cases hl : left > 0
  · rw [if_pos hl]
    exact ⟨⟨List.pairwise_singleton _ _, by show ((1 : Nat) : Int) ≤ r; omega, fun e he => (by rw [List.mem_singleton.mp he]; show 1 ≤ left; omega), fun e he => (by rw [List.mem_singleton.mp he]; exact nmZZ)⟩, srtZ_self (List.pairwise_singleton _ _) (List.pairwise_singleton _ _), (by show left + 0 = left; omega), ⟨fun e he => (by rw [List.mem_singleton.mp he]; exact nmZZ), fun e he => (by rw [List.mem_singleton.mp he]; show 1 ≤ left; omega), List.pairwise_singleton _ _⟩, by show ((1 : Nat) : Int) ≤ 1; decide⟩
  · rw [if_neg hl]
    exact ⟨⟨List.nodup_nil, by show (0 : Int) ≤ r; omega, (fun _ h => nomatch h), (fun _ h => nomatch h)⟩, srtZ_self .nil List.nodup_nil, (by show (0 : Int) = left; omega), ⟨(fun _ h => nomatch h), (fun _ h => nomatch h), .nil⟩, by show (0 : Int) ≤ 1; decide⟩
section
variable {P : Program} {w : World} {K : PySem.W.Frag} {mg : Str → Option Value} {base : Heap}
def spWidestL : Sp := fun vs H Q _ => ∃ (r m : Int) (v : V), vs = [.int r, .int m, v] ∧ 1 ≤ r ∧ r ≤ 64 ∧ 0 ≤ m ∧ m ≤ 2000 ∧ ∀ H' s x, Same H H' → SkAt H' s r x → TlOk r x → SkG r x.m x.o (srtZ x.c) → x.o = m / (r + 1) → x.m = m → x.m - sumC (srtZ x.c) = mn2 (2 * r * (m / (r + 1))) m → Q (.ref s) H'
theorem ok_widestL (T : Blt mg) (d : DnwidestL K mg) : FnOk P w K mg base CX0 1 d.f d.fd ["_law_room", "_law_many", "_law_question"] spWidestL := by
  refine d.F.ok scwidestL (fun vs H Q E h => ?_) (fun cdv A outer s H vs Q E hr h => ?_)
  · obtain ⟨r, m, v, rfl, _⟩ := h
    rfl
  · obtain ⟨r, m, v, rfl, r1, r2, m1, m2, q⟩ := h
    refine ⟨_, (pss_cons (ps_set (i := 3) scwidestL.nd rfl (Or.inl rfl) (pe_op op_fdiv (pv 1) (pe_op op_add (pv 0) pe_int)))
    (pss_cons (ps_set (i := 4) scwidestL.nd rfl (Or.inl rfl) (pe_callB (call_min2 rfl) (by rfl) T.n_min (by decide +kernel) (pa_cons (pe_op op_mul (pe_op op_mul pe_int (pv 0)) (pv 3)) (pa_cons (pv 1) pa_nil))))
    (pss_cons (ps_set (i := 5) scwidestL.nd rfl (Or.inl rfl) (pe_op op_sub (pv 1) (pv 4)))
    (C8.pss_cut (ps_set (i := 6) scwidestL.nd rfl (Or.inl rfl) (pe_ifExp (pt_cmpR op_gt (pv 5) pe_int (nomark _)) (pe_tupF (pa_cons (pe_tup (pa_cons pe_str (pa_cons (pv 5) pa_nil))) pa_nil)) (pe_tupF pa_nil)))
    (pss_one (ps_ret (pe_tup (pa_cons (pv 0) (pa_cons (pv 1) (pa_cons (pv 3) (pa_cons (pv 6) pa_nil))))))))))), ?_⟩
    have o0 : 0 ≤ m / (r + 1) := Int.ediv_nonneg m1 (by omega)
    have oq : (r + 1) * (m / (r + 1)) ≤ m := by
      have := Int.mul_ediv_self_le (x := m) (k := r + 1) (by omega)
      exact this
    have hl : m / (r + 1) ≤ m := by
      have : 1 * (m / (r + 1)) ≤ (r + 1) * (m / (r + 1)) := Int.mul_le_mul_of_nonneg_right (by omega) o0
      omega
    refine ⟨.int m, rfl, .int r, rfl, _, _, rfl, rfl, _, _, rfl, rfl, ⟨by omega, by omega⟩, ?_⟩
    show gName 3 (V.int (m / (r + 1))) _ _ _
    generalize hoo : m / (r + 1) = o at o0 oq hl q ⊢
    refine ⟨.int r, rfl, _, _, rfl, rfl, cmulL (by decide) (by decide), .int o, rfl, _, _, rfl, rfl, cmulR o0 (by omega), .int m, rfl, _, _, rfl, ?_⟩
    show gName 4 (.int (mn2 (2 * r * o) m)) _ _ _
    have b1 : (r + 1) * o ≤ 2 * r * o := Int.mul_le_mul_of_nonneg_right (by omega) o0
    have l1 : (r + 1) * o ≤ mn2 (2 * r * o) m ∧ mn2 (2 * r * o) m ≤ m ∧ mn2 (2 * r * o) m ≤ 2 * r * o := by
      unfold mn2
      split <;> omega
    generalize hlost : mn2 (2 * r * o) m = lost at q l1 ⊢
    refine ⟨.int m, rfl, .int lost, rfl, _, _, rfl, rfl, ?_⟩
    refine ⟨fun σ H' => ∃ (k : Addr) (ts : List Addr), σ = [some (.int r), some (.int m), some v, some (.int o), some (.int lost), some (.int (m - lost)), some (.ref k)] ∧ Same H H' ∧ Ptp H' k (ts.map V.ref) ∧ Paired (PrT H') ts (kvW (m - lost)), ?_, ?_⟩
    · refine ⟨.int (m - lost), rfl, _, _, rfl, rfl, decide (m - lost > 0), rfl, ?_⟩
      by_cases hp : m - lost > 0
      · rw [decide_eq_true hp]
        refine iteT ⟨.int (m - lost), rfl, (by show 2 ≤ sizeLine; decide), fun t nt => ⟨(by show 1 ≤ sizeLine; decide), fun k ob nk ho => ⟨k, [t], rfl, Same.new (same_upd nt) nk, ⟨ob, upd_same, ho⟩, ?_⟩⟩⟩
        unfold kvW
        rw [if_pos hp]
        exact .cons (same_upd nk _ _ upd_same) .nil
      · rw [decide_eq_false hp]
        refine iteF ⟨(by show 0 ≤ sizeLine; decide), fun k ob nk ho => ⟨k, [], rfl, same_upd nk, ⟨ob, upd_same, ho⟩, ?_⟩⟩
        unfold kvW
        rw [if_neg hp]
        exact .nil
    rintro σ H1 ⟨k, ts, rfl, s1, hk, hp⟩
    refine ⟨.int r, rfl, .int m, rfl, .int o, rfl, .ref k, rfl, (by show 4 ≤ sizeLine; decide), fun s ns => ?_⟩
    have s2 := same_upd (o := .tup [.int r, .int m, .int o, .ref k]) ns
    obtain ⟨ok, es, su, ct, ln⟩ := kvW_ok (m := m) (o := o) (r := r) (left := m - lost) r1 (by omega)
    refine q _ s ⟨m, o, kvW (m - lost)⟩ (Same.trans s1 s2) ⟨k, ts, upd_same, hk.same s2, ?_⟩ ok ?_ rfl rfl ?_
    · show Paired _ ts (srtZ (kvW (m - lost)))
      rw [es]
      exact prt_same hp s2
    · show SkG r m o (srtZ (kvW (m - lost)))
      rw [es]
      exact ⟨r1, r2, m1, o0, ct, by omega, by rw [su]; omega, by rw [su]; omega, by
        have : (2000 : Int) < 2 ^ 100 := by decide
        omega⟩
    · show m - sumC (srtZ (kvW (m - lost))) = _
      rw [es, su]
      omega
end
end Kb

namespace Kb
open PySem PySem.Spec PyProof.Rows L2 SrtZ SrtO FlX LamX RZ
abbrev slaw : Stmt := topS 62
abbrev Nlaw : List Str := ["_law_script", "_law_hand_here", "_law_turn", "_law_room", "_law_many", "_law_stream", "_law_sketch_here", "_law_great", "_law_total", "_law_off", "_law_least", "_law_lot", "_law_question", "_law_due", "_law_best", "_law_low", "_law_high", "_law_drawn", "_law_name"]
theorem sclaw : FnScope ["_law_script", "_law_hand_here", "_law_turn", "_law_room", "_law_many", "_law_stream", "_law_sketch_here", "_law_great", "_law_total", "_law_off", "_law_least", "_law_lot", "_law_question", "_law_due", "_law_best", "_law_low", "_law_high", "_law_drawn", "_law_name"] ["_law_script"] (defScope slaw) := ⟨rfl, rfl, rfl, by decide +kernel, rfl, by decide +kernel, by decide +kernel⟩
abbrev Dnlaw (K : PySem.W.Frag) (mg : Str → Option Value) := Dn K mg "law" slaw ["_law_script"]

structure Defs (K : PySem.W.Frag) (mg : Str → Option Value) (base : Heap) where
  D : DefsE K mg base
  n_divmod : mg "divmod" = none
  cY : Cst mg "MOST_MANY" (.int 1000000000000)
  cG : Cst mg "LONGEST" (.int 2000)
  cLT : Cst mg "LETTERS" (.str "abcdefghijklmnopqrstuvwxyz")
  S : TxK K mg
  Rf : Ref K mg base
  ne : Rf.P ≠ D.F.P
  dP_name_at : DnNameAt K mg
  dP_least_names : DnLeastNames K mg
  dP_is_many : DnIsMany K mg
  dP_most_off : DnMostOff K mg
  dP_room_for : DnRoomFor K mg
  dP_in_rounds : DnInRounds K mg
  dP_worst : DnWorst K mg
  dP_widest : DnWidest K mg
  dhand : Dnhand K mg
  ddraw : Dndraw K mg
  dany : Dnany K mg
  dpool : Dnpool K mg
  dfed : Dnfed K mg
  dpoured : Dnpoured K mg
  dsketch : Dnsketch K mg
  dis_int : Dnis_int K mg
  dis_name : Dnis_name K mg
  ddeep : Dndeep K mg
  dword : Dnword K mg
  dwidest : DnwidestL K mg
/-- the hand and the two tables -/
structure LE (a c Pf Pr : Addr) (H : Hp) : Prop where
  w : Wl a c H
  tf : TabS H Pf qFall
  tr : TabS H Pr qRef
theorem tab_exw {a c P : Addr} {q : Str} {H H' : Hp} (T : TabS H P q) (x : Exw a H H') (w : Wl a c H) : TabS H' P q := by
  obtain ⟨ps, h1, h2, h3⟩ := T
  refine ⟨ps, x.at w h1 (by intro _ z; cases z), h2, fun pos cv hc => ?_⟩
  obtain ⟨c, e1, e2⟩ := h3 pos cv hc
  exact ⟨c, e1, x.at w e2 (by intro _ z; cases z)⟩
theorem LE.exw {a c Pf Pr : Addr} {H H' : Hp} (E : LE a c Pf Pr H) (x : Exw a H H') (w' : Wl a c H') : LE a c Pf Pr H' := ⟨w', tab_exw E.tf x E.w, tab_exw E.tr x E.w⟩
theorem LE.same {a c Pf Pr : Addr} {H H' : Hp} (E : LE a c Pf Pr H) (s : Same H H') : LE a c Pf Pr H' := E.exw (Same.exw s) (E.w.same s)
theorem LE.ext {a c Pf Pr : Addr} {H H' : Hp} (E : LE a c Pf Pr H) (ne : Pr ≠ Pf) (x : ExT Pf qFall H H') : LE a c Pf Pr H' := by
  obtain ⟨⟨n1, ns, i, u, s, t, e1, e2, r⟩, tf, ps, h1, h2, h3⟩ := E
  refine ⟨⟨n1, ns, i, u, s, t, x.at tf e1 (by intro _ z; cases z), x.at tf e2 (by intro _ z; cases z), r⟩, x.tab, ps, x.keep _ _ ne h1, h2, fun pos cv hc => ?_⟩
  obtain ⟨c', e1, e2⟩ := h3 pos cv hc
  exact ⟨c', e1, x.at tf e2 (by intro _ z; cases z)⟩
theorem skT_of {K : PySem.W.Frag} {H : Hp} {s : Addr} {r : Int} {x : Tl} (h : SkAt H s r x) : SkC K H s r x.m x.o (srtZ x.c) := SkC.of h
theorem nmA : Nm (Str.ofString "a") := nm_of (l := [97]) (by decide +kernel) (by decide) (by decide) fun c hc => by
  simp only [List.mem_cons, List.not_mem_nil, or_false] at hc
  omega
theorem nmB' : Nm (Str.ofString "b") := nm_of (l := [98]) (by decide +kernel) (by decide) (by decide) fun c hc => by
  simp only [List.mem_cons, List.not_mem_nil, or_false] at hc
  omega
theorem asc_strs : ∀ {ys : List Str}, Srtd ltZ ys → ys.Nodup → ys.Pairwise fun a b => ltZ a b = true
  | [], _, _ => .nil
  | y :: ys, h, nd => by
    have h' := List.pairwise_cons.mp h
    rw [List.nodup_cons] at nd
    refine .cons (fun b hb => ?_) (asc_strs h'.2 nd.2)
    cases hx : ltZ y b with
    | true => rfl
    | false => exact absurd (ltZ_tri hx (h'.1 b hb)) fun e => nd.1 (by rw [e]; exact hb)
theorem log_small {j : Int} (h : 0 ≤ j) (h2 : j < 4611686018427387904) : j.natAbs.log2 < 9000 := by
  by_cases h0 : j.natAbs = 0
  · rw [h0]; decide
  · have := (Nat.log2_lt (n := j.natAbs) (k := 62) h0).mpr (by omega)
    omega
theorem ptp_exw {a c p : Addr} {H H' : Hp} {xs : List V} (h : Ptp H p xs) (x : Exw a H H') (w : Wl a c H) : Ptp H' p xs := let ⟨o, e, d⟩ := h; ⟨o, x.at w e (by intro _ z; cases z), d⟩
theorem put_sk {R : Nat} (h1 : 1 ≤ R) (h2 : R ≤ 64) {zs : List Str} (hl : zs.length ≤ 2000) (hn : ∀ z ∈ zs, Nm z) : ∃ x, runL (R : Int) [.put zs] = [x] ∧ TlOk R x ∧ SkG R x.m x.o (srtZ x.c) ∧ x.m = (zs.length : Int) := by
  have hN : ∀ zs', .put zs' ∈ [Stp.put zs] → ∀ z ∈ zs', Nm z := fun zs' h z hz => by
    rw [List.mem_singleton] at h
    cases h
    exact hn z hz
  have hr : (1 : Int) ≤ R := by omega
  have rl : runL (R : Int) [.put zs] = [feedsT R zs tl0] := rfl
  have ok : TlOk R (feedsT R zs tl0) := runL_ok (l := [.put zs]) (st := []) hr hN (fun _ h => nomatch h) _ (by show _ ∈ runL (R : Int) [.put zs]; rw [rl]; exact List.mem_cons_self)
  obtain ⟨gs, pp, bd, sm, mm⟩ := runL_true hr (l := [.put zs]) (st := []) (fs := []) (kc := []) (m := 0) hN (fun _ h => nomatch h) .nil (fun k => rfl) rfl
  have bx := bd (feedsT R zs tl0) List.mem_cons_self
  have mx : (feedsT R zs tl0).m = (zs.length : Int) := by
    have h : (feedsT R zs tl0).m + 0 = [Stp.put zs].foldl cS 0 := mm
    have h2 : [Stp.put zs].foldl cS 0 = 0 + (zs.length : Int) := rfl
    omega
  have sx : sumC (srtZ (feedsT R zs tl0).c) = sumC (feedsT R zs tl0).c := sumC_perm' (srtZ_perm _)
  refine ⟨_, rl, ok, ⟨hr, by omega, bx.many, bx.off, cts_of ok, by rw [(srtZ_perm _).length_eq]; exact ok.len, by rw [sx]; exact bx.low, by rw [sx]; exact bx.high, ?_⟩, mx⟩
  have : (2000 : Int) < 2 ^ 100 := by decide
  omega
theorem skAt_ext {Pf s : Addr} {H H' : Hp} {r : Int} {y : Tl} (h : SkAt H s r y) (T : TabS H Pf qFall) (x : ExT Pf qFall H H') : SkAt H' s r y := by
  obtain ⟨k, ts, h1, ⟨o, h2, d⟩, h3⟩ := h
  exact ⟨k, ts, x.at T h1 (by intro _ z; cases z), ⟨o, x.at T h2 (by intro _ z; cases z), d⟩, paired_imp (fun t y ht => x.at T ht (by intro _ z; cases z)) h3⟩
theorem qn_ext {K : PySem.W.Frag} {Pf qa : Addr} {H H' : Hp} {y : Qn} (h : QnAt K H qa y) (T : TabS H Pf qFall) (x : ExT Pf qFall H H') : QnAt K H' qa y := by
  cases y with
  | lot zs =>
    obtain ⟨t, h1, h2⟩ := h
    exact ⟨t, x.tup T h1, x.tup T h2⟩
  | _ => exact x.tup T h
theorem ptp_ext {Pf p : Addr} {H H' : Hp} {xs : List V} (h : Ptp H p xs) (T : TabS H Pf qFall) (x : ExT Pf qFall H H') : Ptp H' p xs := let ⟨o, e, d⟩ := h; ⟨o, x.at T e (by intro _ z; cases z), d⟩
theorem qn_exw {K : PySem.W.Frag} {a c qa : Addr} {H H' : Hp} {y : Qn} (h : QnAt K H qa y) (x : Exw a H H') (w : Wl a c H) : QnAt K H' qa y := by
  cases y with
  | lot zs =>
    obtain ⟨t, h1, h2⟩ := h
    exact ⟨t, sqT_exw h1 x w, sqT_exw h2 x w⟩
  | _ => exact sqT_exw h x w
/-- the least room for so much -/
theorem room_right {t o l : Int} (t0 : 0 ≤ t) (o0 : 0 ≤ o) (e : l = if t / (o + 1) > 1 then t / (o + 1) else 1) : ¬ (t / (l + 1) > o) ∧ ¬ (l < 1) ∧ (l > 1 → ¬ (t / l ≤ o)) := by
  have q0 : 0 ≤ t / (o + 1) := Int.ediv_nonneg t0 (by omega)
  have q1 : t < (t / (o + 1) + 1) * (o + 1) := Int.lt_ediv_add_one_mul_self t (by omega)
  have q2 : t / (o + 1) * (o + 1) ≤ t := Int.ediv_mul_le t (by omega)
  generalize t / (o + 1) = q at q0 q1 q2 e
  by_cases h : q > 1
  · rw [if_pos h] at e
    subst e
    refine ⟨fun h1 => ?_, by omega, fun h1 h2 => ?_⟩
    · have : o + 1 ≤ t / (l + 1) := by omega
      have := (Int.le_ediv_iff_mul_le (by omega)).mp this
      rw [Int.mul_comm] at this
      omega
    · have : o + 1 ≤ t / l := (Int.le_ediv_iff_mul_le (by omega)).mpr (by rw [Int.mul_comm]; exact q2)
      omega
  · rw [if_neg h] at e
    subst e
    refine ⟨fun h1 => ?_, by omega, fun h1 => absurd h1 (by decide)⟩
    have q3 : (q + 1) * (o + 1) ≤ 2 * (o + 1) := Int.mul_le_mul_of_nonneg_right (by omega) (by omega)
    have : o + 1 ≤ t / (1 + 1) := by omega
    have := (Int.le_ediv_iff_mul_le (by decide)).mp this
    omega
theorem rnd_len (ns : List Str) (n : Nat) : (rndL ns n).length = n := by unfold rndL; rw [List.length_map, List.length_range]
theorem rnd_nm {R M : Nat} (hR : R ≤ 64) : ∀ z ∈ rndL (leastL (R + 1)) M, Nm z := fun z hz => by
  obtain ⟨i, _, rfl⟩ := List.mem_map.mp hz
  have hl : (leastL (R + 1)).length = R + 1 := by unfold leastL; rw [List.length_map, List.length_range]
  have hi : i % (leastL (R + 1)).length < (leastL (R + 1)).length := Nat.mod_lt _ (by omega)
  rw [List.getD_eq_getElem?_getD, List.getElem?_eq_getElem hi]
  have hm := List.getElem_mem hi
  obtain ⟨k, hk, e⟩ := List.mem_map.mp hm
  show Nm (leastL (R + 1))[i % (leastL (R + 1)).length]
  rw [← e]
  exact nameF_nm (by have := List.mem_range.mp hk; omega)
theorem put_tree {zs : List Str} (h : zs.length ≤ 2000) : Tree [Stp.put zs] := by
  refine ⟨fun j e => ?_, rfl, ?_, by show 1 ≤ 5000; decide⟩
  · cases j with
    | zero => cases e
    | succ j => cases e
  · show (0 : Int) + (zs.length : Nat) ≤ 50000
    omega
def spLaw (K : PySem.W.Frag) (Pf Pr : Addr) : Sp := fun vs H Q _ => ∃ (a : Addr) (ns : List Int), vs = [.ref a] ∧ SqL K H a (ns.map V.int) ∧ ns.length ≤ 63 ∧ TabS H Pf qFall ∧ TabS H Pr qRef ∧ ∀ H', Q (.bl true) H'
section
variable {P : Program} {w : World} {K : PySem.W.Frag} {mg : Str → Option Value} {base : Heap}
theorem ok_law (F : Defs K mg base) (d : Dnlaw K mg) : FnOk P w K mg base CX0 12 d.f d.fd ["_law_script"] (spLaw K F.D.F.P F.Rf.P) := by
  obtain ⟨D, n_divmod, cY, cG, cLT, S, Rf, ne, dP_name_at, dP_least_names, dP_is_many, dP_most_off, dP_room_for, dP_in_rounds, dP_worst, dP_widest, dhand, ddraw, dany, dpool, dfed, dpoured, dsketch, dis_int, dis_name, ddeep, dword, dwidest⟩ := F
  dsimp only at ne ⊢
  have T := D.T
  have Ghand : FnOk P w K mg base CX0 1 dhand.f dhand.fd ["_law_script"] (spHand K) := ok_hand T dhand
  have Gdraw : FnOk P w K mg base CX0 1 ddraw.f ddraw.fd ["_law_hand_here", "_law_many"] spDrawW := ok_drawW T ddraw
  have Gany : FnOk P w K mg base CX0 2 dany.f dany.fd ["_law_hand_here", "_law_things"] spAny := ok_any T ddraw dany
  have Gpool : FnOk P w K mg base CX0 3 dpool.f dpool.fd ["_law_hand_here", "_law_many"] spPool := ok_pool T ddraw dany dpool
  have Gsketch : FnOk P w K mg base CX0 2 dsketch.f dsketch.fd ["_law_room", "_law_tree"] (spSketchL K) := ok_sketchL T dfed dpoured dsketch
  have Gis_name : FnOk P w K mg base CX0 1 dis_name.f dis_name.fd ["_law_thing"] spIsName := ok_is_nameL T dis_name
  have GwidestL : FnOk P w K mg base CX0 1 dwidest.f dwidest.fd ["_law_room", "_law_many", "_law_question"] spWidestL := ok_widestL T dwidest
  have GP_most_off : FnOk P w K mg base (L2.CX P w) 4 dP_most_off.f dP_most_off.fd ["room", "many"] (spMostOff K S.R.C S.N.C) := ok_most_off T S.R S.N D.cM cY D.dP_is_int D.dP_is_number D.dP_is_room dP_is_many dP_most_off
  have GP_room_for : FnOk P w K mg base (L2.CX P w) 4 dP_room_for.f dP_room_for.fd ["many", "most"] (spRoomFor K S.N.C) := ok_room_for T S.N cY D.dP_is_int D.dP_is_number dP_is_many dP_room_for
  have GP_worst : FnOk P w K mg base (L2.CX P w) 4 dP_worst.f dP_worst.fd ["room", "many"] (spWorst K S.R.C S.N.C) := ok_worst T S.R S.N D.cM cG cLT n_divmod dP_name_at dP_least_names D.dP_is_int D.dP_is_number D.dP_is_room dP_in_rounds dP_worst
  have GP_widest : FnOk P w K mg base (L2.CX P w) 5 dP_widest.f dP_widest.fd ["room", "many", "question"] (spWidest K S.R.C S.N.C S.J.C) := ok_widest T S.R S.N S.J D.cM cY D.cL D.cA D.n_zip D.dP_is_int D.dP_is_number D.dP_is_room D.dP_is_name D.dP_is_lot D.dP_is_question dP_is_many dP_most_off dP_widest
  have GP_ends : FnOk P w K mg base CX0 6 D.dP_ends.f D.dP_ends.fd ["sketch", "question"] (spEnds K D.F.P) := ok_ends D
  have GP_is_sketch : FnOk P w K mg base CX0 4 D.dP_is_sketch.f D.dP_is_sketch.fd ["thing"] (spIsSketch K) := ok_is_sketch T D.cM D.cL D.dP_is_int D.dP_is_number D.dP_is_room D.dP_is_name D.dP_is_counted D.dP_are_counts D.dP_lost_of D.dP_is_sketch
  have Grefused : FnOk P w K mg base CX0 10 Rf.d.f Rf.d.fd ["_law_hand_here"] (spRefused K Rf.P) := ok_refused T S Rf D.cM cY cG D.cL D.cA cLT D.n_zip n_divmod D.dP_is_int D.dP_is_number D.dP_is_room dP_name_at dP_least_names D.dP_is_name D.dP_is_lot D.dP_is_question dP_is_many dP_most_off dP_room_for dP_in_rounds dP_worst dP_widest ddraw dany dis_int ddeep dword
  refine d.F.ok sclaw (fun vs H Q X h => ?_) (fun cdv A outer s H vs Q X hr h => ?_)
  · obtain ⟨a, ns, rfl, _⟩ := h
    rfl
  · obtain ⟨sc, nsc, rfl, hSc, hscl, T0, T0', q⟩ := h
    have hu := hu_of hr
    refine ⟨_, (pss_cons (ps_set (i := 1) sclaw.nd rfl (Or.inl rfl) (pe_call Ghand (hr.mono (by omega)) (by rfl) dhand.g dhand.F.kp dhand.b .nil pass0 (pa_cons (pv 0) pa_nil)))
    (pss_cons (ps_for PassesOwn.never rfl (pi_range1 (by rfl) T.n_range (pa_cons pe_int pa_nil)) (pg_name (i := 2) sclaw.nd rfl (Or.inl rfl))
      (pss_cons (ps_set (i := 3) sclaw.nd rfl (Or.inl rfl) (pe_op op_add pe_int (pe_call Gdraw (hr.mono (by omega)) (by rfl) ddraw.g ddraw.F.kp ddraw.b .nil pass0 (pa_cons (pv 1) (pa_cons (pe_ifExp (pt_cmpR op_eq (pe_call Gdraw (hr.mono (by omega)) (by rfl) ddraw.g ddraw.F.kp ddraw.b .nil pass0 (pa_cons (pv 1) (pa_cons pe_int pa_nil))) pe_int (nomark _)) pe_int pe_int) pa_nil)))))
      (pss_cons (ps_set (i := 4) sclaw.nd rfl (Or.inl rfl) (pe_call Gdraw (hr.mono (by omega)) (by rfl) ddraw.g ddraw.F.kp ddraw.b .nil pass0 (pa_cons (pv 1) (pa_cons (pe_ix ix_list (pe_lst (pa_cons pe_int (pa_cons pe_int (pa_cons pe_int pa_nil)))) (pe_call Gdraw (hr.mono (by omega)) (by rfl) ddraw.g ddraw.F.kp ddraw.b .nil pass0 (pa_cons (pv 1) (pa_cons pe_int pa_nil))) (fun _ _ => rfl)) pa_nil))))
      (pss_cons (ps_set (i := 5) sclaw.nd rfl (Or.inl rfl) (pe_callS GP_worst (hr.mono (by omega)) rfl dP_worst.g dP_worst.F.kp dP_worst.b (fun σ => passAt L2.takes0 σ) (pa_cons (pv 3) (pa_cons (pv 4) pa_nil))))
      (pss_cons (ps_if (PW.pt (pw_or (pt_cmpR op_ne (pe_callB call_len_seq (by rfl) T.n_len (by decide +kernel) (pa_cons (pv 5) pa_nil)) (pv 4) (nomark _)) (pw_or1 (pt_not (pt_val (pe_callB (cr_all rfl) (by rfl) T.n_all (by decide +kernel) (pa_cons (pe_lc (own := [("_law_name", 18)]) (g := gName 18) (tt := tYes) rfl sclaw.nd (pi_tup (pv 5)) (blkOk_by (N := Nlaw) (sc := defScope slaw) (by decide +kernel)) (fun _ _ _ _ _ => pg_name (i := 18) sclaw.nd rfl (Or.inl rfl)) (fun _ _ _ _ _ => pts_nil) (fun _ _ _ _ _ => (pe_call Gis_name (hr.mono (by omega)) (by rfl) dis_name.g dis_name.F.kp dis_name.b .nil pass0 (pa_cons (pv 18) pa_nil)))) pa_nil)))))))
        (pss_one (ps_ret pe_bl))
        pss_nil)
      (pss_cons (ps_set (i := 6) sclaw.nd rfl (Or.inl rfl) (pe_call Gsketch (hr.mono (by omega)) (by rfl) dsketch.g dsketch.F.kp dsketch.b .nil pass0 (pa_cons (pv 3) (pa_cons (pe_tup (pa_cons (pe_tup (pa_cons pe_str (pa_cons (pv 5) pa_nil))) pa_nil)) pa_nil))))
      (pss_cons (ps_if (PW.pt (pw_or (pt_cmpR op_ne (pe_ix ix_tup (pv 6) pe_int (fun _ _ => rfl)) (pe_op op_fdiv (pv 4) (pe_op op_add (pv 3) pe_int)) (nomark _)) (pw_or1 (pt_cmpR op_ne (pe_callS GP_most_off (hr.mono (by omega)) rfl dP_most_off.g dP_most_off.F.kp dP_most_off.b (fun σ => passAt L2.takes0 σ) (pa_cons (pv 3) (pa_cons (pv 4) pa_nil))) (pe_ix ix_tup (pv 6) pe_int (fun _ _ => rfl)) (nomark _)))))
        (pss_one (ps_ret pe_bl))
        pss_nil)
      (pss_cons (ps_set (i := 7) sclaw.nd rfl (Or.inl rfl) (pe_call Gdraw (hr.mono (by omega)) (by rfl) ddraw.g ddraw.F.kp ddraw.b .nil pass0 (pa_cons (pv 1) (pa_cons (pe_op op_add (pe_op op_pow pe_int pe_int) pe_int) pa_nil))))
      (pss_cons (ps_if (pt_cmpR op_ne (pe_callS GP_most_off (hr.mono (by omega)) rfl dP_most_off.g dP_most_off.F.kp dP_most_off.b (fun σ => passAt L2.takes0 σ) (pa_cons (pv 3) (pa_cons (pv 7) pa_nil))) (pe_op op_fdiv (pv 7) (pe_op op_add (pv 3) pe_int)) (nomark _))
        (pss_one (ps_ret pe_bl))
        pss_nil)
      (pss_cons (ps_par (i := 8) (j := 9) (by rfl) sclaw.nd rfl rfl (by decide) rfl rfl (pa_cons (pe_call Gany (hr.mono (by omega)) (by rfl) dany.g dany.F.kp dany.b .nil pass0 (pa_cons (pv 1) (pa_cons (pe_lst (pa_cons (pv 4) (pa_cons (pv 7) pa_nil))) pa_nil))) (pa_cons (pe_call Gdraw (hr.mono (by omega)) (by rfl) ddraw.g ddraw.F.kp ddraw.b .nil pass0 (pa_cons (pv 1) (pa_cons (pe_ix ix_list (pe_lst (pa_cons pe_int (pa_cons pe_int (pa_cons (pe_op op_pow pe_int pe_int) pa_nil)))) (pe_call Gdraw (hr.mono (by omega)) (by rfl) ddraw.g ddraw.F.kp ddraw.b .nil pass0 (pa_cons (pv 1) (pa_cons pe_int pa_nil))) (fun _ _ => rfl)) pa_nil))) pa_nil)) (by rfl))
      (pss_cons (ps_set (i := 10) sclaw.nd rfl (Or.inl rfl) (pe_callS GP_room_for (hr.mono (by omega)) rfl dP_room_for.g dP_room_for.F.kp dP_room_for.b (fun σ => passAt L2.takes0 σ) (pa_cons (pv 8) (pa_cons (pv 9) pa_nil))))
      (C8.pss_cut (ps_if (PW.pt (pw_or (pt_cmpR op_gt (pe_op op_fdivW (pv 8) (pe_op op_add (pv 10) pe_int)) (pv 9) (nomark _)) (pw_or (pt_cmpR op_lt (pv 10) pe_int (nomark _)) (pw_or1 (PW.pt (pw_and (pt_cmpR op_gt (pv 10) pe_int (nomark _)) (pw_and1 (pt_cmpR op_le (pe_op op_fdivW (pv 8) (pv 10)) (pv 9) (nomark _)))))))))
        (pss_one (ps_ret pe_bl))
        pss_nil)
      (pss_cons (ps_set (i := 11) sclaw.nd rfl (Or.inl rfl) (pe_tup (pa_cons pe_str (pa_cons (pe_callTy call_tupleF (by rfl) T.n_tuple (by decide +kernel) (pa_cons (pe_callB cr_sortedSL (by rfl) T.n_sorted (by decide +kernel) (pa_cons (pe_call Gpool (hr.mono (by omega)) (by rfl) dpool.g dpool.F.kp dpool.b .nil pass0 (pa_cons (pv 1) (pa_cons (pe_call Gdraw (hr.mono (by omega)) (by rfl) ddraw.g ddraw.F.kp ddraw.b .nil pass0 (pa_cons (pv 1) (pa_cons pe_int pa_nil))) pa_nil))) pa_nil)) pa_nil)) pa_nil))))
      (pss_cons (ps_set (i := 12) sclaw.nd rfl (Or.inl rfl) (pe_call Gany (hr.mono (by omega)) (by rfl) dany.g dany.F.kp dany.b .nil pass0 (pa_cons (pv 1) (pa_cons (pe_lst (pa_cons (pe_tup (pa_cons pe_str (pa_cons pe_str pa_nil))) (pa_cons (pv 11) (pa_cons (pe_tup (pa_cons pe_str (pa_cons pe_str (pa_cons pe_str pa_nil)))) pa_nil)))) pa_nil))))
      (pss_cons (ps_set (i := 13) sclaw.nd rfl (Or.inl rfl) (pe_callS GP_widest (hr.mono (by omega)) rfl dP_widest.g dP_widest.F.kp dP_widest.b (fun σ => passAt L2.takes0 σ) (pa_cons (pv 3) (pa_cons (pv 4) (pa_cons (pv 12) pa_nil)))))
      (pss_cons (ps_set (i := 14) sclaw.nd rfl (Or.inl rfl) (pe_call GwidestL (hr.mono (by omega)) (by rfl) dwidest.g dwidest.F.kp dwidest.b .nil pass0 (pa_cons (pv 3) (pa_cons (pv 4) (pa_cons (pv 12) pa_nil)))))
      (pss_cons (ps_asg (pe_call GP_ends (hr.mono (by omega)) (by rfl) D.dP_ends.g D.dP_ends.F.kp D.dP_ends.b .nil pass0 (pa_cons (pv 14) (pa_cons (pv 12) pa_nil))) (pg_tup (by rfl) (pgs_cons (pg_name (i := 15) sclaw.nd rfl (Or.inl rfl)) (pgs_cons (pg_name (i := 16) sclaw.nd rfl (Or.inl rfl)) pgs_nil))))
      (pss_cons (ps_if (PW.pt (pw_or (pt_not (pt_val (pe_call GP_is_sketch (hr.mono (by omega)) (by rfl) D.dP_is_sketch.g D.dP_is_sketch.F.kp D.dP_is_sketch.b .nil pass0 (pa_cons (pv 14) pa_nil)))) (pw_or1 (pt_cmpR op_ne (pe_op op_sub (pv 16) (pv 15)) (pv 13) (nomark _)))))
        (pss_one (ps_ret pe_bl))
        pss_nil)
      (pss_cons (ps_set (i := 17) sclaw.nd rfl (Or.inl rfl) (pe_call Gsketch (hr.mono (by omega)) (by rfl) dsketch.g dsketch.F.kp dsketch.b .nil pass0 (pa_cons (pv 3) (pa_cons (pe_tup (pa_cons (pe_tup (pa_cons pe_str (pa_cons (pe_slice (r := rSlP K) sl_tupP (pv 5) po_none (po_some (pe_call Gdraw (hr.mono (by omega)) (by rfl) ddraw.g ddraw.F.kp ddraw.b .nil pass0 (pa_cons (pv 1) (pa_cons (pe_op op_add (pv 4) pe_int) pa_nil))))) pa_nil))) pa_nil)) pa_nil))))
      (pss_cons (ps_asg (pe_call GP_ends (hr.mono (by omega)) (by rfl) D.dP_ends.g D.dP_ends.F.kp D.dP_ends.b .nil pass0 (pa_cons (pv 17) (pa_cons (pv 12) pa_nil))) (pg_tup (by rfl) (pgs_cons (pg_name (i := 15) sclaw.nd rfl (Or.inl rfl)) (pgs_cons (pg_name (i := 16) sclaw.nd rfl (Or.inl rfl)) pgs_nil))))
      (pss_one (ps_if (pt_cmpR op_gt (pe_op op_sub (pv 16) (pv 15)) (pv 13) (nomark _))
        (pss_one (ps_ret pe_bl))
        pss_nil))))))))))))))))))))))
    (pss_one (ps_ret (pe_call Grefused (hr.mono (by omega)) (by rfl) Rf.d.g Rf.d.F.kp Rf.d.b .nil pass0 (pa_cons (pv 1) pa_nil)))))), ?_⟩
    refine ⟨.ref sc, rfl, sc, nsc, rfl, hSc, hscl, fun H1 a c s1 _ w1 => ?_⟩
    have E1 : LE a c D.F.P Rf.P H1 := ⟨w1, tabS_same T0 s1, T0'.ext s1⟩
    refine ⟨2, rfl, by decide, by decide, ?_⟩
    refine for_range (lo := 0) (n := 2) (fun i σ H2 => ∃ y2 y3 y4 y5 y6 y7 y8 y9 y10 y11 y12 y13 y14 y15 y16 y17 y18 : Option V, σ = [some (.ref sc), some (.ref a), y2, y3, y4, y5, y6, y7, y8, y9, y10, y11, y12, y13, y14, y15, y16, y17, y18] ∧ LE a c D.F.P Rf.P H2)
      ⟨_, _, _, _, _, _, _, _, _, _, _, _, _, _, _, _, _, rfl, E1⟩ ?_ ?_
    · rintro i σ H2 hi ⟨y2, y3, y4, y5, y6, y7, y8, y9, y10, y11, y12, y13, y14, y15, y16, y17, y18, rfl, E2⟩
      clear E1
      -- the room
      refine ⟨.ref a, rfl, .ref a, rfl, a, c, 3, rfl, E2.w, (by decide), (by decide), fun H3 v3 x3 w3 _ _ => ⟨rfl, decide (V.int v3 = V.int 0), rfl, ?_⟩⟩
      obtain ⟨n, hn, e⟩ : ∃ n : Int, (n = 64 ∨ n = 6) ∧ ∀ (σ : L2.St) (Q : VK), Q (.int n) H3 → (if decide (V.int v3 = V.int 0) = true then tC (.int 64) σ H3 Q else tC (.int 6) σ H3 Q) := by
        by_cases h : decide (V.int v3 = V.int 0) = true
        · exact ⟨64, .inl rfl, fun σ Q h2 => by rw [if_pos h]; exact h2⟩
        · exact ⟨6, .inr rfl, fun σ Q h2 => by rw [if_neg h]; exact h2⟩
      refine e _ _ ?_
      clear e
      have E3 := E2.exw x3 w3
      refine ⟨a, c, n, rfl, w3, (by omega), (by omega), fun H4 r x4 w4 r0 r1 => ⟨_, _, rfl, rfl, ?_⟩⟩
      have E4 := E3.exw x4 w4
      obtain ⟨R, hR⟩ : ∃ R : Nat, 1 + r = (R : Int) := ⟨(1 + r).toNat, by omega⟩
      show gName 3 (V.int (1 + r)) _ _ _
      rw [hR]
      have R1 : 1 ≤ R := by omega
      have R2 : R ≤ 64 := by omega
      clear E2 E3 x3 w3 x4 hn r0 r1 w4
      -- how many
      refine ⟨.ref a, rfl, (by show 3 ≤ sizeLine; decide), fun L nL => ?_⟩
      have s5 := same_upd (o := .lst [.int 30, .int 400, .int 2001]) nL
      have hL5 : (upd H4 L (.lst [.int 30, .int 400, .int 2001])) L = some (.lst [.int 30, .int 400, .int 2001]) := upd_same
      have La := E4.w.ne2 nL
      generalize upd H4 L (.lst [.int 30, .int 400, .int 2001]) = H5 at s5 hL5 ⊢
      have E5 := E4.same s5
      refine ⟨.ref a, rfl, a, c, 3, rfl, E5.w, (by decide), (by decide), fun H6 j x6 w6 j0 j1 => ?_⟩
      have E6 := E5.exw x6 w6
      obtain ⟨n2, hn1, hn2, hat⟩ : ∃ n : Int, 1 ≤ n ∧ n ≤ 2001 ∧ atI [V.int 30, V.int 400, V.int 2001] j = some (.int n) := by
        obtain ⟨j, rfl⟩ := Int.eq_ofNat_of_zero_le j0
        match j, j1 with
        | 0, _ => exact ⟨30, by decide, by decide, atI_nat rfl⟩
        | 1, _ => exact ⟨400, by decide, by decide, atI_nat rfl⟩
        | 2, _ => exact ⟨2001, by decide, by decide, atI_nat rfl⟩
        | j + 3, h => omega
      refine ⟨L, _, _, .int n2, rfl, rfl, sql (x6 _ _ La.1 hL5), hat, a, c, n2, rfl, w6, (by omega), (by omega), fun H7 m x7 w7 m0 m1 => ?_⟩
      have E7 := E6.exw x7 w7
      obtain ⟨M, rfl⟩ := Int.eq_ofNat_of_zero_le m0
      have M2 : M ≤ 2000 := by omega
      clear E4 E5 E6 s5 hL5 La nL x6 w6 x7 w7 hat hn1 hn2 j0 j1 m0 m1
      have bR : isRB (some (R : Int)) = true := by
        show (decide (1 ≤ (R : Int)) && decide ((R : Int) ≤ 64)) = true
        rw [decide_eq_true (by omega), decide_eq_true (by omega)]
        rfl
      have bL : isLB (some (M : Int)) = true := by
        show (decide (0 ≤ (M : Int)) && decide ((M : Int) ≤ 2000)) = true
        rw [decide_eq_true (by omega), decide_eq_true (by omega)]
        rfl
      have bM : isMB (some (M : Int)) = true := by
        show (decide (0 ≤ (M : Int)) && decide ((M : Int) ≤ 1000000000000)) = true
        rw [decide_eq_true (by omega), decide_eq_true (by omega)]
        rfl
      -- the stream
      refine ⟨.int R, rfl, .int M, rfl, .int R, .int M, some (R : Int), some (M : Int), rfl, rfl, rfl, (fun e => by rw [bR] at e; cases e), (fun _ e => by rw [bL] at e; cases e), fun r' m' e1 e2 _ _ _ H8 p s8 hp => ?_⟩
      obtain rfl : R = r' := by have := Option.some.inj e1; omega
      obtain rfl : M = m' := by have := Option.some.inj e2; omega
      have E8 := E7.same s8
      clear E7 s8 e1 e2
      have znm := rnd_nm (R := R) (M := M) R2
      have zl := rnd_len (leastL (R + 1)) M
      have hst := rr_state R1 (least_nd (R + 1)) (by unfold leastL; rw [List.length_map, List.length_range]) M
      generalize rndL (leastL (R + 1)) M = zs at hp znm zl hst
      refine ⟨.ref p, rfl, p, _, rfl, .inr hp.seq, .int M, rfl, rfl, false, congrArg (fun b => V.bl (!b)) (decide_eq_true (by rw [List.length_map, zl])), iteF ?_⟩
      refine ⟨.ref p, rfl, p, rfl, ⟨_, hp.seq⟩, fun D1 nD => ?_⟩
      refine lc_tup (xs := zs.map V.str) (fun i H9 => Same H8 H9 ∧ H9 D1 = some (.lst ((zs.take i).map fun _ => V.bl true))) ⟨same_upd nD, upd_same⟩ (fun i H9 _ h => seqT hp.seq h.1) (fun i v H9 hv h => ?_) (fun H9 h => ?_)
      · obtain ⟨z, hz, rfl⟩ := map_at hv
        refine ⟨rfl, .str z, rfl, z, rfl, znm z (List.mem_of_getElem? hz), fun H10 s10 => ⟨_, s10 _ _ h.2, ?_, Same.put (Same.trans h.1 s10) nD, ?_⟩⟩
        · rw [List.length_map, List.length_take, sizeLine_eq]
          omega
        · rw [upd_same, List.take_add_one, hz, List.map_append]
          rfl
      obtain ⟨s9, hD9⟩ := h
      refine ⟨D1, zs.map fun _ => true, rfl, sql (by rw [hD9, List.length_map, List.take_length, List.map_map]; rfl), ?_⟩
      rw [show ((zs.map fun _ => true).all id) = true by simp]
      have E9 := E8.same s9
      have hp9 := hp.same s9
      clear E8 hp hD9 s9 nD
      refine ⟨true, rfl, iteF ?_⟩
      -- its sketch
      refine ⟨.int R, rfl, .ref p, rfl, (by show 2 ≤ sizeLine; decide), fun b1 nb1 => ⟨(by show 1 ≤ sizeLine; decide), fun t1 nt1 => ?_⟩⟩
      have s10 := same_upd (o := .tup [.str (Str.ofString "stream"), .ref p]) nb1
      have s11 := same_upd (o := .tup [.ref b1]) nt1
      have sA := Same.trans s10 s11
      have EA := E9.same sA
      have hpA := hp9.same sA
      have htree : TreeAt K (upd (upd H9 b1 (.tup [.str (Str.ofString "stream"), .ref p])) t1 (.tup [.ref b1])) t1 [.put zs] := ⟨[.ref b1], .inl (.inl upd_same), .cons ⟨b1, p, rfl, .inl (.inl (s11 _ _ upd_same)), hpA.seq, znm, by omega⟩ .nil⟩
      generalize upd (upd H9 b1 (.tup [.str (Str.ofString "stream"), .ref p])) t1 (.tup [.ref b1]) = HA at EA hpA htree ⊢
      clear E9 hp9 s10 s11 sA nb1 nt1
      refine ⟨R, t1, [.put zs], feedsT R zs tl0, rfl, by omega, by omega, htree, put_tree (by omega), (fun zs' h z hz => by rw [List.mem_singleton] at h; cases h; exact znm z hz), rfl, fun HB gk sB hgk => ?_⟩
      have EB := EA.same sB
      have hpB := hpA.same sB
      clear EA hpA htree sB
      rw [hst] at hgk
      have hq2 : ((M / (R + 1) : Nat) : Int) = (M : Int) / ((R : Int) + 1) := by
        rw [Int.natCast_ediv]
        push_cast
        rfl
      obtain ⟨kk, ts, hg0, _, _⟩ := hgk
      have R65 : 0 < (R : Int) + 1 ∧ (R : Int) + 1 < 1073741824 := by omega
      refine ⟨.ref gk, rfl, gk, _, _, _, rfl, rfl, .inl (.inl hg0), atI_nat (j := 2) rfl, .int M, rfl, .int R, rfl, _, _, rfl, rfl, _, _, rfl, rfl, ⟨R65.1, R65.2⟩, rfl, false, congrArg (fun b => V.bl (!b)) (decide_eq_true (by show V.int _ = V.int _; rw [hq2])), iteF ?_⟩
      refine ⟨.int R, rfl, .int M, rfl, .int R, .int M, some (R : Int), some (M : Int), rfl, rfl, rfl, (fun e => by rw [bR] at e; cases e), (fun _ e => by rw [bM] at e; cases e), fun r' m' e1 e2 _ _ => ?_⟩
      obtain rfl : (R : Int) = r' := Option.some.inj e1
      obtain rfl : (M : Int) = m' := Option.some.inj e2
      refine ⟨.ref gk, rfl, gk, _, _, _, rfl, rfl, .inl (.inl hg0), atI_nat (j := 2) rfl, rfl, false, congrArg (fun b => V.bl (!b)) (decide_eq_true (by show V.int _ = V.int _; rw [hq2])), iteF ?_⟩
      clear e1 e2 hg0
      -- a great number
      refine ⟨.ref a, rfl, _, _, rfl, rfl, ⟨by decide, by decide, by decide⟩, _, _, rfl, rfl, a, c, _, rfl, EB.w, (by decide), (by decide), fun HC g xC wC g0 g1 => ?_⟩
      have EC := EB.exw xC wC
      have hpC : Ptp HC p (zs.map V.str) := by
        obtain ⟨o, e, dd⟩ := hpB
        exact ⟨o, xC.at EB.w e (by intro _ z; cases z), dd⟩
      clear EB hpB xC wC
      have g1 : g < 1000000000001 := g1
      have bG : isMB (some g) = true := by
        show (decide (0 ≤ g) && decide (g ≤ 1000000000000)) = true
        rw [decide_eq_true (by omega), decide_eq_true (by omega)]
        rfl
      refine ⟨.int R, rfl, .int g, rfl, .int R, .int g, some (R : Int), some g, rfl, rfl, rfl, (fun e => by rw [bR] at e; cases e), (fun _ e => by rw [bG] at e; cases e), fun r' m' e1 e2 _ _ => ?_⟩
      obtain rfl : (R : Int) = r' := Option.some.inj e1
      obtain rfl : g = m' := Option.some.inj e2
      refine ⟨.int g, rfl, .int R, rfl, _, _, rfl, rfl, _, _, rfl, rfl, ⟨R65.1, R65.2⟩, rfl, false, congrArg (fun b => V.bl (!b)) (decide_eq_true rfl), iteF ?_⟩
      clear e1 e2
      -- a total and an off
      refine ⟨.ref a, rfl, .int M, rfl, .int g, rfl, (by show 2 ≤ sizeLine; decide), fun L2 nL2 => ?_⟩
      have hL2 : (upd HC L2 (.lst [.int M, .int g])) L2 = some (.lst [.int M, .int g]) := upd_same
      have sL2 := same_upd (o := .lst [.int M, .int g]) nL2
      have L2a := EC.w.ne2 nL2
      generalize upd HC L2 (.lst [.int M, .int g]) = HD0 at hL2 sL2 ⊢
      have ED0 := EC.same sL2
      have hpD0 := hpC.same sL2
      refine ⟨a, c, L2, _, rfl, ED0.w, L2a.1, hL2, (by show 0 < 2; decide), (by show 2 ≤ 100000; decide), fun HD v xD wD hv => ?_⟩
      have ED := ED0.exw xD wD
      have hpD : Ptp HD p (zs.map V.str) := by
        obtain ⟨o, e, dd⟩ := hpD0
        exact ⟨o, xD.at ED0.w e (by intro _ z; cases z), dd⟩
      obtain ⟨tt, rfl, tt0, tt1⟩ : ∃ tt : Int, v = .int tt ∧ 0 ≤ tt ∧ tt ≤ 1000000000000 := by
        simp only [List.mem_cons, List.not_mem_nil, or_false] at hv
        rcases hv with rfl | rfl
        · exact ⟨_, rfl, by omega, by omega⟩
        · exact ⟨_, rfl, g0, by omega⟩
      clear EC hpC hL2 sL2 L2a nL2 ED0 hpD0 xD wD hv
      refine ⟨.ref a, rfl, _, _, rfl, rfl, ⟨by decide, by decide, by decide⟩, (by show 3 ≤ sizeLine; decide), fun L3 nL3 => ?_⟩
      refine ⟨.ref a, rfl, a, c, 3, rfl, ED.w.same (same_upd nL3), (by decide), (by decide), fun HE jj xE wE jj0 jj1 => ?_⟩
      have xDE := (Same.exw (same_upd nL3)).trans xE
      have EE := ED.exw xDE wE
      have hpE := ptp_exw hpD xDE ED.w
      obtain ⟨n3, hn31, hn32, hat3⟩ : ∃ n : Int, 1 ≤ n ∧ n ≤ 1000000000 ∧ atI [V.int 3, V.int 50, V.int ((10 : Int) ^ (9 : Int).toNat)] jj = some (.int n) := by
        obtain ⟨jj, rfl⟩ := Int.eq_ofNat_of_zero_le jj0
        match jj, jj1 with
        | 0, _ => exact ⟨3, by decide, by decide, atI_nat rfl⟩
        | 1, _ => exact ⟨50, by decide, by decide, atI_nat rfl⟩
        | 2, _ => exact ⟨1000000000, by decide, by decide, atI_nat rfl⟩
        | jj + 3, h => omega
      refine ⟨L3, _, _, .int n3, rfl, rfl, sql (xE _ _ (ED.w.ne2 nL3).1 upd_same), hat3, a, c, n3, rfl, wE, (by omega), (by omega), fun HF o xF wF o0 o1 => ⟨.int tt, .int o, rfl, ?_⟩⟩
      have EF := EE.exw xF wF
      have hpF := ptp_exw hpE xF EE.w
      clear ED hpD EE hpE xDE xE wE xF wF nL3 hat3 jj0 jj1
      have bT : isMB (some tt) = true := by
        show (decide (0 ≤ tt) && decide (tt ≤ 1000000000000)) = true
        rw [decide_eq_true tt0, decide_eq_true tt1]
        rfl
      have bO : isMB (some o) = true := by
        show (decide (0 ≤ o) && decide (o ≤ 1000000000000)) = true
        rw [decide_eq_true o0, decide_eq_true (by omega)]
        rfl
      -- the least room
      refine ⟨.int tt, rfl, .int o, rfl, .int tt, .int o, some tt, some o, rfl, rfl, rfl, (fun e => by rw [bT, bO] at e; cases e), fun m' o' e1 e2 _ _ => ?_⟩
      obtain rfl : tt = m' := Option.some.inj e1
      obtain rfl : o = o' := Option.some.inj e2
      clear e1 e2
      show gName 10 (V.int (if tt / (o + 1) > 1 then tt / (o + 1) else 1)) _ _ _
      obtain ⟨le, hle⟩ : ∃ le, le = if tt / (o + 1) > 1 then tt / (o + 1) else 1 := ⟨_, rfl⟩
      rw [← hle]
      obtain ⟨c1, c2, c3⟩ := room_right tt0 o0 hle
      have le2 : le ≤ 1000000000000 := by
        have : tt / (o + 1) ≤ tt := Int.ediv_le_self _ tt0
        rw [hle]
        split <;> omega
      have le1 : 1 ≤ le := by omega
      clear hle
      refine ⟨fun σ H' => σ = [some (.ref sc), some (.ref a), some (.int (0 + (i : Int))), some (.int R), some (.int M), some (.ref p), some (.ref gk), some (.int g), some (.int tt), some (.int o), some (.int le), y11, y12, y13, y14, y15, y16, y17, y18] ∧ H' = HF, ?_, ?_⟩
      · refine ⟨.int tt, rfl, .int le, rfl, _, _, rfl, rfl, _, _, rfl, rfl, ⟨by omega, log_small (by omega) (by omega)⟩, .int o, rfl, _, _, rfl, rfl, false, congrArg V.bl (decide_eq_false c1), iteF ?_⟩
        refine ⟨.int le, rfl, _, _, rfl, rfl, false, congrArg V.bl (decide_eq_false c2), iteF ?_⟩
        refine ⟨.int le, rfl, _, _, rfl, rfl, decide (le > 1), rfl, ite2 (fun e => ?_) (fun e => ?_)⟩
        · refine ⟨.int tt, rfl, .int le, rfl, _, _, rfl, rfl, ⟨by omega, log_small (by omega) (by omega)⟩, .int o, rfl, _, _, rfl, rfl, false, congrArg V.bl (decide_eq_false (c3 (of_decide_eq_true e))), iteF ⟨rfl, rfl⟩⟩
        · exact iteF ⟨rfl, rfl⟩
      rintro σ H' ⟨rfl, rfl⟩
      clear c1 c2 c3 le1 le2
      -- a lot
      refine ⟨.ref a, rfl, .ref a, rfl, a, c, 41, rfl, EF.w, (by decide), (by decide), fun HG k xG wG k0 k1 => ?_⟩
      obtain ⟨k, rfl⟩ := Int.eq_ofNat_of_zero_le k0
      have EG := EF.exw xG wG
      have hpG := ptp_exw hpF xG EF.w
      refine ⟨a, c, k, rfl, wG, by omega, fun HH l PP xH wH nl la lc hl hP => ?_⟩
      have EH := EG.exw xH wH
      have hpH := ptp_exw hpG xH EG.w
      refine ⟨l, _, rfl, sql hl, fun ys l2 perm srtd nl2 => ⟨l2, _, rfl, sql upd_same, fun tp ob ntp ho => ⟨(by show 2 ≤ sizeLine; decide), fun lt nlt => ?_⟩⟩⟩
      have ynd : ys.Nodup := perm.nodup_iff.mpr (poolL_nd PP k)
      have yasc := asc_strs srtd ynd
      have ynm : ∀ z ∈ ys, Nm z := fun z hz => poolL_nm hP (by omega) (perm.mem_iff.mp hz)
      have yl : ys.length = k := by rw [perm.length_eq]; unfold poolL; rw [List.length_map, List.length_range]
      have sI : Same HH (upd (upd (upd HH l2 (.lst (ys.map V.str))) tp (.frz ob (.tup (ys.map V.str)))) lt (.tup [.str (Str.ofString "lot"), .ref tp])) := Same.new (Same.new (same_upd nl2) ntp) nlt
      have hlt : (upd (upd (upd HH l2 (.lst (ys.map V.str))) tp (.frz ob (.tup (ys.map V.str)))) lt (.tup [.str (Str.ofString "lot"), .ref tp])) lt = some (.tup [.str (Str.ofString "lot"), .ref tp]) := upd_same
      have htp : (upd (upd (upd HH l2 (.lst (ys.map V.str))) tp (.frz ob (.tup (ys.map V.str)))) lt (.tup [.str (Str.ofString "lot"), .ref tp])) tp = some (.frz ob (.tup (ys.map V.str))) := same_upd nlt _ _ upd_same
      show gName 11 (V.ref lt) _ (upd (upd (upd HH l2 (.lst (ys.map V.str))) tp (.frz ob (.tup (ys.map V.str)))) lt (.tup [.str (Str.ofString "lot"), .ref tp])) _
      generalize upd (upd (upd HH l2 (.lst (ys.map V.str))) tp (.frz ob (.tup (ys.map V.str)))) lt (.tup [.str (Str.ofString "lot"), .ref tp]) = HI at sI hlt htp ⊢
      have EI := EH.same sI
      have hpI := hpH.same sI
      clear EF hpF EG hpG EH hpH xG wG xH wH nl la lc hl perm srtd nl2 ntp nlt sI k0
      -- a question
      refine ⟨.ref a, rfl, (by show 2 ≤ sizeLine; decide), fun c1 nc1 => ⟨.ref lt, rfl, (by show 3 ≤ sizeLine; decide), fun c2 nc2 => ⟨(by show 3 ≤ sizeLine; decide), fun L4 nL4 => ?_⟩⟩⟩
      have z1 := same_upd (o := .tup [.str (Str.ofString "count"), .str (Str.ofString "a")]) nc1
      have z2 := same_upd (o := .tup [.str (Str.ofString "apart"), .str (Str.ofString "a"), .str (Str.ofString "b")]) nc2
      have z3 := same_upd (o := .lst [.ref c1, .ref lt, .ref c2]) nL4
      have zA := (Same.trans z1 z2).trans z3
      have hc1 : (upd (upd (upd HI c1 (.tup [.str (Str.ofString "count"), .str (Str.ofString "a")])) c2 (.tup [.str (Str.ofString "apart"), .str (Str.ofString "a"), .str (Str.ofString "b")])) L4 (.lst [.ref c1, .ref lt, .ref c2])) c1 = some (.tup [.str (Str.ofString "count"), .str (Str.ofString "a")]) := z3 _ _ (z2 _ _ upd_same)
      have hc2 : (upd (upd (upd HI c1 (.tup [.str (Str.ofString "count"), .str (Str.ofString "a")])) c2 (.tup [.str (Str.ofString "apart"), .str (Str.ofString "a"), .str (Str.ofString "b")])) L4 (.lst [.ref c1, .ref lt, .ref c2])) c2 = some (.tup [.str (Str.ofString "apart"), .str (Str.ofString "a"), .str (Str.ofString "b")]) := z3 _ _ upd_same
      have hL4 : (upd (upd (upd HI c1 (.tup [.str (Str.ofString "count"), .str (Str.ofString "a")])) c2 (.tup [.str (Str.ofString "apart"), .str (Str.ofString "a"), .str (Str.ofString "b")])) L4 (.lst [.ref c1, .ref lt, .ref c2])) L4 = some (.lst [.ref c1, .ref lt, .ref c2]) := upd_same
      have L4a := (EI.same (Same.trans z1 z2)).w.ne2 nL4
      generalize upd (upd (upd HI c1 (.tup [.str (Str.ofString "count"), .str (Str.ofString "a")])) c2 (.tup [.str (Str.ofString "apart"), .str (Str.ofString "a"), .str (Str.ofString "b")])) L4 (.lst [.ref c1, .ref lt, .ref c2]) = HJ at zA hc1 hc2 hL4 ⊢
      have EJ := EI.same zA
      have hpJ := hpI.same zA
      have hltJ := zA _ _ hlt
      have htpJ := zA _ _ htp
      clear z1 z2 z3 zA nc1 nc2 nL4 EI hpI hlt htp
      refine ⟨a, c, L4, _, rfl, EJ.w, L4a.1, hL4, (by show 0 < 3; decide), (by show 3 ≤ 100000; decide), fun HK vq xK wK hvq => ?_⟩
      have EK := EJ.exw xK wK
      have hpK := ptp_exw hpJ xK EJ.w
      obtain ⟨qa, x, rfl, hq, hx, hnq⟩ : ∃ qa x, vq = .ref qa ∧ QnAt K HK qa x ∧ QnOk x ∧ NamedQ x := by
        simp only [List.mem_cons, List.not_mem_nil, or_false] at hvq
        rcases hvq with rfl | rfl | rfl
        · exact ⟨c1, .count (Str.ofString "a"), rfl, .inl (.inl (xK.at EJ.w hc1 (by intro _ z; cases z))), ⟨fun y hy => (by rw [List.mem_singleton.mp hy]; exact nmA), (by show 1 ≤ 40; decide), (fun _ e => nomatch e), (fun _ _ e => nomatch e), (fun _ e => nomatch e)⟩, .inl ⟨_, rfl⟩⟩
        · exact ⟨lt, .lot ys, rfl, ⟨tp, .inl (.inl (xK.at EJ.w hltJ (by intro _ z; cases z))), .inl (.inr ⟨ob, xK.at EJ.w htpJ (by intro _ z; cases z)⟩)⟩, ⟨ynm, (by show ys.length ≤ 40; omega), (fun zs' e => by cases e; exact yasc), (fun _ _ e => nomatch e), (fun _ e => nomatch e)⟩, .inr (.inl ⟨_, rfl⟩)⟩
        · refine ⟨c2, .apart (Str.ofString "a") (Str.ofString "b"), rfl, .inl (.inl (xK.at EJ.w hc2 (by intro _ z; cases z))), ⟨fun y hy => ?_, (by show 2 ≤ 40; decide), (fun _ e => nomatch e), (fun y z e => by cases e; decide +kernel), (fun _ e => nomatch e)⟩, .inr (.inr ⟨_, _, rfl⟩)⟩
          rcases List.mem_cons.mp hy with rfl | hy
          · exact nmA
          · rw [List.mem_singleton.mp hy]
            exact nmB'
      clear EJ hpJ hltJ htpJ hc1 hc2 hL4 xK wK hvq ynm yasc ynd
      -- what is due
      refine ⟨.int R, rfl, .int M, rfl, .ref qa, rfl, .int R, .int M, .ref qa, some (R : Int), some (M : Int), some x, rfl, rfl, rfl, ⟨qa, rfl, hq, hx⟩, (fun e => by rw [bR] at e; cases e), (fun _ e => by rw [bM] at e; cases e), (fun _ _ hn _ _ => hn hnq), fun r' m' x' e1 e2 _ _ e3 _ HL sL => ?_⟩
      obtain rfl : (R : Int) = r' := Option.some.inj e1
      obtain rfl : (M : Int) = m' := Option.some.inj e2
      obtain rfl : x = x' := Option.some.inj e3
      have EL := EK.same sL
      have hpL := hpK.same sL
      have hqL := hq.same sL
      clear e1 e2 e3 EK hpK hq sL
      generalize hdue : dueZ (R : Int) (M : Int) x = due
      -- the widest sketch
      refine ⟨.int R, rfl, .int M, rfl, .ref qa, rfl, R, M, .ref qa, rfl, by omega, by omega, by omega, by omega, fun HM bs xb sM hbs okb gb eo em el => ?_⟩
      have EM := EL.same sM
      have hpM := hpL.same sM
      have hqM := hqL.same sM
      clear EL hpL hqL sM
      refine ⟨.ref bs, rfl, .ref qa, rfl, bs, qa, R, xb.m, xb.o, srtZ xb.c, x, rfl, SkC.of hbs, gb, hqM, hx, EM.tf, fun HN pe xN npe hpe => ⟨pe, _, rfl, .inl (.inl hpe), rfl, _, _, rfl, _, _, rfl, rfl, ?_⟩⟩
      have EN := EM.ext ne xN
      have hpN := ptp_ext hpM EM.tf xN
      have hqN := qn_ext hqM EM.tf xN
      have hbN := skAt_ext hbs EM.tf xN
      have hwd := ends_wide gb x hx hnq
      have hwb : wdZ xb.o (xb.m - sumC (srtZ xb.c)) x = due := by
        rw [eo, el, ← hdue]
        exact due_best (by omega) (by omega) x hnq
      clear EM hpM hqM hbs xN npe hpe
      obtain ⟨kb, tb, hb1, hb2, hb3⟩ := hbN
      refine ⟨.ref bs, rfl, bs, kb, R, xb.m, xb.o, srtZ xb.c, rfl, .inl (.inl hb1), ⟨tb, hb2.seq, paired_imp (fun t e h => .inl (.inl h)) hb3⟩, gb.cts, by have := gb.len; omega, fun HO sO => ?_⟩
      rw [gb.yes]
      have EO := EN.same sO
      have hpO := hpN.same sO
      have hqO := hqN.same sO
      clear EN hpN hqN hb1 hb2 hb3 sO
      refine ⟨true, rfl, iteF ⟨_, rfl, _, rfl, _, _, rfl, rfl, .int due, rfl, rfl, false, congrArg (fun b => V.bl (!b)) (decide_eq_true (by show V.int (highE (srtZ xb.c) xb.m xb.o x - lowE (srtZ xb.c) xb.m xb.o x) = V.int due; rw [hwd, hwb])), iteF ?_⟩⟩
      clear hwd hwb eo em el gb okb
      -- a beginning of the stream
      refine ⟨.int R, rfl, .ref p, rfl, .ref a, rfl, .int M, rfl, _, _, rfl, rfl, a, c, _, rfl, EO.w, by omega, by omega, fun HQ kq xQ wQ kq0 kq1 => ⟨kq, rfl, p, _, rfl, ptp_exw hpO xQ EO.w, fun p2 HR sR hp2 => ⟨(by show 2 ≤ sizeLine; decide), fun b2 nb2 => ⟨(by show 1 ≤ sizeLine; decide), fun t2 nt2 => ?_⟩⟩⟩⟩
      have EQ := EO.exw xQ wQ
      have hqQ := qn_exw hqO xQ EO.w
      have ER := EQ.same sR
      have hqR := hqQ.same sR
      obtain ⟨zs2, hz2, hn2, hl2⟩ : ∃ zs2 : List Str, Ptp HR p2 (zs2.map V.str) ∧ (∀ z ∈ zs2, Nm z) ∧ zs2.length ≤ M := by
        unfold cutV at hp2
        rw [← List.map_drop, ← List.map_take] at hp2
        exact ⟨_, hp2, fun z hz => znm z (List.mem_of_mem_drop (List.mem_of_mem_take hz)), by rw [List.length_take, List.length_drop]; omega⟩
      clear EO hpO hqO EQ hqQ xQ wQ sR hp2
      have s1 := same_upd (o := .tup [.str (Str.ofString "stream"), .ref p2]) nb2
      have s2 := same_upd (o := .tup [.ref b2]) nt2
      have sS := Same.trans s1 s2
      have ES := ER.same sS
      have hqS := hqR.same sS
      have hzS := hz2.same sS
      have htree : TreeAt K (upd (upd HR b2 (.tup [.str (Str.ofString "stream"), .ref p2])) t2 (.tup [.ref b2])) t2 [.put zs2] := ⟨[.ref b2], .inl (.inl upd_same), .cons ⟨b2, p2, rfl, .inl (.inl (s2 _ _ upd_same)), hzS.seq, hn2, by omega⟩ .nil⟩
      generalize upd (upd HR b2 (.tup [.str (Str.ofString "stream"), .ref p2])) t2 (.tup [.ref b2]) = HS at ES hqS htree ⊢
      clear ER hqR hz2 s1 s2 sS hzS nb2 nt2
      obtain ⟨xd, rl, okd, gd', md⟩ := put_sk R1 R2 (zs := zs2) (by omega) hn2
      refine ⟨R, t2, [.put zs2], xd, rfl, by omega, by omega, htree, put_tree (by omega), (fun zs' h z hz => by rw [List.mem_singleton] at h; cases h; exact hn2 z hz), rl, fun HT ds sT hds => ?_⟩
      have ET := ES.same sT
      have hqT := hqS.same sT
      refine ⟨.ref ds, rfl, .ref qa, rfl, ds, qa, R, xd.m, xd.o, srtZ xd.c, x, rfl, SkC.of hds, gd', hqT, hx, ET.tf, fun HU pe xU npe hpe => ⟨pe, _, rfl, .inl (.inl hpe), rfl, _, _, rfl, _, _, rfl, rfl, ?_⟩⟩
      have EU := ET.ext ne xU
      have hwd := ends_wide gd' x hx hnq
      have hle := due_most (many := (M : Int)) gd' (by omega) x hnq
      rw [hdue, ← hwd] at hle
      refine ⟨_, rfl, _, rfl, _, _, rfl, rfl, .int due, rfl, _, _, rfl, rfl, false, congrArg V.bl (decide_eq_false (by omega)), iteF ?_⟩
      exact ⟨_, _, _, _, _, _, _, _, _, _, _, _, _, _, _, _, _, rfl, EU⟩
    · rintro σ H2 ⟨y2, y3, y4, y5, y6, y7, y8, y9, y10, y11, y12, y13, y14, y15, y16, y17, y18, rfl, E2⟩
      exact ⟨.ref a, rfl, a, c, rfl, E2.w, E2.tr, fun H' => q H'⟩
end
end Kb

namespace Kb
open PySem PySem.Spec PyProof.Rows L2 FlX LamX
/-- a def as the top has left it -/
def dn_of {K : PySem.W.Frag} {h : Heap} {mg : Str → Option Value} {nm : Str} {st : Stmt} {ps : List Str} {f : Addr} {oc : Value} {od an : Option Addr} {osl : Array (Option Value)} {kV doc pm cdv ct : Value} (X : K.In h) (G : h.Ns mainGlobals mg)
    (fa : PySem.W.nsIn K mainGlobals nm = some (some (.ref f))) (fl : K.lookup f = some ⟨oc, od, .func (PySem.W.fnOf nm nm (defArgs st) (defBody st) (defScope st) .none kV doc pm an cdv ct), osl⟩) (fc : PySem.W.codeIn K cdv nm = true) (fk : PySem.W.keepIn K (.ref f) = true)
    (fb : ∀ (kV doc pm : Value) (an : Option Addr) (cdv ct : Value) (us : List Value), us.length = ps.length → bindArgs (PySem.W.fnOf nm nm (defArgs st) (defBody st) (defScope st) .none kV doc pm an cdv ct) ⟨us, []⟩ = pure (ps.zip us)) : Dn K mg nm st ps :=
  ⟨f, _, fun_mk fl fc fk, PySem.W.mg_of X G fa, (fun_mk fl fc fk).binds fb⟩
def cst_of {K : PySem.W.Frag} {h : Heap} {mg : Str → Option Value} {nm : Str} {i : Int} {t : Tok} (X : K.In h) (G : h.Ns mainGlobals mg) (fa : PySem.W.nsIn K mainGlobals nm = some (some (.int i t))) : Cst mg nm (.int i) := ⟨_, PySem.W.mg_of X G fa, ⟨_, rfl⟩⟩
def cstS_of {K : PySem.W.Frag} {h : Heap} {mg : Str → Option Value} {nm z z' : Str} {t : Tok} (X : K.In h) (G : h.Ns mainGlobals mg) (fa : PySem.W.nsIn K mainGlobals nm = some (some (.str z' t))) (e : z' = z) : Cst mg nm (.str z) := by
  subst e
  exact ⟨_, PySem.W.mg_of X G fa, ⟨_, rfl⟩⟩
/-- the three classes as the top has left them -/
def txk_of {K : PySem.W.Frag} {h : Heap} {mg : Str → Option Value} {CR CN CJ KE : Addr} (X : K.In h) (G : h.Ns mainGlobals mg)
    (R1 : PySem.W.nsIn K mainGlobals "NoRoom" = some (some (.ref CR))) (R2 : PySem.W.excIn K CR [.type "ValueError", .type "Exception", .type "BaseException", .type "object"] "ValueError.__new__" = true) (R3 : PySem.W.keepIn K (.ref CR) = true) (R4 : PySem.W.subIn K (.ref CR) (.type "BaseException") = some true) (R5 : PySem.W.typeIn K (.ref CR) = some (.type "type")) (Ri1 : PySem.W.findIn K (.ref CR) "__getattribute__" = some (some (.builtin "BaseException.__getattribute__"))) (Ri2 : PySem.W.findIn K (.ref CR) "__getattr__" = some none) (Ri3 : PySem.W.hasDictIn K CR = true) (Ri4 : PySem.W.findIn K (.ref CR) "__class__" = some (some (.builtin "object.__class__"))) (Ri5 : PySem.W.specialIn K (.builtin "object.__class__") "__get__" = some (some (.builtin "getset_descriptor.__get__"))) (Ri6 : PySem.W.takesIn K (.builtin "object.__class__") = some true) (Ri7 : PySem.W.mroIn K CR (.type "object") = some true) (N1 : PySem.W.nsIn K mainGlobals "NoNumber" = some (some (.ref CN))) (N2 : PySem.W.excIn K CN [.type "ValueError", .type "Exception", .type "BaseException", .type "object"] "ValueError.__new__" = true) (N3 : PySem.W.keepIn K (.ref CN) = true) (N4 : PySem.W.subIn K (.ref CN) (.type "BaseException") = some true) (N5 : PySem.W.typeIn K (.ref CN) = some (.type "type")) (Ni1 : PySem.W.findIn K (.ref CN) "__getattribute__" = some (some (.builtin "BaseException.__getattribute__"))) (Ni2 : PySem.W.findIn K (.ref CN) "__getattr__" = some none) (Ni3 : PySem.W.hasDictIn K CN = true) (Ni4 : PySem.W.findIn K (.ref CN) "__class__" = some (some (.builtin "object.__class__"))) (Ni5 : PySem.W.specialIn K (.builtin "object.__class__") "__get__" = some (some (.builtin "getset_descriptor.__get__"))) (Ni6 : PySem.W.takesIn K (.builtin "object.__class__") = some true) (Ni7 : PySem.W.mroIn K CN (.type "object") = some true) (J1 : PySem.W.nsIn K mainGlobals "NoQuestion" = some (some (.ref CJ))) (J2 : PySem.W.excIn K CJ [.type "ValueError", .type "Exception", .type "BaseException", .type "object"] "ValueError.__new__" = true) (J3 : PySem.W.keepIn K (.ref CJ) = true) (J4 : PySem.W.subIn K (.ref CJ) (.type "BaseException") = some true) (J5 : PySem.W.typeIn K (.ref CJ) = some (.type "type")) (Ji1 : PySem.W.findIn K (.ref CJ) "__getattribute__" = some (some (.builtin "BaseException.__getattribute__"))) (Ji2 : PySem.W.findIn K (.ref CJ) "__getattr__" = some none) (Ji3 : PySem.W.hasDictIn K CJ = true) (Ji4 : PySem.W.findIn K (.ref CJ) "__class__" = some (some (.builtin "object.__class__"))) (Ji5 : PySem.W.specialIn K (.builtin "object.__class__") "__get__" = some (some (.builtin "getset_descriptor.__get__"))) (Ji6 : PySem.W.takesIn K (.builtin "object.__class__") = some true) (Ji7 : PySem.W.mroIn K CJ (.type "object") = some true) (gk : PySem.W.nsIn K mainGlobals "KnownError" = some (some (.ref KE))) (xR : PySem.W.exmOne K (.ref CR) (.ref KE) = some true) (xN : PySem.W.exmOne K (.ref CN) (.ref KE) = some true) (xJ : PySem.W.exmOne K (.ref CJ) (.ref KE) = some true) (kRR : PySem.W.kitOne K (.ref CR) (.ref CR) = some true) (kRN : PySem.W.kitOne K (.ref CR) (.ref CN) = some false) (kRJ : PySem.W.kitOne K (.ref CR) (.ref CJ) = some false) (kNR : PySem.W.kitOne K (.ref CN) (.ref CR) = some false) (kNN : PySem.W.kitOne K (.ref CN) (.ref CN) = some true) (kNJ : PySem.W.kitOne K (.ref CN) (.ref CJ) = some false) (kJR : PySem.W.kitOne K (.ref CJ) (.ref CR) = some false) (kJN : PySem.W.kitOne K (.ref CJ) (.ref CN) = some false) (kJJ : PySem.W.kitOne K (.ref CJ) (.ref CJ) = some true) : TxK K mg :=
  ⟨⟨CR, PySem.W.mg_of X G R1, R2, R3, R4, R5, ⟨Ri1, Ri2, R4, Ri3, Ri4, Ri5, Ri6, Ri7⟩⟩, ⟨CN, PySem.W.mg_of X G N1, N2, N3, N4, N5, ⟨Ni1, Ni2, N4, Ni3, Ni4, Ni5, Ni6, Ni7⟩⟩, ⟨CJ, PySem.W.mg_of X G J1, J2, J3, J4, J5, ⟨Ji1, Ji2, J4, Ji3, Ji4, Ji5, Ji6, Ji7⟩⟩, KE, PySem.W.mg_of X G gk, xR, xN, xJ, kRR, kRN, kRJ, kNR, kNN, kNJ, kJR, kJN, kJJ⟩
theorem law_end {l : PySem.W.OpenLaw} {w : World} {K : PySem.W.Frag} {h : Heap} {mg : Str → Option Value} {fa f : Addr} (X : K.In h) (G : h.Ns mainGlobals mg) (hfa : mg "law" = some (.ref fa))
    {od an : Option Addr} {osl : Array (Option Value)} {oc kV doc pm cdv ct : Value} {c P fF : Addr} {odF anF : Option Addr} {oslF : Array (Option Value)} {ocF kVF docF pmF ctF : Value} {c2 P2 fR : Addr} {odR anR : Option Addr} {oslR : Array (Option Value)} {ocR kVR docR pmR ctR : Value}
    (a0 : PySem.W.nsIn K mainGlobals "law" = some (some (.ref f))) (l0 : K.lookup f = some ⟨oc, od, .func (PySem.W.fnOf "law" "law" (defArgs slaw) (defBody slaw) (defScope slaw) .none kV doc pm an cdv ct), osl⟩) (c0 : PySem.W.codeIn K cdv "law" = true) (k0 : PySem.W.keepIn K (.ref f) = true)
    (aF : PySem.W.nsIn K mainGlobals "falling" = some (some (.ref fF))) (lF : K.lookup fF = some ⟨ocF, odF, .func (PySem.W.fnOf "falling" "falling" (defArgs sP_falling) (defBody sP_falling) (defScope sP_falling) .none kVF docF pmF anF (.ref c) ctF), oslF⟩) (cF : PySem.W.codeIn K (.ref c) "falling" = true) (kF : PySem.W.keepIn K (.ref fF) = true)
    (cLT : Cst mg "LETTERS" (.str "abcdefghijklmnopqrstuvwxyz")) (hT : h.get? P = some { cls := .none, data := .fields #[] }) (nT : K.lookup P = none) (hC : PySem.W.codeHdIn K c P = true)
    (aR : PySem.W.nsIn K mainGlobals "_law_refused" = some (some (.ref fR))) (lR : K.lookup fR = some ⟨ocR, odR, .func (PySem.W.fnOf "_law_refused" "_law_refused" (defArgs srefused) (defBody srefused) (defScope srefused) .none kVR docR pmR anR (.ref c2) ctR), oslR⟩) (cR : PySem.W.codeIn K (.ref c2) "_law_refused" = true) (kR : PySem.W.keepIn K (.ref fR) = true)
    (hT2 : h.get? P2 = some { cls := .none, data := .fields #[] }) (nT2 : K.lookup P2 = none) (hC2 : PySem.W.codeHdIn K c2 P2 = true) (hne : P2 ≠ P) (S : TxK K mg)
    (T : Blt mg) (n_zip : mg "zip" = none) (n_divmod : mg "divmod" = none) (cM : Cst mg "MOST_ROOM" (.int 64)) (cL : Cst mg "LONGEST_NAME" (.int 8)) (cA : Cst mg "MOST_ASKED" (.int 40)) (cY : Cst mg "MOST_MANY" (.int 1000000000000)) (cG : Cst mg "LONGEST" (.int 2000))  (dP_is_int : DnIsInt K mg) (dP_is_number : DnIsNumber K mg) (dP_is_room : DnIsRoom K mg) (dP_is_name : DnIsName K mg) (dP_is_counted : DnIsCounted K mg) (dP_are_counts : DnAreCounts K mg) (dP_lost_of : DnLostOf K mg) (dP_is_sketch : DnIsSketch K mg) (dP_asked : DnAsked K mg) (dP_parted : DnParted K mg) (dP_filled : DnFilled K mg) (dP_passed : DnPassed K mg) (dP_plans_of : DnPlansOf K mg) (dP_is_question : DnIsQuestion K mg) (dP_is_lot : DnIsLot K mg) (dP_worth : DnWorth K mg) (dP_greatest : DnGreatest K mg) (dP_need_both : DnNeedBoth K mg) (dP_named : DnNamed K mg) (dP_ends : DnEnds K mg) (dP_name_at : DnNameAt K mg) (dP_least_names : DnLeastNames K mg) (dP_is_many : DnIsMany K mg) (dP_most_off : DnMostOff K mg) (dP_room_for : DnRoomFor K mg) (dP_in_rounds : DnInRounds K mg) (dP_worst : DnWorst K mg) (dP_widest : DnWidest K mg) (dhand : Dnhand K mg) (ddraw : Dndraw K mg) (dany : Dnany K mg) (dpool : Dnpool K mg) (dfed : Dnfed K mg) (dpoured : Dnpoured K mg) (dsketch : Dnsketch K mg) (dis_int : Dnis_int K mg) (dis_name : Dnis_name K mg) (ddeep : Dndeep K mg) (dword : Dnword K mg) (dwidest : DnwidestL K mg) :
    LamX.LawAtS l w K CX0 12 63 "_law_script" mg fa h := by
  have e := hfa.symm.trans (PySem.W.mg_of X G a0)
  cases e
  refine ⟨PySem.W.fnOf "law" "law" (defArgs slaw) (defBody slaw) (defScope slaw) .none kV doc pm an cdv ct, [(c, P), (c2, P2)], spLaw K P P2, fun p hp => ?_, fun p hp => ?_, fun p hp => ?_, fun s v => .of_eq rfl, fun H a ns hl _ hH hS => ⟨a, ns, rfl, hS, hl, TabS.nil (hH (c, P) List.mem_cons_self), TabS.nil (hH (c2, P2) (List.mem_cons_of_mem _ List.mem_cons_self)), fun _ => rfl⟩, fun base _ _ tb => ?_⟩
  · rcases List.mem_cons.mp hp with rfl | hp
    · exact hT
    · rw [List.mem_singleton.mp hp]
      exact hT2
  · rcases List.mem_cons.mp hp with rfl | hp
    · exact nT
    · rw [List.mem_singleton.mp hp]
      exact nT2
  · rcases List.mem_cons.mp hp with rfl | hp
    · exact PySem.W.codeHd_of_K X hC
    · rw [List.mem_singleton.mp hp]
      exact PySem.W.codeHd_of_K X hC2
  exact ok_law (base := base) { D := { T := T, cM := cM, cL := cL, cA := cA, n_zip := n_zip, F := ⟨dn_of X G aF lF cF kF (fun _ _ _ _ _ _ us hl => match us, hl with | [_], _ => rfl), c, P, rfl, tb (c, P) List.mem_cons_self⟩, dP_is_int := dP_is_int, dP_is_number := dP_is_number, dP_is_room := dP_is_room, dP_is_name := dP_is_name, dP_is_counted := dP_is_counted, dP_are_counts := dP_are_counts, dP_lost_of := dP_lost_of, dP_is_sketch := dP_is_sketch, dP_asked := dP_asked, dP_parted := dP_parted, dP_filled := dP_filled, dP_passed := dP_passed, dP_plans_of := dP_plans_of, dP_is_question := dP_is_question, dP_is_lot := dP_is_lot, dP_worth := dP_worth, dP_greatest := dP_greatest, dP_need_both := dP_need_both, dP_named := dP_named, dP_ends := dP_ends }, n_divmod := n_divmod, cY := cY, cG := cG, cLT := cLT, dP_name_at := dP_name_at, dP_least_names := dP_least_names, dP_is_many := dP_is_many, dP_most_off := dP_most_off, dP_room_for := dP_room_for, dP_in_rounds := dP_in_rounds, dP_worst := dP_worst, dP_widest := dP_widest, dhand := dhand, ddraw := ddraw, dany := dany, dpool := dpool, dfed := dfed, dpoured := dpoured, dsketch := dsketch, dis_int := dis_int, dis_name := dis_name, ddeep := ddeep, dword := dword, dwidest := dwidest, S := S, Rf := ⟨dn_of X G aR lR cR kR (fun _ _ _ _ _ _ us hl => match us, hl with | [_], _ => rfl), c2, P2, rfl, tb (c2, P2) (List.mem_cons_of_mem _ List.mem_cons_self)⟩, ne := hne }
    ⟨_, _, fun_mk l0 c0 k0, PySem.W.mg_of X G a0, (fun_mk l0 c0 k0).binds fun _ _ _ _ _ _ us hl => match us, hl with | [_], _ => rfl⟩
end Kb
open PySem PySem.W PyProof.Rows
theorem PySem.Challenge.cw_knownends_k42_whole_rooms_for_told_error_holds : PySem.Challenge.rw_knownends_k42_whole_rooms_for_told_error.Holds := by
  w_on; o_law; k_head; (case hw => w_witness2)
  k_fill
  refine LamX.walk_ofTs (l := PySem.Challenge.rw_knownends_k42_whole_rooms_for_told_error) (n := 63) (k := 12) (x := "_law_script") (CX := fun _ => L2.CX0) rfl (by decide) rfl ⟨rfl, by decide, by decide⟩ (fun w h Y => PySem.W.km_in_of Y) ?F (fun _ _ _ _ _ h => h)
  case F =>
    intro w mg fa h Y KX G hmg
    have hT8 := PySem.W.km_tabs_of Y
    refine' Kb.law_end (P := 146) (P2 := 332) KX G hmg ?a0 ?l0 ?c0 ?k0 ?aF ?lF ?cF ?kF ?cLT (hT8 _ ?hT) ?nT ?hC ?aR ?lR ?cR ?kR (hT8 _ ?hT2) ?nT2 ?hC2 ?hne ?S ?T ?n_zip ?n_divmod ?cM ?cL ?cA ?cY ?cG ?dP_is_int ?dP_is_number ?dP_is_room ?dP_is_name ?dP_is_counted ?dP_are_counts ?dP_lost_of ?dP_is_sketch ?dP_asked ?dP_parted ?dP_filled ?dP_passed ?dP_plans_of ?dP_is_question ?dP_is_lot ?dP_worth ?dP_greatest ?dP_need_both ?dP_named ?dP_ends ?dP_name_at ?dP_least_names ?dP_is_many ?dP_most_off ?dP_room_for ?dP_in_rounds ?dP_worst ?dP_widest ?dhand ?ddraw ?dany ?dpool ?dfed ?dpoured ?dsketch ?dis_int ?dis_name ?ddeep ?dword ?dwidest
    (case a0 => k_is); (case l0 => k_is); (case c0 => k_is); (case k0 => k_is)
    (case aF => k_is); (case lF => k_is); (case cF => k_is); (case kF => k_is); (case cLT => refine' Kb.cstS_of KX G ?a_cLT ?e_cLT; (case a_cLT => k_is); (case e_cLT => decide +kernel)); (case hT => simp); (case nT => kernel_rfl); (case hC => kernel_rfl); (case aR => k_is); (case lR => k_is); (case cR => k_is); (case kR => k_is); (case hT2 => simp); (case nT2 => kernel_rfl); (case hC2 => kernel_rfl); (case hne => decide)
    (case S =>
      refine' Kb.txk_of KX G ?R1 ?R2 ?R3 ?R4 ?R5 ?Ri1 ?Ri2 ?Ri3 ?Ri4 ?Ri5 ?Ri6 ?Ri7 ?N1 ?N2 ?N3 ?N4 ?N5 ?Ni1 ?Ni2 ?Ni3 ?Ni4 ?Ni5 ?Ni6 ?Ni7 ?J1 ?J2 ?J3 ?J4 ?J5 ?Ji1 ?Ji2 ?Ji3 ?Ji4 ?Ji5 ?Ji6 ?Ji7 ?gk ?xR ?xN ?xJ ?kRR ?kRN ?kRJ ?kNR ?kNN ?kNJ ?kJR ?kJN ?kJJ
      (case R1 => k_is); (case R2 => first | k_exc | kernel_rfl); (case R3 => k_is); (case R4 => k_is); (case R5 => k_is); (case Ri1 => k_is); (case Ri2 => k_is); (case Ri3 => k_is); (case Ri4 => k_is); (case Ri5 => k_is); (case Ri6 => k_is); (case Ri7 => k_is); (case N1 => k_is); (case N2 => first | k_exc | kernel_rfl); (case N3 => k_is); (case N4 => k_is); (case N5 => k_is); (case Ni1 => k_is); (case Ni2 => k_is); (case Ni3 => k_is); (case Ni4 => k_is); (case Ni5 => k_is); (case Ni6 => k_is); (case Ni7 => k_is); (case J1 => k_is); (case J2 => first | k_exc | kernel_rfl); (case J3 => k_is); (case J4 => k_is); (case J5 => k_is); (case Ji1 => k_is); (case Ji2 => k_is); (case Ji3 => k_is); (case Ji4 => k_is); (case Ji5 => k_is); (case Ji6 => k_is); (case Ji7 => k_is); (case gk => k_is); (case xR => first | rfl | k_is); (case xN => first | rfl | k_is); (case xJ => first | rfl | k_is); (case kRR => first | rfl | k_is); (case kRN => first | rfl | k_is); (case kRJ => first | rfl | k_is); (case kNR => first | rfl | k_is); (case kNN => first | rfl | k_is); (case kNJ => first | rfl | k_is); (case kJR => first | rfl | k_is); (case kJN => first | rfl | k_is); (case kJJ => first | rfl | k_is))
    (case T => exact ⟨PySem.W.mg_none_of KX G (by k_is), PySem.W.mg_none_of KX G (by k_is), PySem.W.mg_none_of KX G (by k_is), PySem.W.mg_none_of KX G (by k_is), PySem.W.mg_none_of KX G (by k_is), PySem.W.mg_none_of KX G (by k_is), PySem.W.mg_none_of KX G (by k_is), PySem.W.mg_none_of KX G (by k_is), PySem.W.mg_none_of KX G (by k_is), PySem.W.mg_none_of KX G (by k_is), PySem.W.mg_none_of KX G (by k_is), PySem.W.mg_none_of KX G (by k_is), PySem.W.mg_none_of KX G (by k_is), PySem.W.mg_none_of KX G (by k_is), PySem.W.mg_none_of KX G (by k_is), PySem.W.mg_none_of KX G (by k_is)⟩)
    (case n_zip => exact PySem.W.mg_none_of KX G (by k_is))
    (case n_divmod => exact PySem.W.mg_none_of KX G (by k_is))
    (case cM => refine' Kb.cst_of KX G ?a_cM; (case a_cM => k_is))
    (case cL => refine' Kb.cst_of KX G ?a_cL; (case a_cL => k_is))
    (case cA => refine' Kb.cst_of KX G ?a_cA; (case a_cA => k_is))
    (case cY => refine' Kb.cst_of KX G ?a_cY; (case a_cY => k_is))
    (case cG => refine' Kb.cst_of KX G ?a_cG; (case a_cG => k_is))
    (case dP_is_int => refine' Kb.dn_of KX G ?a_dP_is_int ?l_dP_is_int ?c_dP_is_int ?k_dP_is_int ?b_dP_is_int; (case a_dP_is_int => k_is); (case l_dP_is_int => k_is); (case c_dP_is_int => k_is); (case k_dP_is_int => k_is); (case b_dP_is_int => exact fun _ _ _ _ _ _ us hl => match us, hl with | [_], _ => rfl))
    (case dP_is_number => refine' Kb.dn_of KX G ?a_dP_is_number ?l_dP_is_number ?c_dP_is_number ?k_dP_is_number ?b_dP_is_number; (case a_dP_is_number => k_is); (case l_dP_is_number => k_is); (case c_dP_is_number => k_is); (case k_dP_is_number => k_is); (case b_dP_is_number => exact fun _ _ _ _ _ _ us hl => match us, hl with | [_], _ => rfl))
    (case dP_is_room => refine' Kb.dn_of KX G ?a_dP_is_room ?l_dP_is_room ?c_dP_is_room ?k_dP_is_room ?b_dP_is_room; (case a_dP_is_room => k_is); (case l_dP_is_room => k_is); (case c_dP_is_room => k_is); (case k_dP_is_room => k_is); (case b_dP_is_room => exact fun _ _ _ _ _ _ us hl => match us, hl with | [_], _ => rfl))
    (case dP_is_name => refine' Kb.dn_of KX G ?a_dP_is_name ?l_dP_is_name ?c_dP_is_name ?k_dP_is_name ?b_dP_is_name; (case a_dP_is_name => k_is); (case l_dP_is_name => k_is); (case c_dP_is_name => k_is); (case k_dP_is_name => k_is); (case b_dP_is_name => exact fun _ _ _ _ _ _ us hl => match us, hl with | [_], _ => rfl))
    (case dP_is_counted => refine' Kb.dn_of KX G ?a_dP_is_counted ?l_dP_is_counted ?c_dP_is_counted ?k_dP_is_counted ?b_dP_is_counted; (case a_dP_is_counted => k_is); (case l_dP_is_counted => k_is); (case c_dP_is_counted => k_is); (case k_dP_is_counted => k_is); (case b_dP_is_counted => exact fun _ _ _ _ _ _ us hl => match us, hl with | [_], _ => rfl))
    (case dP_are_counts => refine' Kb.dn_of KX G ?a_dP_are_counts ?l_dP_are_counts ?c_dP_are_counts ?k_dP_are_counts ?b_dP_are_counts; (case a_dP_are_counts => k_is); (case l_dP_are_counts => k_is); (case c_dP_are_counts => k_is); (case k_dP_are_counts => k_is); (case b_dP_are_counts => exact fun _ _ _ _ _ _ us hl => match us, hl with | [_], _ => rfl))
    (case dP_lost_of => refine' Kb.dn_of KX G ?a_dP_lost_of ?l_dP_lost_of ?c_dP_lost_of ?k_dP_lost_of ?b_dP_lost_of; (case a_dP_lost_of => k_is); (case l_dP_lost_of => k_is); (case c_dP_lost_of => k_is); (case k_dP_lost_of => k_is); (case b_dP_lost_of => exact fun _ _ _ _ _ _ us hl => match us, hl with | [_], _ => rfl))
    (case dP_is_sketch => refine' Kb.dn_of KX G ?a_dP_is_sketch ?l_dP_is_sketch ?c_dP_is_sketch ?k_dP_is_sketch ?b_dP_is_sketch; (case a_dP_is_sketch => k_is); (case l_dP_is_sketch => k_is); (case c_dP_is_sketch => k_is); (case k_dP_is_sketch => k_is); (case b_dP_is_sketch => exact fun _ _ _ _ _ _ us hl => match us, hl with | [_], _ => rfl))
    (case dP_asked => refine' Kb.dn_of KX G ?a_dP_asked ?l_dP_asked ?c_dP_asked ?k_dP_asked ?b_dP_asked; (case a_dP_asked => k_is); (case l_dP_asked => k_is); (case c_dP_asked => k_is); (case k_dP_asked => k_is); (case b_dP_asked => exact fun _ _ _ _ _ _ us hl => match us, hl with | [_], _ => rfl))
    (case dP_parted => refine' Kb.dn_of KX G ?a_dP_parted ?l_dP_parted ?c_dP_parted ?k_dP_parted ?b_dP_parted; (case a_dP_parted => k_is); (case l_dP_parted => k_is); (case c_dP_parted => k_is); (case k_dP_parted => k_is); (case b_dP_parted => exact fun _ _ _ _ _ _ us hl => match us, hl with | [_, _], _ => rfl))
    (case dP_filled => refine' Kb.dn_of KX G ?a_dP_filled ?l_dP_filled ?c_dP_filled ?k_dP_filled ?b_dP_filled; (case a_dP_filled => k_is); (case l_dP_filled => k_is); (case c_dP_filled => k_is); (case k_dP_filled => k_is); (case b_dP_filled => exact fun _ _ _ _ _ _ us hl => match us, hl with | [_, _, _, _], _ => rfl))
    (case dP_passed => refine' Kb.dn_of KX G ?a_dP_passed ?l_dP_passed ?c_dP_passed ?k_dP_passed ?b_dP_passed; (case a_dP_passed => k_is); (case l_dP_passed => k_is); (case c_dP_passed => k_is); (case k_dP_passed => k_is); (case b_dP_passed => exact fun _ _ _ _ _ _ us hl => match us, hl with | [_, _], _ => rfl))
    (case dP_plans_of => refine' Kb.dn_of KX G ?a_dP_plans_of ?l_dP_plans_of ?c_dP_plans_of ?k_dP_plans_of ?b_dP_plans_of; (case a_dP_plans_of => k_is); (case l_dP_plans_of => k_is); (case c_dP_plans_of => k_is); (case k_dP_plans_of => k_is); (case b_dP_plans_of => exact fun _ _ _ _ _ _ us hl => match us, hl with | [_, _], _ => rfl))
    (case dP_is_question => refine' Kb.dn_of KX G ?a_dP_is_question ?l_dP_is_question ?c_dP_is_question ?k_dP_is_question ?b_dP_is_question; (case a_dP_is_question => k_is); (case l_dP_is_question => k_is); (case c_dP_is_question => k_is); (case k_dP_is_question => k_is); (case b_dP_is_question => exact fun _ _ _ _ _ _ us hl => match us, hl with | [_], _ => rfl))
    (case dP_is_lot => refine' Kb.dn_of KX G ?a_dP_is_lot ?l_dP_is_lot ?c_dP_is_lot ?k_dP_is_lot ?b_dP_is_lot; (case a_dP_is_lot => k_is); (case l_dP_is_lot => k_is); (case c_dP_is_lot => k_is); (case k_dP_is_lot => k_is); (case b_dP_is_lot => exact fun _ _ _ _ _ _ us hl => match us, hl with | [_], _ => rfl))
    (case dP_worth => refine' Kb.dn_of KX G ?a_dP_worth ?l_dP_worth ?c_dP_worth ?k_dP_worth ?b_dP_worth; (case a_dP_worth => k_is); (case l_dP_worth => k_is); (case c_dP_worth => k_is); (case k_dP_worth => k_is); (case b_dP_worth => exact fun _ _ _ _ _ _ us hl => match us, hl with | [_, _, _], _ => rfl))
    (case dP_greatest => refine' Kb.dn_of KX G ?a_dP_greatest ?l_dP_greatest ?c_dP_greatest ?k_dP_greatest ?b_dP_greatest; (case a_dP_greatest => k_is); (case l_dP_greatest => k_is); (case c_dP_greatest => k_is); (case k_dP_greatest => k_is); (case b_dP_greatest => exact fun _ _ _ _ _ _ us hl => match us, hl with | [_, _], _ => rfl))
    (case dP_need_both => refine' Kb.dn_of KX G ?a_dP_need_both ?l_dP_need_both ?c_dP_need_both ?k_dP_need_both ?b_dP_need_both; (case a_dP_need_both => k_is); (case l_dP_need_both => k_is); (case c_dP_need_both => k_is); (case k_dP_need_both => k_is); (case b_dP_need_both => exact fun _ _ _ _ _ _ us hl => match us, hl with | [_, _], _ => rfl))
    (case dP_named => refine' Kb.dn_of KX G ?a_dP_named ?l_dP_named ?c_dP_named ?k_dP_named ?b_dP_named; (case a_dP_named => k_is); (case l_dP_named => k_is); (case c_dP_named => k_is); (case k_dP_named => k_is); (case b_dP_named => exact fun _ _ _ _ _ _ us hl => match us, hl with | [_, _], _ => rfl))
    (case dP_ends => refine' Kb.dn_of KX G ?a_dP_ends ?l_dP_ends ?c_dP_ends ?k_dP_ends ?b_dP_ends; (case a_dP_ends => k_is); (case l_dP_ends => k_is); (case c_dP_ends => k_is); (case k_dP_ends => k_is); (case b_dP_ends => exact fun _ _ _ _ _ _ us hl => match us, hl with | [_, _], _ => rfl))
    (case dP_name_at => refine' Kb.dn_of KX G ?a_dP_name_at ?l_dP_name_at ?c_dP_name_at ?k_dP_name_at ?b_dP_name_at; (case a_dP_name_at => k_is); (case l_dP_name_at => k_is); (case c_dP_name_at => k_is); (case k_dP_name_at => k_is); (case b_dP_name_at => exact fun _ _ _ _ _ _ us hl => match us, hl with | [_], _ => rfl))
    (case dP_least_names => refine' Kb.dn_of KX G ?a_dP_least_names ?l_dP_least_names ?c_dP_least_names ?k_dP_least_names ?b_dP_least_names; (case a_dP_least_names => k_is); (case l_dP_least_names => k_is); (case c_dP_least_names => k_is); (case k_dP_least_names => k_is); (case b_dP_least_names => exact fun _ _ _ _ _ _ us hl => match us, hl with | [_], _ => rfl))
    (case dP_is_many => refine' Kb.dn_of KX G ?a_dP_is_many ?l_dP_is_many ?c_dP_is_many ?k_dP_is_many ?b_dP_is_many; (case a_dP_is_many => k_is); (case l_dP_is_many => k_is); (case c_dP_is_many => k_is); (case k_dP_is_many => k_is); (case b_dP_is_many => exact fun _ _ _ _ _ _ us hl => match us, hl with | [_], _ => rfl))
    (case dP_most_off => refine' Kb.dn_of KX G ?a_dP_most_off ?l_dP_most_off ?c_dP_most_off ?k_dP_most_off ?b_dP_most_off; (case a_dP_most_off => k_is); (case l_dP_most_off => k_is); (case c_dP_most_off => k_is); (case k_dP_most_off => k_is); (case b_dP_most_off => exact fun _ _ _ _ _ _ us hl => match us, hl with | [_, _], _ => rfl))
    (case dP_room_for => refine' Kb.dn_of KX G ?a_dP_room_for ?l_dP_room_for ?c_dP_room_for ?k_dP_room_for ?b_dP_room_for; (case a_dP_room_for => k_is); (case l_dP_room_for => k_is); (case c_dP_room_for => k_is); (case k_dP_room_for => k_is); (case b_dP_room_for => exact fun _ _ _ _ _ _ us hl => match us, hl with | [_, _], _ => rfl))
    (case dP_in_rounds => refine' Kb.dn_of KX G ?a_dP_in_rounds ?l_dP_in_rounds ?c_dP_in_rounds ?k_dP_in_rounds ?b_dP_in_rounds; (case a_dP_in_rounds => k_is); (case l_dP_in_rounds => k_is); (case c_dP_in_rounds => k_is); (case k_dP_in_rounds => k_is); (case b_dP_in_rounds => exact fun _ _ _ _ _ _ us hl => match us, hl with | [_, _], _ => rfl))
    (case dP_worst => refine' Kb.dn_of KX G ?a_dP_worst ?l_dP_worst ?c_dP_worst ?k_dP_worst ?b_dP_worst; (case a_dP_worst => k_is); (case l_dP_worst => k_is); (case c_dP_worst => k_is); (case k_dP_worst => k_is); (case b_dP_worst => exact fun _ _ _ _ _ _ us hl => match us, hl with | [_, _], _ => rfl))
    (case dP_widest => refine' Kb.dn_of KX G ?a_dP_widest ?l_dP_widest ?c_dP_widest ?k_dP_widest ?b_dP_widest; (case a_dP_widest => k_is); (case l_dP_widest => k_is); (case c_dP_widest => k_is); (case k_dP_widest => k_is); (case b_dP_widest => exact fun _ _ _ _ _ _ us hl => match us, hl with | [_, _, _], _ => rfl))
    (case dhand => refine' Kb.dn_of KX G ?a_dhand ?l_dhand ?c_dhand ?k_dhand ?b_dhand; (case a_dhand => k_is); (case l_dhand => k_is); (case c_dhand => k_is); (case k_dhand => k_is); (case b_dhand => exact fun _ _ _ _ _ _ us hl => match us, hl with | [_], _ => rfl))
    (case ddraw => refine' Kb.dn_of KX G ?a_ddraw ?l_ddraw ?c_ddraw ?k_ddraw ?b_ddraw; (case a_ddraw => k_is); (case l_ddraw => k_is); (case c_ddraw => k_is); (case k_ddraw => k_is); (case b_ddraw => exact fun _ _ _ _ _ _ us hl => match us, hl with | [_, _], _ => rfl))
    (case dany => refine' Kb.dn_of KX G ?a_dany ?l_dany ?c_dany ?k_dany ?b_dany; (case a_dany => k_is); (case l_dany => k_is); (case c_dany => k_is); (case k_dany => k_is); (case b_dany => exact fun _ _ _ _ _ _ us hl => match us, hl with | [_, _], _ => rfl))
    (case dpool => refine' Kb.dn_of KX G ?a_dpool ?l_dpool ?c_dpool ?k_dpool ?b_dpool; (case a_dpool => k_is); (case l_dpool => k_is); (case c_dpool => k_is); (case k_dpool => k_is); (case b_dpool => exact fun _ _ _ _ _ _ us hl => match us, hl with | [_, _], _ => rfl))
    (case dfed => refine' Kb.dn_of KX G ?a_dfed ?l_dfed ?c_dfed ?k_dfed ?b_dfed; (case a_dfed => k_is); (case l_dfed => k_is); (case c_dfed => k_is); (case k_dfed => k_is); (case b_dfed => exact fun _ _ _ _ _ _ us hl => match us, hl with | [_, _], _ => rfl))
    (case dpoured => refine' Kb.dn_of KX G ?a_dpoured ?l_dpoured ?c_dpoured ?k_dpoured ?b_dpoured; (case a_dpoured => k_is); (case l_dpoured => k_is); (case c_dpoured => k_is); (case k_dpoured => k_is); (case b_dpoured => exact fun _ _ _ _ _ _ us hl => match us, hl with | [_, _], _ => rfl))
    (case dsketch => refine' Kb.dn_of KX G ?a_dsketch ?l_dsketch ?c_dsketch ?k_dsketch ?b_dsketch; (case a_dsketch => k_is); (case l_dsketch => k_is); (case c_dsketch => k_is); (case k_dsketch => k_is); (case b_dsketch => exact fun _ _ _ _ _ _ us hl => match us, hl with | [_, _], _ => rfl))
    (case dis_int => refine' Kb.dn_of KX G ?a_dis_int ?l_dis_int ?c_dis_int ?k_dis_int ?b_dis_int; (case a_dis_int => k_is); (case l_dis_int => k_is); (case c_dis_int => k_is); (case k_dis_int => k_is); (case b_dis_int => exact fun _ _ _ _ _ _ us hl => match us, hl with | [_], _ => rfl))
    (case dis_name => refine' Kb.dn_of KX G ?a_dis_name ?l_dis_name ?c_dis_name ?k_dis_name ?b_dis_name; (case a_dis_name => k_is); (case l_dis_name => k_is); (case c_dis_name => k_is); (case k_dis_name => k_is); (case b_dis_name => exact fun _ _ _ _ _ _ us hl => match us, hl with | [_], _ => rfl))
    (case ddeep => refine' Kb.dn_of KX G ?a_ddeep ?l_ddeep ?c_ddeep ?k_ddeep ?b_ddeep; (case a_ddeep => k_is); (case l_ddeep => k_is); (case c_ddeep => k_is); (case k_ddeep => k_is); (case b_ddeep => exact fun _ _ _ _ _ _ us hl => match us, hl with | [_], _ => rfl))
    (case dword => refine' Kb.dn_of KX G ?a_dword ?l_dword ?c_dword ?k_dword ?b_dword; (case a_dword => k_is); (case l_dword => k_is); (case c_dword => k_is); (case k_dword => k_is); (case b_dword => exact fun _ _ _ _ _ _ us hl => match us, hl with | [_], _ => rfl))
    (case dwidest => refine' Kb.dn_of KX G ?a_dwidest ?l_dwidest ?c_dwidest ?k_dwidest ?b_dwidest; (case a_dwidest => k_is); (case l_dwidest => k_is); (case c_dwidest => k_is); (case k_dwidest => k_is); (case b_dwidest => exact fun _ _ _ _ _ _ us hl => match us, hl with | [_, _, _], _ => rfl))

