import PyProof.Rows.All
import HandS.ForMost
import HandS.ForExc
import HandS.SortKw
import HandS.SortRule
import HandS.DictTup
import HandS.DictComp
import HandS.ListItems
import HandS.Conv
import HandS.IsInst
import HandS.Codes
import HandS.Walk
import HandS.Style
import KE.KDictSum
import KE.KSortTupAny
import KE.KDictPairs
import HandS.ExcValue
import PySem.Challenge.RW_knownends_k37_whole_papers_of_truths
import HandS.CallLocal
import HandS.TupLe
import HandS.TupAny
import HandS.Wide
import HandS.SetFor
import PyProof.Rows.CountFlat
import PyProof.Rows.StrMul
import KE.KRevSl
import HandS.Flt
import HandS.Flow
import HandS.List
import PyProof.EqKinds
import PyProof.EqAt
import HandS.Strs
import HandS.TupSets
import HandS.SetKeys
import HandS.Lambda
import HandS.EndTab
import KE.SortKeyHeap
import HandS.NoneIn
import HandS.Zip
import HandS.Comp
import KE.KEqDict
import HandS.Dict
import HandS.ExcField
import HandS.ExcInit
set_option Elab.async false
set_option linter.all false
set_option maxRecDepth 100000
set_option maxHeartbeats 0
/-! own rules: sorted of pairs (text, int), of views -/
namespace SrtZ
open PySem PyProof.Rows Srt SrtO PySem.W
abbrev ltZ (x y : Str) : Bool := decide (x.cps.toList < y.cps.toList)
theorem str_of {x y : Str} (h : x.cps.toList = y.cps.toList) : x = y := by
  cases x; cases y
  simp at h
  rw [h]
theorem ltZ_irr (x : Str) : ltZ x x = false := decide_eq_false (List.lt_irrefl _)
theorem ltZ_asym {x y : Str} (h : ltZ x y = true) : ltZ y x = false := decide_eq_false (List.lt_asymm (of_decide_eq_true h))
theorem ltZ_trans {x y z : Str} (h : ltZ x y = true) (k : ltZ y z = true) : ltZ x z = true := decide_eq_true (List.lt_trans (of_decide_eq_true h) (of_decide_eq_true k))
theorem ltZ_tri {x y : Str} (h : ltZ x y = false) (k : ltZ y x = false) : x = y :=
  str_of (List.le_antisymm (List.not_lt.mp (of_decide_eq_false k)) (List.not_lt.mp (of_decide_eq_false h)))
def lexZ (p q : Str × Int) : Bool := if p.1 = q.1 then decide (p.2 < q.2) else ltZ p.1 q.1
theorem lexZ_eq {p q : Str × Int} (e : p.1 = q.1) : lexZ p q = decide (p.2 < q.2) := if_pos e
theorem lexZ_ne {p q : Str × Int} (e : ¬ p.1 = q.1) : lexZ p q = ltZ p.1 q.1 := if_neg e
theorem swo_Z : Swo lexZ := by
  refine ⟨fun x y h => ?_, fun x y z h1 h2 => ?_⟩
  · by_cases e : x.1 = y.1
    · rw [lexZ_eq e, decide_eq_true_eq] at h
      rw [lexZ_eq e.symm]
      exact decide_eq_false (by omega)
    · rw [lexZ_ne e] at h
      rw [lexZ_ne (fun z => e z.symm)]
      exact ltZ_asym h
  · by_cases e : x.1 = y.1
    · rw [lexZ_eq e.symm, decide_eq_false_iff_not] at h1
      by_cases f : y.1 = z.1
      · rw [lexZ_eq f.symm, decide_eq_false_iff_not] at h2
        rw [lexZ_eq (e.trans f).symm]
        exact decide_eq_false (by omega)
      · rw [lexZ_ne (fun q => f q.symm)] at h2
        rw [lexZ_ne (fun q => f (e.symm.trans q.symm)), e]
        exact h2
    · rw [lexZ_ne (fun q => e q.symm)] at h1
      by_cases f : y.1 = z.1
      · rw [lexZ_ne (fun q => e (q.symm.trans f.symm)), ← f]
        exact h1
      · rw [lexZ_ne (fun q => f q.symm)] at h2
        have g1 : ltZ x.1 y.1 = true := by
          rcases bcase (ltZ x.1 y.1) with q | q
          · exact q
          · exact absurd (ltZ_tri q h1) e
        have g2 : ltZ y.1 z.1 = true := by
          rcases bcase (ltZ y.1 z.1) with q | q
          · exact q
          · exact absurd (ltZ_tri q h2) f
        have g := ltZ_trans g1 g2
        have ne : ¬ z.1 = x.1 := fun q => by
          rw [q, ltZ_irr] at g
          cases g
        rw [lexZ_ne ne]
        exact ltZ_asym g
/-- a tuple (text, int) -/
def IsPZ (h : Heap) (v : Value) (p : Str × Int) : Prop := ∃ a o t u n, v = .ref a ∧ h.get? a = some o ∧ o.cls = .type "tuple" ∧ o.data = .seq #[.str p.1 t, .int p.2 u] n
theorem IsPZ.keeps {h h' : Heap} {v : Value} {p : Str × Int} (x : IsPZ h v p) (k : ∀ b o, h.get? b = some o → o.cls = .type "tuple" → h'.get? b = some o) : IsPZ h' v p := by
  obtain ⟨a, o, t, u, n, e, ho, hc, hd⟩ := x
  exact ⟨a, o, t, u, n, e, k _ _ ho hc, hc, hd⟩
section
variable {prog : Program} {w : World} {A : Around} {E : Value → Shared → Prop} {s : Shared}
theorem firstsZ {h : Heap} : ∀ {vs : List Value}, (∀ v ∈ vs, ∃ p, IsPZ h v p) → ∃ fs : List Value, KatTups h vs fs ∧ fs.length = vs.length ∧ ∀ f ∈ fs, ∃ x t, f = Value.str x t
  | [], _ => ⟨[], KatTups.nil, rfl, fun _ hm => by simp at hm⟩
  | v :: vs, hp => by
    obtain ⟨fs, h1, h2, h3⟩ := firstsZ (vs := vs) fun v' hm => hp v' (List.mem_cons_of_mem _ hm)
    obtain ⟨p, a, o, t, u, n, e, ho, hc, hd⟩ := hp v List.mem_cons_self
    subst e
    refine ⟨.str p.1 t :: fs, KatTups.cons ho hc hd rfl h1, by rw [List.length_cons, List.length_cons, h2], fun f hm => ?_⟩
    rcases List.mem_cons.mp hm with rfl | hm
    · exact ⟨_, t, rfl⟩
    · exact h3 f hm
theorem pairZ_cmp {vs : List Value} {k : Value → Str × Int} (hp : ∀ v ∈ vs, IsPZ s.heap v (k v)) : Cmp prog w A s (tuples' true) (fun p => p.1 ∈ vs) (lt2 fun v u => lexZ (k v) (k u)) := by
  intro p q hm hm'
  have h1 := hp _ hm
  have h2 := hp _ hm'
  show wpAny (model prog w) A (keyLt' (tuples' true) p.1 q.1) (fun r s' => s' = s ∧ r = lexZ (k p.1) (k q.1)) (fun _ _ => False) s
  generalize k p.1 = x at h1 ⊢
  generalize k q.1 = y at h2 ⊢
  obtain ⟨a, o, t, u, n, e, ho, hc, hd⟩ := h1
  obtain ⟨a', o', t', u', n', e', ho', hc', hd'⟩ := h2
  rw [e, e']
  refine kat_lt ho hd ho' hd' ?_
  show KatLex prog w A true (decide (2 < 2)) _ [(.str x.1 t, .str y.1 t'), (.int x.2 u, .int y.2 u')] 0 s
  refine kat_cons (wpAny_eqBool_str ?_)
  refine kat_go (fun e1 => ?_) (fun e1 => ?_)
  · have ex : x.1 = y.1 := of_decide_eq_true e1
    refine kat_yes (kat_cons (wpAny_eqBool_int ?_))
    refine kat_go (fun e2 => ?_) (fun e2 => ?_)
    · have ey : x.2 = y.2 := by simpa using e2
      refine kat_yes (kat_nil ⟨rfl, ?_⟩)
      rw [lexZ_eq ex, ey]
      exact (decide_eq_false (Int.lt_irrefl _)).symm
    · exact kat_no (oneLt_any_int ⟨rfl, (lexZ_eq ex).symm⟩)
  · have ex : ¬ x.1 = y.1 := of_decide_eq_false e1
    exact kat_no (oneLt_any_str ⟨rfl, (lexZ_ne ex).symm⟩)
theorem pairsZ_sortable {a : Addr} {vs : List Value} {k : Value → Str × Int} (h0 : 0 < vs.length) (hp : ∀ v ∈ vs, IsPZ s.heap v (k v)) (ha : ∀ o, s.heap.get? a = some o → o.cls ≠ .type "tuple") : SortableO prog w A s a vs fun v u => lexZ (k v) (k u) := by
  intro h' keep
  have hp' : ∀ v ∈ vs, IsPZ h' v (k v) := fun v hm => (hp v hm).keeps fun b o e c => keep b o (fun z => by subst z; exact ha o e c) e
  obtain ⟨fs, h1, h2, h3⟩ := firstsZ fun v hm => ⟨_, hp' v hm⟩
  refine ⟨tuples' true, fun Q E hq => ?_, pairZ_cmp hp'⟩
  refine kat_kind (T := .type "str") h1 (by omega) (fun f hm => ?_) (by rfl) ?_
  · obtain ⟨x, t, rfl⟩ := h3 f hm
    exact Looks.now
  · have e : (Value.type "str" != Value.type "tuple") = true := by first | decide +kernel | rfl | decide
    rw [e]
    exact hq
theorem plain_rev (a : Addr) : Builtin.«list.sort» ⟨[.ref a], []⟩ = Builtin.«list.sort» ⟨[.ref a], [(Str.ofString "reverse", .bool false)]⟩ := by
  rw [list_sort_rev]
  first | rfl | kernel_rfl
/-- sorted(x, ..) over what is collected of x -/
theorem sorted_col {x : Value} {b : Bool} {kw : List (Str × Value)} {ltv : Heap → Value → Value → Bool} {Q : Value → Shared → Prop} {P : Heap → Nat → List Value → Prop}
    (hk : ∀ a, Builtin.«list.sort» ⟨[.ref a], kw⟩ = Builtin.«list.sort» ⟨[.ref a], [(Str.ofString "reverse", .bool b)]⟩) (ha1 : argsOk "sorted" ⟨[x], kw⟩) (ha2 : ∀ a, argsOk "list.sort" ⟨[a], kw⟩)
    (hcol : ∀ R : List Value → Shared → Prop, (∀ h' tk vs, (∀ b o, s.heap.get? b = some o → h'.get? b = some o) → P h' tk vs → R vs { s with heap := h', toks := tk }) → wpAny (model prog w) A.in1 (collect x) R E s)
    (O : ∀ h' tk vs, P h' tk vs → Swo (ltv h')) (hz : ∀ h' tk vs, P h' tk vs → vs.length ≤ sizeLine)
    (hS : ∀ h' tk vs, P h' tk vs → 2 ≤ vs.length → ∀ (h₁ : Heap) (a : Addr), h₁.get? a = some (seqObj "list" vs.toArray 0) → (∀ b o, h'.get? b = some o → b ≠ a ∧ h₁.get? b = some o) → SortableO prog w A.in1.in1 { s with heap := h₁, toks := tk } a vs (ltv h'))
    (h : ∀ h' tk vs out h2, (∀ b o, s.heap.get? b = some o → h'.get? b = some o) → P h' tk vs → Srtd (ltv h') out → Stb (ltv h') out (if b = true then vs.reverse else vs) → (∀ c o, h'.get? c = some o → h2.get? c = some o) →
      (∃ n, h2.get? h'.objs.size = some (seqObj "list" (if b = true then out.toArray.reverse else out.toArray) n)) → Q (.ref h'.objs.size) { s with heap := h2, toks := tk }) :
    wpAny (model prog w) A (call (.builtin "sorted") [x] kw) Q E s := by
  refine call_function_entry_kw kind_sorted plain_sorted entry_sorted ha1 ?_
  unfold Builtin.«sorted»
  refine wpAny_bind (m := checkCount "sorted" 1 1 _) (wpAny_pure ?_)
  refine wpAny_bind (hcol _ fun h' tk vs hkp hP => ?_)
  refine wpAny_bind (wpAny_newList ?_ (hz _ _ _ hP))
  have hoL : (h'.push (seqObj "list" vs.toArray 0)).get? h'.objs.size = some (seqObj "list" vs.toArray 0) := Heap.get?_push_size _ rfl
  have keep : ∀ b o, h'.get? b = some o → b ≠ h'.objs.size ∧ (h'.push (seqObj "list" vs.toArray 0)).get? b = some o := fun b o q => ⟨Nat.ne_of_lt (Heap.lt_size q), Heap.get?_push_of_some _ q⟩
  show wpAny _ _ _ _ _ { s with heap := h'.push (seqObj "list" vs.toArray 0), toks := tk }
  refine wpAny_bind (wpAny_holding (wpAny_call_entry_kw slot_list_sort ⟨_, hoL, rfl⟩ entry_list_sort ?_ (ha2 _)))
  rw [hk]
  refine SrtR.list_sort_ordR (s := { s with heap := h'.push (seqObj "list" vs.toArray 0), toks := tk }) (O _ _ _ hP) hoL (hz _ _ _ hP) (fun h2 => hS _ _ _ hP h2 _ _ hoL keep) fun out hs hb => ⟨_, rfl, ?_⟩
  refine wpAny_pure ⟨_, rfl, h h' tk vs out _ hkp hP hs hb (fun c o q => ?_) ?_⟩
  · exact (sortedHeap_old (keep c o q).1 (Heap.lt_size (keep c o q).2)).trans (keep c o q).2
  · exact sortedHeap_at hoL
end
end SrtZ

namespace L2
open PySem PySem.Spec PyProof.Rows SrtO SrtZ
/-- counts as a dict's pairs -/
abbrev entZ (e : Str × Int) : Key × V := (Sum.inr e.1, V.int e.2)
section
variable {X : Cx}
/-- d.items() -/
def rItemsK : V → List V → Hp → VK → Prop := fun x xs H Q => ∃ (a : Addr) (kvs : List (Key × V)), x = .ref a ∧ xs = [] ∧ H a = some (.dK kvs) ∧ ∀ p, H p = none → Q (.ref p) (upd H p (DX.itemsO p a))
theorem mt_itemsK : MtR X "dict.items" rItemsK := by
  intro pins s σ H x xs v us Q I rx rxs h
  obtain ⟨a, kvs, rfl, rfl, ha, q⟩ := h
  cases rx
  cases rxs
  obtain ⟨z, hd, vs, kv, o, es, ep, ho, hx, hdat, _⟩ := dk_of I.hok ha
  refine DT.callItems (es := es) (ep := ep) hd ⟨o, ho, hx, hdat⟩ ?_
  have hf : H s.heap.objs.size = none := I.hok.fresh (Nat.le_refl _)
  exact ⟨.ref s.heap.objs.size, upd H s.heap.objs.size (DX.itemsO s.heap.objs.size a), I.laid (t' := s.toks) (fun b u e => Heap.get?_push_of_some _ e) (Nat.le_refl _) (DX.itemsO_ok (Heap.get?_push_size _ rfl)), rfl, q _ hf⟩
/-- d.values() -/
def valuesO (p d : Addr) : HO := .ext fun h => h.IsValuesView p d
theorem valuesO_ok {P : Program} {w : World} {H : Hp} {h : Heap} {p d : Addr} (e : h.get? p = some { cls := .type "dict_values", data := .fields #[.ref d] }) : ObjOk P w H h p (valuesO p d) :=
  ⟨⟨_, e, rfl, rfl⟩, ⟨_, e⟩, fun h1 h2 x k => let ⟨o, ho, r⟩ := x; ⟨o, k o ho, r⟩⟩
def rValuesK : V → List V → Hp → VK → Prop := fun x xs H Q => ∃ (a : Addr) (kvs : List (Key × V)), x = .ref a ∧ xs = [] ∧ H a = some (.dK kvs) ∧ ∀ p, H p = none → Q (.ref p) (upd H p (valuesO p a))
theorem mt_valuesK : MtR X "dict.values" rValuesK := by
  intro pins s σ H x xs v us Q I rx rxs h
  obtain ⟨a, kvs, rfl, rfl, ha, q⟩ := h
  cases rx
  cases rxs
  obtain ⟨z, hd, vs, kv, dd⟩ := dk_of I.hok ha
  have hf : H s.heap.objs.size = none := I.hok.fresh (Nat.le_refl _)
  refine call_meetsIn PySem.F.slot_dict_values dd.typeIs PySem.F.entry_dict_values (PySem.F.args_dict_values_1 _) (meets_dict_values (mixKind X.prog X.w) a hd) ⟨⟨vs, dd⟩, ?_⟩
  exact ⟨.ref s.heap.objs.size, upd H s.heap.objs.size (valuesO s.heap.objs.size a), I.laid (t' := s.toks) (fun b u e => Heap.get?_push_of_some _ e) (Nat.le_refl _) (valuesO_ok (Heap.get?_push_size _ rfl)), rfl, q _ hf⟩
end
end L2

namespace L2
open PySem PySem.Spec PyProof.Rows SrtO SrtZ
theorem ent_paired {xs' : List (Key × Value)} : ∀ {ks : List (Str × Int)}, KV (ks.map entZ) xs' → ∀ {j : Nat} {x : Key × Value}, xs'[j]? = some x → ∃ e t, ks[j]? = some e ∧ x = (Sum.inr e.1, Value.int e.2 t) := fun {ks} h {j x} hx => by
  obtain ⟨y, hy, r1, r2⟩ := DX.pget h hx
  rw [List.getElem?_map] at hy
  cases e : ks[j]? with
  | none => rw [e] at hy; cases hy
  | some p =>
    rw [e] at hy
    have hy' : entZ p = y := Option.some.inj hy
    subst hy'
    obtain ⟨t, et⟩ := (show ∃ t, x.2 = Value.int p.2 t from r2)
    refine ⟨p, t, rfl, ?_⟩
    obtain ⟨x1, x2⟩ := x
    have r1' : Sum.inr p.1 = x1 := r1
    have et' : x2 = Value.int p.2 t := et
    rw [← r1', et']
section
variable {X : Cx}
/-- sorted(d.items()), keys texts, values ints, any number of them -/
def rSortedIZ : List V → Hp → VK → Prop := fun vs H Q => ∃ (p d : Addr) (ks : List (Str × Int)), vs = [V.ref p] ∧ H p = some (DX.itemsO p d) ∧ H d = some (.dK (ks.map entZ)) ∧
  ∀ (H' : Hp) (l : Addr) (ys : List (Str × Int)) (ts : List Addr), Same H H' → H l = none → (∀ t ∈ ts, H t = none) → l ∉ ts → ys.Perm ks → Srtd lexZ ys → H' l = some (.lst (ts.map V.ref)) → Paired (fun (t : Addr) (y : Str × Int) => H' t = some (.tup [.str y.1, .int y.2])) ts ys → Q (.ref l) H'
theorem paired_of {α β : Type} {F : α → β → Prop} {l : List (α × β)} (h : ∀ z ∈ l, F z.1 z.2) : Paired F (l.map (·.1)) (l.map (·.2)) := by
  induction l with
  | nil => exact .nil
  | cons a l ih => exact .cons (h a List.mem_cons_self) (ih fun z hz => h z (List.mem_cons_of_mem _ hz))
/-- a tuple's key, read off the heap -/
def keyZ (h : Heap) : Value → Str × Int
  | .ref a => match h.get? a with
    | some o => match o.data with
      | .seq xs _ => match xs.toList with
        | [.str x _, .int y _] => (x, y)
        | _ => (⟨#[]⟩, 0)
      | _ => (⟨#[]⟩, 0)
    | none => (⟨#[]⟩, 0)
  | _ => (⟨#[]⟩, 0)
theorem keyZ_of {h : Heap} {v : Value} {p : Str × Int} (x : IsPZ h v p) : keyZ h v = p := by
  obtain ⟨a, o, t, u, n, rfl, ho, hc, hd⟩ := x
  simp only [keyZ, ho, hd]
theorem swo_key (h : Heap) : Swo fun v u => lexZ (keyZ h v) (keyZ h u) := ⟨fun x y => swo_Z.asym _ _, fun x y z => swo_Z.tr _ _ _⟩
def adr : Value → Addr
  | .ref a => a
  | _ => 0
theorem adr_refs : ∀ as : List Addr, (as.map Value.ref).map adr = as
  | [] => rfl
  | a :: as => congrArg (List.cons a) (adr_refs as)
theorem refs_adr : ∀ out : List Value, (∀ v ∈ out, ∃ a, v = Value.ref a) → (out.map adr).map Value.ref = out
  | [], _ => rfl
  | v :: out, h => by
    obtain ⟨a, rfl⟩ := h v List.mem_cons_self
    show Value.ref a :: (out.map adr).map Value.ref = Value.ref a :: out
    rw [refs_adr out fun u hu => h u (List.mem_cons_of_mem _ hu)]
/-- pairs that were laid and sorted are tracked: a list of them at l, the tuples at ts -/
theorem sortZ_end {pins : List (Addr × Obj)} {σ : St} {H : Hp} {s : Shared} {h' h2 : Heap} {tk l n : Nat} {as : List Addr} {ks : List (Str × Int)} {out : List Value} {Q : VK} (I : Inv X pins σ H s)
    (hk : ∀ b o, s.heap.get? b = some o → h'.get? b = some o) (hk2 : ∀ b o, h'.get? b = some o → h2.get? b = some o) (hl : s.heap.objs.size ≤ l) (hle : as.length ≤ sizeLine) (hlas : ∀ t ∈ as, t ≠ l) (nd : as.Nodup) (ha : ∀ t ∈ as, s.heap.objs.size ≤ t) (hn : H l = none)
    (hks : as.map (fun t => keyZ h' (.ref t)) = ks) (hp : ∀ t ∈ as, ∃ p, IsPZ h' (.ref t) p) (hat : h2.get? l = some (seqObj "list" out.toArray n)) (h1 : Srtd (fun v u => lexZ (keyZ h' v) (keyZ h' u)) out) (hb : out.Perm (as.map Value.ref))
    (q : ∀ (H' : Hp) (ys : List (Str × Int)) (ts : List Addr), Same H H' → H l = none → (∀ t ∈ ts, H t = none) → l ∉ ts → ys.Perm ks → Srtd lexZ ys → H' l = some (.lst (ts.map V.ref)) → Paired (fun (t : Addr) (y : Str × Int) => H' t = some (.tup [.str y.1, .int y.2])) ts ys → Q (.ref l) H') :
    EP X pins σ Q (.ref l) { s with heap := h2, toks := tk } := by
  have isr : ∀ v ∈ out, ∃ a, v = Value.ref a := fun v hv => by
    obtain ⟨a, _, e⟩ := List.mem_map.mp (hb.mem_iff.mp hv)
    exact ⟨a, e.symm⟩
  have eo := refs_adr out isr
  generalize ets : out.map adr = ts at eo
  have pt : ts.Perm as := by
    have := hb.map adr
    rwa [adr_refs, ets] at this
  have kS : ∀ b o, s.heap.get? b = some o → h2.get? b = some o := fun b o e => hk2 b o (hk b o e)
  have I1 : Inv X pins σ H { s with heap := h2, toks := tk } := I.kept (t' := tk) kS
  have hlen : (ts.map V.ref).length ≤ sizeLine := by rw [List.length_map, pt.length_eq]; exact hle
  have rv : Vals (ts.map V.ref) out := by
    rw [← eo]
    exact LiI.vals_refs ts
  have I2 : Inv X pins σ (upd H l (.lst (ts.map V.ref))) { s with heap := h2, toks := tk } := I1.take (h' := h2) (t' := tk) (fun b ob _ e => e) (I.fpOk hl hn) ⟨hlen, out, n, rv, hat⟩
  obtain ⟨H2, I3, g, qt⟩ := DX.takeT (P := fun b vs => vs = [.str (keyZ h' (.ref b)).1, .int (keyZ h' (.ref b)).2]) I as _ I2 nd fun b hb' => by
    obtain ⟨p, hp'⟩ := hp b hb'
    have ek := keyZ_of hp'
    obtain ⟨a, o, t, u, m, e, ho, hc, hd⟩ := hp'
    cases e
    refine ⟨ha b hb', ?_, [.str (keyZ h' (.ref b)).1, .int (keyZ h' (.ref b)).2], rfl, fun H3 => ⟨(by rw [sizeLine_eq]; show 2 ≤ 16777216; omega), [Value.str p.1 t, Value.int p.2 u], by rw [ek]; exact .cons ⟨_, rfl⟩ (.cons ⟨_, rfl⟩ .nil), ⟨o, hk2 _ _ ho, hc, m, hd⟩⟩⟩
    rw [upd_ne (hlas b hb')]
    exact I.hok.fresh (ha b hb')
  have gr : Same H H2 := fun b o e => g b o (by rw [upd_ne (ne_of_none e hn)]; exact e)
  refine ⟨.ref l, H2, I3, rfl, q H2 (ts.map fun t => keyZ h' (.ref t)) ts gr hn (fun t ht => I.hok.fresh (ha t (pt.mem_iff.mp ht))) (fun z => hlas l (pt.mem_iff.mp z) rfl) ?_ ?_ (g _ _ upd_same) ?_⟩
  · rw [← hks]
    exact pt.map _
  · have e : ts.map (fun t => keyZ h' (.ref t)) = out.map (keyZ h') := by
      rw [← eo, List.map_map]
      rfl
    rw [e]
    exact srtd_map h1
  · have : ∀ L : List Addr, (∀ t ∈ L, t ∈ as) → Paired (fun (t : Addr) (y : Str × Int) => H2 t = some (.tup [.str y.1, .int y.2])) L (L.map fun t => keyZ h' (.ref t)) := by
      intro L
      induction L with
      | nil => exact fun _ => .nil
      | cons t L ih =>
        intro hL
        refine .cons ?_ (ih fun u hu => hL u (List.mem_cons_of_mem _ hu))
        obtain ⟨vs, ev, hv⟩ := qt t (hL t List.mem_cons_self)
        rw [← ev]
        exact hv
    exact this ts fun t ht => pt.mem_iff.mp ht
theorem cr_sortedIZ (hc : X.calm = true) : CallR X (.builtin "sorted") rSortedIZ := by
  intro pins s σ H xs us Q I r h
  obtain ⟨p, a, ks, rfl, hp, ha, q⟩ := h
  obtain rfl := Vals.ref1 r
  have view : s.heap.IsItemsView p a := (show ObjOk X.prog X.w H s.heap p (DX.itemsO p a) from I.hok p _ hp).1
  obtain ⟨z, hd, xs', rel, o, es, ep, ho, hx, hdat, _, hes, _⟩ := dk_of I.hok ha
  have l1 : ks.length = xs'.length := by
    have := Paired.length rel
    rwa [List.length_map] at this
  have l2 : es.size = xs'.length := by rw [← Array.length_toList, hes.length]
  have hh : X.A.handled = none := I.ok.hd hc
  have hz : es.size ≤ sizeLine := by rw [List.length_map] at z; omega
  have ent : ∀ (j : Nat) (en : DictEntry), es[j]? = some en → ∃ e t u, ks[j]? = some e ∧ en.key = Value.str e.1 t ∧ en.val = Value.int e.2 u := by
    intro j en he
    have he' : es.toList[j]? = some en := by rw [Array.getElem?_toList]; exact he
    have pz : ∀ {es : List DictEntry} {kvs : List (Key × Value)}, Pairs (mixKind X.prog X.w) es kvs → ∀ {j : Nat} {en : DictEntry}, es[j]? = some en → ∃ x, kvs[j]? = some x ∧ keyIs x.1 en.key = true ∧ en.val = x.2 := by
      intro es kvs h
      induction h with
      | nil => intro j en h; simp at h
      | cons h1 h2 h3 ih =>
        intro j en h
        cases j with
        | zero => cases (Option.some.inj h); exact ⟨_, rfl, h1, h2⟩
        | succ j => exact ih (by simpa using h)
    obtain ⟨x, ex, k1, k2⟩ := pz hes he'
    obtain ⟨e, t, e1, e2⟩ := ent_paired rel ex
    subst e2
    obtain ⟨u, eu⟩ := relV_key k1
    exact ⟨e, u, t, e1, eu, k2⟩
  refine sorted_col (x := .ref p) (b := false) (kw := []) (ltv := fun h' v u => lexZ (keyZ h' v) (keyZ h' u)) (P := fun h' _ vs => ∃ as, vs = as.map Value.ref ∧ as.length = es.size ∧ DT.Made es s.heap.objs.size h' as ∧ s.heap.objs.size < h'.objs.size)
    plain_rev (args_sorted1 _) (fun _ => args_list_sort _) (fun R hR => ?_) (fun h' _ _ _ => swo_key h') (fun h' _ vs hP => ?_) (fun h' tk vs hP h2 h₁ b hb keep => ?_) (fun h' tk vs out h2 hk hP h1 hb hk2 hat => ?_)
  · exact DT.collectI (A := X.A.in1) hh view ⟨o, ho, hx, hdat⟩ hz fun h' tk as hk hlt hl hM => hR h' tk _ hk ⟨as, rfl, hl, hM, hlt⟩
  · obtain ⟨as, rfl, hl, _⟩ := hP
    rw [List.length_map, hl]
    exact hz
  · obtain ⟨as, rfl, hl, hM, _⟩ := hP
    refine pairsZ_sortable (s := { s with heap := h₁, toks := tk }) (k := keyZ h') (by omega) (fun v hv => ?_) (fun ob e => ?_)
    · obtain ⟨t, ht, rfl⟩ := List.mem_map.mp hv
      obtain ⟨j, hj⟩ := List.mem_iff_getElem?.mp ht
      obtain ⟨en, he, hg⟩ := hM.pairs j t hj
      obtain ⟨e, t1, t2, _, k1, k2⟩ := ent j en he
      have x : IsPZ h' (.ref t) e := ⟨t, _, t1, t2, 0, rfl, hg, rfl, by rw [k1, k2]⟩
      rw [keyZ_of x]
      exact x.keeps fun b o e _ => (keep b o e).2
    · have e' : some ob = some (seqObj "list" (as.map Value.ref).toArray 0) := e.symm.trans hb
      cases e'
      intro c
      exact absurd (Value.type.inj c) (by decide)
  · obtain ⟨as, rfl, hl, hM, hlt⟩ := hP
    obtain ⟨n, hat⟩ := hat
    have pz : ∀ (j : Nat) (t : Addr), as[j]? = some t → ∃ e, ks[j]? = some e ∧ IsPZ h' (.ref t) e := fun j t hj => by
      obtain ⟨en, he, hg⟩ := hM.pairs j t hj
      obtain ⟨e, t1, t2, e1, k1, k2⟩ := ent j en he
      exact ⟨e, e1, t, _, t1, t2, 0, rfl, hg, rfl, by rw [k1, k2]⟩
    refine sortZ_end (as := as) (ks := ks) I hk hk2 (Nat.le_of_lt hlt) (by rw [hl]; exact hz) (fun t ht => Nat.ne_of_lt (hM.there ht)) (List.Pairwise.imp (fun h => Nat.ne_of_lt h) hM.rise) (fun t ht => Nat.le_of_lt (hM.above t ht)) (I.hok.fresh (Nat.le_of_lt hlt)) ?_ (fun t ht => ?_) hat h1 hb.perm fun H' ys ts => q H' _ ys ts
    · refine List.ext_getElem? fun j => ?_
      rw [List.getElem?_map]
      cases hj : as[j]? with
      | none =>
        have : ks[j]? = none := List.getElem?_eq_none (by have := List.getElem?_eq_none_iff.mp hj; omega)
        rw [this]
        rfl
      | some t =>
        obtain ⟨e, e1, x⟩ := pz j t hj
        rw [e1]
        show some (keyZ h' (.ref t)) = some e
        rw [keyZ_of x]
    · obtain ⟨j, hj⟩ := List.mem_iff_getElem?.mp ht
      obtain ⟨e, _, x⟩ := pz j t hj
      exact ⟨e, x⟩
end
end L2

namespace SrtZ
open PySem PyProof.Rows Srt SrtO PySem.W
def ltSv (v u : Value) : Bool := ltZ (strOf v) (strOf u)
theorem swo_str : Swo ltSv := by
  refine ⟨fun x y h => ltZ_asym h, fun x y z h1 h2 => ?_⟩
  rcases bcase (ltZ (strOf z) (strOf x)) with q | q
  · rcases bcase (ltZ (strOf x) (strOf y)) with p | p
    · rcases bcase (ltZ (strOf y) (strOf z)) with r | r
      · have := ltZ_asym (ltZ_trans p r)
        rw [q] at this
        cases this
      · have e := ltZ_tri r h2
        have q' : ltZ (strOf z) (strOf x) = true := q
        rw [← e, ltZ_asym p] at q'
        cases q'
    · have e := ltZ_tri p h1
      have q' : ltZ (strOf z) (strOf x) = true := q
      have h2' : ltZ (strOf z) (strOf y) = false := h2
      rw [e, h2'] at q'
      cases q'
  · exact q
theorem strOf_strs : ∀ {vs : List Value} {ss : List Str}, StrsAre vs ss → vs.map strOf = ss
  | _, _, .nil => rfl
  | _, _, .cons y t h => congrArg (y :: ·) (strOf_strs h)
section
variable {prog : Program} {w : World} {A : Around} {E : Value → Shared → Prop} {s : Shared}
theorem str_cmp {vs : List Value} {ss : List Str} (hI : StrsAre vs ss) : Cmp prog w A s oneType' (fun p => p.1 ∈ vs) (lt2 ltSv) := by
  intro p q hm hm'
  obtain ⟨a, t, e⟩ := StrsAre.all hI _ hm
  obtain ⟨b, u, e'⟩ := StrsAre.all hI _ hm'
  show wpAny (model prog w) A (keyLt' oneType' p.1 q.1) (fun r s' => s' = s ∧ r = ltSv p.1 q.1) (fun _ _ => False) s
  rw [e, e', keyLt'_oneType]
  exact oneLt_any_str ⟨rfl, rfl⟩
theorem strs_sortable {a : Addr} {vs : List Value} {ss : List Str} (hI : StrsAre vs ss) (h2 : 2 ≤ vs.length) : SortableO prog w A s a vs ltSv := by
  intro h' _
  refine ⟨oneType', fun Q E hq => ?_, str_cmp hI⟩
  match vs, hI, h2 with
  | v1 :: v2 :: rest, hI, _ =>
    rw [keyKind_strs hI]
    exact wpAny_pure hq
  | [], _, h => exact absurd h (by decide)
  | [v], _, h => exact absurd h (by simp)
end
end SrtZ
namespace L2
open PySem PySem.Spec PyProof.Rows SrtO SrtZ
section
variable {X : Cx}
/-- sorted(xs), xs a list of tuples (text, int), any number of them -/
def rSortedPZ (K : PySem.W.Frag) : List V → Hp → VK → Prop := fun vs H Q => ∃ (a : Addr) (ts : List Addr) (k : Addr → Str × Int), vs = [V.ref a] ∧ SqL K H a (ts.map V.ref) ∧ (∀ t ∈ ts, H t = some (.tup [.str (k t).1, .int (k t).2])) ∧
  ∀ (us : List Addr) (p : Addr), us.Perm ts → Srtd lexZ (us.map k) → H p = none → Q (.ref p) (upd H p (.lst (us.map V.ref)))
theorem cr_sortedPZ : CallR X (.builtin "sorted") (rSortedPZ X.K) := by
  intro pins s σ H vs us Q I r h
  obtain ⟨a, ts, k, rfl, hs, hx, q⟩ := h
  obtain ⟨its, rv, hl, hz⟩ := I.list hs
  obtain rfl := Vals.ref1 r
  obtain rfl := refs_at rv
  rw [List.length_map] at hz
  have hp : ∀ v ∈ ts.map Value.ref, IsPZ s.heap v (k (adr v)) := fun v hv => by
    obtain ⟨t, ht, rfl⟩ := List.mem_map.mp hv
    obtain ⟨_, its2, r2, o, ho, hc, n, hd⟩ := I.hok _ _ (hx t ht)
    obtain ⟨u1, u2, rfl, ri, rj⟩ := vals2 r2
    obtain ⟨t1, rfl⟩ := ri
    obtain ⟨t2, rfl⟩ := rj
    exact ⟨t, o, t1, t2, n, rfl, ho, hc, hd⟩
  refine SrtO.sorted_ord (ltv := fun v u => lexZ (k (adr v)) (k (adr u))) ⟨fun x y => swo_Z.asym _ _, fun x y z => swo_Z.tr _ _ _⟩ hl.isList (by rw [List.length_map]; exact hz) (fun h2 h₁ b hb kk => ?_) fun out h1 h2 => ?_
  · refine pairsZ_sortable (s := { s with heap := h₁ }) (k := fun v => k (adr v)) (by omega) (fun v hv => (hp v hv).keeps fun b o e _ => (kk b o e).2) fun o e => ?_
    have e' : some o = some (seqObj "list" (ts.map Value.ref).toArray 0) := e.symm.trans hb
    cases e'
    intro c
    exact absurd (Value.type.inj c) (by decide)
  · obtain ⟨ep, he'⟩ := PyProof.Rows.sortedAll_at s.heap (ts.map Value.ref) out.toArray
    have isr : ∀ v ∈ out, ∃ a, v = Value.ref a := fun v hv => by
      obtain ⟨a, _, e⟩ := List.mem_map.mp (h2.perm.mem_iff.mp hv)
      exact ⟨a, e.symm⟩
    have eo := refs_adr out isr
    generalize eus : out.map adr = us at eo
    have pt : us.Perm ts := by
      have := h2.perm.map adr
      rwa [adr_refs, eus] at this
    have hlen : (us.map V.ref).length ≤ sizeLine := by rw [List.length_map, pt.length_eq]; exact hz
    have rv : Vals (us.map V.ref) out := by
      rw [← eo]
      exact LiI.vals_refs us
    refine ⟨.ref _, upd H (s.heap.objs.size + 1) (.lst (us.map V.ref)), I.laid (t' := s.toks) (fun _ _ => PyProof.Rows.sortedAll_old) (Nat.le_succ _) ⟨hlen, out, ep, rv, he'⟩, rfl, q us _ pt ?_ (I.hok.fresh (Nat.le_succ _))⟩
    have e : us.map k = out.map fun v => k (adr v) := by
      rw [← eo, List.map_map]
      rfl
    rw [e]
    exact srtd_map h1
/-- the ints of a dict's values -/
theorem vals_ints' {xs' : List (Key × Value)} : ∀ {ks : List (Str × Int)}, KV (ks.map entZ) xs' → ∀ {vs : List Value}, vs.length = xs'.length → (∀ (j : Nat) (v : Value), vs[j]? = some v → ∃ k, xs'[j]? = some (k, v)) → IntsAre vs (ks.map (·.2)) := fun {ks} rel {vs} hl hv => by
  have e : vs = xs'.map (·.2) := PySem.W.kdl_vals_eq vs hl hv
  subst e
  have : ∀ {ks : List (Str × Int)} {xs : List (Key × Value)}, KV (ks.map entZ) xs → IntsAre (xs.map (·.2)) (ks.map (·.2)) := by
    intro ks
    induction ks with
    | nil =>
      intro xs r
      cases r
      exact .nil
    | cons e ks ih =>
      intro xs r
      cases r with
      | cons h t =>
        obtain ⟨u, eu⟩ := (show ∃ t, _ = Value.int e.2 t from h.2)
        rw [List.map_cons, eu]
        exact .cons _ _ (ih t)
  exact this rel
/-- sorted(d.values(), reverse=b), values ints -/
def rSortedVR (b : Bool) : List V → List V → Hp → VK → Prop := fun vs zs H Q => ∃ (p d : Addr) (ks : List (Str × Int)), vs = [V.ref p] ∧ zs = [.bl b] ∧ H p = some (valuesO p d) ∧ H d = some (.dK (ks.map entZ)) ∧
  ∀ (ns : List Int) (l : Addr), ns.Perm (ks.map (·.2)) → OrdB b ns → H l = none → Q (.ref l) (upd H l (.lst (ns.map V.int)))
theorem cr_sortedVR {b : Bool} (hc : X.calm = true) : CallRK X (.builtin "sorted") [Str.ofString "reverse"] (rSortedVR b) := by
  intro pins s σ H vs zs us ws Q I r rz h
  obtain ⟨p, d, ks, rfl, rfl, hp, ha, q⟩ := h
  obtain rfl := Vals.ref1 r
  obtain ⟨w1, rfl, e1⟩ := vals1 rz
  obtain rfl : w1 = Value.bool b := e1
  have view : s.heap.IsValuesView p d := (show ObjOk X.prog X.w H s.heap p (valuesO p d) from I.hok p _ hp).1
  obtain ⟨z, hd, xs', rel, dd⟩ := dk_of I.hok ha
  obtain ⟨ep, hat⟩ := dd.dictAt
  have l1 : ks.length = xs'.length := by
    have := Paired.length rel
    rwa [List.length_map] at this
  have hz : xs'.length ≤ sizeLine := by rw [List.length_map] at z; omega
  refine sorted_col (x := .ref p) (b := b) (kw := [(Str.ofString "reverse", .bool b)]) (ltv := fun _ => SrtO.ltIv) (P := fun h' _ vs => IntsAre vs (ks.map (·.2)))
    (fun _ => rfl) (args_sorted_rev _ _) (fun _ => args_list_sort_rev _ _) (fun R hR => ?_) (fun _ _ _ _ => SrtO.swo_int) (fun h' _ vs hP => ?_) (fun h' tk vs hP h2 h₁ c hb keep => ?_) (fun h' tk vs out h2 hk hP h1 hb hk2 hat => ?_)
  · refine PySem.W.kdu_collect (A := X.A.in1) (PySem.W.kdl_values (knd := mixKind X.prog X.w) (kvs := xs') (ep := ep) (r := p) (d := d)) (I.ok.hd hc) ⟨view, hat⟩ hz fun h' tk acc hk hacc => hR h' tk _ hk (vals_ints' rel (by rw [Array.length_toList]; exact hacc.1) fun j v e => hacc.2 j v (by rw [← Array.getElem?_toList]; exact e))
  · rw [hP.length, List.length_map, l1]
    exact hz
  · exact SrtO.ints_sortable hP h2
  · obtain ⟨n, hat⟩ := hat
    obtain ⟨ns', k1, k2, k3⟩ := SrtR.ints_outR hP h1 hb
    have hlen : (ns'.map V.int).length ≤ sizeLine := by
      rw [List.length_map, k2.length_eq, List.length_map, l1]
      exact hz
    have e0 : ((if b = true then out.toArray.reverse else out.toArray).toList).toArray = (if b = true then out.toArray.reverse else out.toArray) := by rw [Array.toArray_toList]
    have gone : s.heap.get? h'.objs.size = none := by
      cases e : s.heap.get? h'.objs.size with
      | none => rfl
      | some o => exact absurd (Heap.lt_size (hk _ _ e)) (Nat.lt_irrefl _)
    have hn := I.hok.gone gone
    exact ⟨.ref h'.objs.size, upd H h'.objs.size (.lst (ns'.map V.int)), I.laidN (t' := tk) (fun c o e => hk2 c o (hk c o e)) gone hn ⟨hlen, _, n, vals_of_ints k1, by rw [e0]; exact hat⟩, rfl, q _ _ k2 k3 hn⟩
/-- sorted(d), keys texts, any number of them -/
def rSortedDS : List V → Hp → VK → Prop := fun vs H Q => ∃ (d : Addr) (kvs : List (Key × V)) (ss : List Str), vs = [V.ref d] ∧ H d = some (.dK kvs) ∧ kvs.map (·.1) = ss.map Sum.inr ∧
  ∀ (ys : List Str) (l : Addr), ys.Perm ss → Srtd ltZ ys → H l = none → Q (.ref l) (upd H l (.lst (ys.map V.str)))
theorem keys_strs {P : Program} {w : World} {xs' : List (Key × Value)} : ∀ {kvs : List (Key × V)} {ss : List Str}, KV kvs xs' → kvs.map (·.1) = ss.map Sum.inr → ∀ {vs : List Value}, vs.length = xs'.length → (∀ (j : Nat) (v : Value), vs[j]? = some v → ∃ k x, xs'[j]? = some (k, x) ∧ (mixKind P w).is k v = true) → StrsAre vs ss := fun {kvs ss} rel hk {vs} hl hv => by
  have : ∀ {kvs : List (Key × V)} {ss : List Str} {xs : List (Key × Value)} {vs : List Value}, KV kvs xs → kvs.map (·.1) = ss.map Sum.inr → vs.length = xs.length → (∀ (j : Nat) (v : Value), vs[j]? = some v → ∃ k x, xs[j]? = some (k, x) ∧ (mixKind P w).is k v = true) → StrsAre vs ss := by
    intro kvs
    induction kvs with
    | nil =>
      intro ss xs vs r hk hl hv
      cases r
      cases ss with
      | nil =>
        have : vs = [] := List.eq_nil_of_length_eq_zero hl
        subst this
        exact .nil
      | cons _ _ => cases hk
    | cons kv kvs ih =>
      intro ss xs vs r hk hl hv
      cases r with
      | cons h t =>
        cases ss with
        | nil => cases hk
        | cons z ss =>
          cases vs with
          | nil => simp at hl
          | cons v vs =>
            rw [List.map_cons, List.map_cons] at hk
            obtain ⟨h1, h2⟩ := List.cons.inj hk
            obtain ⟨k, x, e1, e2⟩ := hv 0 v rfl
            have e1' := (Prod.mk.inj (Option.some.inj e1)).1
            have kk : k = Sum.inr z := by rw [← e1', ← h.1, h1]
            subst kk
            obtain ⟨u, eu⟩ := relV_key (show keyIs (Sum.inr z) v = true from e2)
            subst eu
            exact .cons _ _ (ih t h2 (by simpa using hl) fun j v' e => hv (j + 1) v' (by simpa using e))
  exact this rel hk hl hv
theorem cr_sortedDS (hc : X.calm = true) : CallR X (.builtin "sorted") rSortedDS := by
  intro pins s σ H xs us Q I r h
  obtain ⟨d, kvs, ss, rfl, ha, hks, q⟩ := h
  obtain rfl := Vals.ref1 r
  obtain ⟨z, hd, xs', rel, dd⟩ := dk_of I.hok ha
  obtain ⟨ep, hat⟩ := dd.dictAt
  have l1 : kvs.length = xs'.length := Paired.length rel
  have hz : xs'.length ≤ sizeLine := by omega
  refine sorted_col (x := .ref d) (b := false) (kw := []) (ltv := fun _ => ltSv) (P := fun _ _ vs => StrsAre vs ss)
    plain_rev (args_sorted1 _) (fun _ => args_list_sort _) (fun R hR => ?_) (fun _ _ _ _ => swo_str) (fun h' _ vs hP => ?_) (fun h' tk vs hP h2 h₁ c hb keep => strs_sortable hP h2) (fun h' tk vs out h2 hk hP h1 hb hk2 hat => ?_)
  · refine PySem.W.kdu_collect (A := X.A.in1) (PySem.W.kdl_dict (knd := mixKind X.prog X.w) (kvs := xs') (ep := ep) (d := d) hd) (I.ok.hd hc) hat hz fun h' tk acc hk hacc => hR h' tk _ hk (keys_strs rel hks (by rw [Array.length_toList]; exact hacc.1) fun j v e => hacc.2 j v (by rw [← Array.getElem?_toList]; exact e))
  · rw [hP.length, ← List.length_map (f := (Sum.inr : Str → Key)), ← hks, List.length_map]
    omega
  · obtain ⟨n, hat⟩ := hat
    have isS : ∀ v ∈ out, ∃ x t, v = Value.str x t := fun v hv => StrsAre.all hP v (hb.perm.mem_iff.mp hv)
    have kp : (out.map strOf).Perm ss := by
      have := hb.perm.map strOf
      rwa [if_neg (by decide), strOf_strs hP] at this
    have hlen : ((out.map strOf).map V.str).length ≤ sizeLine := by
      rw [List.length_map, kp.length_eq, ← List.length_map (f := (Sum.inr : Str → Key)), ← hks, List.length_map]
      omega
    have gone : s.heap.get? h'.objs.size = none := by
      cases e : s.heap.get? h'.objs.size with
      | none => rfl
      | some o => exact absurd (Heap.lt_size (hk _ _ e)) (Nat.lt_irrefl _)
    have hn := I.hok.gone gone
    exact ⟨.ref h'.objs.size, upd H h'.objs.size (.lst ((out.map strOf).map V.str)), I.laidN (t' := tk) (fun c o e => hk2 c o (hk c o e)) gone hn ⟨hlen, out, n, vals_of_strs (strsAre_map out isS), hat⟩, rfl, q _ _ kp (srtd_map h1) hn⟩
/-! plain tuples: such of which no attributes are held -/
def Ptp (H : Hp) (a : Addr) (xs : List V) : Prop := ∃ o : Obj, H a = some (.frz o (.tup xs)) ∧ o.dict = none
theorem Ptp.seq {K : PySem.W.Frag} {H : Hp} {a : Addr} {xs : List V} (h : Ptp H a xs) : SqT K H a xs := let ⟨o, e, _⟩ := h; .inl (.inr ⟨o, e⟩)
theorem Ptp.same {H H' : Hp} {a : Addr} {xs : List V} (h : Ptp H a xs) (s : Same H H') : Ptp H' a xs := let ⟨o, e, d⟩ := h; ⟨o, s _ _ e, d⟩
theorem Ptp.ne {H : Hp} {a p : Addr} {xs : List V} (h : Ptp H a xs) (hp : H p = none) : a ≠ p := let ⟨o, e, _⟩ := h; ne_of_none e hp
theorem Ptp.upd {H : Hp} {a p : Addr} {xs : List V} {u : HO} (h : Ptp H a xs) (n : a ≠ p) : Ptp (L2.upd H p u) a xs := let ⟨o, e, d⟩ := h; ⟨o, by rw [upd_ne n]; exact e, d⟩
/-- (a, b, ..), a plain tuple -/
def tTupF (t : TA) : TE := fun σ H Q => t σ H fun xs H1 => xs.length ≤ sizeLine ∧ ∀ p o, H1 p = none → o.dict = none → Q (.ref p) (upd H1 p (.frz o (.tup xs)))
theorem pe_tupF {x1} {es : List Expr} {t : TA} {pos : Pos} (h : PA X es t) : PE X (.Tuple es x1 pos) (tTupF t) := by
  refine ⟨fun pins s σ H Q I hq => ?_⟩
  refine wpAny_Tuple_spliced (thn (h.run pos pins s σ H _ I hq) fun us s1 ⟨xs, H1, I1, r, z, q⟩ => ⟨by rw [← r.length]; exact z, ?_⟩)
  have hf : H1 s1.heap.objs.size = none := I1.hok.fresh (Nat.le_refl _)
  refine ⟨.ref s1.heap.objs.size, _, I1.laid (t' := s1.toks) (fun b u e => Heap.get?_push_of_some _ e) (Nat.le_refl _) ?_, rfl, q _ { cls := .type "tuple", data := .seq us.toArray } hf rfl⟩
  exact ⟨Heap.get?_push_size _ rfl, z, us, r, ⟨_, Heap.get?_push_size _ rfl, rfl, _, rfl⟩⟩
/-- tuple(xs) of a list, a plain tuple -/
theorem call_tupleF : CallR X (.type "tuple") (fun xs H Q => ∃ p ys, xs = [.ref p] ∧ SqL X.K H p ys ∧ ∀ l o, H l = none → o.dict = none → Q (.ref l) (upd H l (.frz o (.tup ys)))) := by
  intro pins s σ H xs us Q I r h
  obtain ⟨p, ys, rfl, hq, q⟩ := h
  obtain ⟨u, rfl, rx⟩ := vals1 r
  cases rx
  obtain ⟨its, r', pl, hz⟩ := I.list hq
  have hlen := r'.length
  refine call_tuple_list pl.isList (fun h' kp => ?_) (by simp only [List.size_toArray] <;> omega)
  have I1 : Inv X pins σ H { s with heap := h' } := I.kept (t' := s.toks) kp
  have I2 : Inv X pins σ (upd H h'.objs.size (.frz _ (.tup ys))) { s with heap := h'.push { cls := .type "tuple", data := .seq its.toArray } } :=
    I1.laid (t' := s.toks) (fun b o e => Heap.get?_push_of_some _ e) (Nat.le_refl _) (show ObjOk X.prog X.w _ _ _ (.frz _ (.tup ys)) from ⟨Heap.get?_push_size _ rfl, hz, its, r', IsTup.new _ _⟩)
  exact ⟨.ref h'.objs.size, _, I2, rfl, q _ _ (I1.hok.fresh (Nat.le_refl _)) rfl⟩
theorem pairs_of2 {pins : List (Addr × Obj)} {σ : St} {H : Hp} {s : Shared} (I : Inv X pins σ H s) : ∀ {ps : List Addr} {kvs : List (Key × V)}, Paired (fun p kv => SqT X.K H p [kV kv.1, kv.2]) ps kvs →
    ∃ (prs : List (Key × Value)) (vps : List (Value × Value)), KV kvs prs ∧ prs.length = ps.length ∧ vps.length = prs.length ∧
      ∀ (j : Nat) (k v : Value), vps[j]? = some (k, v) → ∃ (b : Addr) (q : Key × Value), ps[j]? = some b ∧ prs[j]? = some q ∧ v = q.2 ∧ IsTup s.heap b #[k, v] ∧ keyIs q.1 k = true
  | _, _, .nil => ⟨[], [], .nil, rfl, rfl, fun j k v e => by simp at e⟩
  | _, _, .cons (a := p) (b := kv) h t => by
    obtain ⟨prs, vps, r, hl, hl2, hp⟩ := pairs_of2 I t
    obtain ⟨its, rv, ht, _⟩ := I.tuple h
    obtain ⟨u, y, ei, ru, ry⟩ := vals2 rv
    subst ei
    refine ⟨(kv.1, y) :: prs, (u, y) :: vps, .cons ⟨rfl, ry⟩ r, by rw [List.length_cons, List.length_cons, hl], by rw [List.length_cons, List.length_cons, hl2], fun j k v e => ?_⟩
    cases j with
    | zero =>
      have e' : (u, y) = (k, v) := Option.some.inj e
      cases e'
      exact ⟨p, _, rfl, rfl, rfl, ht, kV_is (P := X.prog) (w := X.w) ru⟩
    | succ j =>
      obtain ⟨b, q, e1, e2, e3⟩ := hp j k v (by simpa using e)
      exact ⟨b, q, by simpa using e1, by simpa using e2, e3⟩
/-- dict(t), t a plain tuple of pairs -/
theorem call_dictPT (hcalm : X.calm = true) : CallR X (.type "dict") (fun xs H Q => ∃ (a : Addr) (ps : List Addr) (kvs : List (Key × V)), xs = [.ref a] ∧ Ptp H a (ps.map V.ref) ∧ Paired (fun p kv => SqT X.K H p [kV kv.1, kv.2]) ps kvs ∧
    ∀ p, H p = none → Q (.ref p) (upd H p (.dK (mergeK [] kvs)))) := by
  intro pins s σ H xs us Q I r q
  obtain ⟨a, ps, kvs, ex, hq, hp, q⟩ := q
  subst ex
  obtain ⟨u, eu, rx⟩ := vals1 r
  subst eu
  cases rx
  obtain ⟨o, ha, hdn⟩ := hq
  obtain ⟨hao, hz, its, rv, o', hao', hc, n, hdat⟩ := (show ObjOk X.prog X.w H s.heap a (.frz o (.tup (ps.map V.ref))) from I.hok a _ ha)
  rw [hao] at hao'
  cases hao'
  have ei := refs_at rv
  subst ei
  rw [List.length_map] at hz
  obtain ⟨prs, vps, rel, hl, hvl, hvp⟩ := pairs_of2 I hp
  have hTs : ∀ j b, ps[j]? = some b → ps.getD j 0 = b := fun j b e => by simp [List.getD, e]
  refine PySem.call_dict_pairs (knd := mixKind X.prog X.w) (kvs := prs) (PairArg.tuple (prog := X.prog) (w := X.w) a (ps.map Value.ref).toArray (fun j => ps.getD j 0) vps) (I.ok.hd hcalm) ⟨⟨o, n, hao, hc, hdn, hdat⟩, ?_, fun j k v e => ?_⟩ ⟨hvl.symm, fun i key v h => ?_⟩ (by rw [hvl, hl]; exact hz) fun h' tk hd' k => ?_
  · simp [hvl, hl]
  · obtain ⟨b, q, e1, e2, e3, e4, e5⟩ := hvp j k v e
    show _ ∧ PairAt s.heap (ps.getD j 0) k v
    rw [hTs j b e1]
    have ed : (List.map Value.ref ps).toArray[j]? = some (Value.ref b) := by simp [e1]
    refine ⟨?_, .inl e4⟩
    show _ = some (Value.ref (ps.getD j 0))
    rw [hTs j b e1]
    exact ed
  · obtain ⟨b, q', e1, e2, e3, e4, e5⟩ := hvp i key v h
    exact ⟨q'.1, by rw [e2, e3], e5⟩
  · have hm : (s.heap.objs.size == sysModules) = false := beq_eq_false_iff_ne.mpr (Nat.ne_of_gt I.big)
    have hlen : (mergeK [] kvs).length ≤ sizeLine := by
      refine Nat.le_trans (length_mergeK kvs []) ?_
      rw [List.length_nil, Nat.zero_add, rel.length, hl]
      exact hz
    exact ⟨.ref s.heap.objs.size, upd H s.heap.objs.size (.dK (mergeK [] kvs)), I.laid (t' := tk) (fun b u e => k b u (by simp) e) (Nat.le_refl _) (show ObjOk X.prog X.w _ _ _ (.dK (mergeK [] kvs)) from ⟨hlen, hm, merged [] prs, KV.merge rel .nil, hd'⟩), rfl, q _ (I.hok.fresh (Nat.le_refl _))⟩
/-- o.f as a target -/
def gFld (K : PySem.W.Frag) (ta : TE) (f : Str) : TG := fun y σ H Q => ta σ H fun x H2 => ∃ a C dx fs, x = .ref a ∧ H2 a = some (.ins C dx fs) ∧ Cls K C ∧ NoAttr K C f ∧ fs.length < 1000 ∧ Q σ (upd H2 a (.ins C dx (putF f y fs)))
theorem pg_fld {o : Expr} {f : Str} {pos : Pos} {ta : TE} (ha : PE X o ta) : PG X (.Attribute o f pos) (gFld X.K ta f) := by
  refine ⟨fun pins s σ H v u Q I r h => ?_⟩
  rw [assign_Attribute]
  refine wpAny_bind (wpAny_holding (thn (ha.run pins s σ H _ I h) fun ov s2 ⟨x, H2, I2, rx, a, C, dx, fs, ex, ea, c, n, l, q2⟩ => ?_))
  subst ex
  obtain rfl : ov = Value.ref a := rx
  refine wpAny_bind (wpAny_standAt (wpAny_bind (wpAny_holding (setattr_ok I2 ea c n l r fun s3 I3 => ?_))))
  exact wpAny_release ⟨σ, _, I3, q2⟩
end
end L2

namespace Kb
open PySem PySem.Spec PyProof.Rows L2
/-! the text -/
def topS (i : Nat) : Stmt := PySem.Challenge.pw_knownends_k37_whole_papers_of_truths.main.body.getD i (.Pass ⟨0, 0, 0, 0⟩)
/-! facts -/
structure Dn (K : PySem.W.Frag) (mg : Str → Option Value) (nm : Str) (st : Stmt) (ps : List Str) where
  f : Addr
  fd : FuncData
  F : Fun K nm nm st f fd
  g : mg nm = some (.ref f)
  b : Binds K fd ps []
structure Cst (mg : Str → Option Value) (nm : Str) (v : V) where
  u : Value
  g : mg nm = some u
  r : RelV v u
structure Blt (mg : Str → Option Value) : Prop where
  n_len : mg "len" = none
  n_int : mg "int" = none
  n_abs : mg "abs" = none
  n_range : mg "range" = none
  n_isinstance : mg "isinstance" = none
  n_str : mg "str" = none
  n_all : mg "all" = none
  n_tuple : mg "tuple" = none
  n_bool : mg "bool" = none
  n_list : mg "list" = none
  n_dict : mg "dict" = none
  n_sum : mg "sum" = none
  n_min : mg "min" = none
  n_sorted : mg "sorted" = none
  n_max : mg "max" = none
  n_set : mg "set" = none
/-! heaps -/
theorem same_upd {H : Hp} {p : Addr} {o : HO} (h : H p = none) : Same H (upd H p o) := fun b x e => by
  rw [upd_ne (ne_of_none e h)]
  exact e
theorem Same.new {H H1 : Hp} {p : Addr} {o : HO} (x : Same H H1) (h : H1 p = none) : Same H (upd H1 p o) := fun b u e => same_upd h b u (x b u e)
theorem Same.gone {H H1 : Hp} {p : Addr} (x : Same H H1) (h : H1 p = none) : H p = none := by
  cases e : H p with
  | none => rfl
  | some o =>
    have := x _ _ e
    rw [h] at this
    cases this
/-- an object that was new is stored anew -/
theorem Same.put {H H1 : Hp} {p : Addr} {o : HO} (x : Same H H1) (h : H p = none) : Same H (upd H1 p o) := fun b u e => by
  rw [upd_ne (ne_of_none e h)]
  exact x b u e
theorem sql {K : PySem.W.Frag} {H : Hp} {a : Addr} {xs : List V} (h : H a = some (.lst xs)) : SqL K H a xs := .inl (.inl h)
theorem seqT {K : PySem.W.Frag} {H H' : Hp} {a : Addr} {xs : List V} (h : SqT K H a xs) (s : Same H H') : SqT K H' a xs := by
  rcases h with (h | ⟨o, h⟩) | h
  · exact .inl (.inl (s _ _ h))
  · exact .inl (.inr ⟨o, s _ _ h⟩)
  · exact .inr h
theorem tyT {K : PySem.W.Frag} {H : Hp} {a : Addr} {xs : List V} (h : SqT K H a xs) : TyX K H (.ref a) (.type "tuple") := by
  rcases h with (h | ⟨o, h⟩) | ⟨o, its, n, h, c, _⟩
  · exact .base (.tup h)
  · exact .fTuple h
  · exact .kTuple h c
/-- %, the rest as a letter -/
def rModB : R2 := fun x y H Q => ∃ i j, x = .int i ∧ y = .int j ∧ 0 < j ∧ ∀ m : Int, 0 ≤ m → m < j → m = i % j → Q (.int m) H
theorem op_modB {X : Cx} : OpR X (binaryOp .Mod) rModB := fun pins s σ H x y v u Q I rx ry h => by
  obtain ⟨i, j, e1, e2, hj, q⟩ := h
  exact op_mod pins s σ H x y v u Q I rx ry ⟨i, j, e1, e2, hj, q _ (Int.emod_nonneg _ (by omega)) (Int.emod_lt_of_pos _ hj) rfl⟩
theorem cmulR {i j : Int} (h1 : 0 ≤ j) (h2 : j < 10000000000) : CMul i j := .inr ⟨by omega, by omega⟩
theorem cmulL {i j : Int} (h1 : 0 ≤ i) (h2 : i < 10000000000) : CMul i j := .inl ⟨by omega, by omega⟩
/-! names -/
def cs (z : Str) : List Nat := z.cps.toList
theorem cs_len (z : Str) : (cs z).length = z.length := by simp [cs, Str.length]
theorem cs_inj {a b : Str} (h : cs a = cs b) : a = b := by
  cases a; cases b
  simp [cs] at h
  rw [h]
def nmC (c : Nat) : Bool := !decide (c < 97) && !decide (122 < c)
/-- a name -/
structure Nm (z : Str) : Prop where
  pos : 1 ≤ z.length
  len : z.length ≤ 8
  abc : ∀ c ∈ cs z, nmC c = true
theorem lt_one (a b : Nat) : decide ([a] < [b]) = decide (a < b) := by
  have : ([a] < [b]) ↔ a < b := by simp [List.cons_lt_cons_iff]
  by_cases h : a < b
  · rw [decide_eq_true h, decide_eq_true (this.mpr h)]
  · rw [decide_eq_false h, decide_eq_false (fun z => h (this.mp z))]
abbrev sP_is_int : Stmt := topS 9
abbrev NP_is_int : List Str := ["thing"]
theorem scP_is_int : FnScope ["thing"] ["thing"] (defScope sP_is_int) := ⟨rfl, rfl, rfl, by decide +kernel, rfl, by decide +kernel, by decide +kernel⟩
abbrev sP_is_number : Stmt := topS 10
abbrev NP_is_number : List Str := ["thing"]
theorem scP_is_number : FnScope ["thing"] ["thing"] (defScope sP_is_number) := ⟨rfl, rfl, rfl, by decide +kernel, rfl, by decide +kernel, by decide +kernel⟩
abbrev sP_is_room : Stmt := topS 11
abbrev NP_is_room : List Str := ["thing"]
theorem scP_is_room : FnScope ["thing"] ["thing"] (defScope sP_is_room) := ⟨rfl, rfl, rfl, by decide +kernel, rfl, by decide +kernel, by decide +kernel⟩
abbrev sP_is_name : Stmt := topS 16
abbrev NP_is_name : List Str := ["thing", "letter"]
theorem scP_is_name : FnScope ["thing", "letter"] ["thing"] (defScope sP_is_name) := ⟨rfl, rfl, rfl, by decide +kernel, rfl, by decide +kernel, by decide +kernel⟩
abbrev sP_is_stream : Stmt := topS 17
abbrev NP_is_stream : List Str := ["thing", "item"]
theorem scP_is_stream : FnScope ["thing", "item"] ["thing"] (defScope sP_is_stream) := ⟨rfl, rfl, rfl, by decide +kernel, rfl, by decide +kernel, by decide +kernel⟩
abbrev DnIsInt (K : PySem.W.Frag) (mg : Str → Option Value) := Dn K mg "is_int" sP_is_int ["thing"]
abbrev DnIsNumber (K : PySem.W.Frag) (mg : Str → Option Value) := Dn K mg "is_number" sP_is_number ["thing"]
abbrev DnIsRoom (K : PySem.W.Frag) (mg : Str → Option Value) := Dn K mg "is_room" sP_is_room ["thing"]
abbrev DnIsName (K : PySem.W.Frag) (mg : Str → Option Value) := Dn K mg "is_name" sP_is_name ["thing"]
abbrev DnIsStream (K : PySem.W.Frag) (mg : Str → Option Value) := Dn K mg "is_stream" sP_is_stream ["thing"]
section
variable {P : Program} {w : World} {K : PySem.W.Frag} {mg : Str → Option Value} {base : Heap}
/-! is_int, of ints -/
def spIsInt : Sp := fun vs H Q _ => ∃ i : Int, vs = [.int i] ∧ Q (.bl true) H
theorem ok_is_int (T : Blt mg) (d : DnIsInt K mg) : FnOk P w K mg base CX0 1 d.f d.fd ["thing"] spIsInt := by
  refine d.F.ok scP_is_int (fun vs H Q E h => ?_) (fun cdv A outer s H vs Q E hr h => ?_)
  · obtain ⟨i, rfl, _⟩ := h
    rfl
  · obtain ⟨i, rfl, q⟩ := h
    refine ⟨_, (pss_one (ps_ret (pe_and (pe_callB call_isi (by rfl) T.n_isinstance (by decide +kernel) (pa_cons (pv 0) (pa_cons (pe_bltn (v := .ty "int") (by rfl) T.n_int (by decide +kernel) rfl) pa_nil))) (pe_one (pe_not (pe_callB call_isi (by rfl) T.n_isinstance (by decide +kernel) (pa_cons (pv 0) (pa_cons (pe_bltn (v := .ty "bool") (by rfl) T.n_bool (by decide +kernel) rfl) pa_nil)))))))), ?_⟩
    refine ⟨.int i, rfl, .int i, _, _, _, true, rfl, .ty "int", .base (.int i), kit_ty (by decide +kernel), true, rfl, iteT ?_⟩
    exact ⟨.int i, rfl, .int i, _, _, _, false, rfl, .ty "bool", .base (.int i), kit_ty (by decide +kernel), false, rfl, q⟩
/-! is_number, of ints -/
def spIsNumber : Sp := fun vs H Q _ => ∃ i : Int, vs = [.int i] ∧ Q (.bl (decide (0 ≤ i))) H
theorem ok_is_number (T : Blt mg) (dP_is_int : DnIsInt K mg) (d : DnIsNumber K mg) : FnOk P w K mg base CX0 2 d.f d.fd ["thing"] spIsNumber := by
  have GP_is_int : FnOk P w K mg base CX0 1 dP_is_int.f dP_is_int.fd ["thing"] spIsInt := ok_is_int T dP_is_int
  refine d.F.ok scP_is_number (fun vs H Q E h => ?_) (fun cdv A outer s H vs Q E hr h => ?_)
  · obtain ⟨i, rfl, _⟩ := h
    rfl
  · obtain ⟨i, rfl, q⟩ := h
    refine ⟨_, (pss_one (ps_ret (pe_and (pe_call GP_is_int (hr.mono (by omega)) (by rfl) dP_is_int.g dP_is_int.F.kp dP_is_int.b .nil pass0 (pa_cons (pv 0) pa_nil)) (pe_one (pe_cmpR op_ge (pv 0) pe_int (nomark _)))))), ?_⟩
    exact ⟨.int i, rfl, i, rfl, true, rfl, iteT ⟨.int i, rfl, _, _, rfl, rfl, q⟩⟩
/-! is_room, of ints -/
def spIsRoom : Sp := fun vs H Q _ => ∃ i : Int, vs = [.int i] ∧ Q (.bl (decide (1 ≤ i) && decide (i ≤ 64))) H
theorem ok_is_room (T : Blt mg) (cM : Cst mg "MOST_ROOM" (.int 64)) (dP_is_int : DnIsInt K mg) (d : DnIsRoom K mg) : FnOk P w K mg base CX0 2 d.f d.fd ["thing"] spIsRoom := by
  have GP_is_int : FnOk P w K mg base CX0 1 dP_is_int.f dP_is_int.fd ["thing"] spIsInt := ok_is_int T dP_is_int
  refine d.F.ok scP_is_room (fun vs H Q E h => ?_) (fun cdv A outer s H vs Q E hr h => ?_)
  · obtain ⟨i, rfl, _⟩ := h
    rfl
  · obtain ⟨i, rfl, q⟩ := h
    refine ⟨_, (pss_one (ps_ret (pe_and (pe_call GP_is_int (hr.mono (by omega)) (by rfl) dP_is_int.g dP_is_int.F.kp dP_is_int.b .nil pass0 (pa_cons (pv 0) pa_nil)) (pe_one (pe_chain op_le op_le pe_int (pv 0) (pe_glob rfl cM.g cM.r)))))), ?_⟩
    refine ⟨.int i, rfl, i, rfl, true, rfl, iteT ⟨.int i, rfl, _, _, rfl, rfl, decide (1 ≤ i), rfl, ite2 (fun e => ⟨_, _, rfl, rfl, ?_⟩) (fun e => ?_)⟩⟩
    · rw [e, Bool.true_and] at q
      exact q
    · rw [show decide (1 ≤ i) = false from by simpa using e, Bool.false_and] at q
      exact q
/-! is_name, of names -/
def spIsName : Sp := fun vs H Q _ => ∃ z : Str, vs = [.str z] ∧ Nm z ∧ ∀ H', Same H H' → Q (.bl true) H'
theorem ok_is_name (T : Blt mg) (cL : Cst mg "LONGEST_NAME" (.int 8)) (d : DnIsName K mg) : FnOk P w K mg base CX0 1 d.f d.fd ["thing"] spIsName := by
  refine d.F.ok scP_is_name (fun vs H Q E h => ?_) (fun cdv A outer s H vs Q E hr h => ?_)
  · obtain ⟨z, rfl, _⟩ := h
    rfl
  · obtain ⟨z, rfl, nm, q⟩ := h
    refine ⟨_, (pss_cons (ps_if (PW.pt (pw_or (pt_not (pt_val (pe_callB call_isi (by rfl) T.n_isinstance (by decide +kernel) (pa_cons (pv 0) (pa_cons (pe_bltn (v := .ty "str") (by rfl) T.n_str (by decide +kernel) rfl) pa_nil))))) (pw_or1 (pt_not (pt_chain op_le op_le pe_int (pe_callB call_len_str (by rfl) T.n_len (by decide +kernel) (pa_cons (pv 0) pa_nil)) (pe_glob rfl cL.g cL.r))))))
      (pss_one (ps_ret pe_bl))
      pss_nil)
    (pss_one (ps_ret (pe_callB (cr_all rfl) (by rfl) T.n_all (by decide +kernel) (pa_cons (pe_lc (own := [("letter", 1)]) (g := gName 1) (tt := tYes) rfl scP_is_name.nd (pi_str (pv 0)) (blkOk_by (N := NP_is_name) (sc := defScope sP_is_name) (by decide +kernel)) (fun _ _ _ _ _ => pg_name (i := 1) scP_is_name.nd rfl (Or.inl rfl)) (fun _ _ _ _ _ => pts_nil) (fun _ _ _ _ _ => (pe_chain op_le_str op_le_str pe_str (pv 1) pe_str))) pa_nil))))), ?_⟩
    have h1 : decide ((1 : Int) ≤ (z.length : Int)) = true := decide_eq_true (by have := nm.pos; omega)
    have h8 : decide ((z.length : Int) ≤ 8) = true := decide_eq_true (by have := nm.len; omega)
    refine ⟨.str z, rfl, .str z, _, _, _, true, rfl, .ty "str", .base (.str z), kit_ty (by decide +kernel), true, rfl, iteF ?_⟩
    refine ⟨.str z, rfl, z, rfl, (by rw [sizeLine_eq]; have := nm.len; omega), _, _, rfl, rfl, true, congrArg V.bl h1, iteT ⟨_, _, rfl, rfl, true, congrArg V.bl h8, iteF ?_⟩⟩
    refine ⟨.str z, rfl, z, rfl, fun D nD => ?_⟩
    refine lc_it walk_str (fun i H3 => Same H H3 ∧ H3 D = some (.lst (((cs z).take i).map fun c => V.bl true))) ⟨same_upd nD, upd_same⟩ (fun _ _ _ _ => trivial) (fun i x H3 H4 hi h3 y => ?_) (fun H3 h3 => ?_)
    · obtain ⟨rfl, c, hc, rfl⟩ := y
      have hc2 : (cs z)[i]? = some c := by
        rw [← hc]
        simp [cs]
      have hcn := nm.abc c (List.mem_of_getElem? hc2)
      unfold nmC at hcn
      have ha : (!decide (c < 97)) = true := by cases h : (!decide (c < 97)) <;> simp_all
      have hz : (!decide (122 < c)) = true := by rw [ha, Bool.true_and] at hcn; exact hcn
      refine ⟨rfl, .str ⟨#[c]⟩, rfl, _, _, rfl, rfl, true, ?_, iteT ⟨_, _, rfl, rfl, ?_⟩⟩
      · show V.bl (!decide ([c] < (Str.ofString "a").cps.toList)) = _
        rw [show (Str.ofString "a").cps.toList = [97] by decide +kernel, lt_one, ha]
      · rw [show (!decide ((Str.ofString "z").cps.toList < [c])) = true by
          rw [show (Str.ofString "z").cps.toList = [122] by decide +kernel, lt_one, hz]]
        refine ⟨_, h3.2, ?_, fun b o e => ?_, ?_⟩
        · rw [List.length_map, List.length_take, sizeLine_eq]
          have := cs_len z
          have := nm.len
          omega
        · rw [upd_ne (ne_of_none e nD)]
          exact h3.1 b o e
        · rw [upd_same, List.take_add_one, hc2, List.map_append]
          rfl
    · refine ⟨D, (cs z).map fun _ => true, rfl, sql ?_, ?_⟩
      · rw [h3.2, List.map_map]
        rw [List.take_of_length_le (by
          show (cs z).length ≤ z.cps.size
          simp [cs])]
        rfl
      · rw [show (((cs z).map fun _ => true).all id) = true by simp]
        exact q H3 h3.1
/-! is_stream, of tuples of names -/
def spIsStream (K : PySem.W.Frag) : Sp := fun vs H Q _ => ∃ (a : Addr) (zs : List Str), vs = [.ref a] ∧ SqT K H a (zs.map V.str) ∧ (∀ z ∈ zs, Nm z) ∧ zs.length ≤ 100000 ∧ ∀ H', Same H H' → Q (.bl true) H'
theorem ok_is_stream (T : Blt mg) (cL : Cst mg "LONGEST_NAME" (.int 8)) (dP_is_name : DnIsName K mg) (d : DnIsStream K mg) : FnOk P w K mg base CX0 2 d.f d.fd ["thing"] (spIsStream K) := by
  have GP_is_name : FnOk P w K mg base CX0 1 dP_is_name.f dP_is_name.fd ["thing"] spIsName := ok_is_name T cL dP_is_name
  refine d.F.ok scP_is_stream (fun vs H Q E h => ?_) (fun cdv A outer s H vs Q E hr h => ?_)
  · obtain ⟨a, zs, rfl, _⟩ := h
    rfl
  · obtain ⟨a, zs, rfl, hS, hN, hl, q⟩ := h
    refine ⟨_, (pss_one (ps_ret (pe_and (pe_callB call_isi (by rfl) T.n_isinstance (by decide +kernel) (pa_cons (pv 0) (pa_cons (pe_bltn (v := .ty "tuple") (by rfl) T.n_tuple (by decide +kernel) rfl) pa_nil))) (pe_one (pe_callB (cr_all rfl) (by rfl) T.n_all (by decide +kernel) (pa_cons (pe_lc (own := [("item", 1)]) (g := gName 1) (tt := tYes) rfl scP_is_stream.nd (pi_tup (pv 0)) (blkOk_by (N := NP_is_stream) (sc := defScope sP_is_stream) (by decide +kernel)) (fun _ _ _ _ _ => pg_name (i := 1) scP_is_stream.nd rfl (Or.inl rfl)) (fun _ _ _ _ _ => pts_nil) (fun _ _ _ _ _ => (pe_call GP_is_name (hr.mono (by omega)) (by rfl) dP_is_name.g dP_is_name.F.kp dP_is_name.b .nil pass0 (pa_cons (pv 1) pa_nil)))) pa_nil)))))), ?_⟩
    refine ⟨.ref a, rfl, .ref a, _, _, _, true, rfl, .ty "tuple", tyT hS, kit_ty (by decide +kernel), true, rfl, iteT ?_⟩
    refine ⟨.ref a, rfl, a, rfl, ⟨_, hS⟩, fun D nD => lc_tup (xs := zs.map V.str) (fun i H3 => Same H H3 ∧ H3 D = some (.lst ((zs.take i).map fun _ => V.bl true))) ⟨same_upd nD, upd_same⟩ (fun i H3 _ h3 => seqT hS h3.1) (fun i x H3 hx h3 => ?_) (fun H3 h3 => ?_)⟩
    · obtain ⟨z, hz, rfl⟩ : ∃ z, zs[i]? = some z ∧ x = .str z := by
        rw [List.getElem?_map] at hx
        cases e : zs[i]? with
        | none => rw [e] at hx; cases hx
        | some z => rw [e] at hx; exact ⟨z, rfl, (Option.some.inj hx).symm⟩
      refine ⟨rfl, .str z, rfl, z, rfl, hN z (List.mem_of_getElem? hz), fun H4 s4 => ⟨_, s4 _ _ h3.2, ?_, fun b o e => ?_, ?_⟩⟩
      · rw [List.length_map, List.length_take, sizeLine_eq]
        omega
      · rw [upd_ne (ne_of_none e nD)]
        exact s4 b o (h3.1 b o e)
      · rw [upd_same, List.take_add_one, hz, List.map_append]
        rfl
    · refine ⟨D, zs.map fun _ => true, rfl, sql ?_, ?_⟩
      · rw [h3.2, List.length_map, List.take_length, List.map_map]
        rfl
      · rw [show ((zs.map fun _ => true).all id) = true by simp]
        exact q H3 h3.1
end
end Kb

namespace Kb
open PySem PySem.Spec PyProof.Rows L2
abbrev sP_is_tree : Stmt := topS 18
abbrev NP_is_tree : List Str := ["thing"]
theorem scP_is_tree : FnScope ["thing"] ["thing"] (defScope sP_is_tree) := ⟨rfl, rfl, rfl, by decide +kernel, rfl, by decide +kernel, by decide +kernel⟩
abbrev sP_is_tree_of : Stmt := topS 19
abbrev NP_is_tree_of : List Str := ["thing", "word", "is_right", "many", "height", "step"]
theorem scP_is_tree_of : FnScope ["thing", "word", "is_right", "many", "height", "step"] ["thing", "word", "is_right"] (defScope sP_is_tree_of) := ⟨rfl, rfl, rfl, by decide +kernel, rfl, by decide +kernel, by decide +kernel⟩
abbrev sP_is_put : Stmt := topS 20
abbrev NP_is_put : List Str := ["step", "word"]
theorem scP_is_put : FnScope ["step", "word"] ["step", "word"] (defScope sP_is_put) := ⟨rfl, rfl, rfl, by decide +kernel, rfl, by decide +kernel, by decide +kernel⟩
abbrev sP_is_pour : Stmt := topS 21
abbrev NP_is_pour : List Str := ["step"]
theorem scP_is_pour : FnScope ["step"] ["step"] (defScope sP_is_pour) := ⟨rfl, rfl, rfl, by decide +kernel, rfl, by decide +kernel, by decide +kernel⟩
abbrev DnIsTree (K : PySem.W.Frag) (mg : Str → Option Value) := Dn K mg "is_tree" sP_is_tree ["thing"]
structure DnIsPut (K : PySem.W.Frag) (mg : Str → Option Value) where
  p : Dn K mg "_is_put" sP_is_put ["step", "word"]
  o : Dn K mg "is_tree_of" sP_is_tree_of ["thing", "word", "is_right"]
abbrev DnIsPour (K : PySem.W.Frag) (mg : Str → Option Value) := Dn K mg "_is_pour" sP_is_pour ["step"]
/-! trees -/
inductive Stp
  | put (zs : List Str)
  | pour
def StpAt (K : PySem.W.Frag) (H : Hp) (v : V) : Stp → Prop
  | .put zs => ∃ a b, v = .ref a ∧ SqT K H a [.str (Str.ofString "stream"), .ref b] ∧ SqT K H b (zs.map V.str) ∧ (∀ z ∈ zs, Nm z) ∧ zs.length ≤ 100000
  | .pour => ∃ a, v = .ref a ∧ SqT K H a [.str (Str.ofString "pour")]
theorem StpAt.same {K : PySem.W.Frag} {H H' : Hp} {v : V} {t : Stp} (h : StpAt K H v t) (s : Same H H') : StpAt K H' v t := by
  cases t with
  | put zs =>
    obtain ⟨a, b, e, h1, h2, r⟩ := h
    exact ⟨a, b, e, seqT h1 s, seqT h2 s, r⟩
  | pour =>
    obtain ⟨a, e, h1⟩ := h
    exact ⟨a, e, seqT h1 s⟩
def hS (h : Int) : Stp → Int
  | .put _ => h + 1
  | .pour => h - 1
def cS (m : Int) : Stp → Int
  | .put zs => m + (zs.length : Nat)
  | .pour => m
def hgt (l : List Stp) : Int := l.foldl hS 0
def mny (l : List Stp) : Int := l.foldl cS 0
structure Tree (l : List Stp) : Prop where
  two : ∀ i, l[i]? = some .pour → 2 ≤ hgt (l.take i)
  one : hgt l = 1
  few : mny l ≤ 50000
  len : l.length ≤ 5000
theorem hgt_snoc {l : List Stp} {i : Nat} {t : Stp} (h : l[i]? = some t) : hgt (l.take (i + 1)) = hS (hgt (l.take i)) t := by
  unfold hgt
  rw [List.take_add_one, h, List.foldl_append]
  rfl
theorem mny_snoc {l : List Stp} {i : Nat} {t : Stp} (h : l[i]? = some t) : mny (l.take (i + 1)) = cS (mny (l.take i)) t := by
  unfold mny
  rw [List.take_add_one, h, List.foldl_append]
  rfl
def TreeAt (K : PySem.W.Frag) (H : Hp) (a : Addr) (l : List Stp) : Prop := ∃ vs, SqT K H a vs ∧ Paired (StpAt K H) vs l
theorem paired_same {K : PySem.W.Frag} {H H' : Hp} (s : Same H H') : ∀ {vs : List V} {l : List Stp}, Paired (StpAt K H) vs l → Paired (StpAt K H') vs l
  | _, _, .nil => .nil
  | _, _, .cons h t => .cons (h.same s) (paired_same s t)
theorem TreeAt.same {K : PySem.W.Frag} {H H' : Hp} {a : Addr} {l : List Stp} (h : TreeAt K H a l) (s : Same H H') : TreeAt K H' a l := by
  obtain ⟨vs, h1, h2⟩ := h
  exact ⟨vs, seqT h1 s, paired_same s h2⟩
theorem stream_ne : ¬ (V.str (Str.ofString "pour") = V.str (Str.ofString "stream")) := by decide +kernel
section
variable {P : Program} {w : World} {K : PySem.W.Frag} {mg : Str → Option Value} {base : Heap}
/-! _is_put -/
def isPut : Stp → Bool
  | .put _ => true
  | .pour => false
def spIsPut (K : PySem.W.Frag) : Sp := fun vs H Q _ => ∃ (v : V) (t : Stp), vs = [v, .str (Str.ofString "stream")] ∧ StpAt K H v t ∧ Q (.bl (isPut t)) H
theorem ok_is_put (T : Blt mg) (d : DnIsPut K mg) : FnOk P w K mg base CX0 1 d.p.f d.p.fd ["step", "word"] (spIsPut K) := by
  refine d.p.F.ok scP_is_put (fun vs H Q E h => ?_) (fun cdv A outer s H vs Q E hr h => ?_)
  · obtain ⟨v, t, rfl, _⟩ := h
    rfl
  · obtain ⟨v, t, rfl, ht, q⟩ := h
    refine ⟨_, (pss_one (ps_ret (pe_and (pe_callB call_isi (by rfl) T.n_isinstance (by decide +kernel) (pa_cons (pv 0) (pa_cons (pe_bltn (v := .ty "tuple") (by rfl) T.n_tuple (by decide +kernel) rfl) pa_nil))) (pe_and (pe_cmpR op_eq (pe_callB call_len_seq (by rfl) T.n_len (by decide +kernel) (pa_cons (pv 0) pa_nil)) pe_int (nomark _)) (pe_one (pe_cmpR op_eq (pe_ix ix_tup (pv 0) pe_int (fun _ _ => rfl)) (pv 1) (nomark _))))))), ?_⟩
    cases t with
    | put zs =>
      obtain ⟨a, b, rfl, h1, h2, h3, h4⟩ := ht
      refine ⟨.ref a, rfl, .ref a, _, _, _, true, rfl, .ty "tuple", tyT h1, kit_ty (by decide +kernel), true, rfl, iteT ?_⟩
      refine ⟨.ref a, rfl, a, _, rfl, .inr h1, rfl, true, congrArg V.bl (decide_eq_true rfl), iteT ?_⟩
      refine ⟨.ref a, rfl, a, _, _, _, rfl, rfl, h1, atI_nat (j := 0) rfl, .str (Str.ofString "stream"), rfl, rfl, ?_⟩
      rw [decide_eq_true rfl]
      exact q
    | pour =>
      obtain ⟨a, rfl, h1⟩ := ht
      refine ⟨.ref a, rfl, .ref a, _, _, _, true, rfl, .ty "tuple", tyT h1, kit_ty (by decide +kernel), true, rfl, iteT ?_⟩
      exact ⟨.ref a, rfl, a, _, rfl, .inr h1, rfl, false, congrArg V.bl (decide_eq_false (by decide)), iteF q⟩
/-! _is_pour -/
def spIsPour (K : PySem.W.Frag) : Sp := fun vs H Q _ => ∃ v : V, vs = [v] ∧ StpAt K H v .pour ∧ Q (.bl true) H
theorem ok_is_pour (T : Blt mg) (d : DnIsPour K mg) : FnOk P w K mg base CX0 1 d.f d.fd ["step"] (spIsPour K) := by
  refine d.F.ok scP_is_pour (fun vs H Q E h => ?_) (fun cdv A outer s H vs Q E hr h => ?_)
  · obtain ⟨v, rfl, _⟩ := h
    rfl
  · obtain ⟨v, rfl, ⟨a, rfl, h1⟩, q⟩ := h
    refine ⟨_, (pss_one (ps_ret (pe_and (pe_callB call_isi (by rfl) T.n_isinstance (by decide +kernel) (pa_cons (pv 0) (pa_cons (pe_bltn (v := .ty "tuple") (by rfl) T.n_tuple (by decide +kernel) rfl) pa_nil))) (pe_and (pe_cmpR op_eq (pe_callB call_len_seq (by rfl) T.n_len (by decide +kernel) (pa_cons (pv 0) pa_nil)) pe_int (nomark _)) (pe_one (pe_cmpR op_eq (pe_ix ix_tup (pv 0) pe_int (fun _ _ => rfl)) pe_str (nomark _))))))), ?_⟩
    refine ⟨.ref a, rfl, .ref a, _, _, _, true, rfl, .ty "tuple", tyT h1, kit_ty (by decide +kernel), true, rfl, iteT ?_⟩
    refine ⟨.ref a, rfl, a, _, rfl, .inr h1, rfl, true, congrArg V.bl (decide_eq_true rfl), iteT ?_⟩
    refine ⟨.ref a, rfl, a, _, _, _, rfl, rfl, h1, atI_nat (j := 0) rfl, rfl, ?_⟩
    rw [decide_eq_true rfl]
    exact q
/-! is_tree_of, is_tree -/
theorem paired_at {α β : Type} {F : α → β → Prop} : ∀ {xs : List α} {ys : List β}, Paired F xs ys → ∀ {i : Nat} {x : α}, xs[i]? = some x → ∃ y, ys[i]? = some y ∧ F x y := LiI.paired_get
def spIsTreeOf (K : PySem.W.Frag) (g : Addr) : Sp := fun vs H Q _ => ∃ (a : Addr) (l : List Stp), vs = [.ref a, .str (Str.ofString "stream"), .ref g] ∧ TreeAt K H a l ∧ Tree l ∧ ∀ H', Same H H' → Q (.bl true) H'
theorem ok_is_tree_of (T : Blt mg) (cL : Cst mg "LONGEST_NAME" (.int 8)) (cS' : Cst mg "MOST_STEPS" (.int 5000)) (cI : Cst mg "MOST_ITEMS_streams" (.int 50000)) (dP_is_name : DnIsName K mg) (dP_is_stream : DnIsStream K mg) (dP_is_put : DnIsPut K mg) (dP_is_pour : DnIsPour K mg) :
    FnOk P w K mg base CX0 3 dP_is_put.o.f dP_is_put.o.fd ["thing", "word", "is_right"] (spIsTreeOf K dP_is_stream.f) := by
  have GP_is_stream : FnOk P w K mg base CX0 2 dP_is_stream.f dP_is_stream.fd ["thing"] (spIsStream K) := ok_is_stream T cL dP_is_name dP_is_stream
  have GP_is_put : FnOk P w K mg base CX0 1 dP_is_put.p.f dP_is_put.p.fd ["step", "word"] (spIsPut K) := ok_is_put T dP_is_put
  have GP_is_pour : FnOk P w K mg base CX0 1 dP_is_pour.f dP_is_pour.fd ["step"] (spIsPour K) := ok_is_pour T dP_is_pour
  refine dP_is_put.o.F.ok scP_is_tree_of (fun vs H Q E h => ?_) (fun cdv A outer s H vs Q E hr h => ?_)
  · obtain ⟨a, l, rfl, _⟩ := h
    rfl
  · obtain ⟨a, l, rfl, ⟨vs, hS, hp⟩, tr, q⟩ := h
    refine ⟨_, (pss_cons (ps_if (PW.pt (pw_or (pt_not (pt_val (pe_callB call_isi (by rfl) T.n_isinstance (by decide +kernel) (pa_cons (pv 0) (pa_cons (pe_bltn (v := .ty "tuple") (by rfl) T.n_tuple (by decide +kernel) rfl) pa_nil))))) (pw_or1 (pt_cmpR op_gt (pe_callB call_len_seq (by rfl) T.n_len (by decide +kernel) (pa_cons (pv 0) pa_nil)) (pe_glob rfl cS'.g cS'.r) (nomark _)))))
      (pss_one (ps_ret pe_bl))
      pss_nil)
    (pss_cons (ps_set (i := 3) scP_is_tree_of.nd rfl (Or.inl rfl) pe_int)
    (pss_cons (ps_set (i := 4) scP_is_tree_of.nd rfl (Or.inl rfl) pe_int)
    (pss_cons (ps_for PassesOwn.never rfl (pi_tup (pv 0)) (pg_name (i := 5) scP_is_tree_of.nd rfl (Or.inl rfl))
      (pss_one (ps_if (PW.pt (pw_and (pt_val (pe_call GP_is_put (hr.mono (by omega)) (by rfl) dP_is_put.p.g dP_is_put.p.F.kp dP_is_put.p.b .nil pass0 (pa_cons (pv 5) (pa_cons (pv 1) pa_nil)))) (pw_and1 (pt_val (pe_callL (i := 2) GP_is_stream (hr.mono (by omega)) rfl (.inl rfl) dP_is_stream.F.kp dP_is_stream.b .nil pass0 (pa_cons (pe_ix ix_tup (pv 5) pe_int (fun _ _ => rfl)) pa_nil))))))
        (pss_cons (ps_aug (i := 4) scP_is_tree_of.nd rfl (Or.inl rfl) pe_int ip_add)
        (pss_one (ps_aug (i := 3) scP_is_tree_of.nd rfl (Or.inl rfl) (pe_callB call_len_seq (by rfl) T.n_len (by decide +kernel) (pa_cons (pe_ix ix_tup (pv 5) pe_int (fun _ _ => rfl)) pa_nil)) ip_add)))
        (pss_one (ps_if (PW.pt (pw_and (pt_val (pe_call GP_is_pour (hr.mono (by omega)) (by rfl) dP_is_pour.g dP_is_pour.F.kp dP_is_pour.b .nil pass0 (pa_cons (pv 5) pa_nil))) (pw_and1 (pt_cmpR op_ge (pv 4) pe_int (nomark _)))))
          (pss_one (ps_aug (i := 4) scP_is_tree_of.nd rfl (Or.inl rfl) pe_int ip_sub))
          (pss_one (ps_ret pe_bl)))))))
    (pss_one (ps_ret (pe_and (pe_cmpR op_eq (pv 4) pe_int (nomark _)) (pe_one (pe_cmpR op_le (pv 3) (pe_glob rfl cI.g cI.r) (nomark _)))))))))), ?_⟩
    have hl : vs.length = l.length := Paired.length hp
    refine ⟨.ref a, rfl, .ref a, _, _, _, true, rfl, .ty "tuple", tyT hS, kit_ty (by decide +kernel), true, rfl, iteF ?_⟩
    refine ⟨.ref a, rfl, a, _, rfl, .inr hS, _, _, rfl, rfl, false, congrArg V.bl (decide_eq_false (by have := tr.len; omega)), iteF ?_⟩
    refine ⟨.ref a, rfl, a, rfl, ⟨_, hS⟩, for_tup (xs := vs) (fun i σ H3 => ∃ x, σ = [some (.ref a), some (.str (Str.ofString "stream")), some (.ref dP_is_stream.f), some (.int (mny (l.take i))), some (.int (hgt (l.take i))), x] ∧ Same H H3) ⟨none, rfl, Same.refl H⟩ (fun i σ H3 _ ⟨_, _, s3⟩ => seqT hS s3) ?_ ?_⟩
    · rintro i v σ H3 hi ⟨x, rfl, s3⟩
      obtain ⟨t, ht, hat⟩ := paired_at hp hi
      have hat3 := hat.same s3
      refine ⟨v, rfl, _, rfl, v, t, rfl, hat3, isPut t, rfl, ?_⟩
      have hh := hgt_snoc ht
      have hm := mny_snoc ht
      cases t with
      | put zs =>
        refine iteT ?_
        obtain ⟨b, c, rfl, h1, h2, h3, h4⟩ := hat3
        refine ⟨rfl, .ref b, rfl, b, _, _, _, rfl, rfl, h1, atI_nat (j := 1) rfl, c, zs, rfl, h2, h3, h4, fun H4 s4 => ⟨true, rfl, iteT ?_⟩⟩
        refine ⟨.int (hgt (l.take i)), rfl, _, _, rfl, rfl, ?_⟩
        refine ⟨.int (mny (l.take i)), rfl, .ref b, rfl, b, _, _, _, rfl, rfl, seqT h1 s4, atI_nat (j := 1) rfl, c, _, rfl, .inr (seqT h2 s4), _, _, rfl, rfl, ?_⟩
        refine ⟨some (.ref b), ?_, fun b o e => s4 b o (s3 b o e)⟩
        rw [hh, hm, List.length_map]
        rfl
      | pour =>
        refine iteF ?_
        have h2 := tr.two i ht
        refine ⟨v, rfl, v, rfl, hat3, true, rfl, iteT ⟨.int (hgt (l.take i)), rfl, _, _, rfl, rfl, true, congrArg V.bl (decide_eq_true (by omega)), iteT ?_⟩⟩
        refine ⟨.int (hgt (l.take i)), rfl, _, _, rfl, rfl, some v, ?_, s3⟩
        rw [hh, hm]
        rfl
    · rintro σ H3 ⟨x, rfl, s3⟩
      have e1 : l.take vs.length = l := by rw [hl, List.take_length]
      rw [e1]
      refine ⟨.int (hgt l), rfl, rfl, true, congrArg V.bl (decide_eq_true (by rw [tr.one])), iteT ⟨.int (mny l), rfl, _, _, rfl, rfl, ?_⟩⟩
      show Q (.bl (decide (mny l ≤ 50000))) H3
      rw [decide_eq_true tr.few]
      exact q H3 s3
def spIsTree (K : PySem.W.Frag) : Sp := fun vs H Q _ => ∃ (a : Addr) (l : List Stp), vs = [.ref a] ∧ TreeAt K H a l ∧ Tree l ∧ ∀ H', Same H H' → Q (.bl true) H'
theorem ok_is_tree (T : Blt mg) (cL : Cst mg "LONGEST_NAME" (.int 8)) (cS' : Cst mg "MOST_STEPS" (.int 5000)) (cI : Cst mg "MOST_ITEMS_streams" (.int 50000)) (dP_is_name : DnIsName K mg) (dP_is_stream : DnIsStream K mg) (dP_is_put : DnIsPut K mg) (dP_is_pour : DnIsPour K mg) (d : DnIsTree K mg) :
    FnOk P w K mg base CX0 4 d.f d.fd ["thing"] (spIsTree K) := by
  have GP_is_tree_of : FnOk P w K mg base CX0 3 dP_is_put.o.f dP_is_put.o.fd ["thing", "word", "is_right"] (spIsTreeOf K dP_is_stream.f) := ok_is_tree_of T cL cS' cI dP_is_name dP_is_stream dP_is_put dP_is_pour
  refine d.F.ok scP_is_tree (fun vs H Q E h => ?_) (fun cdv A outer s H vs Q E hr h => ?_)
  · obtain ⟨a, l, rfl, _⟩ := h
    rfl
  · obtain ⟨a, l, rfl, hT, tr, q⟩ := h
    refine ⟨_, (pss_one (ps_ret (pe_call GP_is_tree_of (hr.mono (by omega)) (by rfl) dP_is_put.o.g dP_is_put.o.F.kp dP_is_put.o.b .nil pass0 (pa_cons (pv 0) (pa_cons pe_str (pa_cons (pe_glob (v := .ref dP_is_stream.f) rfl dP_is_stream.g rfl) pa_nil)))))), ?_⟩
    exact ⟨.ref a, rfl, a, l, rfl, hT, tr, q⟩
end
end Kb

namespace Kb
open PySem PySem.Spec PyProof.Rows L2 SrtZ
abbrev sP_are_counts : Stmt := topS 22
abbrev NP_are_counts : List Str := ["thing", "last", "pair"]
theorem scP_are_counts : FnScope ["thing", "last", "pair"] ["thing"] (defScope sP_are_counts) := ⟨rfl, rfl, rfl, by decide +kernel, rfl, by decide +kernel, by decide +kernel⟩
abbrev sP_is_counted : Stmt := topS 23
abbrev NP_is_counted : List Str := ["pair"]
theorem scP_is_counted : FnScope ["pair"] ["pair"] (defScope sP_is_counted) := ⟨rfl, rfl, rfl, by decide +kernel, rfl, by decide +kernel, by decide +kernel⟩
abbrev sP_lost_of : Stmt := topS 28
abbrev NP_lost_of : List Str := ["sketch", "_", "count"]
theorem scP_lost_of : FnScope ["sketch", "_", "count"] ["sketch"] (defScope sP_lost_of) := ⟨rfl, rfl, rfl, by decide +kernel, rfl, by decide +kernel, by decide +kernel⟩
abbrev sP_is_sketch : Stmt := topS 29
abbrev NP_is_sketch : List Str := ["thing", "room", "many", "off", "kept"]
theorem scP_is_sketch : FnScope ["thing", "room", "many", "off", "kept"] ["thing"] (defScope sP_is_sketch) := ⟨rfl, rfl, rfl, by decide +kernel, rfl, by decide +kernel, by decide +kernel⟩
abbrev sP_bare : Stmt := topS 30
abbrev NP_bare : List Str := ["room"]
theorem scP_bare : FnScope ["room"] ["room"] (defScope sP_bare) := ⟨rfl, rfl, rfl, by decide +kernel, rfl, by decide +kernel, by decide +kernel⟩
abbrev DnAreCounts (K : PySem.W.Frag) (mg : Str → Option Value) := Dn K mg "are_counts" sP_are_counts ["thing"]
abbrev DnIsCounted (K : PySem.W.Frag) (mg : Str → Option Value) := Dn K mg "_is_counted" sP_is_counted ["pair"]
abbrev DnLostOf (K : PySem.W.Frag) (mg : Str → Option Value) := Dn K mg "lost_of" sP_lost_of ["sketch"]
abbrev DnIsSketch (K : PySem.W.Frag) (mg : Str → Option Value) := Dn K mg "is_sketch" sP_is_sketch ["thing"]
abbrev DnBare (K : PySem.W.Frag) (mg : Str → Option Value) := Dn K mg "bare" sP_bare ["room"]
/-! counts -/
abbrev Ct := List (Str × Int)
def PrAt (K : PySem.W.Frag) (H : Hp) (t : Addr) (e : Str × Int) : Prop := SqT K H t [.str e.1, .int e.2]
/-- the tuple at k holds these pairs -/
def CtAt (K : PySem.W.Frag) (H : Hp) (k : Addr) (kvs : Ct) : Prop := ∃ ts : List Addr, SqT K H k (ts.map V.ref) ∧ Paired (PrAt K H) ts kvs
theorem prs_same {K : PySem.W.Frag} {H H' : Hp} (s : Same H H') : ∀ {ts : List Addr} {kvs : Ct}, Paired (PrAt K H) ts kvs → Paired (PrAt K H') ts kvs
  | _, _, .nil => .nil
  | _, _, .cons h t => .cons (seqT h s) (prs_same s t)
theorem CtAt.same {K : PySem.W.Frag} {H H' : Hp} {k : Addr} {kvs : Ct} (h : CtAt K H k kvs) (s : Same H H') : CtAt K H' k kvs := by
  obtain ⟨ts, h1, h2⟩ := h
  exact ⟨ts, seqT h1 s, prs_same s h2⟩
structure Cts (kvs : Ct) : Prop where
  nm : ∀ e ∈ kvs, Nm e.1
  pos : ∀ e ∈ kvs, 1 ≤ e.2
  asc : kvs.Pairwise fun a b => ltZ a.1 b.1 = true
def sumC (kvs : Ct) : Int := (kvs.map (·.2)).sum
theorem map_at {α β : Type} {f : α → β} {xs : List α} {i : Nat} {y : β} (h : (xs.map f)[i]? = some y) : ∃ x, xs[i]? = some x ∧ y = f x := by
  rw [List.getElem?_map] at h
  cases e : xs[i]? with
  | none => rw [e] at h; cases h
  | some x => rw [e] at h; exact ⟨x, rfl, (Option.some.inj h).symm⟩
section
variable {P : Program} {w : World} {K : PySem.W.Frag} {mg : Str → Option Value} {base : Heap}
/-! _is_counted -/
def spIsCounted (K : PySem.W.Frag) : Sp := fun vs H Q _ => ∃ (t : Addr) (e : Str × Int), vs = [.ref t] ∧ PrAt K H t e ∧ Nm e.1 ∧ 1 ≤ e.2 ∧ ∀ H', Same H H' → Q (.bl true) H'
theorem ok_is_counted (T : Blt mg) (cL : Cst mg "LONGEST_NAME" (.int 8)) (dP_is_int : DnIsInt K mg) (dP_is_name : DnIsName K mg) (d : DnIsCounted K mg) : FnOk P w K mg base CX0 2 d.f d.fd ["pair"] (spIsCounted K) := by
  have GP_is_int : FnOk P w K mg base CX0 1 dP_is_int.f dP_is_int.fd ["thing"] spIsInt := ok_is_int T dP_is_int
  have GP_is_name : FnOk P w K mg base CX0 1 dP_is_name.f dP_is_name.fd ["thing"] spIsName := ok_is_name T cL dP_is_name
  refine d.F.ok scP_is_counted (fun vs H Q E h => ?_) (fun cdv A outer s H vs Q E hr h => ?_)
  · obtain ⟨t, e, rfl, _⟩ := h
    rfl
  · obtain ⟨t, e, rfl, hp, hn, h1, q⟩ := h
    refine ⟨_, (pss_cons (ps_if (PW.pt (pw_or (pt_not (pt_val (pe_callB call_isi (by rfl) T.n_isinstance (by decide +kernel) (pa_cons (pv 0) (pa_cons (pe_bltn (v := .ty "tuple") (by rfl) T.n_tuple (by decide +kernel) rfl) pa_nil))))) (pw_or1 (pt_cmpR op_ne (pe_callB call_len_seq (by rfl) T.n_len (by decide +kernel) (pa_cons (pv 0) pa_nil)) pe_int (nomark _)))))
      (pss_one (ps_ret pe_bl))
      pss_nil)
    (pss_one (ps_ret (pe_and (pe_call GP_is_name (hr.mono (by omega)) (by rfl) dP_is_name.g dP_is_name.F.kp dP_is_name.b .nil pass0 (pa_cons (pe_ix ix_tup (pv 0) pe_int (fun _ _ => rfl)) pa_nil)) (pe_and (pe_call GP_is_int (hr.mono (by omega)) (by rfl) dP_is_int.g dP_is_int.F.kp dP_is_int.b .nil pass0 (pa_cons (pe_ix ix_tup (pv 0) pe_int (fun _ _ => rfl)) pa_nil)) (pe_one (pe_cmpR op_ge (pe_ix ix_tup (pv 0) pe_int (fun _ _ => rfl)) pe_int (nomark _)))))))), ?_⟩
    refine ⟨.ref t, rfl, .ref t, _, _, _, true, rfl, .ty "tuple", tyT hp, kit_ty (by decide +kernel), true, rfl, iteF ?_⟩
    refine ⟨.ref t, rfl, t, _, rfl, .inr hp, rfl, false, rfl, iteF ?_⟩
    refine ⟨.ref t, rfl, t, _, _, _, rfl, rfl, hp, atI_nat (j := 0) rfl, e.1, rfl, hn, fun H1 s1 => ⟨true, rfl, iteT ?_⟩⟩
    have hp1 : PrAt K H1 t e := seqT hp s1
    refine ⟨.ref t, rfl, t, _, _, _, rfl, rfl, hp1, atI_nat (j := 1) rfl, e.2, rfl, true, rfl, iteT ?_⟩
    refine ⟨.ref t, rfl, t, _, _, _, rfl, rfl, hp1, atI_nat (j := 1) rfl, _, _, rfl, rfl, ?_⟩
    show Q (.bl (decide (1 ≤ e.2))) H1
    rw [decide_eq_true h1]
    exact q H1 s1
/-! are_counts -/
def spAreCounts (K : PySem.W.Frag) : Sp := fun vs H Q _ => ∃ (k : Addr) (kvs : Ct), vs = [.ref k] ∧ CtAt K H k kvs ∧ Cts kvs ∧ ∀ H', Same H H' → Q (.bl true) H'
theorem ok_are_counts (T : Blt mg) (cL : Cst mg "LONGEST_NAME" (.int 8)) (dP_is_int : DnIsInt K mg) (dP_is_name : DnIsName K mg) (dP_is_counted : DnIsCounted K mg) (d : DnAreCounts K mg) : FnOk P w K mg base CX0 3 d.f d.fd ["thing"] (spAreCounts K) := by
  have GP_is_counted : FnOk P w K mg base CX0 2 dP_is_counted.f dP_is_counted.fd ["pair"] (spIsCounted K) := ok_is_counted T cL dP_is_int dP_is_name dP_is_counted
  refine d.F.ok scP_are_counts (fun vs H Q E h => ?_) (fun cdv A outer s H vs Q E hr h => ?_)
  · obtain ⟨k, kvs, rfl, _⟩ := h
    rfl
  · obtain ⟨k, kvs, rfl, ⟨ts, hS, hp⟩, hc, q⟩ := h
    refine ⟨_, (pss_cons (ps_if (pt_not (pt_val (pe_callB call_isi (by rfl) T.n_isinstance (by decide +kernel) (pa_cons (pv 0) (pa_cons (pe_bltn (v := .ty "tuple") (by rfl) T.n_tuple (by decide +kernel) rfl) pa_nil)))))
      (pss_one (ps_ret pe_bl))
      pss_nil)
    (pss_cons (ps_set (i := 1) scP_are_counts.nd rfl (Or.inl rfl) pe_str)
    (pss_cons (ps_for PassesOwn.never rfl (pi_tup (pv 0)) (pg_name (i := 2) scP_are_counts.nd rfl (Or.inl rfl))
      (pss_cons (ps_if (PW.pt (pw_or (pt_not (pt_val (pe_call GP_is_counted (hr.mono (by omega)) (by rfl) dP_is_counted.g dP_is_counted.F.kp dP_is_counted.b .nil pass0 (pa_cons (pv 2) pa_nil)))) (pw_or1 (pt_cmpR op_le_str (pe_ix ix_tup (pv 2) pe_int (fun _ _ => rfl)) (pv 1) (nomark _)))))
        (pss_one (ps_ret pe_bl))
        pss_nil)
      (pss_one (ps_set (i := 1) scP_are_counts.nd rfl (Or.inl rfl) (pe_ix ix_tup (pv 2) pe_int (fun _ _ => rfl))))))
    (pss_one (ps_ret pe_bl))))), ?_⟩
    refine ⟨.ref k, rfl, .ref k, _, _, _, true, rfl, .ty "tuple", tyT hS, kit_ty (by decide +kernel), true, rfl, iteF ?_⟩
    refine ⟨.ref k, rfl, k, rfl, ⟨_, hS⟩, for_tup (xs := ts.map V.ref) (fun i σ H3 => ∃ (la : Str) (x : Option V), σ = [some (.ref k), some (.str la), x] ∧ Same H H3 ∧ (i = 0 → la = Str.ofString "") ∧ ∀ j e, i = j + 1 → kvs[j]? = some e → la = e.1)
      ⟨Str.ofString "", none, rfl, Same.refl H, fun _ => rfl, fun j e h => by omega⟩ (fun i σ H3 _ ⟨_, _, _, s3, _⟩ => seqT hS s3) ?_ ?_⟩
    · rintro i v σ H3 hi ⟨la, x, rfl, s3, e0, e1⟩
      obtain ⟨t, ht, rfl⟩ := map_at hi
      obtain ⟨e, he, hat⟩ := paired_at hp ht
      have hm := List.mem_of_getElem? he
      refine ⟨.ref t, rfl, t, e, rfl, seqT hat s3, hc.nm e hm, hc.pos e hm, fun H4 s4 => ⟨true, rfl, iteF ?_⟩⟩
      have hat4 : PrAt K H4 t e := seqT hat fun b o z => s4 b o (s3 b o z)
      have hlt : decide (la.cps.toList < e.1.cps.toList) = true := by
        cases i with
        | zero =>
          rw [e0 rfl]
          have h1 := (hc.nm e hm).pos
          have : (Str.ofString "").cps.toList = [] := by decide +kernel
          rw [this]
          refine decide_eq_true ?_
          cases hz : e.1.cps.toList with
          | nil =>
            have : e.1.length = 0 := by rw [← cs_len]; unfold cs; rw [hz]; rfl
            omega
          | cons c r => exact List.nil_lt_cons c r
        | succ j =>
          obtain ⟨e', he'⟩ : ∃ e', kvs[j]? = some e' := ⟨kvs[j]'(by have := (List.getElem?_eq_some_iff.mp he).1; omega), by simp⟩
          rw [e1 j e' rfl he']
          exact (List.pairwise_iff_getElem.mp hc.asc) j (j + 1) (List.getElem?_eq_some_iff.mp he').1 (List.getElem?_eq_some_iff.mp he).1 (by omega) |> fun h => by
            rw [(List.getElem?_eq_some_iff.mp he').2, (List.getElem?_eq_some_iff.mp he).2] at h
            exact h
      refine ⟨.ref t, rfl, t, _, _, _, rfl, rfl, hat4, atI_nat (j := 0) rfl, .str la, rfl, _, _, rfl, rfl, false, ?_, iteF ?_⟩
      · show V.bl (!decide (la.cps.toList < e.1.cps.toList)) = _
        rw [hlt]
        rfl
      refine ⟨.ref t, rfl, t, _, _, _, rfl, rfl, hat4, atI_nat (j := 0) rfl, e.1, some (.ref t), rfl, fun b o z => s4 b o (s3 b o z), fun h => by omega, fun j e' h1 h2 => ?_⟩
      have : j = i := by omega
      subst this
      rw [he] at h2
      cases h2
      rfl
    · rintro σ H3 ⟨la, x, rfl, s3, _⟩
      exact q H3 s3
/-! lost_of -/
def spLostOf (K : PySem.W.Frag) : Sp := fun vs H Q _ => ∃ (s k : Addr) (room many off : Int) (kvs : Ct), vs = [.ref s] ∧ SqT K H s [.int room, .int many, .int off, .ref k] ∧ CtAt K H k kvs ∧ kvs.length ≤ 1000 ∧ ∀ H', Same H H' → Q (.int (many - sumC kvs)) H'
theorem ok_lost_of (T : Blt mg) (d : DnLostOf K mg) : FnOk P w K mg base CX0 1 d.f d.fd ["sketch"] (spLostOf K) := by
  refine d.F.ok scP_lost_of (fun vs H Q E h => ?_) (fun cdv A outer s H vs Q E hr h => ?_)
  · obtain ⟨s, k, _, _, _, _, rfl, _⟩ := h
    rfl
  · obtain ⟨s, k, room, many, off, kvs, rfl, hs, ⟨ts, hS, hp⟩, hl, q⟩ := h
    refine ⟨_, (pss_one (ps_ret (pe_op op_sub (pe_ix ix_tup (pv 0) pe_int (fun _ _ => rfl)) (pe_callB (cr_sum rfl) (by rfl) T.n_sum (by decide +kernel) (pa_cons (pe_lc (own := [("_", 1), ("count", 2)]) (g := gTup K 2 (gCons (gName 1) (gCons (gName 2) gNil))) (tt := tYes) rfl scP_lost_of.nd (pi_tup (pe_ix ix_tup (pv 0) pe_int (fun _ _ => rfl))) (blkOk_by (N := NP_lost_of) (sc := defScope sP_lost_of) (by decide +kernel)) (fun _ _ _ _ _ => pg_tup (by rfl) (pgs_cons (pg_name (i := 1) scP_lost_of.nd rfl (Or.inl rfl)) (pgs_cons (pg_name (i := 2) scP_lost_of.nd rfl (Or.inl rfl)) pgs_nil))) (fun _ _ _ _ _ => pts_nil) (fun _ _ _ _ _ => (pv 2))) pa_nil))))), ?_⟩
    refine ⟨.ref s, rfl, s, _, _, _, rfl, rfl, hs, atI_nat (j := 1) rfl, .ref s, rfl, s, _, _, _, rfl, rfl, hs, atI_nat (j := 3) rfl, k, rfl, ⟨_, hS⟩, fun D nD => lc_tup (xs := ts.map V.ref) (fun i H3 => Same H H3 ∧ H3 D = some (.lst ((kvs.take i).map fun e => V.int e.2))) ⟨same_upd nD, upd_same⟩ (fun i H3 _ h3 => seqT hS h3.1) (fun i x H3 hx h3 => ?_) (fun H3 h3 => ?_)⟩
    · obtain ⟨t, ht, rfl⟩ := map_at hx
      obtain ⟨e, he, hat⟩ := paired_at hp ht
      refine ⟨t, _, rfl, seqT hat h3.1, rfl, _, _, rfl, _, _, rfl, rfl, rfl, .int e.2, rfl, _, h3.2, ?_, fun b o z => ?_, ?_⟩
      · rw [List.length_map, List.length_take, sizeLine_eq]
        omega
      · rw [upd_ne (ne_of_none z nD)]
        exact h3.1 b o z
      · rw [upd_same, List.take_add_one, he, List.map_append]
        rfl
    · refine ⟨D, kvs.map (fun e : Str × Int => e.2), rfl, sql ?_, _, _, rfl, rfl, q H3 h3.1⟩
      rw [h3.2, List.length_map, Paired.length hp, List.take_length, List.map_map]
      rfl
/-! is_sketch -/
def skB (room many off : Int) (kvs : Ct) : Bool :=
  (decide (1 ≤ room) && decide (room ≤ 64)) && (decide (0 ≤ many) && (decide (0 ≤ off) && (decide ((kvs.length : Int) ≤ room) && (decide ((room + 1) * off ≤ many - sumC kvs) && decide (many - sumC kvs ≤ 2 * room * off)))))
def spIsSketch (K : PySem.W.Frag) : Sp := fun vs H Q _ => ∃ (s k : Addr) (room many off : Int) (kvs : Ct), vs = [.ref s] ∧ SqT K H s [.int room, .int many, .int off, .ref k] ∧ CtAt K H k kvs ∧ Cts kvs ∧ kvs.length ≤ 1000 ∧ ∀ H', Same H H' → Q (.bl (skB room many off kvs)) H'
theorem ok_is_sketch (T : Blt mg) (cM : Cst mg "MOST_ROOM" (.int 64)) (cL : Cst mg "LONGEST_NAME" (.int 8)) (dP_is_int : DnIsInt K mg) (dP_is_number : DnIsNumber K mg) (dP_is_room : DnIsRoom K mg) (dP_is_name : DnIsName K mg) (dP_is_counted : DnIsCounted K mg) (dP_are_counts : DnAreCounts K mg)
    (dP_lost_of : DnLostOf K mg) (d : DnIsSketch K mg) : FnOk P w K mg base CX0 4 d.f d.fd ["thing"] (spIsSketch K) := by
  have GP_is_room : FnOk P w K mg base CX0 2 dP_is_room.f dP_is_room.fd ["thing"] spIsRoom := ok_is_room T cM dP_is_int dP_is_room
  have GP_is_number : FnOk P w K mg base CX0 2 dP_is_number.f dP_is_number.fd ["thing"] spIsNumber := ok_is_number T dP_is_int dP_is_number
  have GP_are_counts : FnOk P w K mg base CX0 3 dP_are_counts.f dP_are_counts.fd ["thing"] (spAreCounts K) := ok_are_counts T cL dP_is_int dP_is_name dP_is_counted dP_are_counts
  have GP_lost_of : FnOk P w K mg base CX0 1 dP_lost_of.f dP_lost_of.fd ["sketch"] (spLostOf K) := ok_lost_of T dP_lost_of
  refine d.F.ok scP_is_sketch (fun vs H Q E h => ?_) (fun cdv A outer s H vs Q E hr h => ?_)
  · obtain ⟨s, k, _, _, _, _, rfl, _⟩ := h
    rfl
  · obtain ⟨s, k, room, many, off, kvs, rfl, hs, hk, hc, hl, q⟩ := h
    refine ⟨_, (pss_cons (ps_if (PW.pt (pw_or (pt_not (pt_val (pe_callB call_isi (by rfl) T.n_isinstance (by decide +kernel) (pa_cons (pv 0) (pa_cons (pe_bltn (v := .ty "tuple") (by rfl) T.n_tuple (by decide +kernel) rfl) pa_nil))))) (pw_or1 (pt_cmpR op_ne (pe_callB call_len_seq (by rfl) T.n_len (by decide +kernel) (pa_cons (pv 0) pa_nil)) pe_int (nomark _)))))
      (pss_one (ps_ret pe_bl))
      pss_nil)
    (pss_cons (ps_asg (pv 0) (pg_tup (by rfl) (pgs_cons (pg_name (i := 1) scP_is_sketch.nd rfl (Or.inl rfl)) (pgs_cons (pg_name (i := 2) scP_is_sketch.nd rfl (Or.inl rfl)) (pgs_cons (pg_name (i := 3) scP_is_sketch.nd rfl (Or.inl rfl)) (pgs_cons (pg_name (i := 4) scP_is_sketch.nd rfl (Or.inl rfl)) pgs_nil))))))
    (pss_cons (ps_if (PW.pt (pw_or (pt_not (pt_val (pe_call GP_is_room (hr.mono (by omega)) (by rfl) dP_is_room.g dP_is_room.F.kp dP_is_room.b .nil pass0 (pa_cons (pv 1) pa_nil)))) (pw_or (pt_not (pt_val (pe_call GP_is_number (hr.mono (by omega)) (by rfl) dP_is_number.g dP_is_number.F.kp dP_is_number.b .nil pass0 (pa_cons (pv 2) pa_nil)))) (pw_or1 (pt_not (pt_val (pe_call GP_is_number (hr.mono (by omega)) (by rfl) dP_is_number.g dP_is_number.F.kp dP_is_number.b .nil pass0 (pa_cons (pv 3) pa_nil))))))))
      (pss_one (ps_ret pe_bl))
      pss_nil)
    (pss_cons (ps_if (PW.pt (pw_or (pt_not (pt_val (pe_call GP_are_counts (hr.mono (by omega)) (by rfl) dP_are_counts.g dP_are_counts.F.kp dP_are_counts.b .nil pass0 (pa_cons (pv 4) pa_nil)))) (pw_or1 (pt_cmpR op_gt (pe_callB call_len_seq (by rfl) T.n_len (by decide +kernel) (pa_cons (pv 4) pa_nil)) (pv 1) (nomark _)))))
      (pss_one (ps_ret pe_bl))
      pss_nil)
    (pss_one (ps_ret (pe_chain op_le op_le (pe_op op_mul (pe_op op_add (pv 1) pe_int) (pv 3)) (pe_call GP_lost_of (hr.mono (by omega)) (by rfl) dP_lost_of.g dP_lost_of.F.kp dP_lost_of.b .nil pass0 (pa_cons (pv 0) pa_nil)) (pe_op op_mul (pe_op op_mul pe_int (pv 1)) (pv 3))))))))), ?_⟩
    refine ⟨.ref s, rfl, .ref s, _, _, _, true, rfl, .ty "tuple", tyT hs, kit_ty (by decide +kernel), true, rfl, iteF ?_⟩
    refine ⟨.ref s, rfl, s, _, rfl, .inr hs, rfl, false, rfl, iteF ?_⟩
    refine ⟨.ref s, rfl, s, _, rfl, hs, rfl, _, _, rfl, _, _, rfl, _, _, rfl, _, _, rfl, rfl, ?_⟩
    unfold skB at q
    refine ⟨.int room, rfl, room, rfl, _, rfl, ?_⟩
    cases eR : (decide (1 ≤ room) && decide (room ≤ 64)) with
    | false =>
      rw [eR, Bool.false_and] at q
      exact iteT (iteT (q H (Same.refl H)))
    | true =>
      rw [eR, Bool.true_and] at q
      refine iteF ⟨.int many, rfl, many, rfl, _, rfl, ?_⟩
      cases eM : decide (0 ≤ many) with
      | false =>
        rw [eM, Bool.false_and] at q
        exact iteT (iteT (q H (Same.refl H)))
      | true =>
        rw [eM, Bool.true_and] at q
        refine iteF ⟨.int off, rfl, off, rfl, _, rfl, ?_⟩
        cases eO : decide (0 ≤ off) with
        | false =>
          rw [eO, Bool.false_and] at q
          exact iteT (q H (Same.refl H))
        | true =>
          rw [eO, Bool.true_and] at q
          refine iteF ⟨.ref k, rfl, k, kvs, rfl, hk, hc, fun H1 s1 => ⟨true, rfl, iteF ?_⟩⟩
          have hr1 : 1 ≤ room ∧ room ≤ 64 := by
            rw [Bool.and_eq_true, decide_eq_true_eq, decide_eq_true_eq] at eR
            exact eR
          obtain ⟨ts, hS, hp⟩ := hk.same s1
          have el : (ts.map V.ref).length = kvs.length := by rw [List.length_map, Paired.length hp]
          refine ⟨.ref k, rfl, k, _, rfl, .inr hS, .int room, rfl, _, _, rfl, rfl, _, rfl, ?_⟩
          rw [el]
          by_cases eL : (kvs.length : Int) ≤ room
          · rw [show decide ((kvs.length : Int) > room) = false from decide_eq_false (by omega)]
            rw [decide_eq_true eL, Bool.true_and] at q
            refine iteF ?_
            refine ⟨.int room, rfl, _, _, rfl, rfl, .int off, rfl, _, _, rfl, rfl, cmulL (by omega) (by omega), .ref s, rfl, s, k, room, many, off, kvs, rfl, seqT hs s1, ⟨ts, hS, hp⟩, hl, fun H2 s2 => ⟨_, _, rfl, rfl, _, rfl, ?_⟩⟩
            by_cases e1 : (room + 1) * off ≤ many - sumC kvs
            · rw [decide_eq_true e1] at q ⊢
              rw [Bool.true_and] at q
              refine iteT ⟨.int room, rfl, _, _, rfl, rfl, cmulL (by decide) (by decide), .int off, rfl, _, _, rfl, rfl, cmulL (by omega) (by omega), _, _, rfl, rfl, ?_⟩
              exact q H2 fun b o z => s2 b o (s1 b o z)
            · rw [decide_eq_false e1] at q ⊢
              rw [Bool.false_and] at q
              exact iteF (q H2 fun b o z => s2 b o (s1 b o z))
          · rw [show decide ((kvs.length : Int) > room) = true from decide_eq_true (by omega)]
            rw [decide_eq_false eL, Bool.false_and] at q
            exact iteT (q H1 s1)
/-! bare -/
def spBare : Sp := fun vs H Q _ => ∃ room : Int, vs = [.int room] ∧ 1 ≤ room ∧ room ≤ 64 ∧ ∀ H' s k, Same H H' → H s = none → H' s = some (.tup [.int room, .int 0, .int 0, .ref k]) → Ptp H' k [] → Q (.ref s) H'
theorem ok_bare (T : Blt mg) (cM : Cst mg "MOST_ROOM" (.int 64)) (dP_is_int : DnIsInt K mg) (dP_is_room : DnIsRoom K mg) (d : DnBare K mg) : FnOk P w K mg base CX0 3 d.f d.fd ["room"] spBare := by
  have GP_is_room : FnOk P w K mg base CX0 2 dP_is_room.f dP_is_room.fd ["thing"] spIsRoom := ok_is_room T cM dP_is_int dP_is_room
  refine d.F.ok scP_bare (fun vs H Q E h => ?_) (fun cdv A outer s H vs Q E hr h => ?_)
  · obtain ⟨room, rfl, _⟩ := h
    rfl
  · obtain ⟨room, rfl, h1, h2, q⟩ := h
    refine ⟨_, (pss_cons (ps_if (pt_not (pt_val (pe_call GP_is_room (hr.mono (by omega)) (by rfl) dP_is_room.g dP_is_room.F.kp dP_is_room.b .nil pass0 (pa_cons (pv 0) pa_nil))))
      (pss_one ps_never)
      pss_nil)
    (pss_one (ps_ret (pe_tup (pa_cons (pv 0) (pa_cons pe_int (pa_cons pe_int (pa_cons (pe_tupF pa_nil) pa_nil)))))))), ?_⟩
    refine ⟨.int room, rfl, room, rfl, true, ?_, iteF ?_⟩
    · rw [decide_eq_true h1, decide_eq_true h2]
      rfl
    · refine ⟨.int room, rfl, (by show 0 ≤ sizeLine; decide), fun k o nk ho => ⟨(by show 4 ≤ sizeLine; decide), fun p np => ?_⟩⟩
      have s1 : Same H (upd H k (.frz o (.tup []))) := same_upd nk
      refine q _ p k (Same.new s1 np) (Same.gone s1 np) upd_same ⟨o, ?_, ho⟩
      rw [upd_ne (ne_of_none upd_same np)]
      exact upd_same
end
end Kb

namespace L2
open PySem PySem.Spec PyProof.Rows SrtO SrtZ
section
variable {X : Cx}
/-- min(d.values()), values ints -/
def rMinV : List V → Hp → VK → Prop := fun vs H Q => ∃ (p d : Addr) (ks : List (Str × Int)), vs = [V.ref p] ∧ H p = some (valuesO p d) ∧ H d = some (.dK (ks.map entZ)) ∧ 0 < ks.length ∧
  ∀ m, m ∈ ks.map (·.2) → (∀ y ∈ ks.map (·.2), m ≤ y) → Q (.int m) H
theorem cr_minV (hc : X.calm = true) : CallR X (.builtin "min") rMinV := by
  intro pins s σ H vs us Q I r h
  obtain ⟨p, d, ks, rfl, hp, ha, hne, q⟩ := h
  obtain rfl := Vals.ref1 r
  have view : s.heap.IsValuesView p d := (show ObjOk X.prog X.w H s.heap p (valuesO p d) from I.hok p _ hp).1
  obtain ⟨z, hd, xs', rel, dd⟩ := dk_of I.hok ha
  obtain ⟨ep, hat⟩ := dd.dictAt
  have l1 : ks.length = xs'.length := by
    have := Paired.length rel
    rwa [List.length_map] at this
  have K := PySem.W.kdl_values (prog := X.prog) (w := X.w) (knd := mixKind X.prog X.w) (kvs := xs') (ep := ep) (r := p) (d := d)
  have hok : s.heap.IsValuesView p d ∧ s.heap.DictAt (mixKind X.prog X.w) d xs' ep := ⟨view, hat⟩
  have hval : ∀ (i : Nat) (v : Value), (∃ k, xs'[i]? = some (k, v)) → ∃ t : Tok, v = Value.int ((ks.map (·.2)).getD i 0) t := fun i v ⟨k, e⟩ => by
    obtain ⟨e', t, e1, e2⟩ := ent_paired rel e
    refine ⟨t, ?_⟩
    have : (ks.map (·.2)).getD i 0 = e'.2 := by simp [List.getD, e1]
    rw [this]
    exact (Prod.mk.inj e2).2
  refine PySem.call_min_walkS ?_
  obtain ⟨oI, St, hit, W, st⟩ := K.iter X.A.in1 s (I.ok.hd hc) hok
  refine hit _ _ ⟨s.heap.objs.size, _, _, _, xs'.length, _, _, fun i j => decide ((ks.map (·.2)).getD i 0 < (ks.map (·.2)).getD j 0), rfl, W.toS, st, fun b hb => ?_, by omega, PySem.CmpOf.ints_lt _ hval, fun v s' hP hm => ?_⟩
  · show b < (s.heap.push oI).objs.size
    rw [size_push']
    rcases List.mem_cons.mp hb with e | hb
    · rw [e]; exact Nat.lt_succ_self _
    · rw [List.mem_singleton.mp hb]; exact Nat.lt_succ_of_lt (K.there _ hok).2
  · have hk : ∀ b o, s.heap.get? b = some o → s'.heap.get? b = some o := fun b o e =>
      hm.heap b o (fun hI => absurd (Heap.lt_size e) (by rw [List.mem_singleton.mp hI]; exact Nat.lt_irrefl _)) (Heap.get?_push_of_some _ e)
    obtain ⟨t, rfl⟩ := hval _ v hP
    obtain ⟨h1, h2⟩ := argBest_lt (fun i => (ks.map (·.2)).getD i 0) (xs'.length - 1)
    have hI : Inv X pins σ H s' := by
      rw [Moved.eq_with hm]
      exact I.kept (t' := s'.toks) hk
    refine ⟨.int _, H, hI, ⟨t, rfl⟩, q _ ?_ fun a ha => ?_⟩
    · exact PySem.getD_mem (by rw [List.length_map]; omega)
    · obtain ⟨j, hj, rfl⟩ := mem_getD ha
      rw [List.length_map] at hj
      exact h2 j (by omega)
end
end L2

namespace Kb
open PySem PySem.Spec PyProof.Rows L2 SrtZ
abbrev sTinit : Stmt := inClass (topS 26) 0
abbrev NTinit : List Str := ["self", "sketch", "kept"]
theorem scTinit : FnScope ["self", "sketch", "kept"] ["self", "sketch"] (defScope sTinit) := ⟨rfl, rfl, rfl, by decide +kernel, rfl, by decide +kernel, by decide +kernel⟩
abbrev sTsketch : Stmt := inClass (topS 26) 1
abbrev NTsketch : List Str := ["self"]
theorem scTsketch : FnScope ["self"] ["self"] (defScope sTsketch) := ⟨rfl, rfl, rfl, by decide +kernel, rfl, by decide +kernel, by decide +kernel⟩
abbrev sTfeed : Stmt := inClass (topS 26) 2
abbrev NTfeed : List Str := ["self", "name", "times", "amount"]
theorem scTfeed : FnScope ["self", "name", "times", "amount"] ["self", "name", "times"] (defScope sTfeed) := ⟨rfl, rfl, rfl, by decide +kernel, rfl, by decide +kernel, by decide +kernel⟩
abbrev sTpour : Stmt := inClass (topS 26) 3
abbrev NTpour : List Str := ["self", "sketch", "_", "many", "off", "kept", "name", "count", "falling"]
theorem scTpour : FnScope ["self", "sketch", "_", "many", "off", "kept", "name", "count", "falling"] ["self", "sketch"] (defScope sTpour) := ⟨rfl, rfl, rfl, by decide +kernel, rfl, by decide +kernel, by decide +kernel⟩
abbrev sTtake : Stmt := inClass (topS 26) 4
abbrev NTtake : List Str := ["self", "amount", "name", "count"]
theorem scTtake : FnScope ["self", "amount", "name", "count"] ["self", "amount"] (defScope sTtake) := ⟨rfl, rfl, rfl, by decide +kernel, rfl, by decide +kernel, by decide +kernel⟩
/-! the fields -/
theorem k_mr : ¬ (("room" : Str) = "seen") := by decide +kernel
theorem k_or : ¬ (("room" : Str) = "off") := by decide +kernel
theorem k_om : ¬ (("seen" : Str) = "off") := by decide +kernel
theorem k_cr : ¬ (("room" : Str) = "counts") := by decide +kernel
theorem k_cm : ¬ (("seen" : Str) = "counts") := by decide +kernel
theorem k_co : ¬ (("off" : Str) = "counts") := by decide +kernel
def fl (r m o : Int) (d : Addr) : List (Str × V) := [(("room" : Str), V.int r), (("seen" : Str), V.int m), (("off" : Str), V.int o), (("counts" : Str), V.ref d)]
theorem fl_mk (r m o : Int) (d : Addr) : putF "counts" (.ref d) (putF "off" (.int o) (putF "seen" (.int m) (putF "room" (.int r) []))) = fl r m o d := by
  show putF "counts" (.ref d) (putF "off" (.int o) (if ("room" : Str) = "seen" then _ else (("room" : Str), V.int r) :: [(("seen" : Str), V.int m)])) = _
  rw [if_neg k_mr]
  show putF "counts" (.ref d) (if ("room" : Str) = "off" then _ else (("room" : Str), V.int r) :: (if ("seen" : Str) = "off" then _ else (("seen" : Str), V.int m) :: [(("off" : Str), V.int o)])) = _
  rw [if_neg k_or, if_neg k_om]
  show (if ("room" : Str) = "counts" then _ else (("room" : Str), V.int r) :: (if ("seen" : Str) = "counts" then _ else (("seen" : Str), V.int m) :: (if ("off" : Str) = "counts" then _ else (("off" : Str), V.int o) :: [(("counts" : Str), V.ref d)]))) = _
  rw [if_neg k_cr, if_neg k_cm, if_neg k_co]
  rfl
theorem fl_many (r m o x : Int) (d : Addr) : putF "seen" (.int x) (fl r m o d) = fl r x o d := by
  show (if ("room" : Str) = "seen" then _ else (("room" : Str), V.int r) :: (if ("seen" : Str) = "seen" then _ else _)) = _
  rw [if_neg k_mr, if_pos rfl]
  rfl
theorem fl_off (r m o x : Int) (d : Addr) : putF "off" (.int x) (fl r m o d) = fl r m x d := by
  show (if ("room" : Str) = "off" then _ else (("room" : Str), V.int r) :: (if ("seen" : Str) = "off" then _ else (("seen" : Str), V.int m) :: (if ("off" : Str) = "off" then _ else _))) = _
  rw [if_neg k_or, if_neg k_om, if_pos rfl]
  rfl
theorem fl_counts (r m o : Int) (d x : Addr) : putF "counts" (.ref x) (fl r m o d) = fl r m o x := by
  show (if ("room" : Str) = "counts" then _ else (("room" : Str), V.int r) :: (if ("seen" : Str) = "counts" then _ else (("seen" : Str), V.int m) :: (if ("off" : Str) = "counts" then _ else (("off" : Str), V.int o) :: (if ("counts" : Str) = "counts" then _ else _)))) = _
  rw [if_neg k_cr, if_neg k_cm, if_neg k_co, if_pos rfl]
  rfl
theorem g_room (r m o : Int) (d : Addr) : (fl r m o d).lookup ("room" : Str) = some (.int r) := by
  rw [← fl_mk, lookup_putF, if_neg k_cr, lookup_putF, if_neg k_or, lookup_putF, if_neg k_mr, lookup_putF, if_pos rfl]
theorem g_many (r m o : Int) (d : Addr) : (fl r m o d).lookup ("seen" : Str) = some (.int m) := by
  rw [← fl_mk, lookup_putF, if_neg k_cm, lookup_putF, if_neg k_om, lookup_putF, if_pos rfl]
theorem g_off (r m o : Int) (d : Addr) : (fl r m o d).lookup ("off" : Str) = some (.int o) := by
  rw [← fl_mk, lookup_putF, if_neg k_co, lookup_putF, if_pos rfl]
theorem g_counts (r m o : Int) (d : Addr) : (fl r m o d).lookup ("counts" : Str) = some (.ref d) := by
  rw [← fl_mk, lookup_putF, if_pos rfl]
theorem g_no (r m o : Int) (d : Addr) {f : Str} (h1 : ¬ f = "counts") (h2 : ¬ f = "off") (h3 : ¬ f = "seen") (h4 : ¬ f = "room") : (fl r m o d).lookup f = none := by
  rw [← fl_mk, lookup_putF, if_neg h1, lookup_putF, if_neg h2, lookup_putF, if_neg h3, lookup_putF, if_neg h4]
  rfl
/-! counts in a dict -/
def getZ (kvs : Ct) (n : Str) : Option Int := (kvs.find? fun e => decide (e.1 = n)).map (·.2)
def putZ (kvs : Ct) (n : Str) (v : Int) : Ct := if (kvs.any fun e => decide (e.1 = n)) = true then kvs.map (fun e => if e.1 = n then (e.1, v) else e) else kvs ++ [(n, v)]
def addZ (kvs : Ct) (n : Str) (c : Int) : Ct := putZ kvs n ((getZ kvs n).getD 0 + c)
def takeZ (a : Int) (kvs : Ct) : Ct := (kvs.filter fun e => decide (a < e.2)).map fun e => (e.1, e.2 - a)
theorem ent_dec (e : Str × Int) (n : Str) : decide ((entZ e).1 = (Sum.inr n : Key)) = decide (e.1 = n) := key_rr _ _
theorem getZ_val (n : Str) : ∀ kvs : Ct, valV (kvs.map entZ) (Sum.inr n : Key) = (getZ kvs n).map V.int
  | [] => rfl
  | e :: r => by
    have ih := getZ_val n r
    unfold getZ at ih ⊢
    rw [List.map_cons]
    by_cases h : e.1 = n
    · rw [valV_pos (show (entZ e).1 = Sum.inr n by rw [← h])]
      simp [h]
    · rw [valV_neg (show ¬ (entZ e).1 = Sum.inr n from fun z => h (Sum.inr.inj z)), ih]
      simp [h]
theorem putZ_put (kvs : Ct) (n : Str) (v : Int) : putK (kvs.map entZ) (Sum.inr n : Key) (.int v) = (putZ kvs n v).map entZ := by
  unfold putK putZ
  have e : ((kvs.map entZ).any fun kv => decide (kv.1 = (Sum.inr n : Key))) = kvs.any fun e => decide (e.1 = n) := by
    rw [List.any_map]
    congr 1
    funext e
    exact ent_dec e n
  rw [e]
  by_cases h : (kvs.any fun e => decide (e.1 = n)) = true
  · rw [if_pos h, if_pos h, List.map_map, List.map_map]
    refine List.map_congr_left fun e _ => ?_
    show (if (Sum.inr e.1 : Key) = Sum.inr n then _ else _) = entZ (if e.1 = n then _ else _)
    by_cases h2 : e.1 = n
    · rw [if_pos h2, if_pos (by rw [h2])]
    · rw [if_neg h2, if_neg (fun z => h2 (Sum.inr.inj z))]
  · rw [if_neg h, if_neg h, List.map_append]
    rfl
abbrev NdZ (kvs : Ct) : Prop := (kvs.map (·.1)).Nodup
theorem getZ_none {kvs : Ct} {n : Str} : getZ kvs n = none ↔ n ∉ kvs.map (·.1) := by
  unfold getZ
  rw [Option.map_eq_none_iff, List.find?_eq_none]
  constructor
  · intro h z
    obtain ⟨e, he, rfl⟩ := List.mem_map.mp z
    have := h e he
    simp at this
  · intro h e he z
    exact h (List.mem_map.mpr ⟨e, he, of_decide_eq_true z⟩)
theorem any_getZ (n : Str) (kvs : Ct) : (kvs.any fun e => decide (e.1 = n)) = (getZ kvs n).isSome := by
  cases h : getZ kvs n with
  | none =>
    rw [getZ_none] at h
    show _ = false
    rw [List.any_eq_false]
    intro e he z
    exact h (List.mem_map.mpr ⟨e, he, of_decide_eq_true z⟩)
  | some v =>
    show _ = true
    rw [List.any_eq_true]
    unfold getZ at h
    cases hf : kvs.find? fun e => decide (e.1 = n) with
    | none => rw [hf] at h; cases h
    | some e =>
      have h2 := List.find?_some (p := fun e : Str × Int => decide (e.1 = n)) hf
      exact ⟨e, List.mem_of_find?_eq_some hf, h2⟩
theorem putZ_new {kvs : Ct} {n : Str} {v : Int} (h : getZ kvs n = none) : putZ kvs n v = kvs ++ [(n, v)] := by
  unfold putZ
  rw [any_getZ, h]
  exact if_neg (by decide)
theorem putZ_keys_old {kvs : Ct} {n : Str} {v : Int} (h : (getZ kvs n).isSome = true) : (putZ kvs n v).map (·.1) = kvs.map (·.1) := by
  unfold putZ
  rw [any_getZ, if_pos h, List.map_map]
  refine List.map_congr_left fun e _ => ?_
  show (if e.1 = n then _ else _ : Str × Int).1 = e.1
  split <;> rfl
theorem putZ_nd {kvs : Ct} {n : Str} {v : Int} (nd : NdZ kvs) : NdZ (putZ kvs n v) := by
  unfold NdZ
  cases h : getZ kvs n with
  | none =>
    rw [putZ_new h, List.map_append, List.nodup_append]
    refine ⟨nd, by simp, fun a ha b hb => ?_⟩
    rw [List.map_cons, List.map_nil, List.mem_singleton] at hb
    rw [hb]
    intro e
    have e' : a = n := e
    exact getZ_none.mp h (by rw [← e']; exact ha)
  | some x =>
    rw [putZ_keys_old (by rw [h]; rfl)]
    exact nd
theorem putZ_len {kvs : Ct} {n : Str} {v : Int} : (putZ kvs n v).length ≤ kvs.length + 1 := by
  cases h : getZ kvs n with
  | none => rw [putZ_new h, List.length_append]; exact Nat.le_refl _
  | some x =>
    have := congrArg List.length (putZ_keys_old (v := v) (show (getZ kvs n).isSome = true by rw [h]; rfl))
    rw [List.length_map, List.length_map] at this
    omega
theorem takeZ_nd {a : Int} {kvs : Ct} (nd : NdZ kvs) : NdZ (takeZ a kvs) := by
  unfold NdZ takeZ
  rw [List.map_map]
  exact List.Nodup.sublist (List.Sublist.map _ List.filter_sublist) nd
theorem takeZ_len {a : Int} {kvs : Ct} : (takeZ a kvs).length ≤ kvs.length := by
  unfold takeZ
  rw [List.length_map]
  exact List.length_filter_le _ _
theorem mergeZ : ∀ (more kvs : Ct), NdZ (kvs ++ more) → mergeK (kvs.map entZ) (more.map entZ) = (kvs ++ more).map entZ
  | [], kvs, _ => by
    rw [List.append_nil]
    rfl
  | e :: r, kvs, nd => by
    have nm : getZ kvs e.1 = none := getZ_none.mpr fun z => by
      unfold NdZ at nd
      rw [List.map_append, List.nodup_append] at nd
      exact nd.2.2 _ z _ (List.mem_map.mpr ⟨e, List.mem_cons_self, rfl⟩) rfl
    show mergeK (putK (kvs.map entZ) (Sum.inr e.1) (.int e.2)) (r.map entZ) = _
    rw [putZ_put, putZ_new nm, mergeZ r (kvs ++ [e]) (by rw [List.append_assoc]; exact nd), List.append_assoc]
    rfl
/-! a Tally -/
structure TalAt (C : Addr) (H : Hp) (t d : Addr) (r m o : Int) (kvs : Ct) : Prop where
  ob : ∃ dx, H t = some (.ins C dx (fl r m o d))
  dc : H d = some (.dK (kvs.map entZ))
theorem TalAt.ne {C : Addr} {H : Hp} {t d : Addr} {r m o : Int} {kvs : Ct} (h : TalAt C H t d r m o kvs) : t ≠ d := by
  obtain ⟨dx, e⟩ := h.ob
  exact ne_of e h.dc (by intro z; cases z)
theorem TalAt.same {C : Addr} {H H' : Hp} {t d : Addr} {r m o : Int} {kvs : Ct} (h : TalAt C H t d r m o kvs) (s : Same H H') : TalAt C H' t d r m o kvs := by
  obtain ⟨⟨dx, e⟩, e2⟩ := h
  exact ⟨⟨dx, s _ _ e⟩, s _ _ e2⟩
/-- all but the tally stays -/
def But (t d : Addr) (H H' : Hp) : Prop := ∀ b u, b ≠ t → b ≠ d → H b = some u → H' b = some u
theorem But.refl (t d : Addr) (H : Hp) : But t d H H := fun _ _ _ _ e => e
theorem But.trans {t d : Addr} {H H1 H2 : Hp} (x : But t d H H1) (y : But t d H1 H2) : But t d H H2 := fun b u n1 n2 e => y b u n1 n2 (x b u n1 n2 e)
theorem But.same {t d : Addr} {H H1 H2 : Hp} (x : But t d H H1) (y : Same H1 H2) : But t d H H2 := fun b u n1 n2 e => y b u (x b u n1 n2 e)
theorem But.upT {t d : Addr} {H H1 : Hp} {u : HO} (x : But t d H H1) : But t d H (upd H1 t u) := fun b v n1 n2 e => by
  rw [upd_ne n1]
  exact x b v n1 n2 e
theorem But.upD {t d : Addr} {H H1 : Hp} {u : HO} (x : But t d H H1) : But t d H (upd H1 d u) := fun b v n1 n2 e => by
  rw [upd_ne n2]
  exact x b v n1 n2 e
theorem But.new {t d p : Addr} {H H1 : Hp} {u : HO} (x : But t d H H1) (h : H1 p = none) : But t d H (upd H1 p u) := x.same (same_upd h)
/-- of the class, as the top has made it -/
structure Tal (K : PySem.W.Frag) (mg : Str → Option Value) where
  C : Addr
  fI : Addr
  fS : Addr
  fF : Addr
  fP : Addr
  fT : Addr
  dI : FuncData
  dS : FuncData
  dF : FuncData
  dP : FuncData
  dT : FuncData
  FI : Fun K "__init__" "Tally.__init__" sTinit fI dI
  FS : Fun K "sketch" "Tally.sketch" sTsketch fS dS
  FF : Fun K "gain" "Tally.gain" sTfeed fF dF
  FP : Fun K "pour" "Tally.pour" sTpour fP dP
  FT : Fun K "_take" "Tally._take" sTtake fT dT
  bI : Binds K dI ["self", "sketch"] []
  bS : Binds K dS ["self"] []
  bF : Binds K dF ["self", "name", "times"] []
  bP : Binds K dP ["self", "sketch"] []
  bT : Binds K dT ["self", "amount"] []
  mI : Mk K C fI
  mS : Meth K C "sketch" fS
  mF : Meth K C "gain" fF
  mP : Meth K C "pour" fP
  mT : Meth K C "_take" fT
  cl : Cls K C
  nR : NoAttr K C "room"
  nM : NoAttr K C "seen"
  nO : NoAttr K C "off"
  nC : NoAttr K C "counts"
  g : mg "Tally" = some (.ref C)
theorem ents_paired {K : PySem.W.Frag} {H : Hp} : ∀ {ts : List Addr} {kvs : Ct}, Paired (PrAt K H) ts kvs → Paired (fun p kv => SqT K H p [kV kv.1, kv.2]) ts (kvs.map entZ)
  | _, _, .nil => .nil
  | _, _, .cons h t => .cons h (ents_paired t)
theorem seq_upd {K : PySem.W.Frag} {H : Hp} {a t : Addr} {xs : List V} {C dx : Addr} {fs : List (Str × V)} {u : HO} (h : SqT K H a xs) (ht : H t = some (.ins C dx fs)) : SqT K (upd H t u) a xs := by
  rcases h with (h | ⟨o, h⟩) | h
  · exact .inl (.inl (by rw [upd_ne (ne_of h ht (by intro z; cases z))]; exact h))
  · exact .inl (.inr ⟨o, by rw [upd_ne (ne_of h ht (by intro z; cases z))]; exact h⟩)
  · exact .inr h
theorem prs_upd {K : PySem.W.Frag} {H : Hp} {t : Addr} {C dx : Addr} {fs : List (Str × V)} {u : HO} (ht : H t = some (.ins C dx fs)) : ∀ {ts : List Addr} {kvs : Ct}, Paired (PrAt K H) ts kvs → Paired (PrAt K (upd H t u)) ts kvs
  | _, _, .nil => .nil
  | _, _, .cons h q => .cons (seq_upd h ht) (prs_upd ht q)
section
variable {P : Program} {w : World} {K : PySem.W.Frag} {mg : Str → Option Value} {base : Heap}
/-! Tally.__init__ -/
def spTinit (K : PySem.W.Frag) (C : Addr) : Sp := fun vs H Q _ => ∃ (t dx s k : Addr) (r m o : Int) (ts : List Addr) (kvs : Ct), vs = [.ref t, .ref s] ∧ H t = some (.ins C dx []) ∧ SqT K H s [.int r, .int m, .int o, .ref k] ∧ Ptp H k (ts.map V.ref) ∧ Paired (PrAt K H) ts kvs ∧ NdZ kvs ∧
  ∀ H' d, (∀ b u, b ≠ t → H b = some u → H' b = some u) → H d = none → TalAt C H' t d r m o kvs → Q .non H'
theorem ok_Tinit (T : Blt mg) (L : Tal K mg) : FnOk P w K mg base CX0 1 L.fI L.dI ["self", "sketch"] (spTinit K L.C) := by
  refine L.FI.ok scTinit (fun vs H Q E h => ?_) (fun cdv A outer s H vs Q E hr h => ?_)
  · obtain ⟨t, dx, s, k, r, m, o, ts, kvs, rfl, _⟩ := h
    rfl
  · obtain ⟨t, dx, s, k, r, m, o, ts, kvs, rfl, ht, hs, hk, hp, nd, q⟩ := h
    refine ⟨_, (pss_cons (ps_asg (pv 1) (pg_tup (by rfl) (pgs_cons (pg_fld (pv 0)) (pgs_cons (pg_fld (pv 0)) (pgs_cons (pg_fld (pv 0)) (pgs_cons (pg_name (i := 2) scTinit.nd rfl (Or.inl rfl)) pgs_nil))))))
    (pss_one (ps_fld (pv 0) (pe_callTy (call_dictPT rfl) (by rfl) T.n_dict (by decide +kernel) (pa_cons (pv 2) pa_nil)) rfl))), ?_⟩
    have kt : k ≠ t := by
      obtain ⟨ob, e, _⟩ := hk
      exact ne_of e ht (by intro z; cases z)
    refine ⟨.ref s, rfl, s, _, rfl, hs, rfl, _, _, rfl, .ref t, rfl, t, L.C, dx, _, rfl, ht, L.cl, L.nR, (by show 0 < 1000; decide), ?_⟩
    refine ⟨_, _, rfl, .ref t, rfl, t, L.C, dx, _, rfl, upd_same, L.cl, L.nM, (by show 1 < 1000; decide), ?_⟩
    have l2 : (putF "seen" (V.int m) (putF "room" (V.int r) [])).length < 1000 := by
      show (if ("room" : Str) = "seen" then _ else (("room" : Str), V.int r) :: [(("seen" : Str), V.int m)]).length < 1000
      rw [if_neg k_mr]
      show 2 < 1000
      decide
    have l3 : (putF "off" (V.int o) (putF "seen" (V.int m) (putF "room" (V.int r) []))).length < 1000 := by
      show (putF "off" (V.int o) (if ("room" : Str) = "seen" then _ else (("room" : Str), V.int r) :: [(("seen" : Str), V.int m)])).length < 1000
      rw [if_neg k_mr]
      show (if ("room" : Str) = "off" then _ else (("room" : Str), V.int r) :: (if ("seen" : Str) = "off" then _ else (("seen" : Str), V.int m) :: [(("off" : Str), V.int o)])).length < 1000
      rw [if_neg k_or, if_neg k_om]
      show 3 < 1000
      decide
    refine ⟨_, _, rfl, .ref t, rfl, t, L.C, dx, _, rfl, upd_same, L.cl, L.nO, l2, ?_⟩
    rw [upd_upd, upd_upd]
    refine ⟨_, _, rfl, rfl, .ref k, rfl, k, ts, kvs.map entZ, rfl, hk.upd kt, ents_paired (prs_upd ht hp), fun d nd2 => ?_⟩
    have td : t ≠ d := ne_of_none upd_same nd2
    have nd0 : H d = none := by rw [upd_ne td.symm] at nd2; exact nd2
    refine ⟨.ref t, rfl, t, L.C, dx, _, rfl, (by rw [upd_ne td]; exact upd_same), L.cl, L.nC, l3, ?_⟩
    rw [fl_mk, show mergeK [] (kvs.map entZ) = kvs.map entZ from mergeZ kvs [] nd]
    refine q _ d (fun b u hb e => ?_) nd0 ⟨⟨dx, upd_same⟩, by rw [upd_ne td.symm]; exact upd_same⟩
    rw [upd_ne hb, upd_ne (ne_of_none e nd0), upd_ne hb]
    exact e
end
end Kb

namespace L2
section
variable {J : It} {n : Nat} {G : Hp → Prop} {Y : Nat → Hp → V → Hp → Prop}
/-- a dict comprehension over a walk -/
theorem dc_it (w : Walk J n G Y) {g : TG} {tt : TT} {tk tv : TE} {vs : List Nat} {σ : St} {H1 : Hp} {D : PySem.Addr} {Qd : Hp → Prop} (Pv : Nat → Hp → Prop) (h0 : Pv 0 (upd H1 D (.dK []))) (hG : ∀ i H, i ≤ n → Pv i H → G H)
    (hs : ∀ i x H H', i < n → Pv i H → Y i H x H' → g x (wipe σ vs) H' fun σ2 H2 => wipe σ2 vs = wipe σ vs ∧ tt σ2 H2 fun b H3 =>
      if b = true then tk σ2 H3 fun y H4 => tv σ2 H4 fun z H5 => ∃ kvs k, y = kV k ∧ H5 D = some (.dK kvs) ∧ kvs.length < PySem.sizeLine ∧ Pv (i + 1) (upd H5 D (.dK (putK kvs k z))) else Pv (i + 1) H3) (hd : ∀ H, Pv n H → Qd H) :
    ∃ W : Nat → Nat → Hp → Prop, (∃ m, W 0 m (upd H1 D (.dK []))) ∧ ∀ i m H, W i m H →
      (J.stop i H ∧ Qd H) ∨ (J.go i H ∧ ∃ Nx : Hp → Prop, (∀ H', Nx H' → ∃ m', m' < m ∧ W (i + 1) m' H') ∧ ∀ x H', J.yld i H x H' → g x (wipe σ vs) H' fun σ2 H2 => wipe σ2 vs = wipe σ vs ∧ tt σ2 H2 fun b H3 =>
        if b = true then tk σ2 H3 fun y H4 => tv σ2 H4 fun z H5 => ∃ kvs k, y = kV k ∧ H5 D = some (.dK kvs) ∧ kvs.length < PySem.sizeLine ∧ Nx (upd H5 D (.dK (putK kvs k z))) else Nx H3) := by
  refine ⟨fun i m H => m = n - i ∧ i ≤ n ∧ Pv i H, ⟨n, by simp, Nat.zero_le _, h0⟩, ?_⟩
  rintro i m H ⟨rfl, hi, p⟩
  have q := hG i H hi p
  by_cases hlt : i < n
  · refine .inr ⟨w.goes i H hlt q, Pv (i + 1), fun H' p' => ⟨n - (i + 1), by omega, rfl, hlt, p'⟩, fun x H' y => hs i x H H' hlt p (w.yields i H x H' hlt q y)⟩
  · have e : i = n := by omega
    subst e
    exact .inl ⟨w.stops H q, hd H p⟩
end
end L2
namespace Kb
open PySem PySem.Spec PyProof.Rows L2 SrtZ SrtO
def Asc (kvs : Ct) : Prop := kvs.Pairwise fun a b => ltZ a.1 b.1 = true
/-- sorted, names unlike: ascending -/
theorem asc_of {ys kvs : Ct} (h : Srtd lexZ ys) (p : ys.Perm kvs) (nd : NdZ kvs) : Asc ys := by
  have nd2 : (ys.map (·.1)).Nodup := (p.map (·.1)).nodup_iff.mpr nd
  rw [List.Nodup, List.pairwise_map] at nd2
  refine List.Pairwise.imp₂ (fun {a b} h1 h2 => ?_) h nd2
  rw [lexZ_ne (fun e => h2 e.symm)] at h1
  rcases bcase (ltZ a.1 b.1) with q | q
  · exact q
  · exact absurd (ltZ_tri q h1) h2
theorem asc_uniq {xs ys : Ct} (hx : Asc xs) (hy : Asc ys) (p : xs.Perm ys) : xs = ys :=
  List.Perm.eq_of_pairwise (le := fun (a b : Str × Int) => ltZ a.1 b.1 = true) (fun a b _ _ h1 h2 => by
    have := ltZ_asym h1
    rw [h2] at this
    cases this) hx hy p
theorem putZ_snoc {kvs : Ct} {n : Str} {v : Int} (h : n ∉ kvs.map (·.1)) : putZ kvs n v = kvs ++ [(n, v)] := putZ_new (getZ_none.mpr h)
theorem takeZ_snoc (a : Int) (kvs : Ct) (e : Str × Int) : takeZ a (kvs ++ [e]) = takeZ a kvs ++ (if a < e.2 then [(e.1, e.2 - a)] else []) := by
  unfold takeZ
  rw [List.filter_append, List.map_append]
  by_cases h : a < e.2
  · rw [if_pos h, List.filter_cons_of_pos (by simpa using h)]
    rfl
  · rw [if_neg h, List.filter_cons_of_neg (by simpa using h)]
    rfl
theorem takeZ_keys {a : Int} {kvs : Ct} {n : Str} (h : n ∈ (takeZ a kvs).map (·.1)) : n ∈ kvs.map (·.1) := by
  unfold takeZ at h
  rw [List.map_map] at h
  obtain ⟨e, he, rfl⟩ := List.mem_map.mp h
  exact List.mem_map.mpr ⟨e, (List.mem_filter.mp he).1, rfl⟩
section
variable {P : Program} {w : World} {K : PySem.W.Frag} {mg : Str → Option Value} {base : Heap}
/-! Tally.sketch -/
def spTsketch (C : Addr) : Sp := fun vs H Q _ => ∃ (t d : Addr) (r m o : Int) (kvs : Ct), vs = [.ref t] ∧ TalAt C H t d r m o kvs ∧ NdZ kvs ∧ kvs.length ≤ 1000 ∧
  ∀ H' s k (ys : Ct) (ts : List Addr), Same H H' → H s = none → H' s = some (.tup [.int r, .int m, .int o, .ref k]) → Ptp H' k (ts.map V.ref) → Paired (fun (t : Addr) (y : Str × Int) => H' t = some (.tup [.str y.1, .int y.2])) ts ys → ys.Perm kvs → Asc ys → Q (.ref s) H'
theorem ok_Tsketch (T : Blt mg) (L : Tal K mg) : FnOk P w K mg base CX0 1 L.fS L.dS ["self"] (spTsketch L.C) := by
  refine L.FS.ok scTsketch (fun vs H Q E h => ?_) (fun cdv A outer s H vs Q E hr h => ?_)
  · obtain ⟨t, d, r, m, o, kvs, rfl, _⟩ := h
    rfl
  · obtain ⟨t, d, r, m, o, kvs, rfl, ta, nd, hl, q⟩ := h
    refine ⟨_, (pss_one (ps_ret (pe_tup (pa_cons (pe_fld (pv 0) rfl) (pa_cons (pe_fld (pv 0) rfl) (pa_cons (pe_fld (pv 0) rfl) (pa_cons (pe_callTy call_tupleF (by rfl) T.n_tuple (by decide +kernel) (pa_cons (pe_callB (cr_sortedIZ rfl) (by rfl) T.n_sorted (by decide +kernel) (pa_cons (pe_bm0 PySem.F.plainAttrs_dict PySem.F.slot_dict_items PySem.F.type_dict_items mt_itemsK (pe_fld (pv 0) rfl)) pa_nil)) pa_nil)) pa_nil))))))), ?_⟩
    obtain ⟨⟨dx, ht⟩, hd⟩ := id ta
    refine ⟨.ref t, rfl, t, L.C, dx, _, _, rfl, ht, L.cl, L.nR, g_room _ _ _ _, .ref t, rfl, t, L.C, dx, _, _, rfl, ht, L.cl, L.nM, g_many _ _ _ _, .ref t, rfl, t, L.C, dx, _, _, rfl, ht, L.cl, L.nO, g_off _ _ _ _, ?_⟩
    refine ⟨.ref t, rfl, t, L.C, dx, _, _, rfl, ht, L.cl, L.nC, g_counts _ _ _ _, .inr (.inr (.inl ⟨rfl, .inl ⟨_, hd⟩⟩)), d, _, rfl, rfl, hd, fun p np => ?_⟩
    refine ⟨p, d, kvs, rfl, upd_same, (by rw [upd_ne (ne_of_none hd np)]; exact hd), fun H1 l ys ts s1 nl nts lts pm so hl1 hts => ?_⟩
    refine ⟨l, _, rfl, sql hl1, fun k ob nk ho => ⟨(by show 4 ≤ sizeLine; decide), fun s ns => ?_⟩⟩
    have sa : Same H (upd H p (DX.itemsO p d)) := same_upd np
    have sb : Same H H1 := fun b u e => s1 b u (sa b u e)
    have sc : Same H (upd H1 k (.frz ob (.tup (ts.map V.ref)))) := Same.new sb nk
    refine q _ s k ys ts (Same.new sc ns) (Same.gone sc ns) upd_same ⟨ob, ?_, ho⟩ ?_ pm (asc_of so pm nd)
    · rw [upd_ne (ne_of_none upd_same ns)]
      exact upd_same
    · have : ∀ {ts : List Addr} {ys : Ct}, Paired (fun (t : Addr) (y : Str × Int) => H1 t = some (.tup [.str y.1, .int y.2])) ts ys → Paired (fun (t : Addr) (y : Str × Int) => (upd (upd H1 k (.frz ob (.tup (ts.map V.ref)))) s (.tup [.int r, .int m, .int o, .ref k])) t = some (.tup [.str y.1, .int y.2])) ts ys := by
        intro ts ys h
        have gen : ∀ (u : HO) (ns' : (upd H1 k u) s = none) (v : HO) {ts : List Addr} {ys : Ct}, Paired (fun (t : Addr) (y : Str × Int) => H1 t = some (.tup [.str y.1, .int y.2])) ts ys → Paired (fun (t : Addr) (y : Str × Int) => (upd (upd H1 k u) s v) t = some (.tup [.str y.1, .int y.2])) ts ys := by
          intro u ns' v ts ys h
          induction h with
          | nil => exact .nil
          | cons h _ ih => exact .cons ((Same.new (same_upd nk) ns') _ _ h) ih
        exact gen _ (by
          have e : s ≠ k := (ne_of_none upd_same ns).symm
          rw [upd_ne e] at ns ⊢
          exact ns) _ h
      exact this hts
/-! Tally._take -/
def spTtake (C : Addr) : Sp := fun vs H Q _ => ∃ (t d : Addr) (r m o a : Int) (kvs : Ct), vs = [.ref t, .int a] ∧ TalAt C H t d r m o kvs ∧ NdZ kvs ∧ kvs.length ≤ 1000 ∧
  ∀ H' d', But t d H H' → H d' = none → TalAt C H' t d' r m (o + a) (takeZ a kvs) → Q .non H'
theorem ok_Ttake (T : Blt mg) (L : Tal K mg) : FnOk P w K mg base CX0 1 L.fT L.dT ["self", "amount"] (spTtake L.C) := by
  refine L.FT.ok scTtake (fun vs H Q E h => ?_) (fun cdv A outer s H vs Q E hr h => ?_)
  · obtain ⟨t, d, r, m, o, a, kvs, rfl, _⟩ := h
    rfl
  · obtain ⟨t, d, r, m, o, a, kvs, rfl, ta, nd, hl, q⟩ := h
    refine ⟨_, (pss_cons (ps_fldaug (pv 0) (pv 1) in_add)
    (pss_one (ps_fld (pv 0) (pe_lock (pe_dc rfl scTtake.nd (own := [("name", 2), ("count", 3)]) (g := gTup K 2 (gCons (gName 2) (gCons (gName 3) gNil))) (pi_items (pe_fld (pv 0) rfl)) (blkOk_by (N := NTtake) (sc := defScope sTtake) (by decide +kernel)) (fun _ _ _ _ _ => pg_tup (by rfl) (pgs_cons (pg_name (i := 2) scTtake.nd rfl (Or.inl rfl)) (pgs_cons (pg_name (i := 3) scTtake.nd rfl (Or.inl rfl)) pgs_nil))) (fun _ _ _ _ _ => pts_one (pt_cmpR op_gt (pv 3) (pv 1) (nomark _))) (fun _ _ _ _ _ => (pv 2)) (fun _ _ _ _ _ => (pe_op op_sub (pv 3) (pv 1))))) rfl))), ?_⟩
    obtain ⟨⟨dx, ht⟩, hd⟩ := id ta
    have td := ta.ne
    refine ⟨.ref t, rfl, t, L.C, dx, _, _, rfl, ht, L.cl, L.nO, g_off _ _ _ _, .int a, rfl, _, _, rfl, rfl, dx, _, ht, (by show 4 < 1000; decide), ?_⟩
    rw [fl_off]
    have hd1 : (upd H t (.ins L.C dx (fl r m (o + a) d))) d = some (.dK (kvs.map entZ)) := by rw [upd_ne td.symm]; exact hd
    refine ⟨d, _, hd1, trivial, fun od => ⟨.ref t, rfl, t, L.C, dx, _, _, rfl, (by rw [upd_ne td]; exact upd_same), L.cl, L.nC, g_counts _ _ _ _, d, od, kvs.map entZ, rfl, upd_same, fun D nD => ?_⟩⟩
    have tD : t ≠ D := ne_of_none (by rw [upd_ne td]; exact upd_same) nD
    have dD : d ≠ D := ne_of_none upd_same nD
    generalize hHl : upd (upd H t (.ins L.C dx (fl r m (o + a) d))) d (.frz od (.dK (kvs.map entZ))) = Hl at nD ⊢
    have hlt : Hl t = some (.ins L.C dx (fl r m (o + a) d)) := by rw [← hHl, upd_ne td]; exact upd_same
    have hld : Hl d = some (.frz od (.dK (kvs.map entZ))) := by rw [← hHl]; exact upd_same
    refine dc_it (walk_items (kvs := kvs.map entZ)) (fun i H3 => (∀ b u, b ≠ D → Hl b = some u → H3 b = some u) ∧ H3 D = some (.dK ((takeZ a (kvs.take i)).map entZ))) ⟨fun b u n e => by rw [upd_ne n]; exact e, upd_same⟩ (fun i H3 _ h3 => h3.1 d _ dD hld) (fun i x H3 H4 hi h3 y => ?_) (fun H3 h3 => ?_)
    · obtain ⟨Tp, x1, y1, rfl, nT, rfl, hx, hy⟩ := y
      dsimp only at hx hy
      rw [List.length_map] at hi
      have he : kvs[i]? = some kvs[i] := List.getElem?_eq_getElem hi
      generalize kvs[i] = e at he
      have hx1 : x1 = .str e.1 := by
        rw [List.getElem?_map, he] at hx
        exact (Option.some.inj hx).symm
      have hy1 : y1 = .int e.2 := by
        rw [List.getElem?_map, he] at hy
        exact (Option.some.inj hy).symm
      subst hx1 hy1
      have TD : Tp ≠ D := (ne_of_none h3.2 nT).symm
      refine ⟨Tp, _, rfl, .inl (.inl upd_same), rfl, _, _, rfl, _, _, rfl, rfl, rfl, .int e.2, rfl, .int a, rfl, _, _, rfl, rfl, _, rfl, ?_⟩
      have tk := takeZ_snoc a (kvs.take i) e
      have te : kvs.take (i + 1) = kvs.take i ++ [e] := by rw [List.take_add_one, he]; rfl
      refine ite2 (fun hgt => ?_) (fun hgt => ?_)
      · have hga : a < e.2 := of_decide_eq_true hgt
        refine ⟨.str e.1, rfl, .int e.2, rfl, .int a, rfl, _, _, rfl, rfl, _, Sum.inr e.1, rfl, (by rw [upd_ne TD.symm]; exact h3.2), ?_, fun b u nb e' => ?_, ?_⟩
        · rw [List.length_map, sizeLine_eq]
          have := takeZ_len (a := a) (kvs := kvs.take i)
          rw [List.length_take] at this
          omega
        · rw [upd_ne nb]
          by_cases hb : b = Tp
          · subst hb
            have := h3.1 b u nb e'
            rw [nT] at this
            cases this
          · rw [upd_ne hb]
            exact h3.1 b u nb e'
        · rw [upd_same, putZ_put, putZ_snoc, te, tk, if_pos hga]
          intro z
          have z2 := takeZ_keys z
          have nd2 := nd
          unfold NdZ at nd2
          rw [← List.take_append_drop i kvs, List.map_append, List.nodup_append] at nd2
          refine nd2.2.2 _ z2 e.1 (List.mem_map.mpr ⟨e, ?_, rfl⟩) rfl
          rw [List.drop_eq_getElem_cons hi]
          have := (List.getElem?_eq_some_iff.mp he).2
          rw [this]
          exact List.mem_cons_self
      · have hga : ¬ a < e.2 := fun z => hgt (decide_eq_true z)
        refine ⟨fun b u nb e' => ?_, ?_⟩
        · by_cases hb : b = Tp
          · subst hb
            have := h3.1 b u nb e'
            rw [nT] at this
            cases this
          · rw [upd_ne hb]
            exact h3.1 b u nb e'
        · rw [upd_ne TD.symm, te, tk, if_neg hga, List.append_nil]
          exact h3.2
    · have h3t := h3.1 t _ tD hlt
      have h3d := h3.1 d _ dD hld
      refine ⟨h3d, .ref t, rfl, t, L.C, dx, _, rfl, (by rw [upd_ne td]; exact h3t), L.cl, L.nC, (by show 4 < 1000; decide), ?_⟩
      rw [fl_counts]
      have h3D : H3 D = some (.dK ((takeZ a kvs).map entZ)) := by
        have := h3.2
        rw [List.length_map, List.take_length] at this
        exact this
      have nD0 : H D = none := by
        rw [← hHl, upd_ne dD.symm, upd_ne tD.symm] at nD
        exact nD
      refine q _ D (fun b u n1 n2 e => ?_) nD0 ⟨⟨dx, upd_same⟩, by rw [upd_ne tD.symm, upd_ne dD.symm]; exact h3D⟩
      rw [upd_ne n1, upd_ne n2]
      refine h3.1 b u (ne_of_none e nD0) ?_
      rw [← hHl, upd_ne n2, upd_ne n1]
      exact e
end
end Kb

namespace Kb
open PySem PySem.Spec PyProof.Rows L2 SrtZ SrtO
/-- the least count -/
def mnC : Ct → Int
  | [] => 0
  | [e] => e.2
  | e :: r => if e.2 ≤ mnC r then e.2 else mnC r
theorem mnC_spec : ∀ {kvs : Ct}, kvs ≠ [] → mnC kvs ∈ kvs.map (·.2) ∧ ∀ y ∈ kvs.map (·.2), mnC kvs ≤ y
  | [], h => absurd rfl h
  | [e], _ => ⟨by simp [mnC], fun y hy => by
    have : y = e.2 := by simpa using hy
    rw [this]
    exact Int.le_refl _⟩
  | e :: f :: r, _ => by
    obtain ⟨h1, h2⟩ := mnC_spec (kvs := f :: r) (by simp)
    show (if e.2 ≤ mnC (f :: r) then e.2 else mnC (f :: r)) ∈ _ ∧ ∀ y ∈ _, (if e.2 ≤ mnC (f :: r) then e.2 else mnC (f :: r)) ≤ y
    by_cases h : e.2 ≤ mnC (f :: r)
    · rw [if_pos h]
      refine ⟨by simp, fun y hy => ?_⟩
      rw [List.map_cons] at hy
      rcases List.mem_cons.mp hy with rfl | hy
      · exact Int.le_refl _
      · exact Int.le_trans h (h2 y hy)
    · rw [if_neg h]
      refine ⟨by rw [List.map_cons]; exact List.mem_cons_of_mem _ h1, fun y hy => ?_⟩
      rw [List.map_cons] at hy
      rcases List.mem_cons.mp hy with rfl | hy
      · omega
      · exact h2 y hy
theorem mnC_uniq {kvs : Ct} {m : Int} (h : m ∈ kvs.map (·.2)) (hm : ∀ y ∈ kvs.map (·.2), m ≤ y) : m = mnC kvs := by
  have ne : kvs ≠ [] := by
    rintro rfl
    simp at h
  obtain ⟨h1, h2⟩ := mnC_spec ne
  have a := h2 _ h
  have b := hm _ h1
  omega
/-- what a tally holds: many, off, counts -/
structure Tl where
  m : Int
  o : Int
  c : Ct
def full (r : Int) (n : Str) (kvs : Ct) : Bool := !(getZ kvs n).isSome && decide ((kvs.length : Int) = r)
def feedT (r : Int) (n : Str) (c : Int) (x : Tl) : Tl :=
  if full r n x.c = true then
    let a := if mnC x.c < c then mnC x.c else c
    ⟨x.m + c, x.o + a, if 0 < c - a then addZ (takeZ a x.c) n (c - a) else takeZ a x.c⟩
  else ⟨x.m + c, x.o, if 0 < c then addZ x.c n c else x.c⟩
def sumsZ (more kvs : Ct) : Ct := more.foldl (fun a e => addZ a e.1 e.2) kvs
def fallZ (kvs : Ct) (r : Int) : Int := ((kvs.map (·.2)).mergeSort (fun a b => decide (b ≤ a))).getD r.toNat 0
def pourT (r : Int) (y x : Tl) : Tl :=
  let all := sumsZ y.c x.c
  if r < (all.length : Int) then ⟨x.m + y.m, x.o + y.o + fallZ all r, takeZ (fallZ all r) all⟩ else ⟨x.m + y.m, x.o + y.o, all⟩
theorem fall_uniq {kvs : Ct} {ns : List Int} (p : ns.Perm (kvs.map (·.2))) (h : ns.Pairwise (· ≥ ·)) : ns = (kvs.map (·.2)).mergeSort (fun a b => decide (b ≤ a)) := by
  refine List.Perm.eq_of_pairwise (le := fun (a b : Int) => b ≤ a) (fun a b _ _ h1 h2 => Int.le_antisymm h2 h1) h ?_ (p.trans (List.mergeSort_perm _ _).symm)
  have := List.pairwise_mergeSort (le := fun (a b : Int) => decide (b ≤ a)) (fun a b c h1 h2 => by simp at *; omega) (fun a b => by simp; omega) (kvs.map (·.2))
  exact this.imp fun h => of_decide_eq_true h
theorem addZ_nd {kvs : Ct} {n : Str} {c : Int} (nd : NdZ kvs) : NdZ (addZ kvs n c) := putZ_nd nd
theorem addZ_len {kvs : Ct} {n : Str} {c : Int} : (addZ kvs n c).length ≤ kvs.length + 1 := putZ_len
theorem sumsZ_nd : ∀ {more kvs : Ct}, NdZ kvs → NdZ (sumsZ more kvs)
  | [], _, h => h
  | e :: r, kvs, h => sumsZ_nd (more := r) (addZ_nd (n := e.1) (c := e.2) h)
theorem sumsZ_len : ∀ {more kvs : Ct}, (sumsZ more kvs).length ≤ kvs.length + more.length
  | [], kvs => Nat.le_refl _
  | e :: r, kvs => by
    have h := sumsZ_len (more := r) (kvs := addZ kvs e.1 e.2)
    have h2 := addZ_len (kvs := kvs) (n := e.1) (c := e.2)
    show (sumsZ r (addZ kvs e.1 e.2)).length ≤ kvs.length + (r.length + 1)
    omega
theorem sumsZ_snoc {more kvs : Ct} {i : Nat} {e : Str × Int} (h : more[i]? = some e) : sumsZ (more.take (i + 1)) kvs = addZ (sumsZ (more.take i) kvs) e.1 e.2 := by
  unfold sumsZ
  rw [List.take_add_one, h, List.foldl_append]
  rfl
section
variable {P : Program} {w : World} {K : PySem.W.Frag} {mg : Str → Option Value} {base : Heap}
/-! Tally.feed -/
def spTfeed (C : Addr) : Sp := fun vs H Q _ => ∃ (t d : Addr) (r c : Int) (n : Str) (x : Tl), vs = [.ref t, .str n, .int c] ∧ TalAt C H t d r x.m x.o x.c ∧ NdZ x.c ∧ x.c.length ≤ 500 ∧ 1 ≤ r ∧
  ∀ H' d', But t d H H' → (d' = d ∨ H d' = none) → TalAt C H' t d' r (feedT r n c x).m (feedT r n c x).o (feedT r n c x).c → Q .non H'
theorem ok_Tfeed (T : Blt mg) (L : Tal K mg) : FnOk P w K mg base CX0 2 L.fF L.dF ["self", "name", "times"] (spTfeed L.C) := by
  have G_take : FnOk P w K mg base CX0 1 L.fT L.dT ["self", "amount"] (spTtake L.C) := ok_Ttake T L
  refine L.FF.ok scTfeed (fun vs H Q E h => ?_) (fun cdv A outer s H vs Q E hr h => ?_)
  · obtain ⟨t, d, r, c, n, x, rfl, _⟩ := h
    rfl
  · obtain ⟨t, d, r, c, n, ⟨m, o, kvs⟩, rfl, ta, nd, hl, hr1, q⟩ := h
    dsimp only at ta nd hl q
    have hu := hu_of hr
    refine ⟨_, (pss_cons (ps_fldaug (pv 0) (pv 2) in_add)
    (C8.pss_cut (ps_if (PW.pt (pw_and (pt_cmp (pc_dnotin hu (pv 1) (pe_fld (pv 0) rfl))) (pw_and1 (pt_cmpR op_eq (pe_callB call_lenD (by rfl) T.n_len (by decide +kernel) (pa_cons (pe_fld (pv 0) rfl) pa_nil)) (pe_fld (pv 0) rfl) (nomark _)))))
      (pss_cons (ps_set (i := 3) scTfeed.nd rfl (Or.inl rfl) (pe_callB (call_min2 rfl) (by rfl) T.n_min (by decide +kernel) (pa_cons (pv 2) (pa_cons (pe_callB (cr_minV rfl) (by rfl) T.n_min (by decide +kernel) (pa_cons (pe_bm0 PySem.F.plainAttrs_dict PySem.F.slot_dict_values PySem.F.type_dict_values mt_valuesK (pe_fld (pv 0) rfl)) pa_nil)) pa_nil))))
      (pss_cons (ps_expr (pe_meth (pv 0) L.cl L.mT G_take (hr.mono (by omega)) L.bT .nil pass0 (pa_cons (pv 3) pa_nil)))
      (pss_one (ps_aug (i := 2) scTfeed.nd rfl (Or.inl rfl) (pv 3) ip_sub))))
      pss_nil)
    (pss_one (ps_if (pt_cmpR op_gt (pv 2) pe_int (nomark _))
      (pss_one (ps_dput hu (pe_fld (pv 0) rfl) (pv 1) (pe_op op_add (pe_dget2 hu (pe_fld (pv 0) rfl) (pv 1) pe_int ⟨rfl, rfl, rfl, rfl⟩) (pv 2)) rfl))
      pss_nil)))), ?_⟩
    obtain ⟨⟨dx, ht⟩, hd⟩ := id ta
    have td := ta.ne
    refine ⟨.ref t, rfl, t, L.C, dx, _, _, rfl, ht, L.cl, L.nM, g_many _ _ _ _, .int c, rfl, _, _, rfl, rfl, dx, _, ht, (by show 4 < 1000; decide), ?_⟩
    rw [fl_many]
    have ta1 : TalAt L.C (upd H t (.ins L.C dx (fl r (m + c) o d))) t d r (m + c) o kvs := ⟨⟨dx, upd_same⟩, by rw [upd_ne td.symm]; exact hd⟩
    have bt1 : But t d H (upd H t (.ins L.C dx (fl r (m + c) o d))) := (But.refl t d H).upT
    generalize upd H t (.ins L.C dx (fl r (m + c) o d)) = H1 at ta1 bt1
    -- what stands behind the first if
    refine ⟨fun σ H2 => ∃ (d2 : Addr) (o2 c2 : Int) (kvs2 : Ct) (y : Option V), σ = [some (.ref t), some (.str n), some (.int c2), y] ∧ But t d H H2 ∧ (d2 = d ∨ H d2 = none) ∧ TalAt L.C H2 t d2 r (m + c) o2 kvs2 ∧ NdZ kvs2 ∧ kvs2.length ≤ 500 ∧
      feedT r n c ⟨m, o, kvs⟩ = ⟨m + c, o2, if 0 < c2 then addZ kvs2 n c2 else kvs2⟩, ?_, ?_⟩
    · obtain ⟨⟨dx1, ht1⟩, hd1⟩ := id ta1
      refine ⟨.str n, rfl, .ref t, rfl, t, L.C, dx1, _, _, rfl, ht1, L.cl, L.nC, g_counts _ _ _ _, d, _, rfl, DGet.k (k := Sum.inr n) hd1, _, rfl, ?_⟩
      rw [getZ_val]
      have stay : full r n kvs = false → ∃ (d2 : Addr) (o2 c2 : Int) (kvs2 : Ct) (y : Option V), [some (V.ref t), some (V.str n), some (V.int c), none] = [some (.ref t), some (.str n), some (.int c2), y] ∧ But t d H H1 ∧ (d2 = d ∨ H d2 = none) ∧ TalAt L.C H1 t d2 r (m + c) o2 kvs2 ∧ NdZ kvs2 ∧ kvs2.length ≤ 500 ∧
          feedT r n c ⟨m, o, kvs⟩ = ⟨m + c, o2, if 0 < c2 then addZ kvs2 n c2 else kvs2⟩ := fun hf => ⟨d, o, c, kvs, none, rfl, bt1, .inl rfl, ta1, nd, hl, by unfold feedT; rw [if_neg (by rw [hf]; decide)]⟩
      cases hg : getZ kvs n with
      | some v =>
        refine iteF ?_
        exact stay (by unfold full; rw [hg]; rfl)
      | none =>
        refine iteT ⟨.ref t, rfl, t, L.C, dx1, _, _, rfl, ht1, L.cl, L.nC, g_counts _ _ _ _, d, _, rfl, hd1, .ref t, rfl, t, L.C, dx1, _, _, rfl, ht1, L.cl, L.nR, g_room _ _ _ _, rfl, _, rfl, ?_⟩
        rw [List.length_map]
        by_cases hfull : (kvs.length : Int) = r
        · have hf : full r n kvs = true := by
            unfold full
            rw [hg, decide_eq_true hfull]
            rfl
          rw [show decide (V.int (kvs.length : Int) = V.int r) = true from decide_eq_true (by rw [hfull])]
          refine iteT ?_
          have hne : kvs ≠ [] := by
            rintro rfl
            have : (0 : Int) = r := hfull
            omega
          refine ⟨.int c, rfl, .ref t, rfl, t, L.C, dx1, _, _, rfl, ht1, L.cl, L.nC, g_counts _ _ _ _, .inr (.inr (.inl ⟨rfl, .inl ⟨_, hd1⟩⟩)), d, _, rfl, rfl, hd1, fun p np => ?_⟩
          refine ⟨p, d, kvs, rfl, upd_same, (by rw [upd_ne (ne_of_none hd1 np)]; exact hd1), List.length_pos_iff.mpr hne, fun mn h1 h2 => ?_⟩
          have emn := mnC_uniq h1 h2
          subst emn
          refine ⟨_, _, rfl, ?_⟩
          generalize ha : (if mnC kvs < c then mnC kvs else c) = a
          have ta2 : TalAt L.C (upd H1 p (valuesO p d)) t d r (m + c) o kvs := ta1.same (same_upd np)
          obtain ⟨⟨dx2, ht2⟩, _⟩ := id ta2
          refine ⟨.ref t, rfl, t, dx2, _, rfl, ht2, g_no _ _ _ _ (by decide +kernel) (by decide +kernel) (by decide +kernel) (by decide +kernel), .int a, rfl, t, d, r, m + c, o, a, kvs, rfl, ta2, nd, (by omega), fun H3 d3 b3 nd3 ta3 => ?_⟩
          refine ⟨.int c, rfl, .int a, rfl, _, _, rfl, rfl, d3, o + a, c - a, takeZ a kvs, some (.int a), rfl, ?_, .inr ?_, ta3, takeZ_nd nd, Nat.le_trans takeZ_len hl, ?_⟩
          · exact (bt1.new np).trans b3
          · have nd4 : H1 d3 = none := Same.gone (same_upd np) nd3
            cases e : H d3 with
            | none => rfl
            | some u =>
              by_cases e1 : d3 = t
              · subst e1
                rw [ht1] at nd4
                cases nd4
              · by_cases e2 : d3 = d
                · subst e2
                  rw [hd1] at nd4
                  cases nd4
                · have := bt1 d3 u e1 e2 e
                  rw [nd4] at this
                  cases this
          · unfold feedT
            rw [if_pos hf]
            dsimp only
            rw [ha]
        · have hf : full r n kvs = false := by
            unfold full
            rw [hg, decide_eq_false hfull]
            rfl
          rw [show decide (V.int (kvs.length : Int) = V.int r) = false from decide_eq_false (fun z => hfull (by injection z))]
          exact iteF (stay hf)
    · rintro σ H2 ⟨d2, o2, c2, kvs2, y, rfl, bt2, hd2, ta2, nd2, hl2, hf⟩
      rw [hf] at q
      dsimp only at q
      obtain ⟨⟨dx2, ht2⟩, hdd⟩ := id ta2
      have td2 := ta2.ne
      refine ⟨.int c2, rfl, _, _, rfl, rfl, _, rfl, ite2 (fun hp => ?_) fun hp => ?_⟩
      · have hp' : 0 < c2 := of_decide_eq_true hp
        rw [if_pos hp'] at q
        refine ⟨.ref t, rfl, t, L.C, dx2, _, _, rfl, ht2, L.cl, L.nC, g_counts _ _ _ _, d2, rfl, .inl ⟨_, .inl hdd⟩, .str n, rfl, _, DGet.k (k := Sum.inr n) hdd, ?_⟩
        rw [getZ_val]
        refine ⟨.int c2, rfl, (getZ kvs2 n).getD 0, c2, ?_, rfl, ?_⟩
        · cases getZ kvs2 n <;> rfl
        · refine ⟨.ref t, rfl, t, L.C, dx2, _, _, rfl, ht2, L.cl, L.nC, g_counts _ _ _ _, .str n, rfl, d2, _, rfl, DPut.k (k := Sum.inr n) hdd (by rw [List.length_map, sizeLine_eq]; omega), ?_⟩
          rw [putZ_put]
          refine q _ d2 (fun b u n1 n2 e => ?_) hd2 ⟨⟨dx2, by rw [upd_ne td2]; exact ht2⟩, upd_same⟩
          by_cases hb : b = d2
          · subst hb
            rcases hd2 with rfl | hd2
            · exact absurd rfl n2
            · rw [e] at hd2
              cases hd2
          · rw [upd_ne hb]
            exact bt2 b u n1 n2 e
      · have hp' : ¬ 0 < c2 := fun z => hp (decide_eq_true z)
        rw [if_neg hp'] at q
        exact q H2 d2 bt2 hd2 ta2
end
end Kb

namespace Kb
open PySem PySem.Spec PyProof.Rows L2 SrtZ SrtO
theorem seqT_but {K : PySem.W.Frag} {C : Addr} {H H' : Hp} {t d a : Addr} {r m o : Int} {kvs : Ct} {xs : List V} (h : SqT K H a xs) (ta : TalAt C H t d r m o kvs) (b : But t d H H') : SqT K H' a xs := by
  obtain ⟨⟨dx, ht⟩, hd⟩ := ta
  rcases h with (h | ⟨o, h⟩) | h
  · exact .inl (.inl (b a _ (ne_of h ht (by intro z; cases z)) (ne_of h hd (by intro z; cases z)) h))
  · exact .inl (.inr ⟨o, b a _ (ne_of h ht (by intro z; cases z)) (ne_of h hd (by intro z; cases z)) h⟩)
  · exact .inr h
theorem prs_but {K : PySem.W.Frag} {C : Addr} {H H' : Hp} {t d : Addr} {r m o : Int} {kvs : Ct} (ta : TalAt C H t d r m o kvs) (b : But t d H H') : ∀ {ts : List Addr} {ks : Ct}, Paired (PrAt K H) ts ks → Paired (PrAt K H') ts ks
  | _, _, .nil => .nil
  | _, _, .cons h q => .cons (seqT_but h ta b) (prs_but ta b q)
section
variable {P : Program} {w : World} {K : PySem.W.Frag} {mg : Str → Option Value} {base : Heap}
/-! Tally.pour -/
def spTpour (K : PySem.W.Frag) (C : Addr) : Sp := fun vs H Q _ => ∃ (t d s k : Addr) (r r2 : Int) (x y : Tl), vs = [.ref t, .ref s] ∧ TalAt C H t d r x.m x.o x.c ∧ NdZ x.c ∧ x.c.length ≤ 200 ∧ SqT K H s [.int r2, .int y.m, .int y.o, .ref k] ∧ CtAt K H k y.c ∧ y.c.length ≤ 200 ∧ 0 ≤ r ∧
  ∀ H' d', But t d H H' → (d' = d ∨ H d' = none) → TalAt C H' t d' r (pourT r y x).m (pourT r y x).o (pourT r y x).c → Q .non H'
theorem ok_Tpour (T : Blt mg) (L : Tal K mg) : FnOk P w K mg base CX0 2 L.fP L.dP ["self", "sketch"] (spTpour K L.C) := by
  have G_take : FnOk P w K mg base CX0 1 L.fT L.dT ["self", "amount"] (spTtake L.C) := ok_Ttake T L
  refine L.FP.ok scTpour (fun vs H Q E h => ?_) (fun cdv A outer s H vs Q E hr h => ?_)
  · obtain ⟨t, d, s, k, r, r2, x, y, rfl, _⟩ := h
    rfl
  · obtain ⟨t, d, s, k, r, r2, ⟨m, o, kvs⟩, ⟨m2, o2, ks⟩, rfl, ta, nd, hl, hs, ⟨ts, hS, hp⟩, hl2, hr0, q⟩ := h
    dsimp only at ta nd hl hs hp hl2 q
    have hu := hu_of hr
    obtain ⟨rn, rfl⟩ := Int.eq_ofNat_of_zero_le hr0
    refine ⟨_, (pss_cons (ps_asg (pv 1) (pg_tup (by rfl) (pgs_cons (pg_name (i := 2) scTpour.nd rfl (Or.inl rfl)) (pgs_cons (pg_name (i := 3) scTpour.nd rfl (Or.inl rfl)) (pgs_cons (pg_name (i := 4) scTpour.nd rfl (Or.inl rfl)) (pgs_cons (pg_name (i := 5) scTpour.nd rfl (Or.inl rfl)) pgs_nil))))))
    (pss_cons (ps_fldaug (pv 0) (pv 3) in_add)
    (pss_cons (ps_fldaug (pv 0) (pv 4) in_add)
    (pss_cons (ps_for PassesOwn.never rfl (pi_tup (pv 5)) (pg_tup (by rfl) (pgs_cons (pg_name (i := 6) scTpour.nd rfl (Or.inl rfl)) (pgs_cons (pg_name (i := 7) scTpour.nd rfl (Or.inl rfl)) pgs_nil)))
      (pss_one (ps_dput hu (pe_fld (pv 0) rfl) (pv 6) (pe_op op_add (pe_dget2 hu (pe_fld (pv 0) rfl) (pv 6) pe_int ⟨rfl, rfl, rfl, rfl⟩) (pv 7)) rfl)))
    (pss_one (ps_if (pt_cmpR op_gt (pe_callB call_lenD (by rfl) T.n_len (by decide +kernel) (pa_cons (pe_fld (pv 0) rfl) pa_nil)) (pe_fld (pv 0) rfl) (nomark _))
      (pss_cons (ps_set (i := 8) scTpour.nd rfl (Or.inl rfl) (pe_callBK (cr_sortedVR (b := true) rfl) (by rfl) T.n_sorted (by decide +kernel) (pa_cons (pe_bm0 PySem.F.plainAttrs_dict PySem.F.slot_dict_values PySem.F.type_dict_values mt_valuesK (pe_fld (pv 0) rfl)) pa_nil) (pk_cons pe_bl pk_nil)))
      (pss_one (ps_expr (pe_meth (pv 0) L.cl L.mT G_take (hr.mono (by omega)) L.bT .nil pass0 (pa_cons (pe_ix ix_list (pv 8) (pe_fld (pv 0) rfl) (fun _ _ => rfl)) pa_nil)))))
      pss_nil)))))), ?_⟩
    obtain ⟨⟨dx, ht⟩, hd⟩ := id ta
    have td := ta.ne
    refine ⟨.ref s, rfl, s, _, rfl, hs, rfl, _, _, rfl, _, _, rfl, _, _, rfl, _, _, rfl, rfl, ?_⟩
    refine ⟨.ref t, rfl, t, L.C, dx, _, _, rfl, ht, L.cl, L.nM, g_many _ _ _ _, .int m2, rfl, _, _, rfl, rfl, dx, _, ht, (by show 4 < 1000; decide), ?_⟩
    rw [fl_many]
    refine ⟨.ref t, rfl, t, L.C, dx, _, _, rfl, upd_same, L.cl, L.nO, g_off _ _ _ _, .int o2, rfl, _, _, rfl, rfl, dx, _, upd_same, (by show 4 < 1000; decide), ?_⟩
    rw [fl_off, upd_upd]
    have ta1 : TalAt L.C (upd H t (.ins L.C dx (fl rn (m + m2) (o + o2) d))) t d rn (m + m2) (o + o2) kvs := ⟨⟨dx, upd_same⟩, by rw [upd_ne td.symm]; exact hd⟩
    have bt1 : But t d H (upd H t (.ins L.C dx (fl rn (m + m2) (o + o2) d))) := (But.refl t d H).upT
    generalize upd H t (.ins L.C dx (fl rn (m + m2) (o + o2) d)) = H1 at ta1 bt1
    refine ⟨.ref k, rfl, k, rfl, ⟨_, seqT_but hS ta bt1⟩, for_tup (xs := ts.map V.ref) (fun i σ H3 => ∃ y6 y7 : Option V, σ = [some (.ref t), some (.ref s), some (.int r2), some (.int m2), some (.int o2), some (.ref k), y6, y7, none] ∧ But t d H H3 ∧ TalAt L.C H3 t d rn (m + m2) (o + o2) (sumsZ (ks.take i) kvs))
      ⟨none, none, rfl, bt1, ta1⟩ (fun i σ H3 _ ⟨_, _, _, b3, _⟩ => seqT_but hS ta b3) ?_ ?_⟩
    · rintro i v σ H3 hi ⟨y6, y7, rfl, b3, ta3⟩
      obtain ⟨tp, htp, rfl⟩ := map_at hi
      obtain ⟨e, he, hat⟩ := paired_at hp htp
      obtain ⟨⟨dx3, ht3⟩, hd3⟩ := id ta3
      refine ⟨tp, _, rfl, seqT_but hat ta b3, rfl, _, _, rfl, _, _, rfl, rfl, ?_⟩
      refine ⟨.ref t, rfl, t, L.C, dx3, _, _, rfl, ht3, L.cl, L.nC, g_counts _ _ _ _, d, rfl, .inl ⟨_, .inl hd3⟩, .str e.1, rfl, _, DGet.k (k := Sum.inr e.1) hd3, ?_⟩
      rw [getZ_val]
      refine ⟨.int e.2, rfl, (getZ (sumsZ (ks.take i) kvs) e.1).getD 0, e.2, ?_, rfl, ?_⟩
      · cases getZ (sumsZ (ks.take i) kvs) e.1 <;> rfl
      · have hlen := sumsZ_len (more := ks.take i) (kvs := kvs)
        rw [List.length_take] at hlen
        refine ⟨.ref t, rfl, t, L.C, dx3, _, _, rfl, ht3, L.cl, L.nC, g_counts _ _ _ _, .str e.1, rfl, d, _, rfl, DPut.k (k := Sum.inr e.1) hd3 (by rw [List.length_map, sizeLine_eq]; omega), ?_⟩
        rw [putZ_put]
        refine ⟨some (.str e.1), some (.int e.2), rfl, b3.upD, ⟨dx3, by rw [upd_ne td]; exact ht3⟩, ?_⟩
        rw [upd_same, sumsZ_snoc he]
        rfl
    · rintro σ H3 ⟨y6, y7, rfl, b3, ta3⟩
      have e1 : ks.take (ts.map V.ref).length = ks := by rw [List.length_map, Paired.length hp, List.take_length]
      rw [e1] at ta3
      obtain ⟨⟨dx3, ht3⟩, hd3⟩ := id ta3
      have hlen := sumsZ_len (more := ks) (kvs := kvs)
      have hnd := sumsZ_nd (more := ks) nd
      unfold pourT at q
      dsimp only at q
      generalize sumsZ ks kvs = all at ta3 hd3 hlen hnd q
      refine ⟨.ref t, rfl, t, L.C, dx3, _, _, rfl, ht3, L.cl, L.nC, g_counts _ _ _ _, d, _, rfl, hd3, .ref t, rfl, t, L.C, dx3, _, _, rfl, ht3, L.cl, L.nR, g_room _ _ _ _, _, _, rfl, rfl, _, rfl, ?_⟩
      rw [List.length_map]
      refine ite2 (fun hgt => ?_) fun hgt => ?_
      · have hlt : (rn : Int) < (all.length : Int) := of_decide_eq_true hgt
        rw [if_pos hlt] at q
        refine ⟨.ref t, rfl, t, L.C, dx3, _, _, rfl, ht3, L.cl, L.nC, g_counts _ _ _ _, .inr (.inr (.inl ⟨rfl, .inl ⟨_, hd3⟩⟩)), d, _, rfl, rfl, hd3, fun p np => ?_⟩
        refine ⟨p, d, all, rfl, rfl, upd_same, (by rw [upd_ne (ne_of_none hd3 np)]; exact hd3), fun ns l pm hdesc nl => ?_⟩
        have eu := fall_uniq pm hdesc
        have ta4 : TalAt L.C (upd (upd H3 p (valuesO p d)) l (.lst (ns.map V.int))) t d rn (m + m2) (o + o2) all := (ta3.same (same_upd np)).same (same_upd nl)
        obtain ⟨⟨dx4, ht4⟩, _⟩ := id ta4
        have hln : ns.length = all.length := by rw [pm.length_eq, List.length_map]
        have hat : (ns.map V.int)[rn]? = some (.int (fallZ all rn)) := by
          have h1 : rn < ns.length := by omega
          rw [List.getElem?_map, List.getElem?_eq_getElem h1]
          show some (V.int ns[rn]) = _
          unfold fallZ
          rw [← eu]
          simp [List.getD, h1]
        refine ⟨.ref t, rfl, t, dx4, _, rfl, ht4, g_no _ _ _ _ (by decide +kernel) (by decide +kernel) (by decide +kernel) (by decide +kernel), .ref l, rfl, .ref t, rfl, t, L.C, dx4, _, _, rfl, ht4, L.cl, L.nR, g_room _ _ _ _, l, _, _, _, rfl, rfl, sql upd_same, atI_nat hat, t, d, rn, m + m2, o + o2, fallZ all rn, all, rfl, ta4, hnd, (by omega), fun H5 d5 b5 nd5 ta5 => ?_⟩
        refine q H5 d5 (((b3.new np).new nl).trans b5) (.inr ?_) ta5
        have nd6 : H3 d5 = none := Same.gone (same_upd np) (Same.gone (same_upd nl) nd5)
        cases e : H d5 with
        | none => rfl
        | some u =>
          by_cases e1 : d5 = t
          · subst e1
            rw [ht3] at nd6
            cases nd6
          · by_cases e2 : d5 = d
            · subst e2
              rw [hd3] at nd6
              cases nd6
            · have := b3 d5 u e1 e2 e
              rw [nd6] at this
              cases this
      · have hlt : ¬ (rn : Int) < (all.length : Int) := fun z => hgt (decide_eq_true z)
        rw [if_neg hlt] at q
        exact q H3 d b3 (.inl rfl) ta3
end
end Kb

namespace Kb
open PySem PySem.Spec PyProof.Rows L2 SrtZ SrtO
/-! what stays true of a tally -/
structure TlOk (r : Int) (x : Tl) : Prop where
  nd : NdZ x.c
  len : (x.c.length : Int) ≤ r
  pos : ∀ e ∈ x.c, 1 ≤ e.2
  nm : ∀ e ∈ x.c, Nm e.1
theorem getZ_pos {kvs : Ct} {n : Str} (pos : ∀ e ∈ kvs, 1 ≤ e.2) : 0 ≤ (getZ kvs n).getD 0 := by
  unfold getZ
  cases h : kvs.find? fun e => decide (e.1 = n) with
  | none => exact Int.le_refl _
  | some e =>
    have := pos e (List.mem_of_find?_eq_some h)
    show 0 ≤ e.2
    omega
theorem putZ_mem {kvs : Ct} {n : Str} {v : Int} {e : Str × Int} (h : e ∈ putZ kvs n v) : e ∈ kvs ∨ e = (n, v) := by
  unfold putZ at h
  split at h
  · obtain ⟨f, hf, rfl⟩ := List.mem_map.mp h
    by_cases hn : f.1 = n
    · rw [if_pos hn]
      exact .inr (by rw [hn])
    · rw [if_neg hn]
      exact .inl hf
  · rcases List.mem_append.mp h with h | h
    · exact .inl h
    · exact .inr (List.mem_singleton.mp h)
theorem addZ_pos {kvs : Ct} {n : Str} {c : Int} (pos : ∀ e ∈ kvs, 1 ≤ e.2) (hc : 1 ≤ c) : ∀ e ∈ addZ kvs n c, 1 ≤ e.2 := fun e he => by
  rcases putZ_mem he with h | h
  · exact pos e h
  · have := getZ_pos (n := n) pos
    rw [h]
    show 1 ≤ _ + c
    omega
theorem addZ_nm {kvs : Ct} {n : Str} {c : Int} (nm : ∀ e ∈ kvs, Nm e.1) (hn : Nm n) : ∀ e ∈ addZ kvs n c, Nm e.1 := fun e he => by
  rcases putZ_mem he with h | h
  · exact nm e h
  · rw [h]
    exact hn
theorem addZ_len_old {kvs : Ct} {n : Str} {c : Int} (h : (getZ kvs n).isSome = true) : (addZ kvs n c).length = kvs.length := by
  have := congrArg List.length (putZ_keys_old (v := (getZ kvs n).getD 0 + c) h)
  rwa [List.length_map, List.length_map] at this
theorem takeZ_mem {a : Int} {kvs : Ct} {e : Str × Int} (h : e ∈ takeZ a kvs) : ∃ f ∈ kvs, a < f.2 ∧ e = (f.1, f.2 - a) := by
  unfold takeZ at h
  obtain ⟨f, hf, rfl⟩ := List.mem_map.mp h
  obtain ⟨h1, h2⟩ := List.mem_filter.mp hf
  exact ⟨f, h1, of_decide_eq_true h2, rfl⟩
theorem takeZ_pos {a : Int} {kvs : Ct} : ∀ e ∈ takeZ a kvs, 1 ≤ e.2 := fun e he => by
  obtain ⟨f, _, h, rfl⟩ := takeZ_mem he
  show 1 ≤ f.2 - a
  omega
theorem takeZ_nm {a : Int} {kvs : Ct} (nm : ∀ e ∈ kvs, Nm e.1) : ∀ e ∈ takeZ a kvs, Nm e.1 := fun e he => by
  obtain ⟨f, hf, _, rfl⟩ := takeZ_mem he
  exact nm f hf
/-- the least one goes when it is taken off -/
theorem takeZ_less {kvs : Ct} (ne : kvs ≠ []) : (takeZ (mnC kvs) kvs).length < kvs.length := by
  obtain ⟨h1, _⟩ := mnC_spec ne
  obtain ⟨e, he, h⟩ := List.mem_map.mp h1
  unfold takeZ
  rw [List.length_map]
  have h2 : (kvs.filter fun e => decide (mnC kvs < e.2)).length ≤ kvs.length := List.length_filter_le _ _
  rcases Nat.lt_or_ge (kvs.filter fun e => decide (mnC kvs < e.2)).length kvs.length with h3 | h3
  · exact h3
  · have h4 : (kvs.filter fun e => decide (mnC kvs < e.2)) = kvs := List.filter_sublist.eq_of_length (by omega)
    rw [← h4] at he
    have := of_decide_eq_true (List.mem_filter.mp he).2
    omega
theorem feedT_ok {r c : Int} {n : Str} {x : Tl} (h : TlOk r x) (hr : 1 ≤ r) (hn : Nm n) (hc : 0 ≤ c) : TlOk r (feedT r n c x) := by
  obtain ⟨nd, len, pos, nm⟩ := h
  unfold feedT
  cases hf : full r n x.c with
  | true =>
    have hfull : (x.c.length : Int) = r := by
      unfold full at hf
      rw [Bool.and_eq_true] at hf
      exact of_decide_eq_true hf.2
    have ne : x.c ≠ [] := by
      intro e
      rw [e] at hfull
      have : (0 : Int) = r := hfull
      omega
    rw [if_pos rfl]
    dsimp only
    generalize ha : (if mnC x.c < c then mnC x.c else c) = a
    by_cases hp : 0 < c - a
    · have ea : a = mnC x.c := by
        by_cases hm : mnC x.c < c
        · rw [if_pos hm] at ha
          exact ha.symm
        · rw [if_neg hm] at ha
          omega
      have hl := takeZ_less ne
      have hl2 := addZ_len (kvs := takeZ a x.c) (n := n) (c := c - a)
      refine ⟨?_, ?_, ?_, ?_⟩ <;> dsimp only <;> rw [if_pos hp]
      · exact addZ_nd (takeZ_nd nd)
      · rw [ea] at hl2 ⊢
        omega
      · exact addZ_pos takeZ_pos (by omega)
      · exact addZ_nm (takeZ_nm nm) hn
    · refine ⟨?_, ?_, ?_, ?_⟩ <;> dsimp only <;> rw [if_neg hp]
      · exact takeZ_nd nd
      · have := takeZ_len (a := a) (kvs := x.c)
        omega
      · exact takeZ_pos
      · exact takeZ_nm nm
  | false =>
    rw [if_neg (by decide)]
    by_cases hp : 0 < c
    · refine ⟨?_, ?_, ?_, ?_⟩ <;> dsimp only <;> rw [if_pos hp]
      · exact addZ_nd nd
      · cases hg : getZ x.c n with
        | some v =>
          rw [addZ_len_old (by rw [hg]; rfl)]
          exact len
        | none =>
          have h1 := addZ_len (kvs := x.c) (n := n) (c := c)
          unfold full at hf
          rw [hg] at hf
          have h2 : ¬ (x.c.length : Int) = r := by
            intro e
            rw [decide_eq_true e] at hf
            cases hf
          omega
      · exact addZ_pos pos (by omega)
      · exact addZ_nm nm hn
    · refine ⟨?_, ?_, ?_, ?_⟩ <;> dsimp only <;> rw [if_neg hp]
      · exact nd
      · exact len
      · exact pos
      · exact nm
def feedsT (r : Int) (zs : List Str) (x : Tl) : Tl := zs.foldl (fun x n => feedT r n 1 x) x
theorem feedsT_snoc {r : Int} {zs : List Str} {x : Tl} {i : Nat} {n : Str} (h : zs[i]? = some n) : feedsT r (zs.take (i + 1)) x = feedT r n 1 (feedsT r (zs.take i) x) := by
  unfold feedsT
  rw [List.take_add_one, h, List.foldl_append]
  rfl
theorem feedsT_ok {r : Int} (hr : 1 ≤ r) : ∀ {zs : List Str} {x : Tl}, TlOk r x → (∀ z ∈ zs, Nm z) → TlOk r (feedsT r zs x)
  | [], _, h, _ => h
  | z :: zs, x, h, hn => feedsT_ok (zs := zs) hr (feedT_ok h hr (hn z List.mem_cons_self) (by decide)) fun y hy => hn y (List.mem_cons_of_mem _ hy)
def tl0 : Tl := ⟨0, 0, []⟩
theorem tl0_ok {r : Int} (hr : 1 ≤ r) : TlOk r tl0 := ⟨List.nodup_nil, (by show (0 : Int) ≤ r; omega), (fun _ h => nomatch h), (fun _ h => nomatch h)⟩
theorem sumsZ_pos : ∀ {more kvs : Ct}, (∀ e ∈ more, 1 ≤ e.2) → (∀ e ∈ kvs, 1 ≤ e.2) → ∀ e ∈ sumsZ more kvs, 1 ≤ e.2
  | [], _, _, h => h
  | f :: r, kvs, hm, h => sumsZ_pos (more := r) (fun e he => hm e (List.mem_cons_of_mem _ he)) (addZ_pos h (hm f List.mem_cons_self))
theorem sumsZ_nm : ∀ {more kvs : Ct}, (∀ e ∈ more, Nm e.1) → (∀ e ∈ kvs, Nm e.1) → ∀ e ∈ sumsZ more kvs, Nm e.1
  | [], _, _, h => h
  | f :: r, kvs, hm, h => sumsZ_nm (more := r) (fun e he => hm e (List.mem_cons_of_mem _ he)) (addZ_nm h (hm f List.mem_cons_self))
/-- what is above the count at place r is at most r names -/
theorem fall_len {kvs : Ct} {r : Nat} (h : r < kvs.length) : (takeZ (fallZ kvs r) kvs).length ≤ r := by
  unfold takeZ
  rw [List.length_map]
  have hp := List.mergeSort_perm (kvs.map (·.2)) (fun a b => decide (b ≤ a))
  have hs := List.pairwise_mergeSort (le := fun (a b : Int) => decide (b ≤ a)) (fun a b c h1 h2 => by simp at *; omega) (fun a b => by simp; omega) (kvs.map (·.2))
  have e1 : (kvs.filter fun e => decide (fallZ kvs r < e.2)).length = ((kvs.map (·.2)).filter fun c => decide (fallZ kvs r < c)).length := by
    rw [List.filter_map, List.length_map]
    rfl
  rw [e1, ← (hp.filter _).length_eq]
  unfold fallZ
  rw [Int.toNat_natCast]
  generalize (kvs.map (·.2)).mergeSort (fun a b => decide (b ≤ a)) = s at hp hs
  have hl : r < s.length := by rw [hp.length_eq, List.length_map]; exact h
  have eg : s.getD r 0 = s[r] := by simp [List.getD, hl]
  rw [eg]
  generalize hv : s[r] = v
  have h1 : ((s.take r).filter fun c => decide (v < c)).length ≤ r := by
    have := List.length_filter_le (fun c => decide (v < c)) (s.take r)
    rw [List.length_take] at this
    omega
  have h2 : ((s.drop r).filter fun c => decide (v < c)) = [] := by
    rw [List.filter_eq_nil_iff]
    intro c hc z
    have z := of_decide_eq_true z
    have hd : (s.drop r).Pairwise fun a b => decide (b ≤ a) = true := hs.sublist (List.drop_sublist _ _)
    rw [List.drop_eq_getElem_cons hl] at hc hd
    rcases List.mem_cons.mp hc with e | hc
    · omega
    · have := of_decide_eq_true ((List.pairwise_cons.mp hd).1 c hc)
      omega
  have e3 : (s.filter fun c => decide (v < c)) = ((s.take r).filter fun c => decide (v < c)) ++ ((s.drop r).filter fun c => decide (v < c)) := by
    rw [← List.filter_append, List.take_append_drop]
  rw [e3, h2, List.append_nil]
  exact h1
theorem pourT_ok {r : Int} {x y : Tl} (hx : TlOk r x) (hy : TlOk r y) (hr : 0 ≤ r) : TlOk r (pourT r y x) := by
  obtain ⟨rn, rfl⟩ := Int.eq_ofNat_of_zero_le hr
  unfold pourT
  dsimp only
  have nd := sumsZ_nd (more := y.c) hx.nd
  have pos := sumsZ_pos hy.pos hx.pos
  have nm := sumsZ_nm hy.nm hx.nm
  generalize sumsZ y.c x.c = all at nd pos nm
  by_cases h : (rn : Int) < (all.length : Int)
  · rw [if_pos h]
    refine ⟨takeZ_nd nd, ?_, takeZ_pos, takeZ_nm nm⟩
    have := fall_len (kvs := all) (r := rn) (by omega)
    dsimp only
    omega
  · rw [if_neg h]
    exact ⟨nd, (by dsimp only; omega), pos, nm⟩
/-! the order of names -/
def srtZ (kvs : Ct) : Ct := kvs.mergeSort fun a b => !ltZ b.1 a.1
theorem srtZ_perm (kvs : Ct) : (srtZ kvs).Perm kvs := List.mergeSort_perm _ _
theorem srtZ_asc {kvs : Ct} (nd : NdZ kvs) : Asc (srtZ kvs) := by
  have hs := List.pairwise_mergeSort (le := fun (a b : Str × Int) => !ltZ b.1 a.1) (fun a b c h1 h2 => ?_) (fun a b => ?_) kvs
  · have nd2 : ((srtZ kvs).map (·.1)).Nodup := ((srtZ_perm kvs).map (·.1)).nodup_iff.mpr nd
    rw [List.Nodup, List.pairwise_map] at nd2
    refine List.Pairwise.imp₂ (fun {a b} h1 h2 => ?_) hs nd2
    rcases bcase (ltZ a.1 b.1) with q | q
    · exact q
    · have h3 : ltZ b.1 a.1 = false := by simpa using h1
      exact absurd (ltZ_tri q h3) h2
  · have h1 : ltZ b.1 a.1 = false := by simpa using h1
    have h2 : ltZ c.1 b.1 = false := by simpa using h2
    show (!ltZ c.1 a.1) = true
    rcases bcase (ltZ c.1 a.1) with q | q
    · rcases bcase (ltZ a.1 b.1) with p | p
      · have := ltZ_trans q p
        rw [h2] at this
        cases this
      · have e := ltZ_tri p h1
        rw [e, h2] at q
        cases q
    · rw [q]
      rfl
  · show ((!ltZ b.1 a.1) || (!ltZ a.1 b.1)) = true
    rcases bcase (ltZ b.1 a.1) with q | q
    · rw [ltZ_asym q]
      simp
    · rw [q]
      rfl
theorem srtZ_of {ys kvs : Ct} (h : Asc ys) (p : ys.Perm kvs) (nd : NdZ kvs) : ys = srtZ kvs := asc_uniq h (srtZ_asc nd) (p.trans (srtZ_perm kvs).symm)
def skT (x : Tl) : Tl := ⟨x.m, x.o, srtZ x.c⟩
theorem skT_ok {r : Int} {x : Tl} (h : TlOk r x) : TlOk r (skT x) := by
  have p := srtZ_perm x.c
  refine ⟨(p.map (·.1)).nodup_iff.mpr h.nd, ?_, fun e he => h.pos e (p.mem_iff.mp he), fun e he => h.nm e (p.mem_iff.mp he)⟩
  show ((srtZ x.c).length : Int) ≤ r
  rw [p.length_eq]
  exact h.len
/-! a tree's pile, the uppermost first -/
def stepT (r : Int) (st : List Tl) : Stp → List Tl
  | .put zs => feedsT r zs tl0 :: st
  | .pour => match st with
    | x :: y :: st => pourT r (skT x) y :: st
    | st => st
def runT (r : Int) (l : List Stp) : List Tl := l.foldl (stepT r) []
theorem runT_snoc {r : Int} {l : List Stp} {i : Nat} {t : Stp} (h : l[i]? = some t) : runT r (l.take (i + 1)) = stepT r (runT r (l.take i)) t := by
  unfold runT
  rw [List.take_add_one, h, List.foldl_append]
  rfl
end Kb

namespace Kb
open PySem PySem.Spec PyProof.Rows L2 SrtZ SrtO
abbrev sP_sketch_of : Stmt := topS 31
abbrev NP_sketch_of : List Str := ["room", "tree", "pile", "step", "tally", "name", "above"]
theorem scP_sketch_of : FnScope ["room", "tree", "pile", "step", "tally", "name", "above"] ["room", "tree"] (defScope sP_sketch_of) := ⟨rfl, rfl, rfl, by decide +kernel, rfl, by decide +kernel, by decide +kernel⟩
abbrev DnSketchOf (K : PySem.W.Frag) (mg : Str → Option Value) := Dn K mg "sketch_of" sP_sketch_of ["room", "tree"]
/-- a tally on the pile: its instance, its dict, what it holds -/
structure Pe where
  t : Addr
  d : Addr
  x : Tl
structure PileAt (C : Addr) (r : Int) (H : Hp) (l : List Pe) : Prop where
  at_ : ∀ e ∈ l, TalAt C H e.t e.d r e.x.m e.x.o e.x.c
  ok : ∀ e ∈ l, TlOk r e.x
  nt : (l.map (·.t)).Nodup
  nd : (l.map (·.d)).Nodup
theorem PileAt.same {C : Addr} {r : Int} {H H' : Hp} {l : List Pe} (h : PileAt C r H l) (s : Same H H') : PileAt C r H' l := ⟨fun e he => (h.at_ e he).same s, h.ok, h.nt, h.nd⟩
theorem TalAt.keep {C : Addr} {H H' : Hp} {t d : Addr} {r m o : Int} {kvs : Ct} (h : TalAt C H t d r m o kvs) (k : ∀ b u, (b = t ∨ b = d) → H b = some u → H' b = some u) : TalAt C H' t d r m o kvs := by
  obtain ⟨⟨dx, e⟩, e2⟩ := h
  exact ⟨⟨dx, k _ _ (.inl rfl) e⟩, k _ _ (.inr rfl) e2⟩
theorem run_len {r : Int} {l : List Stp} (two : ∀ i, l[i]? = some .pour → 2 ≤ hgt (l.take i)) : ∀ i, i ≤ l.length → ((runT r (l.take i)).length : Int) = hgt (l.take i)
  | 0, _ => rfl
  | i + 1, h => by
    have ih := run_len (r := r) two i (by omega)
    obtain ⟨t, ht⟩ : ∃ t, l[i]? = some t := ⟨l[i], List.getElem?_eq_getElem (by omega)⟩
    rw [runT_snoc ht, hgt_snoc ht]
    cases t with
    | put zs =>
      show (((feedsT r zs tl0 :: runT r (l.take i)).length : Nat) : Int) = _ + 1
      rw [List.length_cons]
      omega
    | pour =>
      have h2 := two i ht
      match hr : runT r (l.take i) with
      | [] => rw [hr] at ih; simp at ih; omega
      | [x] => rw [hr] at ih; simp at ih; omega
      | x :: y :: st =>
        rw [hr] at ih
        show (((pourT r (skT x) y :: st).length : Nat) : Int) = _ - 1
        rw [List.length_cons] at ih ⊢
        rw [List.length_cons] at ih
        omega
theorem run_short {r : Int} (l : List Stp) : (runT r l).length ≤ l.length := by
  have gen : ∀ (l : List Stp) (st : List Tl), (l.foldl (stepT r) st).length ≤ st.length + l.length := by
    intro l
    induction l with
    | nil => exact fun st => Nat.le_refl _
    | cons t l ih =>
      intro st
      have h := ih (stepT r st t)
      have h2 : (stepT r st t).length ≤ st.length + 1 := by
        cases t with
        | put zs => exact Nat.le_refl _
        | pour =>
          match st with
          | [] => exact Nat.zero_le _
          | [_] => show 1 ≤ 1 + 1; omega
          | _ :: _ :: st => show st.length + 1 ≤ st.length + 1 + 1 + 1; omega
      show (l.foldl (stepT r) (stepT r st t)).length ≤ st.length + (l.length + 1)
      omega
  have := gen l []
  simpa [runT] using this
theorem refs_rev (l : List Pe) (e : Pe) : ((e :: l).reverse.map fun e => V.ref e.t) = (l.reverse.map fun e => V.ref e.t) ++ [V.ref e.t] := by
  rw [List.reverse_cons, List.map_append]
  rfl
section
variable {P : Program} {w : World} {K : PySem.W.Frag} {mg : Str → Option Value} {base : Heap}
def spSketchOf (K : PySem.W.Frag) : Sp := fun vs H Q _ => ∃ (a : Addr) (r : Int) (l : List Stp) (x : Tl), vs = [.int r, .ref a] ∧ 1 ≤ r ∧ r ≤ 64 ∧ TreeAt K H a l ∧ Tree l ∧ (∀ zs, .put zs ∈ l → ∀ z ∈ zs, Nm z) ∧ runT r l = [x] ∧
  (TlOk r x → ∀ H' s k (ts : List Addr), Same H H' → H s = none → H' s = some (.tup [.int r, .int x.m, .int x.o, .ref k]) → Ptp H' k (ts.map V.ref) → Paired (fun (t : Addr) (y : Str × Int) => H' t = some (.tup [.str y.1, .int y.2])) ts (srtZ x.c) → Q (.ref s) H')
theorem ok_sketch_of (T : Blt mg) (cM : Cst mg "MOST_ROOM" (.int 64)) (cL : Cst mg "LONGEST_NAME" (.int 8)) (cS' : Cst mg "MOST_STEPS" (.int 5000)) (cI : Cst mg "MOST_ITEMS_streams" (.int 50000)) (dP_is_int : DnIsInt K mg) (dP_is_room : DnIsRoom K mg) (dP_is_name : DnIsName K mg) (dP_is_stream : DnIsStream K mg)
    (dP_is_put : DnIsPut K mg) (dP_is_pour : DnIsPour K mg) (dP_is_tree : DnIsTree K mg) (dP_bare : DnBare K mg) (L : Tal K mg) (d : DnSketchOf K mg) : FnOk P w K mg base CX0 5 d.f d.fd ["room", "tree"] (spSketchOf K) := by
  have GP_is_room : FnOk P w K mg base CX0 2 dP_is_room.f dP_is_room.fd ["thing"] spIsRoom := ok_is_room T cM dP_is_int dP_is_room
  have GP_is_tree : FnOk P w K mg base CX0 4 dP_is_tree.f dP_is_tree.fd ["thing"] (spIsTree K) := ok_is_tree T cL cS' cI dP_is_name dP_is_stream dP_is_put dP_is_pour dP_is_tree
  have GP_bare : FnOk P w K mg base CX0 3 dP_bare.f dP_bare.fd ["room"] spBare := ok_bare T cM dP_is_int dP_is_room dP_bare
  have GI : FnOk P w K mg base CX0 1 L.fI L.dI ["self", "sketch"] (spTinit K L.C) := ok_Tinit T L
  have Gsketch : FnOk P w K mg base CX0 1 L.fS L.dS ["self"] (spTsketch L.C) := ok_Tsketch T L
  have Gfeed : FnOk P w K mg base CX0 2 L.fF L.dF ["self", "name", "times"] (spTfeed L.C) := ok_Tfeed T L
  have Gpour : FnOk P w K mg base CX0 2 L.fP L.dP ["self", "sketch"] (spTpour K L.C) := ok_Tpour T L
  refine d.F.ok scP_sketch_of (fun vs H Q E h => ?_) (fun cdv A outer s H vs Q E hr h => ?_)
  · obtain ⟨a, r, l, x, rfl, _⟩ := h
    rfl
  · obtain ⟨a, r, l, xe, rfl, hr1, hr2, ht, tr, hN, hrun, q⟩ := h
    refine ⟨_, (pss_cons (ps_if (pt_not (pt_val (pe_call GP_is_room (hr.mono (by omega)) (by rfl) dP_is_room.g dP_is_room.F.kp dP_is_room.b .nil pass0 (pa_cons (pv 0) pa_nil))))
      (pss_one ps_never)
      pss_nil)
    (pss_cons (ps_if (pt_not (pt_val (pe_call GP_is_tree (hr.mono (by omega)) (by rfl) dP_is_tree.g dP_is_tree.F.kp dP_is_tree.b .nil pass0 (pa_cons (pv 1) pa_nil))))
      (pss_one ps_never)
      pss_nil)
    (pss_cons (ps_set (i := 2) scP_sketch_of.nd rfl (Or.inl rfl) (pe_lst pa_nil))
    (pss_cons (ps_for PassesOwn.never rfl (pi_tup (pv 1)) (pg_name (i := 3) scP_sketch_of.nd rfl (Or.inl rfl))
      (pss_one (ps_if (pt_cmpR op_eq (pe_ix ix_tup (pv 3) pe_int (fun _ _ => rfl)) pe_str (nomark _))
        (pss_cons (ps_set (i := 4) scP_sketch_of.nd rfl (Or.inl rfl) (pe_make L.mI GI (hr.mono (by omega)) (by rfl) L.g L.bI .nil pass0 (pa_cons (pe_call GP_bare (hr.mono (by omega)) (by rfl) dP_bare.g dP_bare.F.kp dP_bare.b .nil pass0 (pa_cons (pv 0) pa_nil)) pa_nil)))
        (pss_cons (ps_for PassesOwn.never rfl (pi_tup (pe_ix ix_tup (pv 3) pe_int (fun _ _ => rfl))) (pg_name (i := 5) scP_sketch_of.nd rfl (Or.inl rfl))
          (pss_one (ps_expr (pe_meth (pv 4) L.cl L.mF Gfeed (hr.mono (by omega)) L.bF .nil pass0 (pa_cons (pv 5) (pa_cons pe_int pa_nil))))))
        (pss_one (ps_expr (pe_bm PySem.F.plainAttrs_list PySem.F.slot_list_append PySem.F.type_list_append mt_append (pv 2) (pa_cons (pv 4) pa_nil))))))
        (pss_cons (ps_set (i := 6) scP_sketch_of.nd rfl (Or.inl rfl) (pe_bm0 PySem.F.plainAttrs_list PySem.F.slot_list_pop PySem.F.type_list_pop mt_pop (pv 2)))
        (pss_one (ps_expr (pe_meth (pe_ix ix_list (pv 2) (pe_un un_neg pe_int) (fun _ _ => rfl)) L.cl L.mP Gpour (hr.mono (by omega)) L.bP .nil pass0 (pa_cons (pe_meth0 (pv 6) L.cl L.mS Gsketch (hr.mono (by omega)) L.bS .nil pass0) pa_nil))))))))
    (pss_one (ps_ret (pe_meth0 (pe_ix ix_list (pv 2) pe_int (fun _ _ => rfl)) L.cl L.mS Gsketch (hr.mono (by omega)) L.bS .nil pass0))))))), ?_⟩
    refine ⟨.int r, rfl, r, rfl, true, ?_, iteF ?_⟩
    · rw [decide_eq_true hr1, decide_eq_true hr2]
      rfl
    refine ⟨.ref a, rfl, a, l, rfl, ht, tr, fun H1 s1 => ⟨true, rfl, iteF ⟨(by show 0 ≤ sizeLine; decide), fun p np => ?_⟩⟩⟩
    have np0 : H p = none := Same.gone s1 np
    have s2 : Same H (upd H1 p (.lst [])) := Same.new s1 np
    obtain ⟨vs, hS, hp⟩ := ht
    have hl : vs.length = l.length := Paired.length hp
    refine ⟨.ref a, rfl, a, rfl, ⟨_, seqT hS s2⟩, for_tup (xs := vs) (fun i σ H3 => ∃ (pl : List Pe) (y3 y4 y5 y6 : Option V), σ = [some (.int r), some (.ref a), some (.ref p), y3, y4, y5, y6] ∧ Same H H3 ∧
      H3 p = some (.lst (pl.reverse.map fun e => V.ref e.t)) ∧ PileAt L.C r H3 pl ∧ pl.map (·.x) = runT r (l.take i) ∧ (∀ e ∈ pl, H e.t = none ∧ H e.d = none))
      ⟨[], none, none, none, none, rfl, s2, upd_same, ⟨(fun _ h => nomatch h), (fun _ h => nomatch h), List.nodup_nil, List.nodup_nil⟩, rfl, (fun _ h => nomatch h)⟩ (fun i σ H3 _ ⟨_, _, _, _, _, _, s3, _⟩ => seqT hS s3) ?_ ?_⟩
    · rintro i v σ H3 hi ⟨pl, y3, y4, y5, y6, rfl, s3, hpl, pa, hrn, hfr⟩
      obtain ⟨st, hst, hat⟩ := paired_at hp hi
      have hat3 := hat.same s3
      have hrs := runT_snoc (r := r) hst
      have hi2 : i < l.length := (List.getElem?_eq_some_iff.mp hst).1
      cases st with
      | put zs =>
        have hNz := hN zs (List.mem_of_getElem? hst)
        obtain ⟨b, c, rfl, h1, h2, _, hzl⟩ := hat3
        refine ⟨.ref b, rfl, b, _, _, _, rfl, rfl, h1, atI_nat (j := 0) rfl, rfl, true, congrArg V.bl (decide_eq_true rfl), iteT ?_⟩
        refine ⟨.int r, rfl, r, rfl, hr1, hr2, fun H4 sk k s4 nsk hsk hk t dx nt ndx hne => ?_⟩
        have s5 : Same H4 (upd (upd H4 dx (.own t)) t (.ins L.C dx [])) := Same.new (same_upd ndx) (by rw [upd_ne hne.symm]; exact nt)
        refine ⟨t, dx, sk, k, r, 0, 0, [], [], rfl, upd_same, .inl (.inl (s5 _ _ hsk)), hk.same s5, .nil, List.nodup_nil, fun H5 d5 kp5 nd5 ta5 => ⟨rfl, ?_⟩⟩
        have nt3 : H3 t = none := Same.gone s4 nt
        have s35 : Same H3 H5 := fun q u e => kp5 q u (ne_of_none e nt3) (s5 q u (s4 q u e))
        have nd53 : H3 d5 = none := Same.gone s4 (Same.gone s5 nd5)
        refine ⟨.ref b, rfl, b, _, _, _, rfl, rfl, seqT h1 s35, atI_nat (j := 1) rfl, c, rfl, ⟨_, seqT h2 s35⟩, for_tup (xs := zs.map V.str) (fun j σ H6 => ∃ (d6 : Addr) (z5 : Option V), σ = [some (.int r), some (.ref a), some (.ref p), some (.ref b), some (.ref t), z5, y6] ∧ Same H3 H6 ∧ H3 d6 = none ∧ TlOk r (feedsT r (zs.take j) tl0) ∧
          TalAt L.C H6 t d6 r (feedsT r (zs.take j) tl0).m (feedsT r (zs.take j) tl0).o (feedsT r (zs.take j) tl0).c) ⟨d5, y5, rfl, s35, nd53, tl0_ok hr1, ta5⟩ (fun j σ H6 _ ⟨_, _, _, s6, _⟩ => seqT h2 s6) ?_ ?_⟩
        · rintro j v σ H6 hj ⟨d6, z5, rfl, s6, nd6, ok6, ta6⟩
          obtain ⟨z, hz, rfl⟩ := map_at hj
          have hfs := feedsT_snoc (r := r) (x := tl0) hz
          have hok7 := feedT_ok ok6 hr1 (hNz z (List.mem_of_getElem? hz)) (c := 1) (by decide)
          rw [← hfs] at hok7
          obtain ⟨⟨dx6, ht6⟩, _⟩ := id ta6
          have hle := ok6.len
          refine ⟨.ref t, rfl, t, dx6, _, rfl, ht6, g_no _ _ _ _ (by decide +kernel) (by decide +kernel) (by decide +kernel) (by decide +kernel), .str z, rfl, t, d6, r, 1, z, feedsT r (zs.take j) tl0, rfl, ta6, ok6.nd, (by omega), hr1, fun H7 d7 b7 hd7 ta7 => ?_⟩
          rw [← hfs] at ta7
          refine ⟨d7, some (.str z), rfl, fun q u e => b7 q u (ne_of_none e nt3) (ne_of_none e nd6) (s6 q u e), ?_, hok7, ta7⟩
          rcases hd7 with rfl | hd7
          · exact nd6
          · exact Same.gone s6 hd7
        · rintro σ H6 ⟨d6, z5, rfl, s6, nd6, ok6, ta6⟩
          rw [List.length_map, List.take_length] at ok6 ta6
          have hp6 := s6 _ _ hpl
          have hplen : pl.length ≤ 5000 := by
            have h1 : (pl.map (·.x)).length = (runT r (l.take i)).length := by rw [hrn]
            rw [List.length_map] at h1
            have h2 := run_short (r := r) (l.take i)
            rw [List.length_take] at h2
            have := tr.len
            omega
          refine ⟨.ref p, rfl, .inl ⟨rfl, _, sql hp6⟩, .ref t, rfl, p, _, _, rfl, rfl, hp6, (by rw [List.length_map, List.length_reverse, sizeLine_eq]; omega), ?_⟩
          have keepT : ∀ {t d : Addr} {r m o : Int} {kvs : Ct} {u : HO}, TalAt L.C H6 t d r m o kvs → TalAt L.C (upd H6 p u) t d r m o kvs := fun {t d r m o kvs u} h => by
            obtain ⟨⟨dx, e⟩, e2⟩ := h
            exact ⟨⟨dx, by rw [upd_ne (ne_of e hp6 (by intro z; cases z))]; exact e⟩, by rw [upd_ne (ne_of e2 hp6 (by intro z; cases z))]; exact e2⟩
          have hnt : ∀ e ∈ pl, e.t ≠ t := fun e he => by
            obtain ⟨⟨dxe, e1⟩, _⟩ := pa.at_ e he
            exact ne_of_none e1 nt3
          have hndd : ∀ e ∈ pl, e.d ≠ d6 := fun e he => ne_of_none (pa.at_ e he).dc nd6
          refine ⟨⟨t, d6, feedsT r zs tl0⟩ :: pl, some (.ref b), some (.ref t), z5, y6, rfl, fun q u e => ?_, ?_, ⟨fun e he => ?_, fun e he => ?_, ?_, ?_⟩, ?_, fun e he => ?_⟩
          · rw [upd_ne (ne_of_none e np0)]
            exact s6 q u (s3 q u e)
          · rw [upd_same, refs_rev]
          · rcases List.mem_cons.mp he with rfl | he
            · exact keepT ta6
            · exact keepT ((pa.at_ e he).same s6)
          · rcases List.mem_cons.mp he with rfl | he
            · exact ok6
            · exact pa.ok e he
          · rw [List.map_cons, List.nodup_cons]
            refine ⟨fun z => ?_, pa.nt⟩
            obtain ⟨e, he, h⟩ := List.mem_map.mp z
            exact hnt e he h
          · rw [List.map_cons, List.nodup_cons]
            refine ⟨fun z => ?_, pa.nd⟩
            obtain ⟨e, he, h⟩ := List.mem_map.mp z
            exact hndd e he h
          · rw [List.map_cons, hrn, hrs]
            rfl
          · rcases List.mem_cons.mp he with rfl | he
            · exact ⟨Same.gone s3 nt3, Same.gone s3 nd6⟩
            · exact hfr e he
      | pour =>
        obtain ⟨b, rfl, h1⟩ := hat3
        have h2 := tr.two i hst
        have hlen := run_len (r := r) tr.two i (Nat.le_of_lt hi2)
        rw [← hrn, List.length_map] at hlen
        match pl, hlen, pa, hpl, hrn, hfr with
        | [], hlen, _, _, _, _ => simp at hlen; omega
        | [_], hlen, _, _, _, _ => simp at hlen; omega
        | e1 :: e2 :: pl, hlen, pa, hpl, hrn, hfr =>
          refine ⟨.ref b, rfl, b, _, _, _, rfl, rfl, h1, atI_nat (j := 0) rfl, rfl, false, congrArg V.bl (decide_eq_false stream_ne), iteF ?_⟩
          rw [refs_rev] at hpl
          refine ⟨.ref p, rfl, .inl ⟨rfl, _, sql hpl⟩, p, _, .ref e1.t, rfl, rfl, hpl, by simp, ?_⟩
          rw [List.dropLast_concat, refs_rev]
          have keepT : ∀ {t d : Addr} {r m o : Int} {kvs : Ct} {u : HO}, TalAt L.C H3 t d r m o kvs → TalAt L.C (upd H3 p u) t d r m o kvs := fun {t d r m o kvs u} h => by
            obtain ⟨⟨dx, e⟩, e2⟩ := h
            exact ⟨⟨dx, by rw [upd_ne (ne_of e hpl (by intro z; cases z))]; exact e⟩, by rw [upd_ne (ne_of e2 hpl (by intro z; cases z))]; exact e2⟩
          have m1 : e1 ∈ e1 :: e2 :: pl := List.mem_cons_self
          have m2 : e2 ∈ e1 :: e2 :: pl := List.mem_cons_of_mem _ List.mem_cons_self
          have ta1 := keepT (u := .lst ((pl.reverse.map fun e => V.ref e.t) ++ [V.ref e2.t])) (pa.at_ e1 m1)
          have ta2 := keepT (u := .lst ((pl.reverse.map fun e => V.ref e.t) ++ [V.ref e2.t])) (pa.at_ e2 m2)
          have taR : ∀ e ∈ pl, TalAt L.C (upd H3 p (.lst ((pl.reverse.map fun e => V.ref e.t) ++ [V.ref e2.t]))) e.t e.d r e.x.m e.x.o e.x.c := fun e he => keepT (pa.at_ e (List.mem_cons_of_mem _ (List.mem_cons_of_mem _ he)))
          have hp4 : (upd H3 p (.lst ((pl.reverse.map fun e => V.ref e.t) ++ [V.ref e2.t]))) p = some (.lst ((pl.reverse.map fun e => V.ref e.t) ++ [V.ref e2.t])) := upd_same
          have s4 : Same H (upd H3 p (.lst ((pl.reverse.map fun e => V.ref e.t) ++ [V.ref e2.t]))) := Same.put s3 np0
          generalize upd H3 p (.lst ((pl.reverse.map fun e => V.ref e.t) ++ [V.ref e2.t])) = H4 at ta1 ta2 taR hp4 s4
          obtain ⟨⟨dx1, ht1⟩, _⟩ := id ta1
          obtain ⟨⟨dx2, ht2⟩, hdd2⟩ := id ta2
          have ok1 := pa.ok e1 m1
          have ok2 := pa.ok e2 m2
          have l1 := ok1.len
          have l2 := ok2.len
          refine ⟨.ref p, rfl, _, rfl, p, _, _, _, rfl, rfl, sql hp4, atI_last _ _, e2.t, dx2, _, rfl, ht2, g_no _ _ _ _ (by decide +kernel) (by decide +kernel) (by decide +kernel) (by decide +kernel), ?_⟩
          refine ⟨.ref e1.t, rfl, e1.t, dx1, _, rfl, ht1, g_no _ _ _ _ (by decide +kernel) (by decide +kernel) (by decide +kernel) (by decide +kernel), e1.t, e1.d, r, e1.x.m, e1.x.o, e1.x.c, rfl, ta1, ok1.nd, (by omega), fun H5 s5 k5 ys ts sm5 ns5 hs5 hk5 hpr pm asc => ?_⟩
          have eys := srtZ_of asc pm ok1.nd
          have hpr2 : Paired (PrAt K H5) ts ys := by
            have gen : ∀ {ts : List Addr} {ys : Ct}, Paired (fun (t : Addr) (y : Str × Int) => H5 t = some (.tup [.str y.1, .int y.2])) ts ys → Paired (PrAt K H5) ts ys := by
              intro ts ys h
              induction h with
              | nil => exact .nil
              | cons h _ ih => exact .cons (.inl (.inl h)) ih
            exact gen hpr
          refine ⟨e2.t, e2.d, s5, k5, r, r, e2.x, ⟨e1.x.m, e1.x.o, ys⟩, rfl, ta2.same sm5, ok2.nd, (by omega), .inl (.inl hs5), ⟨ts, hk5.seq, hpr2⟩, (by dsimp only; rw [pm.length_eq]; omega), (by omega), fun H6 d6 b6 hd6 ta6 => ?_⟩
          subst eys
          have skeq : (⟨e1.x.m, e1.x.o, srtZ e1.x.c⟩ : Tl) = skT e1.x := rfl
          rw [skeq] at ta6
          have okp := pourT_ok ok2 (skT_ok ok1) (by omega)
          have np2 : p ≠ e2.t := ne_of hp4 ht2 (by intro z; cases z)
          have npd2 : p ≠ e2.d := ne_of hp4 hdd2 (by intro z; cases z)
          have nt' := pa.nt
          have nd' := pa.nd
          rw [List.map_cons, List.map_cons, List.nodup_cons, List.nodup_cons] at nt' nd'
          have fr2 := hfr e2 m2
          have nd6 : H d6 = none := by
            rcases hd6 with rfl | hd6
            · exact fr2.2
            · exact Same.gone s4 (Same.gone sm5 hd6)
          refine ⟨⟨e2.t, d6, pourT r (skT e1.x) e2.x⟩ :: pl, some (.ref b), y4, y5, some (.ref e1.t), rfl, fun q u e => b6 q u (ne_of_none e fr2.1) (ne_of_none e fr2.2) (sm5 q u (s4 q u e)), ?_, ⟨fun e he => ?_, fun e he => ?_, ?_, ?_⟩, ?_, fun e he => ?_⟩
          · rw [refs_rev]
            exact b6 p _ np2 npd2 (sm5 _ _ hp4)
          · rcases List.mem_cons.mp he with rfl | he
            · exact ta6
            · have te := (taR e he).same sm5
              obtain ⟨⟨dxe, hte⟩, hde⟩ := id te
              have n1 : e.t ≠ e2.t := fun z => nt'.2.1 (List.mem_map.mpr ⟨e, he, z⟩)
              have n2 : e.t ≠ e2.d := ne_of hte (sm5 _ _ hdd2) (by intro z; cases z)
              have n3 : e.d ≠ e2.t := ne_of hde (sm5 _ _ ht2) (by intro z; cases z)
              have n4 : e.d ≠ e2.d := fun z => nd'.2.1 (List.mem_map.mpr ⟨e, he, z⟩)
              exact ⟨⟨dxe, b6 _ _ n1 n2 hte⟩, b6 _ _ n3 n4 hde⟩
          · rcases List.mem_cons.mp he with rfl | he
            · exact okp
            · exact pa.ok e (List.mem_cons_of_mem _ (List.mem_cons_of_mem _ he))
          · rw [List.map_cons, List.nodup_cons]
            exact nt'.2
          · rw [List.map_cons, List.nodup_cons]
            refine ⟨fun z => ?_, nd'.2.2⟩
            obtain ⟨e, he, h⟩ := List.mem_map.mp z
            rcases hd6 with rfl | hd6
            · exact nd'.2.1 (List.mem_map.mpr ⟨e, he, h⟩)
            · have := ((taR e he).same sm5).dc
              rw [show e.d = d6 from h, hd6] at this
              cases this
          · rw [List.map_cons, hrs, ← hrn]
            rfl
          · rcases List.mem_cons.mp he with rfl | he
            · exact ⟨fr2.1, nd6⟩
            · exact hfr e (List.mem_cons_of_mem _ (List.mem_cons_of_mem _ he))
    · rintro σ H3 ⟨pl, y3, y4, y5, y6, rfl, s3, hpl, pa, hrn, hfr⟩
      rw [hl, List.take_length, hrun] at hrn
      match pl, pa, hpl, hrn, hfr with
      | [e], pa, hpl, hrn, hfr =>
        have ex : e.x = xe := by simpa using hrn
        have m1 : e ∈ [e] := List.mem_cons_self
        have ta := pa.at_ e m1
        have ok := pa.ok e m1
        obtain ⟨⟨dx, hte⟩, _⟩ := id ta
        have l1 := ok.len
        refine ⟨.ref p, rfl, p, _, _, _, rfl, rfl, sql hpl, atI_nat (j := 0) rfl, e.t, dx, _, rfl, hte, g_no _ _ _ _ (by decide +kernel) (by decide +kernel) (by decide +kernel) (by decide +kernel), e.t, e.d, r, e.x.m, e.x.o, e.x.c, rfl, ta, ok.nd, (by omega), fun H5 s5 k5 ys ts sm5 ns5 hs5 hk5 hpr pm asc => ?_⟩
        have eys := srtZ_of asc pm ok.nd
        subst eys
        rw [ex] at ok hs5 hpr
        exact q ok H5 s5 k5 ts (fun b u z => sm5 b u (s3 b u z)) (Same.gone s3 ns5) hs5 hk5 hpr
end
end Kb

namespace Kb
open PySem PySem.Spec PyProof.Rows L2 SrtZ SrtO
/-- the pair that a tuple of the heap holds -/
def rdP (H : Hp) (t : Addr) : Str × Int := match H t with
  | some (.tup [.str x, .int y]) => (x, y)
  | _ => (⟨#[]⟩, 0)
theorem rdP_of {H : Hp} {t : Addr} {e : Str × Int} (h : H t = some (.tup [.str e.1, .int e.2])) : rdP H t = e := by
  unfold rdP
  rw [h]
theorem paired_snoc {α β : Type} {F : α → β → Prop} : ∀ {xs : List α} {ys : List β} {x : α} {y : β}, Paired F xs ys → F x y → Paired F (xs ++ [x]) (ys ++ [y])
  | _, _, _, _, .nil, h => .cons h .nil
  | _, _, _, _, .cons h t, k => .cons h (paired_snoc t k)
theorem paired_imp {α β : Type} {F G : α → β → Prop} (h : ∀ a b, F a b → G a b) : ∀ {xs : List α} {ys : List β}, Paired F xs ys → Paired G xs ys
  | _, _, .nil => .nil
  | _, _, .cons a t => .cons (h _ _ a) (paired_imp h t)
theorem paired_rd {H : Hp} : ∀ {ts : List Addr} {kvs : Ct}, Paired (fun (t : Addr) (e : Str × Int) => H t = some (.tup [.str e.1, .int e.2])) ts kvs → ts.map (rdP H) = kvs ∧ ∀ t ∈ ts, H t = some (.tup [.str (rdP H t).1, .int (rdP H t).2])
  | _, _, .nil => ⟨rfl, fun _ h => nomatch h⟩
  | _, _, .cons h t => by
    obtain ⟨h1, h2⟩ := paired_rd t
    have e := rdP_of h
    refine ⟨by rw [List.map_cons, h1, e], fun u hu => ?_⟩
    rcases List.mem_cons.mp hu with rfl | hu
    · rw [e]
      exact h
    · exact h2 u hu
theorem paired_map {H : Hp} {k : Addr → Str × Int} : ∀ {ts : List Addr}, (∀ t ∈ ts, H t = some (.tup [.str (k t).1, .int (k t).2])) → Paired (fun (t : Addr) (e : Str × Int) => H t = some (.tup [.str e.1, .int e.2])) ts (ts.map k)
  | [], _ => .nil
  | t :: ts, h => .cons (h t List.mem_cons_self) (paired_map fun u hu => h u (List.mem_cons_of_mem _ hu))
theorem getZ_self {kvs : Ct} {i : Nat} {e : Str × Int} (nd : NdZ kvs) (h : kvs[i]? = some e) : getZ kvs e.1 = some e.2 := by
  have hm := List.mem_of_getElem? h
  clear h
  unfold getZ
  induction kvs with
  | nil => cases hm
  | cons f r ih =>
    unfold NdZ at nd
    rw [List.map_cons, List.nodup_cons] at nd
    rcases List.mem_cons.mp hm with rfl | hm
    · simp
    · have : ¬ f.1 = e.1 := fun z => nd.1 (List.mem_map.mpr ⟨e, hm, z.symm⟩)
      rw [List.find?_cons_of_neg (by simpa using this)]
      exact ih nd.2 hm
theorem getZ_mem {kvs : Ct} {e : Str × Int} (nd : NdZ kvs) (h : e ∈ kvs) : getZ kvs e.1 = some e.2 := by
  obtain ⟨i, hi⟩ := List.mem_iff_getElem?.mp h
  exact getZ_self nd hi
theorem getZ_in {kvs : Ct} {n : Str} {v : Int} (h : getZ kvs n = some v) : (n, v) ∈ kvs := by
  unfold getZ at h
  cases e : kvs.find? fun e => decide (e.1 = n) with
  | none => rw [e] at h; cases h
  | some x =>
    rw [e] at h
    have h1 := List.mem_of_find?_eq_some e
    have h2 : x.1 = n := of_decide_eq_true (List.find?_some (p := fun e : Str × Int => decide (e.1 = n)) e)
    have h3 : x.2 = v := Option.some.inj h
    rw [← h2, ← h3]
    exact h1
/-- what was locked is free again -/
theorem unlock_same {H H3 : Hp} {d : Addr} {u : HO} {od : Obj} (hd : H d = some u) (s : Same (upd H d (.frz od u)) H3) : Same H (upd H3 d u) := fun b o e => by
  by_cases h : b = d
  · subst h
    rw [hd] at e
    cases e
    exact upd_same
  · rw [upd_ne h]
    exact s b o (by rw [upd_ne h]; exact e)
end Kb



namespace Kb
open PySem PySem.Spec PyProof.Rows L2 SrtZ SrtO
/-! sketches on the heap -/
abbrev PrT (H : Hp) (t : Addr) (y : Str × Int) : Prop := H t = some (.tup [.str y.1, .int y.2])
def SkAt (H : Hp) (s : Addr) (r : Int) (x : Tl) : Prop := ∃ (k : Addr) (ts : List Addr), H s = some (.tup [.int r, .int x.m, .int x.o, .ref k]) ∧ Ptp H k (ts.map V.ref) ∧ Paired (PrT H) ts (srtZ x.c)
theorem SkAt.same {H H' : Hp} {s : Addr} {r : Int} {x : Tl} (h : SkAt H s r x) (y : Same H H') : SkAt H' s r x := by
  obtain ⟨k, ts, h1, h2, h3⟩ := h
  exact ⟨k, ts, y _ _ h1, h2.same y, paired_imp (fun t e h => y _ _ h) h3⟩
theorem SkAt.congr {H : Hp} {s : Addr} {r : Int} {x y : Tl} (h : SkAt H s r x) (e : skT x = skT y) : SkAt H s r y := by
  obtain ⟨m, o, c⟩ := x
  obtain ⟨m2, o2, c2⟩ := y
  unfold skT at e
  injection e with e1 e2 e3
  dsimp only at e1 e2 e3
  subst e1 e2
  obtain ⟨k, ts, h1, h2, h3⟩ := h
  exact ⟨k, ts, h1, h2, by dsimp only at h3 ⊢; rw [← e3]; exact h3⟩
/-! the order in which counts stand means nothing -/
theorem getZ_perm {a b : Ct} (p : a.Perm b) (nd : NdZ a) (n : Str) : getZ a n = getZ b n := by
  have ndb : NdZ b := by
    unfold NdZ
    exact (p.map (·.1)).nodup_iff.mp nd
  cases ha : getZ a n with
  | none =>
    have := getZ_none.mp ha
    exact (getZ_none.mpr fun h => this ((p.map (·.1)).mem_iff.mpr h)).symm
  | some v =>
    have : ∃ e ∈ a, e.1 = n ∧ e.2 = v := by
      unfold getZ at ha
      cases h : a.find? fun e => decide (e.1 = n) with
      | none => rw [h] at ha; cases ha
      | some e =>
        rw [h] at ha
        exact ⟨e, List.mem_of_find?_eq_some h, of_decide_eq_true (List.find?_some (p := fun e : Str × Int => decide (e.1 = n)) h), Option.some.inj ha⟩
    obtain ⟨e, he, rfl, rfl⟩ := this
    obtain ⟨i, hi⟩ := List.mem_iff_getElem?.mp (p.mem_iff.mp he)
    exact (getZ_self ndb hi).symm
theorem putZ_perm {a b : Ct} (p : a.Perm b) (n : Str) (v : Int) : (putZ a n v).Perm (putZ b n v) := by
  have e : (a.any fun e => decide (e.1 = n)) = (b.any fun e => decide (e.1 = n)) := by
    rw [Bool.eq_iff_iff, List.any_eq_true, List.any_eq_true]
    exact ⟨fun ⟨x, h, k⟩ => ⟨x, p.mem_iff.mp h, k⟩, fun ⟨x, h, k⟩ => ⟨x, p.mem_iff.mpr h, k⟩⟩
  unfold putZ
  rw [e]
  split
  · exact p.map _
  · exact p.append_right _
theorem addZ_perm {a b : Ct} (p : a.Perm b) (nd : NdZ a) (n : Str) (c : Int) : (addZ a n c).Perm (addZ b n c) := by
  unfold addZ
  rw [getZ_perm p nd]
  exact putZ_perm p _ _
theorem takeZ_perm {a b : Ct} (p : a.Perm b) (k : Int) : (takeZ k a).Perm (takeZ k b) := (p.filter _).map _
theorem mnC_perm {a b : Ct} (p : a.Perm b) : mnC a = mnC b := by
  by_cases h : a = []
  · subst h
    have := p.symm.eq_nil
    subst this
    rfl
  · obtain ⟨h1, h2⟩ := mnC_spec h
    have q := p.map (·.2)
    exact mnC_uniq (q.mem_iff.mp h1) fun y hy => h2 y (q.mem_iff.mpr hy)
theorem full_perm {a b : Ct} (p : a.Perm b) (nd : NdZ a) (r : Int) (n : Str) : full r n a = full r n b := by
  unfold full
  rw [getZ_perm p nd, p.length_eq]
theorem srtZ_eq {a b : Ct} (p : a.Perm b) (nd : NdZ a) : srtZ a = srtZ b := by
  have ndb : NdZ b := by
    unfold NdZ
    exact (p.map (·.1)).nodup_iff.mp nd
  exact srtZ_of (srtZ_asc nd) ((srtZ_perm a).trans p) ndb
theorem feed_skT {r c : Int} {n : Str} {x : Tl} (nd : NdZ x.c) : skT (feedT r n c (skT x)) = skT (feedT r n c x) := by
  obtain ⟨m, o, kvs⟩ := x
  have p := srtZ_perm kvs
  have nds : NdZ (srtZ kvs) := (p.map (·.1)).nodup_iff.mpr nd
  unfold feedT skT
  dsimp only
  rw [full_perm p nds, mnC_perm p]
  by_cases hf : full r n kvs = true
  · rw [if_pos hf, if_pos hf]
    dsimp only
    generalize (if mnC kvs < c then mnC kvs else c) = a
    have e : srtZ (if 0 < c - a then addZ (takeZ a (srtZ kvs)) n (c - a) else takeZ a (srtZ kvs)) = srtZ (if 0 < c - a then addZ (takeZ a kvs) n (c - a) else takeZ a kvs) := by
      have pt := takeZ_perm p a
      have ndt : NdZ (takeZ a (srtZ kvs)) := takeZ_nd nds
      split
      · exact srtZ_eq (addZ_perm pt ndt _ _) (addZ_nd ndt)
      · exact srtZ_eq pt ndt
    rw [e]
  · rw [if_neg hf, if_neg hf]
    dsimp only
    have e : srtZ (if 0 < c then addZ (srtZ kvs) n c else srtZ kvs) = srtZ (if 0 < c then addZ kvs n c else kvs) := by
      split
      · exact srtZ_eq (addZ_perm p nds _ _) (addZ_nd nds)
      · exact srtZ_eq p nds
    rw [e]
theorem skT_skT {x : Tl} (nd : NdZ x.c) : skT (skT x) = skT x := by
  obtain ⟨m, o, kvs⟩ := x
  unfold skT
  dsimp only
  rw [srtZ_eq (srtZ_perm kvs) ((srtZ_perm kvs).map (·.1) |>.nodup_iff.mpr nd)]
end Kb


namespace Kb
open PySem PySem.Spec PyProof.Rows L2 SrtZ SrtO
/-! counts, read behind a change -/
theorem getZ_cons (e : Str × Int) (kvs : Ct) (k : Str) : getZ (e :: kvs) k = if e.1 = k then some e.2 else getZ kvs k := by
  unfold getZ
  by_cases h : e.1 = k
  · rw [List.find?_cons_of_pos (by simpa using h), if_pos h]
    rfl
  · rw [List.find?_cons_of_neg (by simpa using h), if_neg h]
theorem getZ_app (a b : Ct) (k : Str) : getZ (a ++ b) k = (getZ a k).or (getZ b k) := by
  induction a with
  | nil => simp [getZ]
  | cons e a ih =>
    rw [List.cons_append, getZ_cons, getZ_cons, ih]
    split <;> rfl
theorem getZ_repl (kvs : Ct) (n : Str) (v : Int) (k : Str) : getZ (kvs.map fun e => if e.1 = n then (e.1, v) else e) k = if k = n then (getZ kvs n).map fun _ => v else getZ kvs k := by
  induction kvs with
  | nil => simp [getZ]
  | cons e r ih =>
    rw [List.map_cons, getZ_cons, getZ_cons, ih, getZ_cons]
    by_cases h1 : e.1 = n
    · rw [if_pos h1]
      dsimp only
      by_cases h2 : e.1 = k
      · rw [if_pos h2, if_pos (h2.symm.trans h1), if_pos h1]
        rfl
      · rw [if_neg h2, if_neg h2]
        by_cases h3 : k = n
        · exact absurd (h1.trans h3.symm) h2
        · rw [if_neg h3, if_neg h3]
    · rw [if_neg h1]
      by_cases h2 : e.1 = k
      · rw [if_pos h2, if_neg (fun z => h1 (h2.trans z)), if_pos h2]
      · rw [if_neg h2, if_neg h2, if_neg h1]
theorem getZ_put (kvs : Ct) (n : Str) (v : Int) (k : Str) : getZ (putZ kvs n v) k = if k = n then some v else getZ kvs k := by
  unfold putZ
  rw [any_getZ]
  cases h : getZ kvs n with
  | some u =>
    rw [if_pos (show (some u).isSome = true from rfl), getZ_repl, h]
    rfl
  | none =>
    rw [if_neg (show ¬ (none : Option Int).isSome = true by decide), getZ_app]
    by_cases e : k = n
    · subst e
      rw [h, if_pos rfl, getZ_cons, if_pos rfl]
      rfl
    · rw [if_neg e, getZ_cons, if_neg (Ne.symm e)]
      cases getZ kvs k <;> rfl
theorem getZ_take {a : Int} : ∀ {kvs : Ct}, NdZ kvs → ∀ k, getZ (takeZ a kvs) k = (getZ kvs k).bind fun v => if a < v then some (v - a) else none
  | [], _, k => rfl
  | e :: r, nd, k => by
    unfold NdZ at nd
    rw [List.map_cons, List.nodup_cons] at nd
    have ih := getZ_take (a := a) (kvs := r) nd.2 k
    have hno : e.1 = k → getZ r k = none := fun h => getZ_none.mpr (h ▸ nd.1)
    unfold takeZ at ih ⊢
    by_cases h : a < e.2
    · rw [List.filter_cons_of_pos (by simpa using h), List.map_cons, getZ_cons, getZ_cons]
      by_cases h2 : e.1 = k
      · rw [if_pos h2, if_pos h2]
        show some (e.2 - a) = if a < e.2 then _ else _
        rw [if_pos h]
      · rw [if_neg h2, if_neg h2]
        exact ih
    · rw [List.filter_cons_of_neg (by simpa using h), ih, getZ_cons]
      by_cases h2 : e.1 = k
      · rw [if_pos h2, hno h2]
        show none = if a < e.2 then _ else _
        rw [if_neg h]
      · rw [if_neg h2]
theorem putZ_putZ (kvs : Ct) (n : Str) (u v : Int) : putZ (putZ kvs n u) n v = putZ kvs n v := by
  cases h : getZ kvs n with
  | some g =>
    have e : ∀ w : Int, putZ kvs n w = kvs.map fun e => if e.1 = n then (e.1, w) else e := fun w => by
      unfold putZ
      rw [any_getZ, h, if_pos (show (some g).isSome = true from rfl)]
    rw [e u, e v]
    unfold putZ
    rw [any_getZ, getZ_repl, if_pos rfl, h, if_pos (show ((some g).map fun _ => u).isSome = true from rfl), List.map_map]
    refine List.map_congr_left fun e _ => ?_
    show (if (if e.1 = n then (e.1, u) else e).1 = n then ((if e.1 = n then (e.1, u) else e).1, v) else (if e.1 = n then (e.1, u) else e)) = _
    by_cases h1 : e.1 = n
    · rw [if_pos h1, if_pos h1, if_pos h1]
    · rw [if_neg h1, if_neg h1]
  | none =>
    rw [putZ_new h, putZ_new h]
    have hz := getZ_none.mp h
    unfold putZ
    rw [any_getZ, getZ_app, h, getZ_cons, if_pos rfl, if_pos (show ((none : Option Int).or (some u)).isSome = true from rfl), List.map_append]
    congr 1
    · have : ∀ e ∈ kvs, (if e.1 = n then (e.1, v) else e) = e := fun e he => by
        rw [if_neg (fun q => hz (List.mem_map.mpr ⟨e, he, q⟩))]
      rw [List.map_congr_left this, List.map_id']
    · show [if n = n then (n, v) else (n, u)] = _
      rw [if_pos rfl]
theorem addZ_addZ (kvs : Ct) (n : Str) (c e : Int) : addZ (addZ kvs n c) n e = addZ kvs n (c + e) := by
  unfold addZ
  rw [getZ_put, if_pos rfl, putZ_putZ]
  show putZ kvs n ((getZ kvs n).getD 0 + c + e) = _
  rw [Int.add_assoc]
theorem takeZ_takeZ {a b : Int} (hb : 0 ≤ b) : ∀ kvs : Ct, takeZ b (takeZ a kvs) = takeZ (a + b) kvs
  | [] => rfl
  | e :: r => by
    have ih := takeZ_takeZ hb (a := a) r
    unfold takeZ at ih ⊢
    by_cases h : a < e.2
    · rw [List.filter_cons_of_pos (by simpa using h), List.map_cons]
      by_cases h2 : a + b < e.2
      · rw [List.filter_cons_of_pos (by simp; omega), List.map_cons, ih, List.filter_cons_of_pos (by simpa using h2), List.map_cons]
        congr 2
        show e.2 - a - b = e.2 - (a + b)
        omega
      · rw [List.filter_cons_of_neg (by simp; omega), ih, List.filter_cons_of_neg (by simpa using h2)]
    · rw [List.filter_cons_of_neg (by simpa using h), ih, List.filter_cons_of_neg (by simp; omega)]
theorem takeZ_zero : ∀ {kvs : Ct}, (∀ e ∈ kvs, 1 ≤ e.2) → takeZ 0 kvs = kvs
  | [], _ => rfl
  | e :: r, h => by
    have ih := takeZ_zero (kvs := r) fun f hf => h f (List.mem_cons_of_mem _ hf)
    have h1 := h e List.mem_cons_self
    unfold takeZ at ih ⊢
    rw [List.filter_cons_of_pos (by simp; omega), List.map_cons, ih]
    congr 1
    show (e.1, e.2 - 0) = e
    rw [Int.sub_zero]
/-- less than the least is taken off: all stay -/
theorem takeZ_all : ∀ {kvs : Ct} {c : Int}, (∀ e ∈ kvs, c < e.2) → takeZ c kvs = kvs.map fun e => (e.1, e.2 - c)
  | [], _, _ => rfl
  | e :: r, c, h => by
    have ih := takeZ_all (kvs := r) (c := c) fun f hf => h f (List.mem_cons_of_mem _ hf)
    unfold takeZ at ih ⊢
    rw [List.filter_cons_of_pos (by simpa using h e List.mem_cons_self), List.map_cons, ih]
    rfl
theorem sumC_cons' (e : Str × Int) (kvs : Ct) : sumC (e :: kvs) = e.2 + sumC kvs := by
  unfold sumC
  rw [List.map_cons, List.sum_cons]
theorem sumC_perm' {a b : Ct} (p : a.Perm b) : sumC a = sumC b := by
  induction p with
  | nil => rfl
  | cons x _ ih => rw [sumC_cons', sumC_cons', ih]
  | swap x y l =>
    rw [sumC_cons', sumC_cons', sumC_cons', sumC_cons']
    omega
  | trans _ _ ih1 ih2 => rw [ih1, ih2]
theorem sumC_app : ∀ a b : Ct, sumC (a ++ b) = sumC a + sumC b
  | [], b => by show sumC b = 0 + sumC b; omega
  | e :: a, b => by
    rw [List.cons_append, sumC_cons', sumC_cons', sumC_app a b]
    omega
theorem sumC_repl {n : Str} {v : Int} : ∀ {kvs : Ct} {g : Int}, NdZ kvs → getZ kvs n = some g → sumC (kvs.map fun e => if e.1 = n then (e.1, v) else e) = sumC kvs + (v - g)
  | [], _, _, h => by cases h
  | e :: r, g, nd, h => by
    unfold NdZ at nd
    rw [List.map_cons, List.nodup_cons] at nd
    rw [getZ_cons] at h
    rw [List.map_cons, sumC_cons', sumC_cons']
    by_cases h1 : e.1 = n
    · rw [if_pos h1] at h ⊢
      have : ∀ f ∈ r, (if f.1 = n then (f.1, v) else f) = f := fun f hf => by
        rw [if_neg (fun q => nd.1 (List.mem_map.mpr ⟨f, hf, q.trans h1.symm⟩))]
      rw [List.map_congr_left this, List.map_id']
      have := Option.some.inj h
      show v + _ = _
      omega
    · rw [if_neg h1] at h ⊢
      rw [sumC_repl nd.2 h]
      omega
theorem sumC_add {kvs : Ct} {n : Str} {c : Int} (nd : NdZ kvs) : sumC (addZ kvs n c) = sumC kvs + c := by
  unfold addZ putZ
  rw [any_getZ]
  cases h : getZ kvs n with
  | some g =>
    rw [if_pos (show (some g).isSome = true from rfl), sumC_repl nd h]
    show _ + (g + c - g) = _
    omega
  | none =>
    rw [if_neg (show ¬ (none : Option Int).isSome = true by decide), sumC_app]
    show sumC kvs + (0 + c + 0) = _
    omega
theorem sumC_take1 : ∀ {kvs : Ct}, (∀ e ∈ kvs, 1 ≤ e.2) → sumC (takeZ 1 kvs) = sumC kvs - (kvs.length : Int)
  | [], _ => rfl
  | e :: r, h => by
    have ih := sumC_take1 (kvs := r) fun f hf => h f (List.mem_cons_of_mem _ hf)
    have h1 := h e List.mem_cons_self
    rw [sumC_cons', List.length_cons]
    unfold takeZ at ih ⊢
    by_cases h2 : 1 < e.2
    · rw [List.filter_cons_of_pos (by simpa using h2), List.map_cons, sumC_cons', ih]
      show e.2 - 1 + _ = _
      omega
    · rw [List.filter_cons_of_neg (by simpa using h2), ih]
      omega
theorem full_of {r : Int} {n : Str} {kvs : Ct} (h : full r n kvs = true) : getZ kvs n = none ∧ (kvs.length : Int) = r := by
  unfold full at h
  rw [Bool.and_eq_true] at h
  refine ⟨?_, of_decide_eq_true h.2⟩
  cases e : getZ kvs n with
  | none => rfl
  | some _ =>
    rw [e] at h
    exact absurd h.1 (by intro z; cases z)
theorem full_yes {r : Int} {n : Str} {kvs : Ct} (h : getZ kvs n = none) (h2 : (kvs.length : Int) = r) : full r n kvs = true := by
  unfold full
  rw [h, decide_eq_true h2]
  rfl
theorem full_no' {r : Int} {n : Str} {kvs : Ct} (h : (getZ kvs n).isSome = true ∨ ¬ (kvs.length : Int) = r) : full r n kvs = false := by
  unfold full
  rcases h with h | h
  · rw [h]
    rfl
  · rw [decide_eq_false h, Bool.and_false]
theorem mn_pos {kvs : Ct} (ne : kvs ≠ []) (pos : ∀ e ∈ kvs, 1 ≤ e.2) : 1 ≤ mnC kvs := by
  obtain ⟨h, _⟩ := mnC_spec ne
  obtain ⟨e, he, h⟩ := List.mem_map.mp h
  rw [← h]
  exact pos e he
theorem ne_of_full {r : Int} {kvs : Ct} (hr : 1 ≤ r) (h : (kvs.length : Int) = r) : kvs ≠ [] := by
  rintro rfl
  have : (0 : Int) = r := h
  omega
theorem feed_lt {r c m o : Int} {n : Str} {kvs : Ct} (hf : full r n kvs = true) (hc : c ≤ mnC kvs) : feedT r n c ⟨m, o, kvs⟩ = ⟨m + c, o + c, takeZ c kvs⟩ := by
  unfold feedT
  dsimp only
  rw [hf, if_pos rfl, if_neg (show ¬ mnC kvs < c by omega), if_neg (show ¬ 0 < c - c by omega)]
theorem feed_gt {r c m o : Int} {n : Str} {kvs : Ct} (hf : full r n kvs = true) (hc : mnC kvs < c) : feedT r n c ⟨m, o, kvs⟩ = ⟨m + c, o + mnC kvs, addZ (takeZ (mnC kvs) kvs) n (c - mnC kvs)⟩ := by
  unfold feedT
  dsimp only
  rw [hf, if_pos rfl, if_pos hc, if_pos (show 0 < c - mnC kvs by omega)]
theorem feed_add {r c m o : Int} {n : Str} {kvs : Ct} (hf : full r n kvs = false) (hc : 0 < c) : feedT r n c ⟨m, o, kvs⟩ = ⟨m + c, o, addZ kvs n c⟩ := by
  unfold feedT
  dsimp only
  rw [hf, if_neg (by decide), if_pos hc]
theorem feed_zero {r : Int} {n : Str} {x : Tl} (ok : TlOk r x) (hr : 1 ≤ r) : feedT r n 0 x = x := by
  obtain ⟨m, o, kvs⟩ := x
  cases hf : full r n kvs with
  | true =>
    obtain ⟨_, hl⟩ := full_of hf
    have h1 := mn_pos (ne_of_full hr hl) ok.pos
    rw [feed_lt hf (by omega), takeZ_zero ok.pos, Int.add_zero, Int.add_zero]
  | false =>
    unfold feedT
    dsimp only
    rw [hf, if_neg (by decide), if_neg (by decide), Int.add_zero]
theorem full_added {r c : Int} {n : Str} {kvs : Ct} : full r n (addZ kvs n c) = false := full_no' (.inl (by unfold addZ; rw [getZ_put, if_pos rfl]; rfl))
theorem full_less {r : Int} {n : Str} {kvs : Ct} (hr : 1 ≤ r) (hl : (kvs.length : Int) = r) : full r n (takeZ (mnC kvs) kvs) = false := full_no' (.inr (by have := takeZ_less (ne_of_full hr hl); omega))
theorem feed_iter {r c : Int} {n : Str} {x : Tl} (ok : TlOk r x) (hr : 1 ≤ r) (hc : 0 ≤ c) : feedT r n (c + 1) x = feedT r n 1 (feedT r n c x) := by
  obtain ⟨m, o, kvs⟩ := x
  have ok0 := ok
  obtain ⟨nd, len, pos, nm⟩ := ok
  dsimp only at nd len pos nm
  have e0 : m + (c + 1) = m + c + 1 := by omega
  by_cases h0 : 0 < c
  · cases hf : full r n kvs with
    | false => rw [feed_add hf (by omega), feed_add hf h0, feed_add full_added (by decide), addZ_addZ, e0]
    | true =>
      obtain ⟨hg, hl⟩ := full_of hf
      have ne := ne_of_full hr hl
      obtain ⟨hm, hle⟩ := mnC_spec ne
      by_cases hcm : c < mnC kvs
      · have hall : ∀ e ∈ kvs, c < e.2 := fun e he => by
          have := hle e.2 (List.mem_map.mpr ⟨e, he, rfl⟩)
          omega
        have ht := takeZ_all hall
        have hy : full r n (takeZ c kvs) = true := full_yes (by rw [getZ_take nd, hg]; rfl) (by rw [ht, List.length_map]; exact hl)
        have hmn : mnC (takeZ c kvs) = mnC kvs - c := by
          refine (mnC_uniq ?_ fun y hy => ?_).symm
          · rw [ht, List.map_map]
            obtain ⟨e, he, h⟩ := List.mem_map.mp hm
            exact List.mem_map.mpr ⟨e, he, by show e.2 - c = _; rw [h]⟩
          · rw [ht, List.map_map] at hy
            obtain ⟨e, he, rfl⟩ := List.mem_map.mp hy
            have := hle e.2 (List.mem_map.mpr ⟨e, he, rfl⟩)
            show mnC kvs - c ≤ e.2 - c
            omega
        rw [feed_lt hf (by omega), feed_lt hf (by omega), feed_lt hy (by omega), takeZ_takeZ (by decide), e0, Int.add_assoc o c 1]
      · by_cases hcm2 : c = mnC kvs
        · rw [feed_gt hf (by omega), feed_lt hf (by omega), hcm2, feed_add (full_less hr hl) (by decide), ← hcm2, e0]
          congr 2
          omega
        · rw [feed_gt hf (by omega), feed_gt hf (by omega), feed_add full_added (by decide), addZ_addZ, e0]
          congr 2
          omega
  · have : c = 0 := by omega
    subst this
    rw [feed_zero ok0 hr]
    rfl
/-! what feeding leaves true -/
/-- of an exact stream: so much was taken off -/
structure Fd (r : Int) (x : Tl) : Prop where
  lost : x.m - sumC x.c = (r + 1) * x.o
  off : 0 ≤ x.o
theorem fd0 (r : Int) : Fd r tl0 := ⟨by show (0 : Int) - 0 = (r + 1) * 0; rw [Int.mul_zero]; rfl, Int.le_refl _⟩
theorem fd_feed {r : Int} {n : Str} {x : Tl} (ok : TlOk r x) (hr : 1 ≤ r) (h : Fd r x) : Fd r (feedT r n 1 x) := by
  obtain ⟨m, o, kvs⟩ := x
  obtain ⟨hl, ho⟩ := h
  dsimp only at hl ho
  cases hf : full r n kvs with
  | false =>
    rw [feed_add hf (by decide)]
    refine ⟨?_, ho⟩
    show m + 1 - sumC (addZ kvs n 1) = _
    rw [sumC_add (show NdZ kvs from ok.nd)]
    show _ = (r + 1) * o
    omega
  | true =>
    obtain ⟨hg, hlen⟩ := full_of hf
    have m1 := mn_pos (ne_of_full hr hlen) ok.pos
    rw [feed_lt hf (by omega)]
    refine ⟨?_, by dsimp only; omega⟩
    show m + 1 - sumC (takeZ 1 kvs) = (r + 1) * (o + 1)
    rw [sumC_take1 (show ∀ e ∈ kvs, 1 ≤ e.2 from ok.pos), Int.mul_add, ← hl, hlen]
    omega
theorem fd_sk {r : Int} {x : Tl} (ok : TlOk r x) (hr1 : 1 ≤ r) (hr2 : r ≤ 64) (h : Fd r x) (hm : 0 ≤ x.m) : skB r x.m x.o (srtZ x.c) = true := by
  have p := srtZ_perm x.c
  have es : sumC (srtZ x.c) = sumC x.c := sumC_perm' p
  have hl := h.lost
  have ho := h.off
  have h2 : (r + 1) * x.o ≤ 2 * r * x.o := Int.mul_le_mul_of_nonneg_right (by omega) ho
  have hlen : ((srtZ x.c).length : Int) ≤ r := by rw [p.length_eq]; exact ok.len
  unfold skB
  rw [es, hl, decide_eq_true hr1, decide_eq_true hr2, decide_eq_true hm, decide_eq_true ho, decide_eq_true hlen, decide_eq_true (Int.le_refl _), decide_eq_true h2]
  rfl
def gd (kvs : Ct) (k : Str) : Int := (getZ kvs k).getD 0
theorem gd_add (kvs : Ct) (n : Str) (c : Int) (k : Str) : gd (addZ kvs n c) k = gd kvs k + if k = n then c else 0 := by
  unfold gd addZ
  rw [getZ_put]
  by_cases h : k = n
  · subst h
    rw [if_pos rfl, if_pos rfl]
    rfl
  · rw [if_neg h, if_neg h, Int.add_zero]
theorem gd_take1 {kvs : Ct} (nd : NdZ kvs) (pos : ∀ e ∈ kvs, 1 ≤ e.2) (k : Str) : gd (takeZ 1 kvs) k = if 0 < gd kvs k then gd kvs k - 1 else 0 := by
  unfold gd
  rw [getZ_take nd]
  cases h : getZ kvs k with
  | none => rfl
  | some v =>
    have hv : 1 ≤ v := by
      have := getZ_pos (n := k) pos
      unfold getZ at h
      cases hh : kvs.find? fun e => decide (e.1 = k) with
      | none => rw [hh] at h; cases h
      | some e =>
        rw [hh] at h
        have h1 := pos e (List.mem_of_find?_eq_some hh)
        have h2 := Option.some.inj h
        have h3 : e.2 = v := h2
        omega
    show (if 1 < v then some (v - 1) else none).getD 0 = if 0 < v then v - 1 else 0
    rw [if_pos (show 0 < v by omega)]
    by_cases h1 : 1 < v
    · rw [if_pos h1]
      rfl
    · rw [if_neg h1]
      show (0 : Int) = v - 1
      omega
/-- the true counts lie from the kept ones to off above -/
def Tru (kc : Ct) (x : Tl) : Prop := ∀ k, 0 ≤ gd kc k - gd x.c k ∧ gd kc k - gd x.c k ≤ x.o
theorem tru0 : Tru [] tl0 := fun k => ⟨Int.le_refl _, Int.le_refl _⟩
theorem tru_feed {r : Int} {n : Str} {x : Tl} {kc : Ct} (ok : TlOk r x) (hr : 1 ≤ r) (h : Tru kc x) : Tru (addZ kc n 1) (feedT r n 1 x) := by
  obtain ⟨m, o, kvs⟩ := x
  intro k
  obtain ⟨a, b⟩ := h k
  dsimp only at a b
  rw [gd_add]
  cases hf : full r n kvs with
  | false =>
    rw [feed_add hf (by decide)]
    dsimp only
    rw [gd_add]
    omega
  | true =>
    obtain ⟨hg, hlen⟩ := full_of hf
    have m1 := mn_pos (ne_of_full hr hlen) ok.pos
    rw [feed_lt hf (by omega)]
    dsimp only
    rw [gd_take1 (show NdZ kvs from ok.nd) (show ∀ e ∈ kvs, 1 ≤ e.2 from ok.pos)]
    have hp : 0 ≤ gd kvs k := getZ_pos ok.pos
    by_cases hk : k = n
    · subst hk
      have : gd kvs k = 0 := by
        unfold gd
        rw [hg]
        rfl
      rw [if_pos rfl, this, if_neg (by decide)]
      omega
    · rw [if_neg hk]
      split <;> omega
end Kb

namespace L2
open PySem PySem.Spec PyProof.Rows SrtO SrtZ
/-! own rules: (int, text) < (int, text); sorted of a list of texts of any length -/
def ltNZ (i j : Int) (x y : Str) : Bool := if i = j then ltZ x y else decide (i < j)
section
variable {X : Cx}
def rLtNZ (K : PySem.W.Frag) : R2 := fun x y H Q => ∃ (a b : Addr) (i j : Int) (z w : Str), x = .ref a ∧ y = .ref b ∧ SqT K H a [.int i, .str z] ∧ SqT K H b [.int j, .str w] ∧ Q (.bl (ltNZ i j z w)) H
theorem op_ltNZ (hu : X.A.units < cLine) : OpR X (compareOp .Lt) (rLtNZ X.K) := by
  intro pins s σ H x y v u Q I rx ry h
  obtain ⟨a, b, i, j, z, w, rfl, rfl, ha, hb, q⟩ := h
  cases rx
  cases ry
  obtain ⟨its, r1, p1, _⟩ := I.tuple ha
  obtain ⟨its2, r2, p2, _⟩ := I.tuple hb
  obtain ⟨u1, u2, rfl, ri, rj⟩ := vals2 r1
  obtain ⟨w1, w2, rfl, si, sj⟩ := vals2 r2
  obtain ⟨t1, rfl⟩ := ri
  obtain ⟨t2, rfl⟩ := rj
  obtain ⟨t3, rfl⟩ := si
  obtain ⟨t4, rfl⟩ := sj
  have R := Ob.RcOp.tuples_lt (A := X.A) (s := s) (e := fun k => match k with | 0 => (i == j) | _ => (z == w)) (r := fun k => match k with | 0 => decide (i < j) | _ => ltZ z w) p1 p2 hu (fun k h1 h2 => by
    match k, h1, h2 with
    | 0, _, _ => exact SeqAt.EqAt.int_int _ _ _ _
    | 1, _, _ => exact SeqAt.EqAt.str_str _ _ _ _
    | k + 2, h1, _ => exact absurd h1 (by simp)) (fun k h1 h2 _ => by
    match k, h1, h2 with
    | 0, _, _ => exact Ob.RcOp.lt_int _ _ _ _
    | 1, _, _ => exact fun _ _ _ _ h => PyProof.Rows.lt_str h
    | k + 2, h1, _ => exact absurd h1 (by simp))
  have e : Ob.lexAt (fun k => match k with | 0 => (i == j) | _ => (z == w)) (fun k => match k with | 0 => decide (i < j) | _ => ltZ z w) (decide (2 < 2)) 0 2 = ltNZ i j z w := by
    unfold ltNZ
    rw [Ob.lexAt_succ, Ob.lexAt_succ, Ob.lexAt_zero]
    show (if (i == j) = true then (if (z == w) = true then decide (2 < 2) else ltZ z w) else decide (i < j)) = _
    by_cases h1 : i = j
    · rw [if_pos (beq_iff_eq.mpr h1), if_pos h1]
      by_cases h2 : z = w
      · rw [if_pos (by rw [h2]; exact beq_self_eq_true w), h2, ltZ_irr]
        rfl
      · rw [if_neg (fun q => h2 (eq_of_beq q))]
    · rw [if_neg (fun q => h1 (eq_of_beq q)), if_neg h1]
  have R' : Ob.RcOp .Lt X.A s (.ref a) (.ref b) (ltNZ i j z w) := by
    rw [← e]
    exact R
  exact R' X.prog X.w X.xe (EP X pins σ Q) ⟨.bl _, H, I, rfl, q⟩
/-- sorted(xs), xs a list of texts of any length -/
def rSortedSL (K : PySem.W.Frag) : List V → Hp → VK → Prop := fun vs H Q => ∃ (a : Addr) (xs : List Str), vs = [V.ref a] ∧ SqL K H a (xs.map V.str) ∧ ∀ (ys : List Str) (p : Addr), ys.Perm xs → Srtd ltZ ys → H p = none → Q (.ref p) (upd H p (.lst (ys.map V.str)))
theorem cr_sortedSL : CallR X (.builtin "sorted") (rSortedSL X.K) := by
  intro pins s σ H vs us Q I r h
  obtain ⟨a, xs, rfl, hs, q⟩ := h
  obtain ⟨its, rv, hl, hz⟩ := I.list hs
  obtain rfl := Vals.ref1 r
  have hI : StrsAre its xs := strs_of_vals rv
  rw [List.length_map] at hz
  have il : its.length = xs.length := hI.length
  refine SrtO.sorted_ord (ltv := ltSv) ⟨fun x y => swo_str.asym _ _, fun x y z => swo_str.tr _ _ _⟩ hl.isList (by rw [il]; exact hz) (fun h2 h₁ b hb kk => strs_sortable (s := { s with heap := h₁ }) hI h2) fun out h1 h2 => ?_
  obtain ⟨ep, he'⟩ := PyProof.Rows.sortedAll_at s.heap its out.toArray
  have isO : ∀ v ∈ out, ∃ x t, v = Value.str x t := fun v hv => hI.all v (h2.perm.mem_iff.mp hv)
  have hO := strsAre_map out isO
  have pt : (out.map strOf).Perm xs := by
    have := h2.perm.map strOf
    rwa [show its.map strOf = xs from hI.strs] at this
  have hlen : ((out.map strOf).map V.str).length ≤ sizeLine := by rw [List.length_map, pt.length_eq]; exact hz
  refine ⟨.ref _, upd H (s.heap.objs.size + 1) (.lst ((out.map strOf).map V.str)), I.laid (t' := s.toks) (fun _ _ => PyProof.Rows.sortedAll_old) (Nat.le_succ _) ⟨hlen, out, ep, vals_of_strs hO, he'⟩, rfl, q _ _ pt (srtd_map h1) (I.hok.fresh (Nat.le_succ _))⟩
end
end L2

namespace L2
open PySem PySem.Spec PyProof.Rows
section
variable {X : Cx}
/-- name = {.. for ..} on one line, the name a local -/
theorem ps_setDc {i : Nat} {y : Str} {py : Pos} {kx vx tg iter : Expr} {ifs : List Expr} {scope : Scope} {own : List (Str × Nat)} {pos spos : Pos} {wi : TI} {g : TG} {tt : TT} {tk tv : TE} (hc : X.calm = true) (hN : X.N.Nodup) (hy : X.N[i]? = some y) (hyl : X.env.scope.names.lookup y = some .local)
    (hsw : swapsWith (.DictComp kx vx [⟨tg, iter, ifs, 0⟩] scope pos) (some (.Name y py)) spos.line X.env = pure true) (hi : PI X tg iter wi) (ok : BlkOk X.N X.env.scope scope own)
    (hg : ∀ (s : Shared) (H : Hp) (C : Addr) (cl : List (Str × Addr)) (fp : List Addr), PG (X.blk s H scope (compEnvC scope cl C X.env) fp) tg g) (ht : ∀ (s : Shared) (H : Hp) (C : Addr) (cl : List (Str × Addr)) (fp : List Addr), PTs (X.blk s H scope (compEnvC scope cl C X.env) fp) ifs tt)
    (hk : ∀ (s : Shared) (H : Hp) (C : Addr) (cl : List (Str × Addr)) (fp : List Addr), PE (X.blk s H scope (compEnvC scope cl C X.env) fp) kx tk)
    (he : ∀ (s : Shared) (H : Hp) (C : Addr) (cl : List (Str × Addr)) (fp : List Addr), PE (X.blk s H scope (compEnvC scope cl C X.env) fp) vx tv) (hs : ∀ x, foldedSetIterable iter X.env x = pure x := by intro _; rfl) :
    PS X (.Assign [.Name y py] (.DictComp kx vx [⟨tg, iter, ifs, 0⟩] scope pos) spos) (tAsg (tDc wi g tt tk tv (own.map (·.2))) (gName i)) := by
  refine ⟨fun pins s σ H D I h => ?_⟩
  rw [exec_Assign_Name_used _ _ _ _ hsw]
  refine wpAny_bind (wpAny_standAt (wpAny_bind ?_))
  show wpAny _ X.A (do let _ ← comprehension (.DictComp kx vx [⟨tg, iter, ifs, 0⟩] scope pos) scope X.env (firstIterPos [⟨tg, iter, ifs, 0⟩] pos) newDict false (eval iter X.env) (some (assign (.Name y py) X.env))) _ _ s
  have h : tDc wi g tt tk tv (own.map (·.2)) σ H (fun x H1 => gName i x σ H1 D.nx) := h
  refine wpAny_bind (thn (dc_core (Qf := fun _ s' => SP X pins D .next s') hc hN I hi ok hg ht hk he hs h fun L C s' m H' I' q hn f => ?_) fun _ s' hq => wpAny_pure (wpAny_pure hq))
  show wpAny _ _ (assign (.Name y py) X.env (.ref L)) _ _ _
  refine wpAny_assign_Name (store_ok2 (v := V.ref L) I' hN hy (.inl hyl) rfl (fun s2 I2 ⟨a, sb, ha⟩ => ?_) (.inr hyl))
  obtain ⟨f0, f1, f2, f3, f4, f5⟩ := f
  have haC : C ≠ a := by
    rcases ha with z | z
    · rw [z]; exact f1
    · exact fun e => f4 y a z e.symm
  refine ⟨m, hn.sameBut sb haC, fun h3 sb3 => ?_⟩
  exact ⟨_, H', I2.turned (t' := s2.toks) (fun b o hb e => (sb3.2 b hb).trans e) f0 f1 f3 f4 f5, q⟩
theorem sw_trueD {kx vx : Expr} {gs : List Comprehension} {scope : Scope} {pos py : Pos} {y : Str} {l : Nat} {env : Env} (hk : env.scope.kind = .function) (hy : env.scope.names.lookup y = some .local) (hl : (py.line == pos.line) = true)
    (ha : (scope.names.any fun (n, k) => n == y && (k == .local || k == .cell)) = false) : swapsWith (.DictComp kx vx gs scope pos) (some (.Name y py)) l env = pure true := by
  have ky : env.kindOf y = some .local := hy
  have hb : env.blockKind = .function := by unfold Env.blockKind; rw [hk]; rfl
  unfold swapsWith
  simp only [hb, ky, ha, Expr.pos, hl]
  rfl
/-- list.count of a text among texts -/
def rCntS (K : PySem.W.Frag) : V → List V → Hp → VK → Prop := fun x xs H Q => ∃ (p : Addr) (ns : List Str) (k : Str), x = .ref p ∧ xs = [.str k] ∧ SqL K H p (ns.map V.str) ∧ Q (.int (ns.count k : Nat)) H
theorem countS_in (k : Str) : ∀ ns : List Str, PySem.Spec.countIn (.str k) (ns.map PyData.str) = (ns.count k : Nat)
  | [] => rfl
  | n :: r => by
    rw [List.map_cons, PySem.Spec.countIn, countS_in k r, List.count_cons]
    simp only [PySem.Spec.same]
    rcases Bool.eq_false_or_eq_true (n == k) with hb | hb <;> simp only [hb, Bool.false_eq_true, if_true, if_false] <;> push_cast <;> omega
theorem mt_lcountS : MtR X "list.count" (rCntS X.K) := by
  intro pins s σ H x xs v us Q I rx rxs h
  obtain ⟨p, ns, k, rfl, rfl, hs, q⟩ := h
  cases rx
  obtain ⟨u, rfl, ru⟩ := rxs.one
  obtain ⟨t, rfl⟩ := ru
  obtain ⟨its, rv, pl, hlen⟩ := I.list hs
  refine count_list_strs (vs := its) pl.isList (strs_of_vals rv) ?_
  rw [countS_in]
  exact ⟨.int (ns.count k : Nat), H, I.tok _, ⟨s.toks, rfl⟩, q⟩
/-- a method within a comprehension: the written part by name -/
theorem pe_bmK {K : PySem.W.Frag} {o e : Expr} {es : List Expr} {to : TE} {t : TA} {name : Str} {apos cpos : Pos} {T id : String} {r : V → List V → Hp → VK → Prop} (pa : PlainAttrs T) (slot : Slot T name id) (hty : typeOf (.builtin id) = pure (.type "method_descriptor")) (hm : MtR X id r) (ho : PE X o to) (ha : PA X (e :: es) t) (hK : X.K = K := by rfl)
    (hbase : attributeBase o name X.env (eval o X.env) = eval o X.env := by rfl)
    (hfew : ((backTo cpos (starEach (e :: es) X.env)).all (fun x => !x.1) && (backToKw cpos (keywordEach [] X.env)).all (fun x => x.1.isSome)
      && decide ((e :: es).length + ([] : List Keyword).length + (if ([] : List Keyword).isEmpty then 0 else 1) < 30)) = true := by rfl)
    (hline : (apos.endLine == cpos.line) = true := by rfl) (hs : starEach (e :: es) X.env = (false, eval e X.env) :: starEach es X.env := by rfl) (hplain : (backTo cpos (starEach es X.env)).any (·.1) = false := by rfl) :
    PE X (.Call (.Attribute o name apos) (e :: es) [] cpos) (tBM K T r to t) := by
  subst hK
  exact pe_bm pa slot hty hm ho ha hbase hfew hline hs hplain
end
end L2

namespace Kb
open PySem PySem.Spec PyProof.Rows L2 SrtZ SrtO
abbrev sP_counts_of : Stmt := topS 24
theorem scP_counts_of : FnScope ["tree", "many", "step", "name"] ["tree"] (defScope sP_counts_of) := ⟨rfl, rfl, rfl, by decide +kernel, rfl, by decide +kernel, by decide +kernel⟩
abbrev DnCountsOf (K : PySem.W.Frag) (mg : Str → Option Value) := Dn K mg "counts_of" sP_counts_of ["tree"]
/-- how often each name stands in the streams -/
def cntZ (zs : List Str) (kc : Ct) : Ct := zs.foldl (fun k n => addZ k n 1) kc
def cntS (kc : Ct) : Stp → Ct
  | .put zs => cntZ zs kc
  | .pour => kc
def cntT (l : List Stp) : Ct := l.foldl cntS []
theorem cntZ_snoc {zs : List Str} {kc : Ct} {i : Nat} {n : Str} (h : zs[i]? = some n) : cntZ (zs.take (i + 1)) kc = addZ (cntZ (zs.take i) kc) n 1 := by
  unfold cntZ
  rw [List.take_add_one, h, List.foldl_append]
  rfl
theorem cntT_snoc {l : List Stp} {i : Nat} {t : Stp} (h : l[i]? = some t) : cntT (l.take (i + 1)) = cntS (cntT (l.take i)) t := by
  unfold cntT
  rw [List.take_add_one, h, List.foldl_append]
  rfl
theorem cntZ_nd : ∀ {zs : List Str} {kc : Ct}, NdZ kc → NdZ (cntZ zs kc)
  | [], _, h => h
  | z :: zs, kc, h => cntZ_nd (zs := zs) (addZ_nd (n := z) (c := 1) h)
theorem cntZ_len : ∀ {zs : List Str} {kc : Ct}, (cntZ zs kc).length ≤ kc.length + zs.length
  | [], _ => Nat.le_refl _
  | z :: zs, kc => by
    have h := cntZ_len (zs := zs) (kc := addZ kc z 1)
    have h2 := addZ_len (kvs := kc) (n := z) (c := 1)
    show (cntZ zs (addZ kc z 1)).length ≤ kc.length + (zs.length + 1)
    omega
theorem cntS_nd {kc : Ct} {t : Stp} (h : NdZ kc) : NdZ (cntS kc t) := by
  cases t with
  | put zs => exact cntZ_nd h
  | pour => exact h
theorem cntT_nd (l : List Stp) : NdZ (cntT l) := by
  have gen : ∀ (l : List Stp) (kc : Ct), NdZ kc → NdZ (l.foldl cntS kc) := by
    intro l
    induction l with
    | nil => exact fun _ h => h
    | cons t l ih => exact fun kc h => ih _ (cntS_nd h)
  exact gen l [] List.nodup_nil
theorem mny_mono (l : List Stp) (i : Nat) : mny (l.take i) ≤ mny l := by
  have gen : ∀ (l : List Stp) (m : Int), m ≤ l.foldl cS m := by
    intro l
    induction l with
    | nil => exact fun m => Int.le_refl _
    | cons t l ih =>
      intro m
      have h := ih (cS m t)
      have h2 : m ≤ cS m t := by
        cases t with
        | put zs => show m ≤ m + (zs.length : Nat); omega
        | pour => exact Int.le_refl _
      exact Int.le_trans h2 h
  unfold mny
  have := gen (l.drop i) ((l.take i).foldl cS 0)
  rw [← List.foldl_append, List.take_append_drop] at this
  exact this
theorem cntT_len : ∀ l : List Stp, ((cntT l).length : Int) ≤ mny l := by
  have gen : ∀ (l : List Stp) (kc : Ct) (m : Int), (kc.length : Int) ≤ m → ((l.foldl cntS kc).length : Int) ≤ l.foldl cS m := by
    intro l
    induction l with
    | nil => exact fun _ _ h => h
    | cons t l ih =>
      intro kc m h
      refine ih _ _ ?_
      cases t with
      | put zs =>
        have := cntZ_len (zs := zs) (kc := kc)
        show ((cntZ zs kc).length : Int) ≤ m + (zs.length : Nat)
        omega
      | pour => exact h
  exact fun l => gen l [] 0 (Int.le_refl _)
theorem cts_of {r : Int} {x : Tl} (ok : TlOk r x) : Cts (srtZ x.c) := by
  have p := srtZ_perm x.c
  exact ⟨fun e he => ok.nm e (p.mem_iff.mp he), fun e he => ok.pos e (p.mem_iff.mp he), srtZ_asc ok.nd⟩
section
variable {P : Program} {w : World} {K : PySem.W.Frag} {mg : Str → Option Value} {base : Heap}
/-! counts_of -/
def spCountsOf (K : PySem.W.Frag) : Sp := fun vs H Q _ => ∃ (a : Addr) (l : List Stp), vs = [.ref a] ∧ TreeAt K H a l ∧ Tree l ∧
  ∀ H' k (ts : List Addr), Same H H' → Ptp H' k (ts.map V.ref) → Paired (PrT H') ts (srtZ (cntT l)) → Q (.ref k) H'
theorem ok_counts_of (T : Blt mg) (cL : Cst mg "LONGEST_NAME" (.int 8)) (cS' : Cst mg "MOST_STEPS" (.int 5000)) (cI : Cst mg "MOST_ITEMS_streams" (.int 50000)) (dP_is_name : DnIsName K mg) (dP_is_stream : DnIsStream K mg) (dP_is_put : DnIsPut K mg) (dP_is_pour : DnIsPour K mg) (dP_is_tree : DnIsTree K mg) (d : DnCountsOf K mg) :
    FnOk P w K mg base CX0 5 d.f d.fd ["tree"] (spCountsOf K) := by
  have GP_is_tree : FnOk P w K mg base CX0 4 dP_is_tree.f dP_is_tree.fd ["thing"] (spIsTree K) := ok_is_tree T cL cS' cI dP_is_name dP_is_stream dP_is_put dP_is_pour dP_is_tree
  refine d.F.ok scP_counts_of (fun vs H Q E h => ?_) (fun cdv A outer s H vs Q E hr h => ?_)
  · obtain ⟨a, l, rfl, _⟩ := h
    rfl
  · obtain ⟨a, l, rfl, ht, tr, q⟩ := h
    have hu := hu_of hr
    refine ⟨_, (pss_cons (ps_if (pt_not (pt_val (pe_call GP_is_tree (hr.mono (by omega)) (by rfl) dP_is_tree.g dP_is_tree.F.kp dP_is_tree.b .nil pass0 (pa_cons (pv 0) pa_nil))))
      (pss_one ps_never)
      pss_nil)
    (pss_cons (ps_set (i := 1) scP_counts_of.nd rfl (Or.inl rfl) pe_dnewK)
    (pss_cons (ps_for PassesOwn.never rfl (pi_tup (pv 0)) (pg_name (i := 2) scP_counts_of.nd rfl (Or.inl rfl))
      (pss_one (ps_if (pt_cmpR op_eq (pe_ix ix_tup (pv 2) pe_int (fun _ _ => rfl)) pe_str (nomark _))
        (pss_one (ps_for PassesOwn.never rfl (pi_tup (pe_ix ix_tup (pv 2) pe_int (fun _ _ => rfl))) (pg_name (i := 3) scP_counts_of.nd rfl (Or.inl rfl))
          (pss_one (ps_dput hu (pv 1) (pv 3) (pe_op op_add (pe_dget2 hu (pv 1) (pv 3) pe_int ⟨rfl, rfl, rfl, rfl⟩) pe_int) rfl))))
        pss_nil)))
    (pss_one (ps_ret (pe_callTy call_tupleF (by rfl) T.n_tuple (by decide +kernel) (pa_cons (pe_callB (cr_sortedIZ rfl) (by rfl) T.n_sorted (by decide +kernel) (pa_cons (pe_bm0 PySem.F.plainAttrs_dict PySem.F.slot_dict_items PySem.F.type_dict_items mt_itemsK (pv 1)) pa_nil)) pa_nil))))))), ?_⟩
    refine ⟨.ref a, rfl, a, l, rfl, ht, tr, fun H1 s1 => ⟨true, rfl, iteF fun c nc => ?_⟩⟩
    obtain ⟨vs, hS, hp⟩ := ht
    have hl : vs.length = l.length := Paired.length hp
    have nc0 : H c = none := Same.gone s1 nc
    have s2 : Same H (upd H1 c (.dK [])) := Same.new s1 nc
    have few := tr.few
    refine ⟨.ref a, rfl, a, rfl, ⟨_, seqT hS s2⟩, for_tup (xs := vs) (fun i σ H3 => ∃ y2 y3 : Option V, σ = [some (.ref a), some (.ref c), y2, y3] ∧ Same H H3 ∧ H3 c = some (.dK ((cntT (l.take i)).map entZ))) ⟨none, none, rfl, s2, upd_same⟩ (fun i σ H3 _ ⟨_, _, _, s3, _⟩ => seqT hS s3) ?_ ?_⟩
    · rintro i v σ H3 hi ⟨y2, y3, rfl, s3, hc3⟩
      obtain ⟨st, hst, hat⟩ := paired_at hp hi
      have hat3 := hat.same s3
      have snoc := cntT_snoc hst
      have l0 := cntT_len (l.take i)
      have m0 := mny_mono l i
      have m1 := mny_mono l (i + 1)
      cases st with
      | put zs =>
        obtain ⟨b, t, rfl, h1, h2, _, hzl⟩ := hat3
        refine ⟨.ref b, rfl, b, _, _, _, rfl, rfl, h1, atI_nat (j := 0) rfl, rfl, true, congrArg V.bl (decide_eq_true rfl), iteT ?_⟩
        refine ⟨.ref b, rfl, b, _, _, _, rfl, rfl, h1, atI_nat (j := 1) rfl, t, rfl, ⟨_, h2⟩, for_tup (xs := zs.map V.str) (fun j σ H6 => ∃ z5 : Option V, σ = [some (.ref a), some (.ref c), some (.ref b), z5] ∧ Same H H6 ∧ SqT K H6 t (zs.map V.str) ∧ H6 c = some (.dK ((cntZ (zs.take j) (cntT (l.take i))).map entZ))) ⟨y3, rfl, s3, h2, hc3⟩ (fun j σ H6 _ ⟨_, _, _, h, _⟩ => h) ?_ ?_⟩
        · rintro j v σ H6 hj ⟨z5, rfl, s6, h6, hc6⟩
          obtain ⟨z, hz, rfl⟩ := map_at hj
          have lj := cntZ_len (zs := zs.take j) (kc := cntT (l.take i))
          rw [List.length_take] at lj
          refine ⟨.ref c, rfl, c, rfl, .inl ⟨_, .inl hc6⟩, .str z, rfl, _, DGet.k (k := Sum.inr z) hc6, ?_⟩
          rw [getZ_val]
          refine ⟨(getZ (cntZ (zs.take j) (cntT (l.take i))) z).getD 0, 1, ?_, rfl, ?_⟩
          · cases getZ (cntZ (zs.take j) (cntT (l.take i))) z <;> rfl
          refine ⟨.ref c, rfl, .str z, rfl, c, _, rfl, DPut.k (k := Sum.inr z) hc6 (by rw [List.length_map, sizeLine_eq]; omega), ?_⟩
          rw [putZ_put]
          refine ⟨some (.str z), rfl, Same.put s6 nc0, ?_, ?_⟩
          · rcases h6 with (h | ⟨o', h⟩) | h
            · exact .inl (.inl (by rw [upd_ne (ne_of h hc6 (by intro z; cases z))]; exact h))
            · exact .inl (.inr ⟨o', by rw [upd_ne (ne_of h hc6 (by intro z; cases z))]; exact h⟩)
            · exact .inr h
          · rw [upd_same, cntZ_snoc hz]
            rfl
        · rintro σ H6 ⟨z5, rfl, s6, h6, hc6⟩
          rw [List.length_map, List.take_length] at hc6
          refine ⟨_, _, rfl, s6, ?_⟩
          rw [snoc]
          exact hc6
      | pour =>
        obtain ⟨b, rfl, h1⟩ := hat3
        refine ⟨.ref b, rfl, b, _, _, _, rfl, rfl, h1, atI_nat (j := 0) rfl, rfl, false, congrArg V.bl (decide_eq_false stream_ne), iteF ?_⟩
        refine ⟨_, _, rfl, s3, ?_⟩
        rw [snoc]
        exact hc3
    · rintro σ H3 ⟨y2, y3, rfl, s3, hc3⟩
      rw [hl, List.take_length] at hc3
      refine ⟨.ref c, rfl, .inr (.inr (.inl ⟨rfl, .inl ⟨_, hc3⟩⟩)), c, _, rfl, rfl, hc3, fun p np => ?_⟩
      refine ⟨p, c, cntT l, rfl, upd_same, (by rw [upd_ne (ne_of_none hc3 np)]; exact hc3), fun H4 l4 ys ts s4 nl nts lts pm so hl4 hts => ?_⟩
      refine ⟨l4, _, rfl, sql hl4, fun k ob nk ho => ?_⟩
      have s5 : Same H H4 := fun b u e => s4 b u (Same.new s3 np b u e)
      have eys := srtZ_of (asc_of so pm (cntT_nd l)) pm (cntT_nd l)
      subst eys
      exact q _ k ts (Same.new s5 nk) ⟨ob, upd_same, ho⟩ (paired_imp (fun t e h => same_upd nk _ _ h) hts)
/-! need_two, poured -/
def spNeedTwo : Sp := fun vs H Q _ => ∃ (s1 s2 : Addr) (r : Int) (x y : Tl), vs = [.ref s1, .ref s2] ∧ SkAt H s1 r x ∧ SkAt H s2 r y ∧ r ≤ 64 ∧ TlOk r x ∧ TlOk r y ∧ skB r x.m x.o (srtZ x.c) = true ∧ skB r y.m y.o (srtZ y.c) = true ∧ ∀ H', Same H H' → Q .non H'
def spPoured : Sp := fun vs H Q _ => ∃ (s1 s2 : Addr) (r : Int) (x y : Tl), vs = [.ref s1, .ref s2] ∧ SkAt H s1 r x ∧ SkAt H s2 r y ∧ 1 ≤ r ∧ r ≤ 64 ∧ TlOk r x ∧ TlOk r y ∧ skB r x.m x.o (srtZ x.c) = true ∧ skB r y.m y.o (srtZ y.c) = true ∧
  ∀ H' s', Same H H' → H s' = none → SkAt H' s' r (pourT r (skT y) (skT x)) → Q (.ref s') H'
end
end Kb

namespace Kb
open PySem PySem.Spec PyProof.Rows L2 SrtZ SrtO
/-! pouring, in any order of the counts -/
theorem mem_getZ {kvs : Ct} (nd : NdZ kvs) (e : Str × Int) : e ∈ kvs ↔ getZ kvs e.1 = some e.2 := by
  constructor
  · intro h
    obtain ⟨i, hi⟩ := List.mem_iff_getElem?.mp h
    exact getZ_self nd hi
  · intro h
    unfold getZ at h
    cases hf : kvs.find? fun f => decide (f.1 = e.1) with
    | none => rw [hf] at h; cases h
    | some f =>
      rw [hf] at h
      have h1 : f.1 = e.1 := of_decide_eq_true (List.find?_some (p := fun f : Str × Int => decide (f.1 = e.1)) hf)
      have h2 : f.2 = e.2 := Option.some.inj h
      have : f = e := Prod.ext h1 h2
      rw [← this]
      exact List.mem_of_find?_eq_some hf
theorem nd_nodup {kvs : Ct} (nd : NdZ kvs) : kvs.Nodup := by
  unfold NdZ at nd
  rw [List.Nodup, List.pairwise_map] at nd
  exact nd.imp fun h e => h (by rw [e])
theorem perm_of_getZ {a b : Ct} (na : NdZ a) (nb : NdZ b) (h : ∀ k, getZ a k = getZ b k) : a.Perm b :=
  (List.perm_ext_iff_of_nodup (nd_nodup na) (nd_nodup nb)).mpr fun e => by rw [mem_getZ na, mem_getZ nb, h]
theorem getZ_sums : ∀ {more kvs : Ct}, NdZ more → ∀ k, getZ (sumsZ more kvs) k = match getZ more k with | none => getZ kvs k | some c => some (gd kvs k + c)
  | [], kvs, _, k => rfl
  | e :: r, kvs, nd, k => by
    unfold NdZ at nd
    rw [List.map_cons, List.nodup_cons] at nd
    have ih := getZ_sums (more := r) (kvs := addZ kvs e.1 e.2) nd.2 k
    show getZ (sumsZ r (addZ kvs e.1 e.2)) k = _
    rw [ih, getZ_cons]
    by_cases h : e.1 = k
    · rw [if_pos h, getZ_none.mpr (h ▸ nd.1)]
      show getZ (addZ kvs e.1 e.2) k = some (gd kvs k + e.2)
      unfold addZ gd
      rw [getZ_put, if_pos h.symm, h]
    · rw [if_neg h]
      have e1 : getZ (addZ kvs e.1 e.2) k = getZ kvs k := by
        unfold addZ
        rw [getZ_put, if_neg (Ne.symm h)]
      have e2 : gd (addZ kvs e.1 e.2) k = gd kvs k := by
        unfold gd
        rw [e1]
      rw [e1, e2]
theorem gd_sums {more kvs : Ct} (nd : NdZ more) (k : Str) : gd (sumsZ more kvs) k = gd kvs k + gd more k := by
  unfold gd
  rw [getZ_sums nd]
  cases getZ more k with
  | none => exact (Int.add_zero _).symm
  | some c => rfl
theorem sums_perm {a a' b b' : Ct} (pa : a.Perm a') (pb : b.Perm b') (na : NdZ a) (nb : NdZ b) : (sumsZ a b).Perm (sumsZ a' b') := by
  have na' : NdZ a' := (pa.map (·.1)).nodup_iff.mp na
  have nb' : NdZ b' := (pb.map (·.1)).nodup_iff.mp nb
  refine perm_of_getZ (sumsZ_nd nb) (sumsZ_nd nb') fun k => ?_
  rw [getZ_sums na, getZ_sums na', getZ_perm pa na, getZ_perm pb nb]
  unfold gd
  rw [getZ_perm pb nb]
theorem fall_perm {a b : Ct} (p : a.Perm b) (r : Int) : fallZ a r = fallZ b r := by
  have hs := List.pairwise_mergeSort (le := fun (a b : Int) => decide (b ≤ a)) (fun a b c h1 h2 => by simp at *; omega) (fun a b => by simp; omega) (a.map (·.2))
  have := fall_uniq (kvs := b) (ns := (a.map (·.2)).mergeSort fun a b => decide (b ≤ a)) ((List.mergeSort_perm _ _).trans (p.map (·.2))) (hs.imp fun h => of_decide_eq_true h)
  unfold fallZ
  rw [this]
theorem skT_eq {x x' : Tl} (nd : NdZ x.c) (h : skT x = skT x') : x.m = x'.m ∧ x.o = x'.o ∧ x.c.Perm x'.c := by
  obtain ⟨m, o, c⟩ := x
  obtain ⟨m', o', c'⟩ := x'
  unfold skT at h
  injection h with e1 e2 e3
  dsimp only at e1 e2 e3
  exact ⟨e1, e2, (srtZ_perm c).symm.trans (by rw [e3]; exact srtZ_perm c')⟩
theorem pour_skT {r : Int} {x x' y y' : Tl} (nx : NdZ x.c) (ny : NdZ y.c) (hx : skT x = skT x') (hy : skT y = skT y') : skT (pourT r y x) = skT (pourT r y' x') := by
  obtain ⟨x1, x2, x3⟩ := skT_eq nx hx
  obtain ⟨y1, y2, y3⟩ := skT_eq ny hy
  have p := sums_perm y3 x3 ny nx
  have nd := sumsZ_nd (more := y.c) nx
  unfold pourT
  dsimp only
  rw [p.length_eq, fall_perm p, x1, x2, y1, y2]
  split
  · unfold skT
    dsimp only
    rw [srtZ_eq (takeZ_perm p _) (takeZ_nd nd)]
  · unfold skT
    dsimp only
    rw [srtZ_eq p nd]
/-! two runs: the program's and the law's own -/
def stepL (r : Int) (st : List Tl) : Stp → List Tl
  | .put zs => feedsT r zs tl0 :: st
  | .pour => match st with
    | x :: y :: st => pourT r x y :: st
    | st => st
def runL (r : Int) (l : List Stp) : List Tl := l.foldl (stepL r) []
theorem runL_snoc {r : Int} {l : List Stp} {i : Nat} {t : Stp} (h : l[i]? = some t) : runL r (l.take (i + 1)) = stepL r (runL r (l.take i)) t := by
  unfold runL
  rw [List.take_add_one, h, List.foldl_append]
  rfl
theorem runL_ok {r : Int} (hr : 1 ≤ r) : ∀ {l : List Stp} {st : List Tl}, (∀ zs, .put zs ∈ l → ∀ z ∈ zs, Nm z) → (∀ x ∈ st, TlOk r x) → ∀ x ∈ l.foldl (stepL r) st, TlOk r x
  | [], _, _, h => h
  | t :: l, st, hn, h => by
    refine runL_ok hr (l := l) (fun zs hz => hn zs (List.mem_cons_of_mem _ hz)) ?_
    cases t with
    | put zs =>
      intro x hx
      rcases List.mem_cons.mp hx with rfl | hx
      · exact feedsT_ok hr (tl0_ok hr) (hn zs List.mem_cons_self)
      · exact h x hx
    | pour =>
      match st, h with
      | [], h => exact h
      | [_], h => exact h
      | a :: b :: st, h =>
        intro x hx
        rcases List.mem_cons.mp hx with rfl | hx
        · exact pourT_ok (h b (List.mem_cons_of_mem _ List.mem_cons_self)) (h a List.mem_cons_self) (by omega)
        · exact h x (List.mem_cons_of_mem _ (List.mem_cons_of_mem _ hx))
theorem runTL {r : Int} (hr : 1 ≤ r) : ∀ {l : List Stp} {st st' : List Tl}, (∀ zs, .put zs ∈ l → ∀ z ∈ zs, Nm z) → (∀ x ∈ st, TlOk r x) → (∀ x ∈ st', TlOk r x) → st.map skT = st'.map skT → (l.foldl (stepT r) st).map skT = (l.foldl (stepL r) st').map skT
  | [], _, _, _, _, _, h => h
  | t :: l, st, st', hn, h1, h2, h => by
    have hn' : ∀ zs, .put zs ∈ l → ∀ z ∈ zs, Nm z := fun zs hz => hn zs (List.mem_cons_of_mem _ hz)
    cases t with
    | put zs =>
      have ok := feedsT_ok hr (tl0_ok hr) (hn zs List.mem_cons_self)
      refine runTL hr (l := l) hn' (fun x hx => ?_) (fun x hx => ?_) ?_
      · rcases List.mem_cons.mp hx with rfl | hx
        · exact ok
        · exact h1 x hx
      · rcases List.mem_cons.mp hx with rfl | hx
        · exact ok
        · exact h2 x hx
      · show skT _ :: st.map skT = skT _ :: st'.map skT
        rw [h]
    | pour =>
      match st, st', h, h1, h2 with
      | [], [], h, h1, h2 => exact runTL hr (l := l) hn' h1 h2 h
      | [a], [b], h, h1, h2 => exact runTL hr (l := l) hn' h1 h2 h
      | [_], _ :: _ :: _, h, _, _ => simp at h
      | _ :: _ :: _, [_], h, _, _ => simp at h
      | a :: b :: st, a' :: b' :: st', h, h1, h2 =>
        injection h with e1 h
        injection h with e2 h
        have oa := h1 a List.mem_cons_self
        have ob := h1 b (List.mem_cons_of_mem _ List.mem_cons_self)
        have oa' := h2 a' List.mem_cons_self
        have ob' := h2 b' (List.mem_cons_of_mem _ List.mem_cons_self)
        refine runTL hr (l := l) hn' (fun x hx => ?_) (fun x hx => ?_) ?_
        · rcases List.mem_cons.mp hx with rfl | hx
          · exact pourT_ok ob (skT_ok oa) (by omega)
          · exact h1 x (List.mem_cons_of_mem _ (List.mem_cons_of_mem _ hx))
        · rcases List.mem_cons.mp hx with rfl | hx
          · exact pourT_ok ob' oa' (by omega)
          · exact h2 x (List.mem_cons_of_mem _ (List.mem_cons_of_mem _ hx))
        · show skT (pourT r (skT a) b) :: st.map skT = skT (pourT r a' b') :: st'.map skT
          rw [pour_skT ob.nd (skT_ok oa).nd e2 ((skT_skT oa.nd).trans e1), h]
/-! what pouring leaves true -/
def minS (f : Int) (cs : List Int) : Int := (cs.map fun c => if f < c then f else c).sum
theorem minS_cons (f c : Int) (cs : List Int) : minS f (c :: cs) = (if f < c then f else c) + minS f cs := by
  unfold minS
  rw [List.map_cons, List.sum_cons]
theorem minS_perm {f : Int} {a b : List Int} (p : a.Perm b) : minS f a = minS f b := by
  induction p with
  | nil => rfl
  | cons x _ ih => rw [minS_cons, minS_cons, ih]
  | swap x y l =>
    rw [minS_cons, minS_cons, minS_cons, minS_cons]
    omega
  | trans _ _ ih1 ih2 => rw [ih1, ih2]
theorem sumC_take {f : Int} : ∀ kvs : Ct, sumC (takeZ f kvs) = sumC kvs - minS f (kvs.map (·.2))
  | [] => rfl
  | e :: r => by
    have ih := sumC_take (f := f) r
    rw [sumC_cons', List.map_cons, minS_cons]
    unfold takeZ at ih ⊢
    by_cases h : f < e.2
    · rw [List.filter_cons_of_pos (by simpa using h), List.map_cons, sumC_cons', ih, if_pos h]
      show e.2 - f + _ = _
      omega
    · rw [List.filter_cons_of_neg (by simpa using h), ih, if_neg h]
      omega
theorem minS_le {f : Int} : ∀ cs : List Int, minS f cs ≤ (cs.length : Int) * f
  | [] => by show (0 : Int) ≤ 0 * f; omega
  | c :: cs => by
    have ih := minS_le (f := f) cs
    rw [minS_cons, List.length_cons]
    have e : ((cs.length + 1 : Nat) : Int) * f = (cs.length : Int) * f + f := by push_cast; rw [Int.add_mul, Int.one_mul]
    rw [e]
    split <;> omega
theorem minS_ge {f : Int} (hf : 0 ≤ f) : ∀ {cs : List Int} {n : Nat}, (∀ c ∈ cs, 0 ≤ c) → (∀ i c, i < n → cs[i]? = some c → f ≤ c) → n ≤ cs.length → (n : Int) * f ≤ minS f cs
  | [], n, _, _, hn => by
    have : n = 0 := by simpa using hn
    subst this
    show (0 : Int) * f ≤ 0
    omega
  | c :: cs, 0, h0, _, _ => by
    have ih := minS_ge hf (cs := cs) (n := 0) (fun c hc => h0 c (List.mem_cons_of_mem _ hc)) (fun i c h => absurd h (by omega)) (Nat.zero_le _)
    rw [minS_cons]
    have h1 := h0 c List.mem_cons_self
    split <;> omega
  | c :: cs, n + 1, h0, hc, hn => by
    have ih := minS_ge hf (cs := cs) (n := n) (fun c hc => h0 c (List.mem_cons_of_mem _ hc)) (fun i c h e => hc (i + 1) c (by omega) (by simpa using e)) (by rw [List.length_cons] at hn; omega)
    have h1 := hc 0 c (by omega) rfl
    rw [minS_cons]
    have e : ((n + 1 : Nat) : Int) * f = (n : Int) * f + f := by push_cast; rw [Int.add_mul, Int.one_mul]
    rw [e]
    split <;> omega
theorem fall_spec {kvs : Ct} {r : Nat} (h : r < kvs.length) (pos : ∀ e ∈ kvs, 1 ≤ e.2) : 1 ≤ fallZ kvs r ∧ ((r : Int) + 1) * fallZ kvs r ≤ minS (fallZ kvs r) (kvs.map (·.2)) := by
  have hp := List.mergeSort_perm (kvs.map (·.2)) (fun a b => decide (b ≤ a))
  have hs := List.pairwise_mergeSort (le := fun (a b : Int) => decide (b ≤ a)) (fun a b c h1 h2 => by simp at *; omega) (fun a b => by simp; omega) (kvs.map (·.2))
  have p1 : ∀ c ∈ (kvs.map (·.2)).mergeSort (fun a b => decide (b ≤ a)), 1 ≤ c := fun c hc => by
    obtain ⟨e, he, rfl⟩ := List.mem_map.mp (hp.mem_iff.mp hc)
    exact pos e he
  rw [← minS_perm hp]
  unfold fallZ
  rw [Int.toNat_natCast]
  have hl : r < ((kvs.map (·.2)).mergeSort (fun a b => decide (b ≤ a))).length := by rw [hp.length_eq, List.length_map]; exact h
  generalize (kvs.map (·.2)).mergeSort (fun a b => decide (b ≤ a)) = s at hs p1 hl
  have eg : s.getD r 0 = s[r] := by simp [List.getD, hl]
  rw [eg]
  have h1 := p1 _ (List.getElem_mem hl)
  refine ⟨h1, ?_⟩
  have := minS_ge (f := s[r]) (by omega) (cs := s) (n := r + 1) (fun c hc => by have := p1 c hc; omega) (fun i c hi hc => ?_) (by omega)
  · push_cast at this
    exact this
  · obtain ⟨hil, rfl⟩ := List.getElem?_eq_some_iff.mp hc
    by_cases e : i = r
    · subst e
      exact Int.le_refl _
    · exact of_decide_eq_true (List.pairwise_iff_getElem.mp hs i r hil hl (by omega))
theorem sumC_sums : ∀ {more kvs : Ct}, NdZ kvs → sumC (sumsZ more kvs) = sumC kvs + sumC more
  | [], kvs, _ => by show sumC kvs = sumC kvs + 0; omega
  | e :: r, kvs, nd => by
    show sumC (sumsZ r (addZ kvs e.1 e.2)) = _
    rw [sumC_sums (more := r) (addZ_nd nd), sumC_add nd, sumC_cons']
    omega
/-- within the bounds -/
structure Bd (r : Int) (x : Tl) : Prop where
  low : (r + 1) * x.o ≤ x.m - sumC x.c
  high : x.m - sumC x.c ≤ 2 * r * x.o
  off : 0 ≤ x.o
  many : 0 ≤ x.m
theorem bd_pour {r : Int} {x y : Tl} (hr : 1 ≤ r) (ox : TlOk r x) (oy : TlOk r y) (hx : Bd r x) (hy : Bd r y) : Bd r (pourT r y x) := by
  obtain ⟨rn, rfl⟩ := Int.eq_ofNat_of_zero_le (show 0 ≤ r by omega)
  have es := sumC_sums (more := y.c) ox.nd
  have ll := sumsZ_len (more := y.c) (kvs := x.c)
  have pos := sumsZ_pos oy.pos ox.pos
  have lx := ox.len
  have ly := oy.len
  obtain ⟨a1, a2, a3, a4⟩ := hx
  obtain ⟨b1, b2, b3, b4⟩ := hy
  unfold pourT
  dsimp only
  generalize sumsZ y.c x.c = all at es ll pos
  have d1 : ((rn : Int) + 1) * (x.o + y.o) = ((rn : Int) + 1) * x.o + ((rn : Int) + 1) * y.o := Int.mul_add _ _ _
  have d2 : 2 * (rn : Int) * (x.o + y.o) = 2 * (rn : Int) * x.o + 2 * (rn : Int) * y.o := Int.mul_add _ _ _
  split
  · rename_i h
    obtain ⟨f1, f2⟩ := fall_spec (kvs := all) (r := rn) (by omega) pos
    have f3 := minS_le (f := fallZ all rn) (all.map (·.2))
    rw [List.length_map] at f3
    have f4 : (all.length : Int) * fallZ all rn ≤ 2 * (rn : Int) * fallZ all rn := Int.mul_le_mul_of_nonneg_right (by omega) (by omega)
    have d3 : ((rn : Int) + 1) * (x.o + y.o + fallZ all rn) = ((rn : Int) + 1) * (x.o + y.o) + ((rn : Int) + 1) * fallZ all rn := Int.mul_add _ _ _
    have d4 : 2 * (rn : Int) * (x.o + y.o + fallZ all rn) = 2 * (rn : Int) * (x.o + y.o) + 2 * (rn : Int) * fallZ all rn := Int.mul_add _ _ _
    refine ⟨?_, ?_, ?_, ?_⟩ <;> dsimp only
    · rw [sumC_take, d3]
      omega
    · rw [sumC_take, d4]
      omega
    · omega
    · omega
  · refine ⟨?_, ?_, ?_, ?_⟩ <;> dsimp only <;> omega
theorem bd_feeds {r : Int} (hr : 1 ≤ r) : ∀ {zs : List Str} {x : Tl}, TlOk r x → Fd r x → 0 ≤ x.m → (∀ z ∈ zs, Nm z) → Fd r (feedsT r zs x) ∧ (feedsT r zs x).m = x.m + (zs.length : Int)
  | [], x, _, f, _, _ => ⟨f, by show x.m = x.m + 0; omega⟩
  | z :: zs, x, ok, f, hm, hn => by
    have em : (feedT r z 1 x).m = x.m + 1 := by
      unfold feedT
      split <;> rfl
    obtain ⟨a, b⟩ := bd_feeds hr (zs := zs) (x := feedT r z 1 x) (feedT_ok ok hr (hn z List.mem_cons_self) (by decide)) (fd_feed ok hr f) (by rw [em]; omega) fun y hy => hn y (List.mem_cons_of_mem _ hy)
    refine ⟨a, ?_⟩
    show (feedsT r zs (feedT r z 1 x)).m = _
    rw [b, em, List.length_cons]
    push_cast
    omega
theorem bd_stream {r : Int} {zs : List Str} (hr : 1 ≤ r) (hn : ∀ z ∈ zs, Nm z) : Bd r (feedsT r zs tl0) ∧ (feedsT r zs tl0).m = (zs.length : Int) := by
  obtain ⟨f, e⟩ := bd_feeds hr (tl0_ok hr) (fd0 r) (Int.le_refl _) hn
  have e : (feedsT r zs tl0).m = (zs.length : Int) := by rw [e]; show 0 + _ = _; omega
  have ho := f.off
  have h2 : (r + 1) * (feedsT r zs tl0).o ≤ 2 * r * (feedsT r zs tl0).o := Int.mul_le_mul_of_nonneg_right (by omega) ho
  exact ⟨⟨by rw [f.lost]; exact Int.le_refl _, by rw [f.lost]; exact h2, ho, by rw [e]; omega⟩, e⟩
/-- the true counts, as a function -/
def TruF (f : Str → Int) (x : Tl) : Prop := ∀ k, 0 ≤ f k - gd x.c k ∧ f k - gd x.c k ≤ x.o
theorem gd_take {a : Int} {kvs : Ct} (nd : NdZ kvs) (ha : 0 ≤ a) (k : Str) (pos : ∀ e ∈ kvs, 1 ≤ e.2) : gd (takeZ a kvs) k = if a < gd kvs k then gd kvs k - a else 0 := by
  unfold gd
  rw [getZ_take nd]
  cases getZ kvs k with
  | none =>
    show 0 = if a < 0 then _ else 0
    rw [if_neg (by omega)]
  | some v =>
    show (if a < v then some (v - a) else none).getD 0 = if a < v then v - a else 0
    split <;> rfl
theorem tru_pour {r : Int} {x y : Tl} {f g : Str → Int} (hr : 1 ≤ r) (ox : TlOk r x) (oy : TlOk r y) (hf : TruF f x) (hg : TruF g y) : TruF (fun k => f k + g k) (pourT r y x) := by
  obtain ⟨rn, rfl⟩ := Int.eq_ofNat_of_zero_le (show 0 ≤ r by omega)
  intro k
  obtain ⟨a1, a2⟩ := hf k
  obtain ⟨b1, b2⟩ := hg k
  have es := gd_sums (kvs := x.c) oy.nd k
  have pos := sumsZ_pos oy.pos ox.pos
  have nd := sumsZ_nd (more := y.c) ox.nd
  unfold pourT
  dsimp only
  generalize sumsZ y.c x.c = all at es pos nd
  have hp : 0 ≤ gd all k := getZ_pos pos
  split
  · rename_i h
    obtain ⟨f1, _⟩ := fall_spec (kvs := all) (r := rn) (by omega) pos
    dsimp only
    rw [gd_take nd (by omega) k pos]
    split <;> omega
  · dsimp only
    omega
theorem gd_cntZ : ∀ (zs : List Str) (kc : Ct) (k : Str), gd (cntZ zs kc) k = gd kc k + gd (cntZ zs []) k
  | [], kc, k => by show gd kc k = gd kc k + 0; omega
  | z :: zs, kc, k => by
    show gd (cntZ zs (addZ kc z 1)) k = gd kc k + gd (cntZ zs (addZ [] z 1)) k
    rw [gd_cntZ zs (addZ kc z 1) k, gd_cntZ zs (addZ [] z 1) k, gd_add, gd_add]
    show _ = _ + (0 + _ + _)
    omega
theorem tru_stream {r : Int} (hr : 1 ≤ r) : ∀ {zs : List Str} {x : Tl} {kc : Ct}, TlOk r x → Tru kc x → (∀ z ∈ zs, Nm z) → Tru (cntZ zs kc) (feedsT r zs x)
  | [], _, _, _, h, _ => h
  | z :: zs, x, kc, ok, h, hn => tru_stream hr (zs := zs) (feedT_ok ok hr (hn z List.mem_cons_self) (by decide)) (tru_feed ok hr h) fun y hy => hn y (List.mem_cons_of_mem _ hy)
theorem sum_cnt : ∀ (l : List Stp) (kc : Ct) (m : Int), NdZ kc → sumC kc = m → sumC (l.foldl cntS kc) = l.foldl cS m
  | [], _, _, _, e => e
  | .put zs :: l, kc, m, nd, e => by
    have gen : ∀ (zs : List Str) (kc : Ct), NdZ kc → sumC (cntZ zs kc) = sumC kc + (zs.length : Int) := by
      intro zs
      induction zs with
      | nil => exact fun kc _ => by show sumC kc = sumC kc + 0; omega
      | cons z zs ih =>
        intro kc nd
        show sumC (cntZ zs (addZ kc z 1)) = _
        rw [ih _ (addZ_nd nd), sumC_add nd, List.length_cons]
        push_cast
        omega
    exact sum_cnt l (cntZ zs kc) (m + (zs.length : Nat)) (cntZ_nd nd) (by rw [gen zs kc nd, e])
  | .pour :: l, kc, m, nd, e => sum_cnt l kc m nd e
end Kb

namespace Kb
open PySem PySem.Spec PyProof.Rows L2 SrtZ SrtO
abbrev shand : Stmt := topS 40
abbrev Nhand : List Str := ["_law_script", "_law_cells", "_law_cell"]
theorem schand : FnScope ["_law_script", "_law_cells", "_law_cell"] ["_law_script"] (defScope shand) := ⟨rfl, rfl, rfl, by decide +kernel, rfl, by decide +kernel, by decide +kernel⟩
abbrev sdraw : Stmt := topS 41
theorem scdraw : FnScope ["_law_hand_here", "_law_many", "_law_cell", "_law_digit", "_law_number"] ["_law_hand_here", "_law_many"] (defScope sdraw) := ⟨rfl, rfl, rfl, by decide +kernel, rfl, by decide +kernel, by decide +kernel⟩
abbrev sany : Stmt := topS 42
theorem scany : FnScope ["_law_hand_here", "_law_things"] ["_law_hand_here", "_law_things"] (defScope sany) := ⟨rfl, rfl, rfl, by decide +kernel, rfl, by decide +kernel, by decide +kernel⟩
abbrev Dnhand (K : PySem.W.Frag) (mg : Str → Option Value) := Dn K mg "_law_hand" shand ["_law_script"]
abbrev Dndraw (K : PySem.W.Frag) (mg : Str → Option Value) := Dn K mg "_law_draw" sdraw ["_law_hand_here", "_law_many"]
abbrev Dnany (K : PySem.W.Frag) (mg : Str → Option Value) := Dn K mg "_law_any" sany ["_law_hand_here", "_law_things"]
/-- the hand that is drawn from: its list, its cells -/
structure Wl (a c : Addr) (H : Hp) : Prop where
  ac : a ≠ c
  ex : ∃ (ns : List Int) (i : Nat) (u s t : Int), H a = some (.lst [.ref c, .int (i : Int), .int u, .int s, .int t]) ∧ H c = some (.lst (ns.map V.int)) ∧ (∀ n ∈ ns, 0 ≤ n) ∧ 0 ≤ u
/-- all but the hand stays -/
def Exw (a : Addr) (H H' : Hp) : Prop := ∀ b o, b ≠ a → H b = some o → H' b = some o
theorem Exw.refl (a : Addr) (H : Hp) : Exw a H H := fun _ _ _ h => h
theorem Exw.trans {a : Addr} {H H1 H2 : Hp} (x : Exw a H H1) (y : Exw a H1 H2) : Exw a H H2 := fun b o n h => y b o n (x b o n h)
theorem Exw.up {a : Addr} {H H1 : Hp} {u : HO} (x : Exw a H H1) : Exw a H (upd H1 a u) := fun b o n h => by
  rw [upd_ne n]
  exact x b o n h
theorem Exw.same {a : Addr} {H H1 H2 : Hp} (x : Exw a H H1) (y : Same H1 H2) : Exw a H H2 := fun b o n h => y b o (x b o n h)
theorem Same.exw {a : Addr} {H H1 : Hp} (x : Same H H1) : Exw a H H1 := fun b o _ h => x b o h
theorem Wl.same {a c : Addr} {H H' : Hp} (h : Wl a c H) (y : Same H H') : Wl a c H' := by
  obtain ⟨n1, ns, i, u, s, t, e1, e2, r⟩ := h
  exact ⟨n1, ns, i, u, s, t, y _ _ e1, y _ _ e2, r⟩
theorem Wl.ne2 {a c p : Addr} {H : Hp} (h : Wl a c H) (hp : H p = none) : p ≠ a ∧ p ≠ c := by
  obtain ⟨_, ns, i, u, s, t, e1, e2, _⟩ := h
  exact ⟨(ne_of_none e1 hp).symm, (ne_of_none e2 hp).symm⟩
theorem Wl.put {a c p : Addr} {H : Hp} {u : HO} (h : Wl a c H) (n : p ≠ a ∧ p ≠ c) : Wl a c (upd H p u) := by
  obtain ⟨n1, ns, i, v, s, t, e1, e2, r⟩ := h
  exact ⟨n1, ns, i, v, s, t, by rw [upd_ne n.1.symm]; exact e1, by rw [upd_ne n.2.symm]; exact e2, r⟩
/-- what is no list stays -/
theorem Exw.at {a c b : Addr} {H H' : Hp} {o : HO} (x : Exw a H H') (h : Wl a c H) (hb : H b = some o) (hl : ∀ xs, o ≠ .lst xs) : H' b = some o := by
  obtain ⟨_, ns, i, u, s, t, e1, e2, _⟩ := h
  exact x b o (ne_of hb e1 (hl _)) hb
/-- a list of texts is not the hand's -/
theorem Exw.strs {a c b : Addr} {H H' : Hp} {zs : List Str} (x : Exw a H H') (h : Wl a c H) (hb : H b = some (.lst (zs.map V.str))) : H' b = some (.lst (zs.map V.str)) := by
  obtain ⟨_, ns, i, u, s, t, e1, e2, _⟩ := h
  refine x b _ (fun e => ?_) hb
  subst e
  rw [hb] at e1
  have := HO.lst.inj (Option.some.inj e1)
  cases zs with
  | nil => cases this
  | cons y ys => cases this
theorem Exw.tup {K : PySem.W.Frag} {a c b : Addr} {H H' : Hp} {xs : List V} (x : Exw a H H') (h : Wl a c H) (hb : SqT K H b xs) : SqT K H' b xs := by
  rcases hb with (hb | ⟨o, hb⟩) | hb
  · exact .inl (.inl (x.at h hb (by intro _ z; cases z)))
  · exact .inl (.inr ⟨o, x.at h hb (by intro _ z; cases z)⟩)
  · exact .inr hb
theorem Exw.new {a p : Addr} {H H1 : Hp} {u : HO} (x : Exw a H H1) (h : H1 p = none) : Exw a H (upd H1 p u) := x.same (same_upd h)
theorem Exw.gone {a p : Addr} {H H1 : Hp} (x : Exw a H H1) (ne : p ≠ a) (h : H1 p = none) : H p = none := by
  cases e : H p with
  | none => rfl
  | some o => rw [x _ _ ne e] at h; cases h
/-- an object that was new is stored anew -/
theorem Exw.put {a p : Addr} {H H1 : Hp} {u : HO} (x : Exw a H H1) (h : H p = none) : Exw a H (upd H1 p u) := fun b o n e => by
  rw [upd_ne (ne_of_none e h)]
  exact x b o n e
theorem rd_ix {K : PySem.W.Frag} {σ : L2.St} {H : Hp} {Q : VK} {a : Addr} {xs : List V} {v : V} {n : Nat} (k : Nat) (h0 : σ[n]? = some (some (.ref a))) (hS : SqL K H a xs) (hv : xs[k]? = some v) (q : Q v H) :
    tOp (rIxL K) (tVar n) (tC (.int (k : Int))) σ H Q := ⟨.ref a, h0, a, xs, k, v, rfl, rfl, hS, atI_nat hv, q⟩
theorem rd_set {H : Hp} {σ : L2.St} {a : Addr} {xs : List V} {v : V} {n : Nat} (k : Nat) {R : L2.St → Hp → Prop} (h0 : σ[n]? = some (some (.ref a))) (h : H a = some (.lst xs)) (hk : k < xs.length) (q : R σ (upd H a (.lst (xs.set k v)))) :
    gSub (tVar n) (tC (.int (k : Int))) rSetL v σ H R := ⟨.ref a, h0, a, xs, k, k, rfl, rfl, h, by unfold ixN; rw [if_pos (by omega), if_pos (by omega)]; simp, q⟩
theorem cut63 {xs : List V} (h : xs.length ≤ 63) : cutV xs none (some 63) = xs := by
  unfold cutV
  rw [show HT.sIx xs.length xs.length (some 63) = min 63 xs.length from HT.sIx_nat xs.length xs.length 63, HT.sIx_none, List.drop_zero, Nat.sub_zero]
  exact List.take_of_length_le (by omega)
def absI (n : Int) : Int := if n < 0 then -n else n
section
variable {P : Program} {w : World} {K : PySem.W.Frag} {mg : Str → Option Value} {base : Heap}
/-! _law_hand -/
def spHand (K : PySem.W.Frag) : Sp := fun vs H Q _ => ∃ (a : Addr) (ns : List Int), vs = [.ref a] ∧ SqL K H a (ns.map V.int) ∧ ns.length ≤ 63 ∧ ∀ H' p c, Same H H' → H p = none → Wl p c H' → Q (.ref p) H'
theorem ok_hand (T : Blt mg) (d : Dnhand K mg) : FnOk P w K mg base CX0 1 d.f d.fd ["_law_script"] (spHand K) := by
  refine d.F.ok schand (fun vs H Q E h => ?_) (fun cdv A outer s H vs Q E hr h => ?_)
  · obtain ⟨a, ns, rfl, _⟩ := h
    rfl
  · obtain ⟨a, ns, rfl, hS, hl, q⟩ := h
    refine ⟨_, (pss_cons (ps_setLc (i := 1) (own := [("_law_cell", 2)]) (g := gName 2) (tt := tYes) rfl schand.nd rfl rfl (sw_true rfl rfl rfl (by decide +kernel)) (pi_list (pe_slice sl_list (pv 0) po_none (po_some pe_int))) (blkOk_by (N := Nhand) (sc := defScope shand) (by decide +kernel)) (fun _ _ _ _ _ => pg_name (i := 2) schand.nd rfl (Or.inl rfl)) (fun _ _ _ _ _ => pts_nil) (fun _ _ _ _ _ => (pe_callB call_abs (by rfl) T.n_abs (by decide +kernel) (pa_cons (pe_callTy call_int1 (by rfl) T.n_int (by decide +kernel) (pa_cons (pv 2) pa_nil)) pa_nil))))
    (pss_one (ps_ret (pe_lst (pa_cons (pv 1) (pa_cons pe_int (pa_cons pe_int (pa_cons (pe_op op_add pe_int (pe_callB call_len_seq (by rfl) T.n_len (by decide +kernel) (pa_cons (pv 1) pa_nil))) (pa_cons pe_int pa_nil))))))))), ?_⟩
    refine ⟨.ref a, rfl, 63, rfl, a, _, rfl, hS, fun p np => ?_⟩
    rw [cut63 (by rw [List.length_map]; exact hl)]
    have s1 : Same H (upd H p (.lst (ns.map V.int))) := same_upd np
    have hp1 : (upd H p (.lst (ns.map V.int))) p = some (.lst (ns.map V.int)) := upd_same
    generalize upd H p (.lst (ns.map V.int)) = H1 at s1 hp1 ⊢
    refine ⟨p, rfl, ⟨_, sql hp1⟩, fun D nD => lc_list (xs := ns.map V.int) (fun i H3 => Same H1 H3 ∧ H3 D = some (.lst ((ns.take i).map fun n => V.int (absI n)))) ⟨same_upd nD, upd_same⟩ (fun i H3 _ h3 => sql (h3.1 _ _ hp1)) (fun i x H3 hx h3 => ?_) (fun H3 h3 => ?_)⟩
    · obtain ⟨n, hn, rfl⟩ := map_at hx
      refine ⟨rfl, .int n, rfl, .inl ⟨n, rfl, n, rfl, _, h3.2, ?_, fun b o z => ?_, ?_⟩⟩
      · rw [List.length_map, List.length_take, sizeLine_eq]
        omega
      · rw [upd_ne (ne_of_none z nD)]
        exact h3.1 b o z
      · rw [upd_same, List.take_add_one, hn, List.map_append]
        rfl
    · obtain ⟨s3, hD⟩ := h3
      rw [List.length_map, List.take_length] at hD
      have nD0 : H D = none := Same.gone s1 nD
      refine ⟨.ref D, rfl, .ref D, rfl, D, _, rfl, .inl (sql hD), _, _, rfl, rfl, (by show 5 ≤ sizeLine; decide), fun l nl => ?_⟩
      have s4 : Same H3 (upd H3 l (.lst [.ref D, .int 0, .int 0, .int (1 + (((ns.map fun n => V.int (absI n)).length : Nat) : Int)), .int 0])) := same_upd nl
      have lD : l ≠ D := (ne_of_none hD nl).symm
      have s03 : Same H H3 := fun b o e => s3 _ _ (s1 _ _ e)
      refine q _ l D (fun b o e => s4 _ _ (s03 _ _ e)) (Same.gone s03 nl) ⟨lD, ns.map absI, 0, 0, _, 0, upd_same, ?_, fun n hn => ?_, Int.le_refl _⟩
      · rw [List.map_map]
        exact s4 _ _ hD
      · obtain ⟨m, _, rfl⟩ := List.mem_map.mp hn
        unfold absI
        split <;> omega
/-! _law_draw -/
def spDraw : Sp := fun vs H Q _ => ∃ (a c : Addr) (n : Int), vs = [.ref a, .int n] ∧ Wl a c H ∧ 0 < n ∧ n < 1073741824 ∧ ∀ H' (r : Int), Exw a H H' → Wl a c H' → 0 ≤ r → r < n → Q (.int r) H'
theorem ok_draw (T : Blt mg) (d : Dndraw K mg) : FnOk P w K mg base CX0 1 d.f d.fd ["_law_hand_here", "_law_many"] spDraw := by
  refine d.F.ok scdraw (fun vs H Q E h => ?_) (fun cdv A outer s H vs Q E hr h => ?_)
  · obtain ⟨a, c, n, rfl, _⟩ := h
    rfl
  · obtain ⟨a, c, n, rfl, hw, hn0, hn1, q⟩ := h
    refine ⟨_, (C8.pss_cut (ps_if (PW.pt (pw_and (pt_cmpR op_eq (pe_ix ix_list (pv 0) pe_int (fun _ _ => rfl)) pe_int (nomark _)) (pw_and1 (pt_cmpR op_lt (pe_ix ix_list (pv 0) pe_int (fun _ _ => rfl)) (pe_callB call_len_seq (by rfl) T.n_len (by decide +kernel) (pa_cons (pe_ix ix_list (pv 0) pe_int (fun _ _ => rfl)) pa_nil)) (nomark _)))))
      (pss_cons (ps_set (i := 2) scdraw.nd rfl (Or.inl rfl) (pe_ix ix_list (pe_ix ix_list (pv 0) pe_int (fun _ _ => rfl)) (pe_ix ix_list (pv 0) pe_int (fun _ _ => rfl)) (fun _ _ => rfl)))
      (pss_cons (ps_asg (pe_op op_add (pe_ix ix_list (pv 0) pe_int (fun _ _ => rfl)) pe_int) (pg_sub (pv 0) pe_int set_list))
      (pss_cons (ps_asg (pe_op op_mod (pe_callTy call_int1 (by rfl) T.n_int (by decide +kernel) (pa_cons (pe_op op_add (pe_op op_add (pe_op op_mul (pe_ix ix_list (pv 0) pe_int (fun _ _ => rfl)) pe_int) (pv 2)) pe_int) pa_nil)) pe_int) (pg_sub (pv 0) pe_int set_list))
      (pss_one (ps_if (pt_cmpR op_ge (pv 2) (pe_op op_pow pe_int pe_int) (nomark _))
        (pss_one (ps_asg (pv 2) (pg_sub (pv 0) pe_int set_list)))
        pss_nil)))))
      pss_nil)
    (pss_cons (ps_if (pt_cmpR op_gt (pe_ix ix_list (pv 0) pe_int (fun _ _ => rfl)) pe_int (nomark _))
      (pss_cons (ps_set (i := 3) scdraw.nd rfl (Or.inl rfl) (pe_op op_modB (pe_callTy call_int1 (by rfl) T.n_int (by decide +kernel) (pa_cons (pe_ix ix_list (pv 0) pe_int (fun _ _ => rfl)) pa_nil)) (pv 1)))
      (pss_cons (ps_asg (pe_op op_fdiv (pe_ix ix_list (pv 0) pe_int (fun _ _ => rfl)) (pv 1)) (pg_sub (pv 0) pe_int set_list))
      (pss_one (ps_ret (pv 3)))))
      pss_nil)
    (pss_cons (ps_asg (pe_op op_add (pe_ix ix_list (pv 0) pe_int (fun _ _ => rfl)) pe_int) (pg_sub (pv 0) pe_int set_list))
    (pss_cons (ps_set (i := 4) scdraw.nd rfl (Or.inl rfl) (pe_op op_modB (pe_callTy call_int1 (by rfl) T.n_int (by decide +kernel) (pa_cons (pe_op op_mul (pe_callTy call_int1 (by rfl) T.n_int (by decide +kernel) (pa_cons (pe_op op_add (pe_ix ix_list (pv 0) pe_int (fun _ _ => rfl)) (pe_op op_mul pe_int (pe_ix ix_list (pv 0) pe_int (fun _ _ => rfl)))) pa_nil)) pe_int) pa_nil)) pe_int))
    (pss_cons (ps_set (i := 4) scdraw.nd rfl (Or.inl rfl) (pe_op op_modB (pe_callTy call_int1 (by rfl) T.n_int (by decide +kernel) (pa_cons (pe_op op_mul (pv 4) (pe_op op_add (pe_op op_fdiv (pv 4) pe_int) pe_int)) pa_nil)) pe_int))
    (pss_cons (ps_set (i := 4) scdraw.nd rfl (Or.inl rfl) (pe_op op_modB (pe_callTy call_int1 (by rfl) T.n_int (by decide +kernel) (pa_cons (pe_op op_mul (pv 4) (pe_op op_add (pe_op op_fdiv (pv 4) pe_int) pe_int)) pa_nil)) pe_int))
    (pss_one (ps_ret (pe_op op_modB (pe_callTy call_int1 (by rfl) T.n_int (by decide +kernel) (pa_cons (pe_op op_fdiv (pv 4) pe_int) pa_nil)) (pv 1)))))))))), ?_⟩
    refine ⟨fun σ H3 => ∃ y2, σ = [some (.ref a), some (.int n), y2, none, none] ∧ Exw a H H3 ∧ Wl a c H3, ?_, ?_⟩
    · obtain ⟨nac, ns, i, u, s, t, ea, ec, nn, u0⟩ := id hw
      refine rd_ix 2 rfl (sql ea) rfl ⟨rfl, _, rfl, ite2 (fun hu => ?_) fun _ => ⟨_, rfl, Exw.refl a H, hw⟩⟩
      refine rd_ix 1 rfl (sql ea) rfl (rd_ix 0 rfl (sql ea) rfl ⟨c, _, rfl, .inl (sql ec), _, _, rfl, rfl, _, rfl, ite2 (fun hi => ?_) fun _ => ⟨_, rfl, Exw.refl a H, hw⟩⟩)
      have hi : (i : Int) < ((ns.map V.int).length : Int) := of_decide_eq_true hi
      rw [List.length_map] at hi
      have hi : i < ns.length := by omega
      refine rd_ix 0 rfl (sql ea) rfl (rd_ix 1 rfl (sql ea) rfl ⟨c, _, _, .int ns[i], rfl, rfl, sql ec, atI_nat (j := i) (by simp [hi]), ?_⟩)
      have hcell : 0 ≤ ns[i] := nn _ (List.getElem_mem hi)
      refine rd_ix 1 rfl (sql ea) rfl ⟨_, _, rfl, rfl, rd_set 1 rfl ea (by decide : 1 < 5) ?_⟩
      have ea1 : (upd H a (.lst [.ref c, .int ((i : Int) + 1), .int u, .int s, .int t])) a = some (.lst [.ref c, .int ((i + 1 : Nat) : Int), .int u, .int s, .int t]) := upd_same
      have ec1 : (upd H a (.lst [.ref c, .int ((i : Int) + 1), .int u, .int s, .int t])) c = some (.lst (ns.map V.int)) := by rw [upd_ne nac.symm]; exact ec
      have x1 : Exw a H (upd H a (.lst [.ref c, .int ((i : Int) + 1), .int u, .int s, .int t])) := (Exw.refl a H).up
      show tSeq _ _ _ _ (upd H a (.lst [.ref c, .int ((i : Int) + 1), .int u, .int s, .int t]))
      generalize upd H a (.lst [.ref c, .int ((i : Int) + 1), .int u, .int s, .int t]) = H1 at ea1 ec1 x1 ⊢
      refine rd_ix 3 rfl (sql ea1) rfl ⟨_, _, rfl, rfl, cmulR (by decide) (by decide), .int ns[i], rfl, _, _, rfl, rfl, _, _, rfl, rfl, .inl ⟨_, rfl, _, _, rfl, rfl, (by show (0 : Int) < 2147483629; decide), rd_set 3 rfl ea1 (by decide : 3 < 5) ?_⟩⟩
      dsimp only
      generalize (s * 69621 + ns[i] + 11) % 2147483629 = s2
      have ea2 : (upd H1 a (.lst ([V.ref c, .int ((i + 1 : Nat) : Int), .int u, .int s, .int t].set 3 (.int s2)))) a = some (.lst [.ref c, .int ((i + 1 : Nat) : Int), .int u, .int s2, .int t]) := upd_same
      have ec2 : (upd H1 a (.lst ([V.ref c, .int ((i + 1 : Nat) : Int), .int u, .int s, .int t].set 3 (.int s2)))) c = some (.lst (ns.map V.int)) := by rw [upd_ne nac.symm]; exact ec1
      have x2 : Exw a H (upd H1 a (.lst ([V.ref c, .int ((i + 1 : Nat) : Int), .int u, .int s, .int t].set 3 (.int s2)))) := x1.up
      generalize upd H1 a (.lst ([V.ref c, .int ((i + 1 : Nat) : Int), .int u, .int s, .int t].set 3 (.int s2))) = H2 at ea2 ec2 x2 ⊢
      refine ⟨.int ns[i], rfl, _, _, rfl, rfl, ⟨by decide, by decide, by decide⟩, _, _, rfl, rfl, _, rfl, ite2 (fun _ => ?_) fun _ => ⟨_, rfl, x2, nac, ns, i + 1, u, s2, t, ea2, ec2, nn, u0⟩⟩
      refine ⟨.int ns[i], rfl, rd_set 2 rfl ea2 (by decide : 2 < 5) ⟨_, rfl, x2.up, nac, ns, i + 1, ns[i], s2, t, upd_same, by rw [upd_ne nac.symm]; exact ec2, nn, hcell⟩⟩
    · rintro σ H3 ⟨y2, rfl, x3, nac, ns, i, u, s, t, ea, ec, nn, u0⟩
      refine rd_ix 2 rfl (sql ea) rfl ⟨_, _, rfl, rfl, _, rfl, ite2 (fun _ => ?_) fun _ => ?_⟩
      · refine rd_ix 2 rfl (sql ea) rfl (.inl ⟨_, rfl, .int n, rfl, _, _, rfl, rfl, hn0, fun r r0 r1 _ => ?_⟩)
        refine rd_ix 2 rfl (sql ea) rfl ⟨.int n, rfl, _, _, rfl, rfl, ⟨hn0, hn1⟩, rd_set 2 rfl ea (by decide : 2 < 5) ⟨.int r, rfl, ?_⟩⟩
        exact q _ r x3.up ⟨nac, ns, i, u / n, s, t, upd_same, by rw [upd_ne nac.symm]; exact ec, nn, Int.ediv_nonneg u0 (by omega)⟩ r0 r1
      · refine rd_ix 4 rfl (sql ea) rfl ⟨_, _, rfl, rfl, rd_set 4 rfl ea (by decide : 4 < 5) ?_⟩
        have ea1 : (upd H3 a (.lst [.ref c, .int (i : Int), .int u, .int s, .int (t + 1)])) a = some (.lst [.ref c, .int (i : Int), .int u, .int s, .int (t + 1)]) := upd_same
        have w1 : Wl a c (upd H3 a (.lst [.ref c, .int (i : Int), .int u, .int s, .int (t + 1)])) := ⟨nac, ns, i, u, s, t + 1, upd_same, by rw [upd_ne nac.symm]; exact ec, nn, u0⟩
        have x4 : Exw a H (upd H3 a (.lst [.ref c, .int (i : Int), .int u, .int s, .int (t + 1)])) := x3.up
        show tSeq _ _ _ _ (upd H3 a (.lst [.ref c, .int (i : Int), .int u, .int s, .int (t + 1)]))
        generalize upd H3 a (.lst [.ref c, .int (i : Int), .int u, .int s, .int (t + 1)]) = H4 at ea1 w1 x4 ⊢
        refine rd_ix 3 rfl (sql ea1) rfl (rd_ix 4 rfl (sql ea1) rfl ⟨_, _, rfl, rfl, cmulL (by decide) (by decide), _, _, rfl, rfl, .inl ⟨_, rfl, _, _, rfl, rfl, cmulR (by decide) (by decide), .inl ⟨_, rfl, _, _, rfl, rfl, (by show (0 : Int) < 2147483647; decide), fun x1 a0 a1 _ => ?_⟩⟩⟩)
        refine ⟨.int x1, rfl, .int x1, rfl, _, _, rfl, rfl, ⟨by decide, by decide⟩, _, _, rfl, rfl, _, _, rfl, rfl, cmulL a0 (by omega), .inl ⟨_, rfl, _, _, rfl, rfl, (by show (0 : Int) < 2147483647; decide), fun x2 b0 b1 _ => ?_⟩⟩
        refine ⟨.int x2, rfl, .int x2, rfl, _, _, rfl, rfl, ⟨by decide, by decide⟩, _, _, rfl, rfl, _, _, rfl, rfl, cmulL b0 (by omega), .inl ⟨_, rfl, _, _, rfl, rfl, (by show (0 : Int) < 2147483399; decide), fun x3 c0 c1 _ => ?_⟩⟩
        refine ⟨.int x3, rfl, _, _, rfl, rfl, ⟨by decide, by decide⟩, .inl ⟨_, rfl, .int n, rfl, _, _, rfl, rfl, hn0, fun r r0 r1 _ => ?_⟩⟩
        exact q H4 r x4 w1 r0 r1
/-! _law_any -/
def spAny : Sp := fun vs H Q _ => ∃ (a c l : Addr) (xs : List V), vs = [.ref a, .ref l] ∧ Wl a c H ∧ l ≠ a ∧ H l = some (.lst xs) ∧ 0 < xs.length ∧ xs.length ≤ 100000 ∧ ∀ H' x, Exw a H H' → Wl a c H' → x ∈ xs → Q x H'
theorem ok_any (T : Blt mg) (ddraw : Dndraw K mg) (d : Dnany K mg) : FnOk P w K mg base CX0 2 d.f d.fd ["_law_hand_here", "_law_things"] spAny := by
  have Gdraw : FnOk P w K mg base CX0 1 ddraw.f ddraw.fd ["_law_hand_here", "_law_many"] spDraw := ok_draw T ddraw
  refine d.F.ok scany (fun vs H Q E h => ?_) (fun cdv A outer s H vs Q E hr h => ?_)
  · obtain ⟨a, c, l, xs, rfl, _⟩ := h
    rfl
  · obtain ⟨a, c, l, xs, rfl, hw, la, hl, h0, h1, q⟩ := h
    refine ⟨_, (pss_one (ps_ret (pe_ix ix_list (pv 1) (pe_call Gdraw (hr.mono (by omega)) (by rfl) ddraw.g ddraw.F.kp ddraw.b .nil pass0 (pa_cons (pv 0) (pa_cons (pe_callB call_len_seq (by rfl) T.n_len (by decide +kernel) (pa_cons (pv 1) pa_nil)) pa_nil))) (fun _ _ => rfl)))), ?_⟩
    refine ⟨.ref l, rfl, .ref a, rfl, .ref l, rfl, l, _, rfl, .inl (sql hl), a, c, (xs.length : Int), rfl, hw, by omega, by omega, fun H1 k x1 w1 k0 k1 => ?_⟩
    obtain ⟨kn, rfl⟩ := Int.eq_ofNat_of_zero_le k0
    have hk : kn < xs.length := by omega
    exact ⟨l, _, _, _, rfl, rfl, sql (x1 _ _ la hl), atI_nat (j := kn) (List.getElem?_eq_getElem hk), q H1 _ x1 w1 (List.getElem_mem hk)⟩
end
end Kb

namespace L2
open PySem PySem.Spec PyProof.Rows
section
variable {X : Cx}
/-- 'text' * n -/
theorem op_times : OpR X (binaryOp .Mult) (fun x y H Q => ∃ z k, x = .str z ∧ y = .int k ∧ z.length ≤ 16 ∧ 0 ≤ k ∧ k ≤ 100000 ∧ Q (.str (Txt.mul z k)) H) := by
  intro pins s σ H x y v u Q I rx ry h
  obtain ⟨z, k, ex, ey, hz, h0, h1, q⟩ := h
  subst ex ey
  obtain ⟨tz, ez⟩ := rx
  obtain ⟨tk, ek⟩ := ry
  subst ez ek
  exact SB.mul (mulOk_of 16 100000 hz (by omega) (by omega) (by decide) (by decide)) fun t' j => ⟨.str _, H, I.tok j, ⟨_, rfl⟩, q⟩
end
theorem mul_zero' (z : Str) : Txt.mul z 0 = Str.empty := by
  unfold Txt.mul
  rw [if_pos (by decide)]
theorem mul_one' (z : Str) : Txt.mul z 1 = z := by
  unfold Txt.mul
  rw [if_neg (by decide), if_pos (by rfl)]
end L2

namespace Kb
open PySem PySem.Spec PyProof.Rows L2 SrtZ SrtO
abbrev spool : Stmt := topS 43
abbrev Npool : List Str := ["_law_hand_here", "_law_many", "_law_letters", "_law_first", "_law_k"]
theorem scpool : FnScope ["_law_hand_here", "_law_many", "_law_letters", "_law_first", "_law_k"] ["_law_hand_here", "_law_many"] (defScope spool) := ⟨rfl, rfl, rfl, by decide +kernel, rfl, by decide +kernel, by decide +kernel⟩
abbrev Dnpool (K : PySem.W.Frag) (mg : Str → Option Value) := Dn K mg "_law_pool" spool ["_law_hand_here", "_law_many"]
def S (l : List Nat) : Str := ⟨l.toArray⟩
theorem cs_S (l : List Nat) : cs (S l) = l := by simp [cs, S]
theorem cs_app (a b : Str) : cs (a ++ b) = cs a ++ cs b := by
  show ((a.cps ++ b.cps).toList) = _
  rw [Array.toList_append]
  rfl
theorem len_app (a b : Str) : (a ++ b).length = a.length + b.length := by
  rw [← cs_len, ← cs_len, ← cs_len, cs_app, List.length_append]
theorem abc_at : ∀ m : Fin 26, (Str.ofString "abcdefghijklmnopqrstuvwxyz").cps.toList[m.val]? = some (97 + m.val) := by decide +kernel
/-- a name of a pool -/
def pnm (P : List Nat) (k : Nat) : Str := S (P ++ [97 + k % 26] ++ if 25 < k then [97 + (k / 26 - 1)] else [])
theorem pnm_cs (P : List Nat) (k : Nat) : cs (pnm P k) = P ++ [97 + k % 26] ++ if 25 < k then [97 + (k / 26 - 1)] else [] := cs_S _
theorem pnm_inj {P : List Nat} {j k : Nat} (h : pnm P j = pnm P k) : j = k := by
  have h2 := congrArg cs h
  rw [pnm_cs, pnm_cs, List.append_assoc, List.append_assoc] at h2
  have h3 := List.append_cancel_left h2
  injection h3 with h4 h5
  by_cases hj : 25 < j
  · by_cases hk : 25 < k
    · rw [if_pos hj, if_pos hk] at h5
      injection h5 with h5
      omega
    · rw [if_pos hj, if_neg hk] at h5
      cases h5
  · by_cases hk : 25 < k
    · rw [if_neg hj, if_pos hk] at h5
      cases h5
    · omega
structure Pre (P : List Nat) : Prop where
  len : P.length ≤ 2
  abc : ∀ c ∈ P, 97 ≤ c ∧ c ≤ 122
  is : P = [] ∨ P = [113] ∨ P = [122, 121]
theorem nmC_of {c : Nat} (h1 : 97 ≤ c) (h2 : c ≤ 122) : nmC c = true := by
  unfold nmC
  rw [show decide (c < 97) = false from decide_eq_false (by omega), show decide (122 < c) = false from decide_eq_false (by omega)]
  rfl
theorem nm_of {z : Str} {l : List Nat} (e : cs z = l) (h1 : 1 ≤ l.length) (h8 : l.length ≤ 8) (h : ∀ c ∈ l, 97 ≤ c ∧ c ≤ 122) : Nm z := by
  have hl : z.length = l.length := by rw [← cs_len, e]
  refine ⟨by omega, by omega, fun c hc => ?_⟩
  rw [e] at hc
  exact nmC_of (h c hc).1 (h c hc).2
theorem pnm_abc {P : List Nat} {k : Nat} (hP : Pre P) (hk : k < 702) : ∀ c ∈ cs (pnm P k), 97 ≤ c ∧ c ≤ 122 := fun c hc => by
  rw [pnm_cs] at hc
  rcases List.mem_append.mp hc with hc | hc
  · rcases List.mem_append.mp hc with hc | hc
    · exact hP.abc c hc
    · rw [List.mem_singleton.mp hc]
      omega
  · by_cases h : 25 < k
    · rw [if_pos h] at hc
      rw [List.mem_singleton.mp hc]
      omega
    · rw [if_neg h] at hc
      cases hc
theorem pnm_len {P : List Nat} {k : Nat} (hP : Pre P) : 1 ≤ (cs (pnm P k)).length ∧ (cs (pnm P k)).length ≤ 4 := by
  rw [pnm_cs, List.length_append, List.length_append]
  have := hP.len
  split <;> simp <;> omega
theorem pnm_nm {P : List Nat} {k : Nat} (hP : Pre P) (hk : k < 702) : Nm (pnm P k) := by
  have := pnm_len (k := k) hP
  exact nm_of rfl this.1 (by omega) (pnm_abc hP hk)
def poolL (P : List Nat) (n : Nat) : List Str := (List.range n).map (pnm P)
theorem poolL_nd (P : List Nat) (n : Nat) : (poolL P n).Nodup := by
  unfold poolL
  rw [List.Nodup, List.pairwise_map]
  exact (List.nodup_range (n := n)).imp fun {a b} h e => h (pnm_inj e)
theorem poolL_nm {P : List Nat} {n : Nat} (hP : Pre P) (hn : n ≤ 702) {z : Str} (h : z ∈ poolL P n) : Nm z := by
  obtain ⟨k, hk, rfl⟩ := List.mem_map.mp h
  have := List.mem_range.mp hk
  exact pnm_nm hP (by omega)
section
variable {P : Program} {w : World} {K : PySem.W.Frag} {mg : Str → Option Value} {base : Heap}
/-! _law_pool -/
def spPool : Sp := fun vs H Q _ => ∃ (a c : Addr) (n : Nat), vs = [.ref a, .int (n : Int)] ∧ Wl a c H ∧ n ≤ 702 ∧ ∀ H' p (P : List Nat), Exw a H H' → Wl a c H' → H p = none → p ≠ a → p ≠ c → H' p = some (.lst ((poolL P n).map V.str)) → Pre P → Q (.ref p) H'
theorem ok_pool (T : Blt mg) (ddraw : Dndraw K mg) (dany : Dnany K mg) (d : Dnpool K mg) : FnOk P w K mg base CX0 3 d.f d.fd ["_law_hand_here", "_law_many"] spPool := by
  have Gany : FnOk P w K mg base CX0 2 dany.f dany.fd ["_law_hand_here", "_law_things"] spAny := ok_any T ddraw dany
  refine d.F.ok scpool (fun vs H Q E h => ?_) (fun cdv A outer s H vs Q E hr h => ?_)
  · obtain ⟨a, c, n, rfl, _⟩ := h
    rfl
  · obtain ⟨a, c, n, rfl, hw, hn, q⟩ := h
    refine ⟨_, (pss_cons (ps_set (i := 2) scpool.nd rfl (Or.inr rfl) pe_str)
    (pss_cons (ps_set (i := 3) scpool.nd rfl (Or.inr rfl) (pe_call Gany (hr.mono (by omega)) (by rfl) dany.g dany.F.kp dany.b .nil pass0 (pa_cons (pv 0) (pa_cons (pe_lst (pa_cons pe_str (pa_cons pe_str (pa_cons pe_str (pa_cons pe_str pa_nil))))) pa_nil))))
    (pss_one (ps_ret (pe_lc (own := [("_law_k", 4)]) (g := gName 4) (tt := tYes) rfl scpool.nd (pi_range1 (by rfl) T.n_range (pa_cons (pv 1) pa_nil)) (blkOk_by (N := Npool) (sc := defScope spool) (by decide +kernel)) (fun _ _ _ _ _ => pg_name (i := 4) scpool.nd rfl (Or.inl rfl)) (fun _ _ _ _ _ => pts_nil) (fun _ _ _ _ _ => (pe_op op_add_str (pe_op op_add_str (pv 3) (pe_ix ix_str (pv 2) (pe_op op_mod (pv 4) pe_int) (fun _ _ => rfl))) (pe_op op_times (pe_ix ix_str (pv 2) (pe_op op_sub (pe_op op_fdiv (pv 4) pe_int) pe_int) (fun _ _ => rfl)) (pe_callTy call_int1 (by rfl) T.n_int (show bootBuiltins (Str.ofString "int") = some (Value.type "int") by decide +kernel) (pa_cons (pe_cmpR op_gt (pv 4) pe_int (nomark _)) pa_nil)))))))))), ?_⟩
    refine ⟨.ref a, rfl, (by show 4 ≤ sizeLine; decide), fun l nl => ?_⟩
    have lw := hw.ne2 nl
    have hl : (upd H l (.lst [.str (Str.ofString ""), .str (Str.ofString ""), .str (Str.ofString "q"), .str (Str.ofString "zy")])) l = some (.lst [.str (Str.ofString ""), .str (Str.ofString ""), .str (Str.ofString "q"), .str (Str.ofString "zy")]) := upd_same
    refine ⟨a, c, l, _, rfl, hw.same (same_upd nl), lw.1, hl, (by show 0 < 4; decide), (by show 4 ≤ 100000; decide), fun H1 x x1 w1 hx => ?_⟩
    obtain ⟨z, P, rfl, hz, hP⟩ : ∃ (z : Str) (P : List Nat), x = .str z ∧ cs z = P ∧ Pre P := by
      have e0 : cs (Str.ofString "") = [] := by decide +kernel
      have e1 : cs (Str.ofString "q") = [113] := by decide +kernel
      have e2 : cs (Str.ofString "zy") = [122, 121] := by decide +kernel
      have p0 : Pre [] := ⟨by decide, (fun _ h => nomatch h), .inl rfl⟩
      have p1 : Pre [113] := ⟨by decide, (fun c hc => by rw [List.mem_singleton.mp hc]; decide), .inr (.inl rfl)⟩
      have p2 : Pre [122, 121] := ⟨by decide, (fun c hc => by
        rcases List.mem_cons.mp hc with rfl | hc
        · decide
        · rw [List.mem_singleton.mp hc]; decide), .inr (.inr rfl)⟩
      rcases List.mem_cons.mp hx with rfl | hx
      · exact ⟨_, _, rfl, e0, p0⟩
      · rcases List.mem_cons.mp hx with rfl | hx
        · exact ⟨_, _, rfl, e0, p0⟩
        · rcases List.mem_cons.mp hx with rfl | hx
          · exact ⟨_, _, rfl, e1, p1⟩
          · rw [List.mem_singleton.mp hx]
            exact ⟨_, _, rfl, e2, p2⟩
    have x01 : Exw a H H1 := fun b o n e => x1 b o n (same_upd nl _ _ e)
    refine ⟨.int (n : Int), rfl, (n : Int), rfl, by omega, by omega, fun D nD => ?_⟩
    rw [Int.toNat_natCast]
    have Dw := w1.ne2 nD
    have nD0 : H D = none := x01.gone Dw.1 nD
    have hzl : (Str.ofString "abcdefghijklmnopqrstuvwxyz").length ≤ sizeLine := by
      rw [show (Str.ofString "abcdefghijklmnopqrstuvwxyz").length = 26 by decide +kernel, sizeLine_eq]
      decide
    have hz2 : z.length ≤ 2 := by
      rw [← cs_len, hz]
      exact hP.len
    refine lc_range (lo := 0) (n := n) (fun i H3 => Same H1 H3 ∧ H3 D = some (.lst ((poolL P i).map V.str))) ⟨same_upd nD, upd_same⟩ (fun i H3 hi h3 => ?_) (fun H3 h3 => ?_)
    · obtain ⟨s3, hD⟩ := h3
      have e0 : ((0 : Int) + (i : Int)) % 26 = ((i % 26 : Nat) : Int) := by omega
      have a1 : atI (Str.ofString "abcdefghijklmnopqrstuvwxyz").cps.toList (((0 : Int) + (i : Int)) % 26) = some (97 + i % 26) := by
        rw [e0]
        exact atI_nat (abc_at ⟨i % 26, Nat.mod_lt _ (by decide)⟩)
      refine ⟨rfl, .str z, rfl, _, rfl, .int (0 + (i : Int)), rfl, _, _, rfl, rfl, (by show (0 : Int) < 26; decide), _, _, _, rfl, rfl, hzl, a1, _, _, rfl, rfl, (by rw [sizeLine_eq]; show z.length + 1 ≤ _; omega), ?_⟩
      refine ⟨_, rfl, .int (0 + (i : Int)), rfl, _, _, rfl, rfl, ⟨by decide, by decide⟩, _, _, rfl, rfl, ?_⟩
      dsimp only
      by_cases h25 : 25 < i
      · have e1 : ((0 : Int) + (i : Int)) / 26 - 1 = ((i / 26 - 1 : Nat) : Int) := by omega
        have a2 : atI (Str.ofString "abcdefghijklmnopqrstuvwxyz").cps.toList (((0 : Int) + (i : Int)) / 26 - 1) = some (97 + (i / 26 - 1)) := by
          rw [e1]
          exact atI_nat (abc_at ⟨i / 26 - 1, by omega⟩)
        refine ⟨_, _, _, rfl, rfl, hzl, a2, .int (0 + (i : Int)), rfl, _, _, rfl, rfl, .inr ⟨_, rfl, _, _, rfl, rfl, (by show 1 ≤ 16; decide), ?_, ?_, ?_⟩⟩
        · split <;> decide
        · split <;> decide
        rw [show (decide ((25 : Int) < 0 + (i : Int))) = true from decide_eq_true (by omega), if_pos rfl, mul_one']
        refine ⟨_, _, rfl, rfl, by rw [sizeLine_eq, len_app]; show (z.length + 1) + 1 ≤ _; omega, _, hD, by rw [List.length_map]; unfold poolL; rw [List.length_map, List.length_range, sizeLine_eq]; omega, Same.put s3 nD, ?_⟩
        have hv : (z ++ (⟨#[97 + i % 26]⟩ : Str)) ++ (⟨#[97 + (i / 26 - 1)]⟩ : Str) = pnm P i := by
          refine cs_inj ?_
          rw [cs_app, cs_app, hz, pnm_cs, if_pos h25]
          rfl
        rw [hv, upd_same]
        unfold poolL
        rw [List.range_succ, List.map_append, List.map_append]
        rfl
      · have a2 : atI (Str.ofString "abcdefghijklmnopqrstuvwxyz").cps.toList (((0 : Int) + (i : Int)) / 26 - 1) = some 122 := by
          rw [show ((0 : Int) + (i : Int)) / 26 - 1 = -1 by omega]
          decide +kernel
        refine ⟨_, _, _, rfl, rfl, hzl, a2, .int (0 + (i : Int)), rfl, _, _, rfl, rfl, .inr ⟨_, rfl, _, _, rfl, rfl, (by show 1 ≤ 16; decide), ?_, ?_, ?_⟩⟩
        · split <;> decide
        · split <;> decide
        rw [show (decide ((25 : Int) < 0 + (i : Int))) = false from decide_eq_false (by omega), if_neg (by decide), mul_zero']
        refine ⟨_, _, rfl, rfl, by rw [sizeLine_eq, len_app]; show (z.length + 1) + 0 ≤ _; omega, _, hD, by rw [List.length_map]; unfold poolL; rw [List.length_map, List.length_range, sizeLine_eq]; omega, Same.put s3 nD, ?_⟩
        have hv : (z ++ (⟨#[97 + i % 26]⟩ : Str)) ++ Str.empty = pnm P i := by
          refine cs_inj ?_
          rw [cs_app, cs_app, hz, pnm_cs, if_neg h25]
          rfl
        rw [hv, upd_same]
        unfold poolL
        rw [List.range_succ, List.map_append, List.map_append]
        rfl
    · obtain ⟨s3, hD⟩ := h3
      exact q H3 D P (x01.same s3) (w1.same s3) nD0 Dw.1 Dw.2 hD hP
end
end Kb

namespace Kb
open PySem PySem.Spec PyProof.Rows L2 SrtZ SrtO
abbrev sfed : Stmt := topS 44
abbrev Nfed : List Str := ["_law_sketch_here", "_law_name", "_law_room", "_law_many", "_law_off", "_law_kept", "_law_counts", "_law_left", "_law_other", "_law_count"]
theorem scfed : FnScope ["_law_sketch_here", "_law_name", "_law_room", "_law_many", "_law_off", "_law_kept", "_law_counts", "_law_left", "_law_other", "_law_count"] ["_law_sketch_here", "_law_name"] (defScope sfed) := ⟨rfl, rfl, rfl, by decide +kernel, rfl, by decide +kernel, by decide +kernel⟩
abbrev spoured : Stmt := topS 45
abbrev Npoured : List Str := ["_law_one", "_law_other", "_law_counts", "_law_falling", "_law_taken", "_law_left", "_law_name", "_law_count"]
theorem scpoured : FnScope ["_law_one", "_law_other", "_law_counts", "_law_falling", "_law_taken", "_law_left", "_law_name", "_law_count"] ["_law_one", "_law_other"] (defScope spoured) := ⟨rfl, rfl, rfl, by decide +kernel, rfl, by decide +kernel, by decide +kernel⟩
abbrev Dnfed (K : PySem.W.Frag) (mg : Str → Option Value) := Dn K mg "_law_fed" sfed ["_law_sketch_here", "_law_name"]
abbrev Dnpoured (K : PySem.W.Frag) (mg : Str → Option Value) := Dn K mg "_law_poured" spoured ["_law_one", "_law_other"]
theorem takeZ_asc {a : Int} {kvs : Ct} (h : Asc kvs) : Asc (takeZ a kvs) := by
  unfold Asc takeZ
  rw [List.pairwise_map]
  exact List.Pairwise.filter _ h
theorem srtZ_self {kvs : Ct} (h : Asc kvs) (nd : NdZ kvs) : srtZ kvs = kvs := (srtZ_of h (List.Perm.refl _) nd).symm
theorem srtZ_nd {kvs : Ct} (nd : NdZ kvs) : NdZ (srtZ kvs) := ((srtZ_perm kvs).map (·.1)).nodup_iff.mpr nd
theorem prt_same {H H' : Hp} {ts : List Addr} {ys : Ct} (h : Paired (PrT H) ts ys) (s : Same H H') : Paired (PrT H') ts ys := paired_imp (fun _ _ k => s _ _ k) h
/-- a sketch on the heap, made anew -/
theorem SkAt.mk {H H1 : Hp} {s k : Addr} {r m o : Int} {kvs : Ct} {ts : List Addr} (h1 : H s = some (.tup [.int r, .int m, .int o, .ref k])) (h2 : Ptp H k (ts.map V.ref)) (h3 : Paired (PrT H) ts (srtZ kvs)) : SkAt H s r ⟨m, o, kvs⟩ := ⟨k, ts, h1, h2, h3⟩
section
variable {P : Program} {w : World} {K : PySem.W.Frag} {mg : Str → Option Value} {base : Heap}
/-! _law_fed -/
def spFed : Sp := fun vs H Q _ => ∃ (s : Addr) (r : Int) (n : Str) (x : Tl), vs = [.ref s, .str n] ∧ SkAt H s r x ∧ TlOk r x ∧ 1 ≤ r ∧ r ≤ 64 ∧
  ∀ H' p, Same H H' → H p = none → SkAt H' p r (feedT r n 1 x) → Q (.ref p) H'
theorem ok_fed (T : Blt mg) (d : Dnfed K mg) : FnOk P w K mg base CX0 1 d.f d.fd ["_law_sketch_here", "_law_name"] spFed := by
  refine d.F.ok scfed (fun vs H Q E h => ?_) (fun cdv A outer s H vs Q E hr h => ?_)
  · obtain ⟨s, r, n, x, rfl, _⟩ := h
    rfl
  · obtain ⟨sk, r, n, ⟨m, o, kvs0⟩, rfl, ⟨k, ts, hs, hk, hp0⟩, ok0, hr1, hr2, q⟩ := h
    dsimp only at hs hk hp0
    have hu := hu_of hr
    have ok := skT_ok ok0
    have efeed : ∀ {H' : Hp} {p : Addr}, SkAt H' p r (feedT r n 1 ⟨m, o, srtZ kvs0⟩) → SkAt H' p r (feedT r n 1 ⟨m, o, kvs0⟩) := fun h => h.congr (feed_skT (x := ⟨m, o, kvs0⟩) ok0.nd)
    have asc := srtZ_asc ok0.nd
    have ok : TlOk r ⟨m, o, srtZ kvs0⟩ := ok
    generalize srtZ kvs0 = kvs at hp0 ok asc efeed
    refine ⟨_, (pss_cons (ps_asg (pv 0) (pg_tup (by rfl) (pgs_cons (pg_name (i := 2) scfed.nd rfl (Or.inl rfl)) (pgs_cons (pg_name (i := 3) scfed.nd rfl (Or.inl rfl)) (pgs_cons (pg_name (i := 4) scfed.nd rfl (Or.inl rfl)) (pgs_cons (pg_name (i := 5) scfed.nd rfl (Or.inl rfl)) pgs_nil))))))
    (pss_cons (ps_asg (pe_callTy (call_dictPT rfl) (by rfl) T.n_dict (by decide +kernel) (pa_cons (pv 5) pa_nil)) (pg_name (i := 6) scfed.nd rfl (Or.inl rfl)))
    (pss_cons (ps_if (PW.pt (pw_or (pt_cmp (pc_din hu (pv 1) (pv 6))) (pw_or1 (pt_cmpR op_lt (pe_callB call_lenD (by rfl) T.n_len (by decide +kernel) (pa_cons (pv 6) pa_nil)) (pv 2) (nomark _)))))
      (pss_cons (ps_dput hu (pv 6) (pv 1) (pe_op op_add (pe_dget2 hu (pv 6) (pv 1) pe_int ⟨rfl, rfl, rfl, rfl⟩) pe_int) rfl)
      (pss_one (ps_ret (pe_tup (pa_cons (pv 2) (pa_cons (pe_op op_add (pv 3) pe_int) (pa_cons (pv 4) (pa_cons (pe_callTy call_tupleF (by rfl) T.n_tuple (by decide +kernel) (pa_cons (pe_callB (cr_sortedIZ rfl) (by rfl) T.n_sorted (by decide +kernel) (pa_cons (pe_bm0 PySem.F.plainAttrs_dict PySem.F.slot_dict_items PySem.F.type_dict_items mt_itemsK (pv 6)) pa_nil)) pa_nil)) pa_nil))))))))
      pss_nil)
    (pss_cons (ps_setLc (i := 7) (own := [("_law_other", 8), ("_law_count", 9)]) (g := gTup K 2 (gCons (gName 8) (gCons (gName 9) gNil))) rfl scfed.nd rfl rfl (sw_true rfl rfl rfl (by decide +kernel)) (pi_tup (pv 5)) (blkOk_by (N := Nfed) (sc := defScope sfed) (by decide +kernel)) (fun _ _ _ _ _ => pg_tup (by rfl) (pgs_cons (pg_name (i := 8) scfed.nd rfl (Or.inl rfl)) (pgs_cons (pg_name (i := 9) scfed.nd rfl (Or.inl rfl)) pgs_nil))) (fun _ _ _ _ _ => pts_one (pt_cmpR op_gt (pv 9) pe_int (nomark _))) (fun _ _ _ _ _ => (pe_tup (pa_cons (pv 8) (pa_cons (pe_op op_sub (pv 9) pe_int) pa_nil)))))
    (pss_one (ps_ret (pe_tup (pa_cons (pv 2) (pa_cons (pe_op op_add (pv 3) pe_int) (pa_cons (pe_op op_add (pv 4) pe_int) (pa_cons (pe_callTy call_tupleF (by rfl) T.n_tuple (by decide +kernel) (pa_cons (pv 7) pa_nil)) pa_nil))))))))))), ?_⟩
    refine ⟨.ref sk, rfl, sk, _, rfl, .inl (.inl hs), rfl, _, _, rfl, _, _, rfl, _, _, rfl, _, _, rfl, rfl, ?_⟩
    refine ⟨.ref k, rfl, k, ts, kvs.map entZ, rfl, hk, ents_paired (paired_imp (fun t e h => .inl (.inl h)) hp0), fun p np => ?_⟩
    have em : mergeK [] (kvs.map entZ) = kvs.map entZ := mergeZ kvs [] (by rw [List.nil_append]; exact ok.nd)
    rw [em]
    have hp : (upd H p (.dK (kvs.map entZ))) p = some (.dK (kvs.map entZ)) := upd_same
    have s1 : Same H (upd H p (.dK (kvs.map entZ))) := same_upd np
    generalize upd H p (.dK (kvs.map entZ)) = H1 at hp s1 ⊢
    have hlen : kvs.length ≤ 64 := by
      have : (kvs.length : Int) ≤ r := ok.len
      omega
    refine ⟨.str n, rfl, .ref p, rfl, p, _, rfl, DGet.k (k := Sum.inr n) hp, _, rfl, ?_⟩
    rw [getZ_val]
    cases hf : full r n kvs with
    | false =>
      cases hg : getZ kvs n
      case' none =>
        refine iteF ⟨.ref p, rfl, p, _, rfl, hp, .int r, rfl, _, _, rfl, rfl, true, congrArg V.bl (decide_eq_true (by
          rw [List.length_map]
          have h1 : (kvs.length : Int) ≤ r := ok.len
          have h2 : ¬ (kvs.length : Int) = r := fun z => by
            rw [full_yes hg z] at hf
            cases hf
          omega)), iteT ?_⟩
      case' some v => refine iteT ?_
      all_goals
        refine ⟨.ref p, rfl, p, rfl, .inl ⟨_, .inl hp⟩, .str n, rfl, _, DGet.k (k := Sum.inr n) hp, ?_⟩
        rw [getZ_val]
        refine ⟨(getZ kvs n).getD 0, 1, ?_, rfl, ?_⟩
        · cases getZ kvs n <;> rfl
        · refine ⟨.ref p, rfl, .str n, rfl, p, _, rfl, DPut.k (k := Sum.inr n) hp (by rw [List.length_map, sizeLine_eq]; omega), ?_⟩
          rw [putZ_put]
          rw [feed_add hf (by decide)] at efeed
          have s2 : Same H (upd H1 p (.dK ((putZ kvs n ((getZ kvs n).getD 0 + 1)).map entZ))) := Same.put s1 np
          have hp2 : (upd H1 p (.dK ((putZ kvs n ((getZ kvs n).getD 0 + 1)).map entZ))) p = some (.dK ((addZ kvs n 1).map entZ)) := upd_same
          generalize upd H1 p (.dK ((putZ kvs n ((getZ kvs n).getD 0 + 1)).map entZ)) = H2 at s2 hp2 ⊢
          refine ⟨.int r, rfl, .int m, rfl, _, _, rfl, rfl, .int o, rfl, .ref p, rfl, .inr (.inr (.inl ⟨rfl, .inl ⟨_, hp2⟩⟩)), p, _, rfl, rfl, hp2, fun p3 np3 => ?_⟩
          refine ⟨p3, p, addZ kvs n 1, rfl, upd_same, (by rw [upd_ne (ne_of_none hp2 np3)]; exact hp2), fun H3 l ys ts2 s3 nl nts lts pm so hl1 hts => ?_⟩
          have sb : Same H H3 := fun b u e => s3 b u (same_upd np3 b u (s2 b u e))
          refine ⟨l, _, rfl, sql hl1, fun k2 ob nk2 ho => ⟨(by show 4 ≤ sizeLine; decide), fun t nt => ?_⟩⟩
          have sc : Same H3 (upd H3 k2 (.frz ob (.tup (ts2.map V.ref)))) := same_upd nk2
          have hk2 : (upd H3 k2 (.frz ob (.tup (ts2.map V.ref)))) k2 = some (.frz ob (.tup (ts2.map V.ref))) := upd_same
          generalize upd H3 k2 (.frz ob (.tup (ts2.map V.ref))) = H4 at nt sc hk2 ⊢
          have nda := addZ_nd (n := n) (c := 1) ok.nd
          have eys : ys = srtZ (addZ kvs n 1) := srtZ_of (asc_of so pm nda) pm nda
          subst eys
          have sd := same_upd (o := .tup [.int r, .int (m + 1), .int o, .ref k2]) nt
          exact q _ t ((sb.trans sc).trans sd) (Same.gone (sb.trans sc) nt) (efeed ⟨k2, ts2, upd_same, ⟨ob, sd _ _ hk2, ho⟩, prt_same (prt_same hts sc) sd⟩)
    | true =>
      obtain ⟨hg, hl⟩ := full_of hf
      have m1 := mn_pos (ne_of_full hr1 hl) ok.pos
      rw [feed_lt hf m1] at efeed
      rw [hg]
      refine iteF ⟨.ref p, rfl, p, _, rfl, hp, .int r, rfl, _, _, rfl, rfl, false, congrArg V.bl (decide_eq_false (by rw [List.length_map]; omega)), iteF ?_⟩
      have hk1 := hk.same s1
      refine ⟨.ref k, rfl, k, rfl, ⟨_, hk1.seq⟩, fun D nD => ?_⟩
      refine lc_tup (xs := ts.map V.ref) (fun i H3 => Same H1 H3 ∧ ∃ us : List Addr, H3 D = some (.lst (us.map V.ref)) ∧ us.length ≤ i ∧ Paired (PrT H3) us (takeZ 1 (kvs.take i)))
        ⟨same_upd nD, [], upd_same, Nat.zero_le _, .nil⟩ (fun i H3 _ h3 => (hk1.same h3.1).seq) (fun i x H3 hx h3 => ?_) (fun H3 h3 => ?_)
      · obtain ⟨tp, htp, rfl⟩ := map_at hx
        obtain ⟨e, he, hat⟩ := paired_at hp0 htp
        obtain ⟨s3, us, hD, hul, hpr⟩ := h3
        refine ⟨tp, _, rfl, .inl (.inl (s3 _ _ (s1 _ _ hat))), rfl, _, _, rfl, _, _, rfl, rfl, rfl, .int e.2, rfl, _, _, rfl, rfl, _, rfl, ite2 (fun hgt => ?_) fun hgt => ?_⟩
        · have hgt := of_decide_eq_true hgt
          refine ⟨.str e.1, rfl, .int e.2, rfl, _, _, rfl, rfl, (by show 2 ≤ sizeLine; decide), fun t nt => ?_⟩
          have Dp : D ≠ t := ne_of_none hD nt
          refine ⟨_, by rw [upd_ne Dp]; exact hD, ?_, Same.put (Same.new s3 nt) nD, us ++ [t], by rw [upd_same, List.map_append]; rfl, by rw [List.length_append, List.length_singleton]; omega, ?_⟩
          · have := (List.getElem?_eq_some_iff.mp he).1
            rw [List.length_map, sizeLine_eq]
            omega
          · rw [List.take_add_one, he]
            show Paired _ _ (takeZ 1 (kvs.take i ++ [e]))
            rw [takeZ_snoc, if_pos (show 1 < e.2 by omega)]
            refine paired_snoc (paired_imp (fun t e' ht => ?_) hpr) ?_
            · show _ = _
              rw [upd_ne (ne_of ht hD (by intro z; cases z)), upd_ne (ne_of_none ht nt)]
              exact ht
            · show _ = _
              rw [upd_ne Dp.symm]
              exact upd_same
        · have hgt : ¬ 1 < e.2 := fun z => hgt (decide_eq_true z)
          refine ⟨s3, us, hD, by omega, ?_⟩
          rw [List.take_add_one, he]
          show Paired _ _ (takeZ 1 (kvs.take i ++ [e]))
          rw [takeZ_snoc, if_neg hgt, List.append_nil]
          exact hpr
      · obtain ⟨s3, us, hD, hul, hpr⟩ := h3
        rw [show kvs.take (ts.map V.ref).length = kvs by rw [List.length_map, Paired.length hp0, List.take_length]] at hpr
        have sb : Same H H3 := s1.trans s3
        refine ⟨.int r, rfl, .int m, rfl, _, _, rfl, rfl, .int o, rfl, _, _, rfl, rfl, .ref D, rfl, D, _, rfl, sql hD, fun k2 ob nk2 ho => ⟨(by show 4 ≤ sizeLine; decide), fun t nt => ?_⟩⟩
        have sc : Same H3 (upd H3 k2 (.frz ob (.tup (us.map V.ref)))) := same_upd nk2
        have hk2 : (upd H3 k2 (.frz ob (.tup (us.map V.ref)))) k2 = some (.frz ob (.tup (us.map V.ref))) := upd_same
        generalize upd H3 k2 (.frz ob (.tup (us.map V.ref))) = H4 at nt sc hk2 ⊢
        have sd := same_upd (o := .tup [.int r, .int (m + 1), .int (o + 1), .ref k2]) nt
        refine q _ t ((sb.trans sc).trans sd) (Same.gone (sb.trans sc) nt) (efeed ⟨k2, us, upd_same, ⟨ob, sd _ _ hk2, ho⟩, ?_⟩)
        rw [show srtZ (takeZ 1 kvs) = takeZ 1 kvs from srtZ_self (takeZ_asc asc) (takeZ_nd ok.nd)]
        exact prt_same (prt_same hpr sc) sd
end
end Kb

namespace Kb
open PySem PySem.Spec PyProof.Rows L2 SrtZ SrtO
theorem neg_fall {kvs : Ct} {r : Nat} {ns : List Int} (p : ns.Perm (kvs.map fun e => -e.2)) (so : ns.Pairwise (· ≤ ·)) (h : r < kvs.length) : ∃ v, ns[r]? = some v ∧ -v = fallZ kvs r := by
  have hl : ns.length = kvs.length := by rw [p.length_eq, List.length_map]
  have pm : (ns.map fun c => -c).Perm (kvs.map (·.2)) := by
    have := p.map (fun c : Int => -c)
    rw [List.map_map] at this
    refine this.trans ?_
    rw [show ((fun c : Int => -c) ∘ fun e : Str × Int => -e.2) = (fun e : Str × Int => e.2) from funext fun e => Int.neg_neg e.2]
  have so2 : (ns.map fun c => -c).Pairwise (· ≥ ·) := by
    rw [List.pairwise_map]
    exact so.imp fun h => by show -_ ≤ -_; omega
  have e := fall_uniq pm so2
  have hr : r < ns.length := by omega
  refine ⟨ns[r], List.getElem?_eq_getElem hr, ?_⟩
  unfold fallZ
  rw [Int.toNat_natCast, ← e, List.getD_eq_getElem?_getD, List.getElem?_map, List.getElem?_eq_getElem hr]
  rfl
/-- sorted names with their counts: the counts, ascending -/
theorem srt_names {kvs : Ct} {ss : List Str} (nd : NdZ kvs) (p : ss.Perm (kvs.map (·.1))) (so : Srtd ltZ ss) : (ss.map fun n => (n, gd kvs n)) = srtZ kvs := by
  have nds : ss.Nodup := p.nodup_iff.mpr nd
  refine srtZ_of ?_ ?_ nd
  · unfold Asc
    rw [List.pairwise_map]
    refine List.Pairwise.imp₂ (fun {a b} h1 h2 => ?_) so nds
    rcases bcase (ltZ a b) with q | q
    · exact q
    · exact absurd (ltZ_tri q h1) h2
  · refine (p.map fun n => (n, gd kvs n)).trans ?_
    rw [List.map_map]
    refine List.Perm.of_eq ?_
    conv => rhs; rw [← List.map_id kvs]
    refine List.map_congr_left fun e he => ?_
    show (e.1, gd kvs e.1) = e
    unfold gd
    rw [getZ_mem nd he]
    rfl
theorem keys_inr (kvs : Ct) : (kvs.map entZ).map (·.1) = (kvs.map (·.1)).map Sum.inr := by
  rw [List.map_map, List.map_map]
  rfl
theorem take_srt {a : Int} {kvs : Ct} (nd : NdZ kvs) : srtZ (takeZ a kvs) = takeZ a (srtZ kvs) :=
  (srtZ_of (takeZ_asc (srtZ_asc nd)) (takeZ_perm (srtZ_perm kvs) a) (takeZ_nd nd)).symm
section
variable {P : Program} {w : World} {K : PySem.W.Frag} {mg : Str → Option Value} {base : Heap}
/-! _law_poured -/
def spPouredL : Sp := fun vs H Q _ => ∃ (s1 s2 : Addr) (r : Int) (x y : Tl), vs = [.ref s1, .ref s2] ∧ SkAt H s1 r x ∧ SkAt H s2 r y ∧ TlOk r x ∧ TlOk r y ∧ 1 ≤ r ∧ r ≤ 64 ∧
  ∀ H' p, Same H H' → H p = none → SkAt H' p r (pourT r y x) → Q (.ref p) H'
theorem ok_pouredL (T : Blt mg) (d : Dnpoured K mg) : FnOk P w K mg base CX0 1 d.f d.fd ["_law_one", "_law_other"] spPouredL := by
  refine d.F.ok scpoured (fun vs H Q E h => ?_) (fun cdv A outer s H vs Q E hr h => ?_)
  · obtain ⟨s1, s2, r, x, y, rfl, _⟩ := h
    rfl
  · obtain ⟨s1, s2, r, ⟨m, o, kvs0⟩, ⟨m2, o2, ks0⟩, rfl, ⟨k1, ts1, h1, hk1, hp1⟩, ⟨k2, ts2, h2, hk2, hp2⟩, ok01, ok02, hr1, hr2, q⟩ := h
    dsimp only at h1 hk1 hp1 h2 hk2 hp2
    have hu := hu_of hr
    obtain ⟨rn, rfl⟩ := Int.eq_ofNat_of_zero_le (show 0 ≤ r by omega)
    have ok1 : TlOk rn ⟨m, o, srtZ kvs0⟩ := skT_ok ok01
    have ok2 : TlOk rn ⟨m2, o2, srtZ ks0⟩ := skT_ok ok02
    have epq : ∀ {H' : Hp} {p : Addr}, SkAt H' p rn (pourT rn ⟨m2, o2, srtZ ks0⟩ ⟨m, o, srtZ kvs0⟩) → SkAt H' p rn (pourT rn ⟨m2, o2, ks0⟩ ⟨m, o, kvs0⟩) := fun h => h.congr (pour_skT ok1.nd ok2.nd (skT_skT (x := ⟨m, o, kvs0⟩) ok01.nd) (skT_skT (x := ⟨m2, o2, ks0⟩) ok02.nd))
    generalize srtZ kvs0 = kvs at hp1 ok1 epq
    generalize srtZ ks0 = ks at hp2 ok2 epq
    refine ⟨_, (pss_cons (ps_asg (pe_callTy (call_dictPT rfl) (by rfl) T.n_dict (by decide +kernel) (pa_cons (pe_ix ix_tup (pv 0) pe_int (fun _ _ => rfl)) pa_nil)) (pg_name (i := 2) scpoured.nd rfl (Or.inr rfl)))
    (pss_cons (ps_for PassesOwn.never rfl (pi_tup (pe_ix ix_tup (pv 1) pe_int (fun _ _ => rfl))) (pg_tup (by rfl) (pgs_cons (pg_name (i := 6) scpoured.nd rfl (Or.inl rfl)) (pgs_cons (pg_name (i := 7) scpoured.nd rfl (Or.inl rfl)) pgs_nil)))
      (pss_one (ps_dput hu (pv 2) (pv 6) (pe_op op_add (pe_dget2 hu (pv 2) (pv 6) pe_int ⟨rfl, rfl, rfl, rfl⟩) (pv 7)) rfl)))
    (pss_cons (ps_set (i := 3) scpoured.nd rfl (Or.inl rfl) (pe_callB cr_sortedI (by rfl) T.n_sorted (by decide +kernel) (pa_cons (pe_lock (pe_lc (own := [("_law_count", 7)]) (g := gName 7) (tt := tYes) rfl scpoured.nd (pi_values (pv 2)) (blkOk_by (N := Npoured) (sc := defScope spoured) (by decide +kernel)) (fun _ _ _ _ _ => pg_name (i := 7) scpoured.nd rfl (Or.inl rfl)) (fun _ _ _ _ _ => pts_nil) (fun _ _ _ _ _ => (pe_un un_neg (pv 7))))) pa_nil)))
    (C8.pss_cut (ps_asg (pe_ifExp (pt_cmpR op_gt (pe_callB call_len_seq (by rfl) T.n_len (by decide +kernel) (pa_cons (pv 3) pa_nil)) (pe_ix ix_tup (pv 0) pe_int (fun _ _ => rfl)) (nomark _)) (pe_un un_neg (pe_ix ix_list (pv 3) (pe_ix ix_tup (pv 0) pe_int (fun _ _ => rfl)) (fun _ _ => rfl))) pe_int) (pg_name (i := 4) scpoured.nd rfl (Or.inr rfl)))
    (pss_cons (ps_setLc (i := 5) (own := [("_law_name", 6)]) (g := gName 6) rfl scpoured.nd rfl rfl (sw_true rfl rfl rfl (by decide +kernel)) (pi_list (pe_callB (cr_sortedDS rfl) (by rfl) T.n_sorted (by decide +kernel) (pa_cons (pv 2) pa_nil))) (blkOk_by (N := Npoured) (sc := defScope spoured) (by decide +kernel)) (fun _ _ _ _ _ => pg_name (i := 6) scpoured.nd rfl (Or.inl rfl)) (fun _ _ _ _ _ => pts_one (pt_cmpR op_gt (pe_dget hu (pv 2) (pv 6) (fun _ _ => rfl)) (pv 4) (nomark _))) (fun _ _ _ _ _ => (pe_tup (pa_cons (pv 6) (pa_cons (pe_op op_sub (pe_dget hu (pv 2) (pv 6) (fun _ _ => rfl)) (pv 4)) pa_nil)))))
    (pss_one (ps_ret (pe_tup (pa_cons (pe_ix ix_tup (pv 0) pe_int (fun _ _ => rfl)) (pa_cons (pe_op op_add (pe_ix ix_tup (pv 0) pe_int (fun _ _ => rfl)) (pe_ix ix_tup (pv 1) pe_int (fun _ _ => rfl))) (pa_cons (pe_op op_add (pe_op op_add (pe_ix ix_tup (pv 0) pe_int (fun _ _ => rfl)) (pe_ix ix_tup (pv 1) pe_int (fun _ _ => rfl))) (pv 4)) (pa_cons (pe_callTy call_tupleF (by rfl) T.n_tuple (by decide +kernel) (pa_cons (pv 5) pa_nil)) pa_nil)))))))))))), ?_⟩
    refine ⟨.ref s1, rfl, s1, _, _, _, rfl, rfl, .inl (.inl h1), atI_nat (j := 3) rfl, k1, ts1, kvs.map entZ, rfl, hk1, ents_paired (paired_imp (fun t e h => .inl (.inl h)) hp1), fun p np => ?_⟩
    have em : mergeK [] (kvs.map entZ) = kvs.map entZ := mergeZ kvs [] (by rw [List.nil_append]; exact ok1.nd)
    rw [em]
    have hlen1 : kvs.length ≤ 64 := by
      have : (kvs.length : Int) ≤ rn := ok1.len
      omega
    have hlen2 : ks.length ≤ 64 := by
      have : (ks.length : Int) ≤ rn := ok2.len
      omega
    have hp : (upd H p (.dK (kvs.map entZ))) p = some (.dK (kvs.map entZ)) := upd_same
    have s01 : Same H (upd H p (.dK (kvs.map entZ))) := same_upd np
    generalize upd H p (.dK (kvs.map entZ)) = H1 at hp s01 ⊢
    refine ⟨.ref s2, rfl, s2, _, _, _, rfl, rfl, .inl (.inl (s01 _ _ h2)), atI_nat (j := 3) rfl, k2, rfl, ⟨_, (hk2.same s01).seq⟩, for_tup (xs := ts2.map V.ref) (fun i σ H3 => ∃ y6 y7 : Option V, σ = [some (.ref s1), some (.ref s2), some (.ref p), none, none, none, y6, y7] ∧ Same H H3 ∧ H3 p = some (.dK ((sumsZ (ks.take i) kvs).map entZ)))
      ⟨none, none, rfl, s01, hp⟩ (fun i σ H3 _ ⟨_, _, _, b3, _⟩ => (hk2.same b3).seq) ?_ ?_⟩
    · rintro i v σ H3 hi ⟨y6, y7, rfl, b3, hp3⟩
      obtain ⟨tp, htp, rfl⟩ := map_at hi
      obtain ⟨e, he, hat⟩ := paired_at hp2 htp
      refine ⟨tp, _, rfl, .inl (.inl (b3 _ _ hat)), rfl, _, _, rfl, _, _, rfl, rfl, ?_⟩
      refine ⟨.ref p, rfl, p, rfl, .inl ⟨_, .inl hp3⟩, .str e.1, rfl, _, DGet.k (k := Sum.inr e.1) hp3, ?_⟩
      rw [getZ_val]
      refine ⟨.int e.2, rfl, (getZ (sumsZ (ks.take i) kvs) e.1).getD 0, e.2, ?_, rfl, ?_⟩
      · cases getZ (sumsZ (ks.take i) kvs) e.1 <;> rfl
      have hlen := sumsZ_len (more := ks.take i) (kvs := kvs)
      rw [List.length_take] at hlen
      refine ⟨.ref p, rfl, .str e.1, rfl, p, _, rfl, DPut.k (k := Sum.inr e.1) hp3 (by rw [List.length_map, sizeLine_eq]; omega), ?_⟩
      rw [putZ_put]
      refine ⟨some (.str e.1), some (.int e.2), rfl, Same.put b3 np, ?_⟩
      rw [upd_same, sumsZ_snoc he]
      rfl
    rintro σ H3 ⟨y6, y7, rfl, s03, hp3⟩
    rw [show ks.take (ts2.map V.ref).length = ks by rw [List.length_map, Paired.length hp2, List.take_length]] at hp3
    have nda := sumsZ_nd (more := ks) (kvs := kvs) ok1.nd
    have posa := sumsZ_pos (more := ks) (kvs := kvs) ok2.pos ok1.pos
    have lla := sumsZ_len (more := ks) (kvs := kvs)
    have epour : pourT (rn : Int) ⟨m2, o2, ks⟩ ⟨m, o, kvs⟩ = if (rn : Int) < ((sumsZ ks kvs).length : Int) then ⟨m + m2, o + o2 + fallZ (sumsZ ks kvs) rn, takeZ (fallZ (sumsZ ks kvs) rn) (sumsZ ks kvs)⟩ else ⟨m + m2, o + o2, sumsZ ks kvs⟩ := rfl
    generalize sumsZ ks kvs = all at hp3 nda posa lla epour
    -- falling
    refine ⟨p, _, hp3, trivial, fun oe => ?_⟩
    refine ⟨.ref p, rfl, p, oe, all.map entZ, rfl, upd_same, fun D nD => ?_⟩
    generalize hHl : upd H3 p (.frz oe (.dK (all.map entZ))) = Hm at nD ⊢
    have hlm : Hm p = some (.frz oe (.dK (all.map entZ))) := by rw [← hHl]; exact upd_same
    have pD : p ≠ D := ne_of_none hlm nD
    refine lc_it (walk_values (kvs := all.map entZ)) (fun i H3 => Same Hm H3 ∧ H3 D = some (.lst ((all.take i).map fun e => V.int (-e.2))))
      ⟨same_upd nD, upd_same⟩ (fun i H3 _ h3 => h3.1 _ _ hlm) (fun i x H5 H6 hi h3 y => ?_) (fun H5 h5 => ?_)
    · obtain ⟨rfl, kk, hkv⟩ := y
      obtain ⟨e, he, hkv2⟩ := map_at hkv
      cases hkv2
      obtain ⟨s4, hD⟩ := h3
      refine ⟨rfl, .int e.2, rfl, e.2, rfl, _, hD, ?_, Same.put s4 nD, ?_⟩
      · rw [List.length_map, List.length_take, sizeLine_eq]
        omega
      · rw [upd_same, List.take_add_one, he, List.map_append]
        rfl
    obtain ⟨s5, hD5⟩ := h5
    rw [List.length_map, List.take_length] at hD5
    refine ⟨s5 _ _ hlm, ?_⟩
    have s06 : Same H (upd H5 p (.dK (all.map entZ))) := s03.trans (fun b u e => by
      by_cases hb : b = p
      · subst hb
        rw [hp3] at e
        cases e
        exact upd_same
      · rw [upd_ne hb]
        refine s5 b u ?_
        rw [← hHl, upd_ne hb]
        exact e)
    have hp6 : (upd H5 p (.dK (all.map entZ))) p = some (.dK (all.map entZ)) := upd_same
    have hD6 : (upd H5 p (.dK (all.map entZ))) D = some (.lst (all.map fun e => V.int (-e.2))) := by rw [upd_ne pD.symm]; exact hD5
    generalize upd H5 p (.dK (all.map entZ)) = H6 at s06 hp6 hD6 ⊢
    refine ⟨D, all.map (fun e => -e.2), rfl, sql (by rw [hD6, List.map_map]; rfl), fun nsr l pm so nl => ?_⟩
    have s67 := same_upd (o := .lst (nsr.map V.int)) nl
    have hp7 := s67 _ _ hp6
    have hl7 : (upd H6 l (.lst (nsr.map V.int))) l = some (.lst (nsr.map V.int)) := upd_same
    have s07 : Same H (upd H6 l (.lst (nsr.map V.int))) := s06.trans s67
    generalize upd H6 l (.lst (nsr.map V.int)) = H7 at hp7 hl7 s07 ⊢
    have hnl : nsr.length = all.length := by rw [pm.length_eq, List.length_map]
    -- taken
    refine ⟨fun σ H8 => H8 = H7 ∧ ∃ (tk : Int), σ = [some (.ref s1), some (.ref s2), some (.ref p), some (.ref l), some (.int tk), none, y6, y7] ∧ pourT (rn : Int) ⟨m2, o2, ks⟩ ⟨m, o, kvs⟩ = ⟨m + m2, o + o2 + tk, takeZ tk all⟩, ?_, ?_⟩
    · refine ⟨.ref l, rfl, l, _, rfl, .inl (sql hl7), .ref s1, rfl, s1, _, _, _, rfl, rfl, .inl (.inl (s07 _ _ h1)), atI_nat (j := 0) rfl, _, _, rfl, rfl, _, rfl, ?_⟩
      refine ite2 (fun hgt => ?_) fun hgt => ?_
      · have hgt := of_decide_eq_true hgt
        rw [List.length_map, hnl] at hgt
        obtain ⟨v, hv, e⟩ := neg_fall pm so (show rn < all.length by omega)
        refine ⟨.ref l, rfl, .ref s1, rfl, s1, _, _, _, rfl, rfl, .inl (.inl (s07 _ _ h1)), atI_nat (j := 0) rfl, l, _, _, .int v, rfl, rfl, sql hl7, atI_nat (by rw [List.getElem?_map, hv]; rfl), v, rfl, rfl, -v, rfl, ?_⟩
        rw [epour, if_pos hgt, e]
      · have hgt : ¬ (rn : Int) < (all.length : Int) := fun z => hgt (decide_eq_true (by rw [List.length_map, hnl]; exact z))
        refine ⟨rfl, 0, rfl, ?_⟩
        rw [epour, if_neg hgt, Int.add_zero, takeZ_zero posa]
    · rintro σ H8 ⟨rfl, tk, rfl, ep⟩
      rw [ep] at epq
      refine ⟨.ref p, rfl, p, _, all.map (·.1), rfl, hp7, keys_inr all, fun ss l2 pms sos nl2 => ?_⟩
      have ey := srt_names nda pms sos
      have s89 := same_upd (o := .lst (ss.map V.str)) nl2
      have hl9 : (upd H8 l2 (.lst (ss.map V.str))) l2 = some (.lst (ss.map V.str)) := upd_same
      have hp9 := s89 _ _ hp7
      have s09 := s07.trans s89
      generalize upd H8 l2 (.lst (ss.map V.str)) = H9 at hl9 hp9 s09 ⊢
      have hsl : ss.length = all.length := by rw [pms.length_eq, List.length_map]
      refine ⟨l2, rfl, ⟨_, sql hl9⟩, fun D2 nD2 => ?_⟩
      refine lc_list (xs := ss.map V.str) (fun i H3 => Same H9 H3 ∧ ∃ us : List Addr, H3 D2 = some (.lst (us.map V.ref)) ∧ us.length ≤ i ∧ Paired (PrT H3) us (takeZ tk ((srtZ all).take i)))
        ⟨same_upd nD2, [], upd_same, Nat.zero_le _, .nil⟩ (fun i H3 _ h3 => sql (h3.1 _ _ hl9)) (fun i x H3 hx h3 => ?_) (fun H3 h3 => ?_)
      · obtain ⟨z, hz, rfl⟩ := map_at hx
        obtain ⟨s3, us, hD, hul, hpr⟩ := h3
        have he : (srtZ all)[i]? = some (z, gd all z) := by
          rw [← ey, List.getElem?_map, hz]
          rfl
        have hmem : z ∈ all.map (·.1) := pms.mem_iff.mp (List.mem_of_getElem? hz)
        have dg : DGet H3 p (.str z) (some (.int (gd all z))) := .inl ⟨all.map entZ, Sum.inr z, .inl (s3 _ _ hp9), rfl, by
          rw [getZ_val]
          unfold gd
          cases hg : getZ all z with
          | none => exact absurd hmem (getZ_none.mp hg)
          | some v => rfl⟩
        refine ⟨rfl, .ref p, rfl, .str z, rfl, p, .int (gd all z), rfl, dg, .int tk, rfl, _, _, rfl, rfl, _, rfl, ite2 (fun hg9 => ?_) fun hg9 => ?_⟩
        · have hg9 := of_decide_eq_true hg9
          refine ⟨.str z, rfl, .ref p, rfl, .str z, rfl, p, .int (gd all z), rfl, dg, .int tk, rfl, _, _, rfl, rfl, (by show 2 ≤ sizeLine; decide), fun t nt => ?_⟩
          have Dp : D2 ≠ t := ne_of_none hD nt
          refine ⟨_, by rw [upd_ne Dp]; exact hD, ?_, Same.put (Same.new s3 nt) nD2, us ++ [t], by rw [upd_same, List.map_append]; rfl, by rw [List.length_append, List.length_singleton]; omega, ?_⟩
          · have := (List.getElem?_eq_some_iff.mp hz).1
            rw [List.length_map, sizeLine_eq]
            omega
          · rw [List.take_add_one, he]
            show Paired _ _ (takeZ tk ((srtZ all).take i ++ [(z, gd all z)]))
            rw [takeZ_snoc, if_pos (show tk < gd all z by exact hg9)]
            refine paired_snoc (paired_imp (fun t e' ht => ?_) hpr) ?_
            · show _ = _
              rw [upd_ne (ne_of ht hD (by intro z; cases z)), upd_ne (ne_of_none ht nt)]
              exact ht
            · show _ = _
              rw [upd_ne Dp.symm]
              exact upd_same
        · have hg9 : ¬ tk < gd all z := fun z => hg9 (decide_eq_true z)
          refine ⟨s3, us, hD, by omega, ?_⟩
          rw [List.take_add_one, he]
          show Paired _ _ (takeZ tk ((srtZ all).take i ++ [(z, gd all z)]))
          rw [takeZ_snoc, if_neg hg9, List.append_nil]
          exact hpr
      · obtain ⟨s3, us, hD, hul, hpr⟩ := h3
        rw [show (srtZ all).take (ss.map V.str).length = srtZ all by rw [List.length_map, hsl, ← (srtZ_perm all).length_eq, List.take_length]] at hpr
        have sb : Same H H3 := s09.trans s3
        have h1b : SqT K H3 s1 [.int (rn : Int), .int m, .int o, .ref k1] := .inl (.inl (sb _ _ h1))
        have h2b : SqT K H3 s2 [.int (rn : Int), .int m2, .int o2, .ref k2] := .inl (.inl (sb _ _ h2))
        refine ⟨.ref s1, rfl, s1, _, _, _, rfl, rfl, h1b, atI_nat (j := 0) rfl, .ref s1, rfl, s1, _, _, _, rfl, rfl, h1b, atI_nat (j := 1) rfl, .ref s2, rfl, s2, _, _, _, rfl, rfl, h2b, atI_nat (j := 1) rfl, _, _, rfl, rfl, .ref s1, rfl, s1, _, _, _, rfl, rfl, h1b, atI_nat (j := 2) rfl, .ref s2, rfl, s2, _, _, _, rfl, rfl, h2b, atI_nat (j := 2) rfl, _, _, rfl, rfl, .int tk, rfl, _, _, rfl, rfl, .ref D2, rfl, D2, _, rfl, sql hD, fun kk ob nkk ho => ⟨(by show 4 ≤ sizeLine; decide), fun t nt => ?_⟩⟩
        have sc : Same H3 (upd H3 kk (.frz ob (.tup (us.map V.ref)))) := same_upd nkk
        have hkk : (upd H3 kk (.frz ob (.tup (us.map V.ref)))) kk = some (.frz ob (.tup (us.map V.ref))) := upd_same
        generalize upd H3 kk (.frz ob (.tup (us.map V.ref))) = H4 at nt sc hkk ⊢
        have sd := same_upd (o := .tup [.int (rn : Int), .int (m + m2), .int (o + o2 + tk), .ref kk]) nt
        refine q _ t ((sb.trans sc).trans sd) (Same.gone (sb.trans sc) nt) (epq ⟨kk, us, upd_same, ⟨ob, sd _ _ hkk, ho⟩, ?_⟩)
        rw [take_srt nda]
        exact prt_same (prt_same hpr sc) sd
end
end Kb

namespace Kb
open PySem PySem.Spec PyProof.Rows L2 SrtZ SrtO
abbrev ssketch : Stmt := topS 46
abbrev Nsketch : List Str := ["_law_room", "_law_tree_here", "_law_pile", "_law_step", "_law_other", "_law_found", "_law_name"]
theorem scsketch : FnScope ["_law_room", "_law_tree_here", "_law_pile", "_law_step", "_law_other", "_law_found", "_law_name"] ["_law_room", "_law_tree_here"] (defScope ssketch) := ⟨rfl, rfl, rfl, by decide +kernel, rfl, by decide +kernel, by decide +kernel⟩
abbrev scounted : Stmt := topS 47
abbrev Ncounted : List Str := ["_law_tree_here", "_law_found", "_law_step", "_law_name"]
theorem sccounted : FnScope ["_law_tree_here", "_law_found", "_law_step", "_law_name"] ["_law_tree_here"] (defScope scounted) := ⟨rfl, rfl, rfl, by decide +kernel, rfl, by decide +kernel, by decide +kernel⟩
abbrev Dnsketch (K : PySem.W.Frag) (mg : Str → Option Value) := Dn K mg "_law_sketch" ssketch ["_law_room", "_law_tree_here"]
abbrev Dncounted (K : PySem.W.Frag) (mg : Str → Option Value) := Dn K mg "_law_counted" scounted ["_law_tree_here"]
/-! data that is compared -/
theorem strOk_nm {z : Str} (h : Nm z) : PyData.strOk z = true := by
  unfold PyData.strOk
  refine Array.all_eq_true_iff_forall_mem.mpr fun c hc => ?_
  have := h.abc c (Array.mem_toList_iff.mpr hc)
  unfold nmC at this
  have h2 : (!decide (122 < c)) = true := by
    cases hx : (!decide (122 < c)) with
    | true => rfl
    | false => rw [hx] at this; simp at this
  have h3 : ¬ 122 < c := by simpa using h2
  exact decide_eq_true (by omega)
theorem lay_strs : ∀ {zs : List Str}, (∀ z ∈ zs, Nm z) → PyData.canLayAll0 (zs.map PyData.str) = true ∧ PyData.depthAll (zs.map PyData.str) = 0
  | [], _ => ⟨rfl, rfl⟩
  | z :: zs, h => by
    obtain ⟨h1, h2⟩ := lay_strs (zs := zs) fun y hy => h y (List.mem_cons_of_mem _ hy)
    constructor
    · show (PyData.strOk z && PyData.canLayAll0 (zs.map PyData.str)) = true
      rw [strOk_nm (h z List.mem_cons_self), h1]
      rfl
    · show max 0 (PyData.depthAll (zs.map PyData.str)) = 0
      rw [h2]
      rfl
theorem dp_strs {K : PySem.W.Frag} {H : Hp} : ∀ zs : List Str, DpAll K H (zs.map V.str) (zs.map PyData.str)
  | [] => .nil
  | z :: zs => .cons (.str z) (dp_strs zs)
abbrev prD (e : Str × Int) : PyData := .tuple [.str e.1, .int e.2]
abbrev ctD (ys : Ct) : PyData := .tuple (ys.map prD)
theorem dp_prs {K : PySem.W.Frag} {H : Hp} : ∀ {ts : List Addr} {ys : Ct}, Paired (PrT H) ts ys → DpAll K H (ts.map V.ref) (ys.map prD)
  | _, _, .nil => .nil
  | _, _, .cons h t => .cons (.tup (.inl (.inl h)) (.cons (.str _) (.cons (.int _) .nil))) (dp_prs t)
theorem lay_prs : ∀ {ys : Ct}, (∀ e ∈ ys, Nm e.1) → PyData.canLayAll0 (ys.map prD) = true ∧ PyData.depthAll (ys.map prD) ≤ 1
  | [], _ => ⟨rfl, Nat.zero_le _⟩
  | e :: ys, h => by
    obtain ⟨h1, h2⟩ := lay_prs (ys := ys) fun y hy => h y (List.mem_cons_of_mem _ hy)
    constructor
    · show ((PyData.strOk e.1 && (true && true)) && PyData.canLayAll0 (ys.map prD)) = true
      rw [strOk_nm (h e List.mem_cons_self), h1]
      rfl
    · show max 1 (PyData.depthAll (ys.map prD)) ≤ 1
      omega
theorem eqv_prs : ∀ ys : Ct, PyData.eqvAll (ys.map prD) (ys.map prD) = true
  | [] => rfl
  | e :: ys => by
    show (((e.1 == e.1) && ((e.2 == e.2) && true)) && PyData.eqvAll (ys.map prD) (ys.map prD)) = true
    rw [eqv_prs ys, beq_self_eq_true, beq_self_eq_true]
    rfl
theorem ct_shaped {ys : Ct} (h : ∀ e ∈ ys, Nm e.1) : SeqAt.shaped (ctD ys) = true := by
  obtain ⟨h1, h2⟩ := lay_prs h
  show (PyData.canLayAll0 (ys.map prD) && decide (PyData.depthAll (ys.map prD) + 1 ≤ 64)) = true
  rw [h1, decide_eq_true (by omega)]
  rfl
abbrev skD (r m o : Int) (ys : Ct) : PyData := .tuple [.int r, .int m, .int o, ctD ys]
theorem sk_shaped {r m o : Int} {ys : Ct} (h : ∀ e ∈ ys, Nm e.1) : SeqAt.shaped (skD r m o ys) = true := by
  obtain ⟨h1, h2⟩ := lay_prs h
  show ((true && (true && (true && (PyData.canLayAll0 (ys.map prD) && true)))) && decide (max 0 (max 0 (max 0 (max (PyData.depthAll (ys.map prD) + 1) 0))) + 1 ≤ 64)) = true
  rw [h1, decide_eq_true (by omega)]
  rfl
theorem sk_eqv (r m o : Int) (ys : Ct) : PyData.eqv (skD r m o ys) (skD r m o ys) = true := by
  show ((r == r) && ((m == m) && ((o == o) && (PyData.eqvAll (ys.map prD) (ys.map prD) && true)))) = true
  rw [eqv_prs ys, beq_self_eq_true, beq_self_eq_true, beq_self_eq_true]
  rfl
theorem dp_ct {K : PySem.W.Frag} {H : Hp} {k : Addr} {ts : List Addr} {ys : Ct} (h1 : SqT K H k (ts.map V.ref)) (h2 : Paired (PrT H) ts ys) : Dp K H (.ref k) (ctD ys) := .tup h1 (dp_prs h2)
theorem dp_sk {K : PySem.W.Frag} {H : Hp} {s : Addr} {r : Int} {x : Tl} (h : SkAt H s r x) : Dp K H (.ref s) (skD r x.m x.o (srtZ x.c)) := by
  obtain ⟨k, ts, h1, h2, h3⟩ := h
  exact .tup (.inl (.inl h1)) (.cons (.int _) (.cons (.int _) (.cons (.int _) (.cons (dp_ct h2.seq h3) .nil))))
theorem runL_lenT {r : Int} (hr : 1 ≤ r) {l : List Stp} (hn : ∀ zs, .put zs ∈ l → ∀ z ∈ zs, Nm z) : (runL r l).length = (runT r l).length := by
  have h := congrArg List.length (runTL (r := r) hr (l := l) (st := []) (st' := []) hn (fun _ h => nomatch h) (fun _ h => nomatch h) rfl)
  rw [List.length_map, List.length_map] at h
  exact h.symm
theorem rev_cons' {α : Type} (e : Addr) (pl : List Addr) : ((e :: pl).reverse.map V.ref) = pl.reverse.map V.ref ++ [V.ref e] := by rw [List.reverse_cons, List.map_append]; rfl
section
variable {P : Program} {w : World} {K : PySem.W.Frag} {mg : Str → Option Value} {base : Heap}
/-! _law_sketch -/
def spSketchL (K : PySem.W.Frag) : Sp := fun vs H Q _ => ∃ (r : Int) (a : Addr) (l : List Stp) (x : Tl), vs = [.int r, .ref a] ∧ 1 ≤ r ∧ r ≤ 64 ∧ TreeAt K H a l ∧ Tree l ∧ (∀ zs, .put zs ∈ l → ∀ z ∈ zs, Nm z) ∧ runL r l = [x] ∧
  ∀ H' s, Same H H' → SkAt H' s r x → Q (.ref s) H'
theorem ok_sketchL (T : Blt mg) (dfed : Dnfed K mg) (dpoured : Dnpoured K mg) (d : Dnsketch K mg) : FnOk P w K mg base CX0 2 d.f d.fd ["_law_room", "_law_tree_here"] (spSketchL K) := by
  have Gfed : FnOk P w K mg base CX0 1 dfed.f dfed.fd ["_law_sketch_here", "_law_name"] spFed := ok_fed T dfed
  have Gpoured : FnOk P w K mg base CX0 1 dpoured.f dpoured.fd ["_law_one", "_law_other"] spPouredL := ok_pouredL T dpoured
  refine d.F.ok scsketch (fun vs H Q E h => ?_) (fun cdv A outer s H vs Q E hr h => ?_)
  · obtain ⟨r, a, l, x, rfl, _⟩ := h
    rfl
  · obtain ⟨r, a, l, xe, rfl, hr1, hr2, ht, tr, hN, hrun, q⟩ := h
    refine ⟨_, (pss_cons (ps_set (i := 2) scsketch.nd rfl (Or.inl rfl) (pe_lst pa_nil))
    (pss_cons (ps_for PassesOwn.never rfl (pi_tup (pv 1)) (pg_name (i := 3) scsketch.nd rfl (Or.inl rfl))
      (pss_one (ps_if (pt_cmpR (op_eqD hr.units) (pv 3) (pe_tup (pa_cons pe_str pa_nil)) (nomark _))
        (pss_cons (ps_set (i := 4) scsketch.nd rfl (Or.inl rfl) (pe_bm0 PySem.F.plainAttrs_list PySem.F.slot_list_pop PySem.F.type_list_pop mt_pop (pv 2)))
        (pss_one (ps_expr (pe_bm PySem.F.plainAttrs_list PySem.F.slot_list_append PySem.F.type_list_append mt_append (pv 2) (pa_cons (pe_call Gpoured (hr.mono (by omega)) (by rfl) dpoured.g dpoured.F.kp dpoured.b .nil pass0 (pa_cons (pe_bm0 PySem.F.plainAttrs_list PySem.F.slot_list_pop PySem.F.type_list_pop mt_pop (pv 2)) (pa_cons (pv 4) pa_nil))) pa_nil)))))
        (pss_cons (ps_set (i := 5) scsketch.nd rfl (Or.inl rfl) (pe_tup (pa_cons (pv 0) (pa_cons pe_int (pa_cons pe_int (pa_cons (pe_tupF pa_nil) pa_nil))))))
        (pss_cons (ps_for PassesOwn.never rfl (pi_tup (pe_ix ix_tup (pv 3) pe_int (fun _ _ => rfl))) (pg_name (i := 6) scsketch.nd rfl (Or.inl rfl))
          (pss_one (ps_set (i := 5) scsketch.nd rfl (Or.inl rfl) (pe_call Gfed (hr.mono (by omega)) (by rfl) dfed.g dfed.F.kp dfed.b .nil pass0 (pa_cons (pv 5) (pa_cons (pv 6) pa_nil))))))
        (pss_one (ps_expr (pe_bm PySem.F.plainAttrs_list PySem.F.slot_list_append PySem.F.type_list_append mt_append (pv 2) (pa_cons (pv 5) pa_nil)))))))))
    (pss_one (ps_ret (pe_ix ix_list (pv 2) pe_int (fun _ _ => rfl)))))), ?_⟩
    refine ⟨(by show 0 ≤ sizeLine; decide), fun p np => ?_⟩
    obtain ⟨vs, hS, hp⟩ := ht
    have hl : vs.length = l.length := Paired.length hp
    have s2 : Same H (upd H p (.lst [])) := same_upd np
    refine ⟨.ref a, rfl, a, rfl, ⟨_, seqT hS s2⟩, for_tup (xs := vs) (fun i σ H3 => ∃ (pl : List Addr) (y3 y4 y5 y6 : Option V), σ = [some (.int r), some (.ref a), some (.ref p), y3, y4, y5, y6] ∧ Same H H3 ∧ H3 p = some (.lst (pl.reverse.map V.ref)) ∧ Paired (fun s x => SkAt H3 s r x) pl (runL r (l.take i)))
      ⟨[], none, none, none, none, rfl, s2, upd_same, .nil⟩ (fun i σ H3 _ ⟨_, _, _, _, _, _, s3, _⟩ => seqT hS s3) ?_ ?_⟩
    · rintro i v σ H3 hi ⟨pl, y3, y4, y5, y6, rfl, s3, hpl, hst⟩
      obtain ⟨st, hsti, hat⟩ := paired_at hp hi
      have hat3 := hat.same s3
      have snoc := runL_snoc (r := r) hsti
      have hNi : ∀ zs, .put zs ∈ l.take i → ∀ z ∈ zs, Nm z := fun zs hz => hN zs (List.mem_of_mem_take hz)
      have okL : ∀ x ∈ runL r (l.take i), TlOk r x := runL_ok hr1 hNi (fun _ h => nomatch h)
      have pll : pl.length = (runL r (l.take i)).length := Paired.length hst
      have hlenT := runL_lenT (r := r) hr1 hNi
      have hii : i < l.length := (List.getElem?_eq_some_iff.mp hsti).1
      have hrl := run_len (r := r) tr.two i (by omega)
      have hsmall : (runL r (l.take i)).length ≤ 5000 := by
        rw [hlenT]
        have := run_short (r := r) (l.take i)
        rw [List.length_take] at this
        have := tr.len
        omega
      have fin : ∀ (H6 : Hp) (e6 : Addr) (rest : List Addr) (R : List Tl) (x6 : Tl) (y3 y4 y5 y6 : Option V), Same H H6 → H6 p = some (.lst (rest.reverse.map V.ref)) → Paired (fun s x => SkAt H6 s r x) rest R → SkAt H6 e6 r x6 → stepL r (runL r (l.take i)) st = x6 :: R →
          ∃ (pl : List Addr) (z3 z4 z5 z6 : Option V), ([some (.int r), some (.ref a), some (.ref p), y3, y4, y5, y6] : L2.St) = [some (.int r), some (.ref a), some (.ref p), z3, z4, z5, z6] ∧ Same H (upd H6 p (.lst (rest.reverse.map V.ref ++ [.ref e6]))) ∧ (upd H6 p (.lst (rest.reverse.map V.ref ++ [.ref e6]))) p = some (.lst (pl.reverse.map V.ref)) ∧ Paired (fun s x => SkAt (upd H6 p (.lst (rest.reverse.map V.ref ++ [.ref e6]))) s r x) pl (runL r (l.take (i + 1))) := fun H6 e6 rest R x6 y3 y4 y5 y6 s6 hp6 hR h6 hst => by
        have keep : ∀ {s : Addr} {x : Tl}, SkAt H6 s r x → SkAt (upd H6 p (.lst (rest.reverse.map V.ref ++ [.ref e6]))) s r x := fun {s x} h => by
          obtain ⟨k, ts, g1, ⟨ob, g2, g3⟩, g4⟩ := h
          refine ⟨k, ts, by rw [upd_ne (ne_of g1 hp6 (by intro z; cases z))]; exact g1, ⟨ob, by rw [upd_ne (ne_of g2 hp6 (by intro z; cases z))]; exact g2, g3⟩, paired_imp (fun t e ht => ?_) g4⟩
          show _ = _
          rw [upd_ne (ne_of ht hp6 (by intro z; cases z))]
          exact ht
        refine ⟨e6 :: rest, y3, y4, y5, y6, rfl, Same.put s6 np, by rw [upd_same, rev_cons' (α := Unit)], ?_⟩
        rw [snoc, hst]
        exact .cons (keep h6) (paired_imp (fun s x h => keep h) hR)
      have keepP : ∀ {H4 : Hp} {xs : List V} {u : HO} {s : Addr} {x : Tl}, H4 p = some (.lst xs) → SkAt H4 s r x → SkAt (upd H4 p u) s r x := fun {H4 xs u s x} hp4 h => by
        obtain ⟨k, ts, g1, ⟨ob, g2, g3⟩, g4⟩ := h
        refine ⟨k, ts, by rw [upd_ne (ne_of g1 hp4 (by intro z; cases z))]; exact g1, ⟨ob, by rw [upd_ne (ne_of g2 hp4 (by intro z; cases z))]; exact g2, g3⟩, paired_imp (fun t e ht => ?_) g4⟩
        show _ = _
        rw [upd_ne (ne_of ht hp4 (by intro z; cases z))]
        exact ht
      cases st with
      | pour =>
        obtain ⟨b, rfl, h1⟩ := hat3
        refine ⟨.ref b, rfl, (by show 1 ≤ sizeLine; decide), fun tq nq => ⟨.tuple [.str (Str.ofString "pour")], .tuple [.str (Str.ofString "pour")], .tup (seqT h1 (same_upd nq)) (.cons (.str _) .nil), .tup (.inl (.inl upd_same)) (.cons (.str _) .nil), (by decide +kernel), (by decide +kernel), true, congrArg V.bl (by decide +kernel), iteT ?_⟩⟩
        have sq : Same H3 (upd H3 tq (.tup [.str (Str.ofString "pour")])) := same_upd nq
        generalize upd H3 tq (.tup [.str (Str.ofString "pour")]) = H3' at sq
        have s3' := s3.trans sq
        have hpl' := sq _ _ hpl
        have hst' : Paired (fun s x => SkAt H3' s r x) pl (runL r (l.take i)) := paired_imp (fun s x h => h.same sq) hst
        have h2 := tr.two i hsti
        rw [← hrl, ← hlenT] at h2
        generalize hgen : runL r (l.take i) = R at hst' snoc okL pll hsmall h2 fin
        match pl, R, hst', okL, h2, hsmall, fin with
        | [], [], _, _, h2, _, _ => exact absurd h2 (by have : ((0 : Nat) : Int) = _ := rfl; show ¬ (2 : Int) ≤ ((0 : Nat) : Int); decide)
        | [_], [_], _, _, h2, _, _ => exact absurd h2 (by show ¬ (2 : Int) ≤ ((1 : Nat) : Int); decide)
        | e1 :: e2 :: pl, x1 :: x2 :: R, .cons hs1 (.cons hs2 hst), okL, _, hsmall, fin =>
          rw [rev_cons' (α := Unit)] at hpl'
          refine ⟨.ref p, rfl, .inl ⟨rfl, _, sql hpl'⟩, p, _, .ref e1, rfl, rfl, hpl', by simp, ?_⟩
          rw [List.dropLast_concat, rev_cons' (α := Unit)]
          have a1 := keepP hpl' hs1 (u := .lst (pl.reverse.map V.ref ++ [V.ref e2]))
          have a2 := keepP hpl' hs2 (u := .lst (pl.reverse.map V.ref ++ [V.ref e2]))
          have aR : Paired (fun s x => SkAt (upd H3' p (.lst (pl.reverse.map V.ref ++ [V.ref e2]))) s r x) pl R := paired_imp (fun s x h => keepP hpl' h) hst
          have hp4 : (upd H3' p (.lst (pl.reverse.map V.ref ++ [V.ref e2]))) p = some (.lst (pl.reverse.map V.ref ++ [V.ref e2])) := upd_same
          have s4 : Same H (upd H3' p (.lst (pl.reverse.map V.ref ++ [V.ref e2]))) := Same.put s3' np
          generalize upd H3' p (.lst (pl.reverse.map V.ref ++ [V.ref e2])) = H4 at a1 a2 aR hp4 s4 ⊢
          refine ⟨.ref p, rfl, .inl ⟨rfl, _, sql hp4⟩, .ref p, rfl, .inl ⟨rfl, _, sql hp4⟩, p, _, .ref e2, rfl, rfl, hp4, by simp, ?_⟩
          rw [List.dropLast_concat]
          have b1 := keepP hp4 a1 (u := .lst (pl.reverse.map V.ref))
          have b2 := keepP hp4 a2 (u := .lst (pl.reverse.map V.ref))
          have bR : Paired (fun s x => SkAt (upd H4 p (.lst (pl.reverse.map V.ref))) s r x) pl R := paired_imp (fun s x h => keepP hp4 h) aR
          have hp5 : (upd H4 p (.lst (pl.reverse.map V.ref))) p = some (.lst (pl.reverse.map V.ref)) := upd_same
          have s5 : Same H (upd H4 p (.lst (pl.reverse.map V.ref))) := Same.put s4 np
          generalize upd H4 p (.lst (pl.reverse.map V.ref)) = H5 at b1 b2 bR hp5 s5 ⊢
          have o1 := okL x1 List.mem_cons_self
          have o2 := okL x2 (List.mem_cons_of_mem _ List.mem_cons_self)
          refine ⟨.ref e1, rfl, e2, e1, r, x2, x1, rfl, b2, b1, o2, o1, hr1, hr2, fun H6 e6 s6 ne6 st6 => ?_⟩
          have hp6 := s6 _ _ hp5
          have hs' : R.length + 2 ≤ 5000 := hsmall
          have pl2 := Paired.length hst
          refine ⟨p, _, _, rfl, rfl, hp6, (by rw [List.length_map, List.length_reverse, sizeLine_eq]; omega), ?_⟩
          exact fin _ _ _ _ _ _ _ _ _ (s5.trans s6) hp6 (paired_imp (fun s x h => h.same s6) bR) st6 rfl
      | put zs =>
        have hNz := hN zs (List.mem_of_getElem? hsti)
        obtain ⟨b, t, rfl, h1, h2, _, hzl⟩ := hat3
        obtain ⟨lz1, lz2⟩ := lay_strs hNz
        refine ⟨.ref b, rfl, (by show 1 ≤ sizeLine; decide), fun tq nq => ⟨.tuple [.str (Str.ofString "stream"), .tuple (zs.map PyData.str)], .tuple [.str (Str.ofString "pour")], .tup (seqT h1 (same_upd nq)) (.cons (.str _) (.cons (.tup (seqT h2 (same_upd nq)) (dp_strs zs)) .nil)), .tup (.inl (.inl upd_same)) (.cons (.str _) .nil), ?_, (by decide +kernel), false, ?_, iteF ?_⟩⟩
        · show ((PyData.strOk (Str.ofString "stream") && (PyData.canLayAll0 (zs.map PyData.str) && true)) && decide (max 0 (max (PyData.depthAll (zs.map PyData.str) + 1) 0) + 1 ≤ 64)) = true
          rw [lz1, lz2, show PyData.strOk (Str.ofString "stream") = true by decide +kernel]
          rfl
        · refine congrArg V.bl ?_
          show ((Str.ofString "stream" == Str.ofString "pour") && PyData.eqvAll [.tuple (zs.map PyData.str)] []) = false
          rw [show (Str.ofString "stream" == Str.ofString "pour") = false by decide +kernel]
          rfl
        have sq : Same H3 (upd H3 tq (.tup [.str (Str.ofString "pour")])) := same_upd nq
        generalize upd H3 tq (.tup [.str (Str.ofString "pour")]) = H3' at sq
        refine ⟨.int r, rfl, (by show 0 ≤ sizeLine; decide), fun k0 ob nk0 ho => ⟨(by show 4 ≤ sizeLine; decide), fun st0 nst0 => ?_⟩⟩
        have s4 : Same H3 (upd (upd H3' k0 (.frz ob (.tup []))) st0 (.tup [.int r, .int 0, .int 0, .ref k0])) := Same.new (Same.new sq nk0) nst0
        have sta0 : SkAt (upd (upd H3' k0 (.frz ob (.tup []))) st0 (.tup [.int r, .int 0, .int 0, .ref k0])) st0 r tl0 := ⟨k0, [], upd_same, ⟨ob, by rw [upd_ne (ne_of_none upd_same nst0)]; exact upd_same, ho⟩, by rw [show srtZ tl0.c = [] from (srtZ_perm _).eq_nil]; exact .nil⟩
        generalize upd (upd H3' k0 (.frz ob (.tup []))) st0 (.tup [.int r, .int 0, .int 0, .ref k0]) = H4 at s4 sta0 ⊢
        refine ⟨.ref b, rfl, b, _, _, _, rfl, rfl, seqT h1 s4, atI_nat (j := 1) rfl, t, rfl, ⟨_, seqT h2 s4⟩, for_tup (xs := zs.map V.str) (fun j σ H6 => ∃ (st6 : Addr) (z6 : Option V), σ = [some (.int r), some (.ref a), some (.ref p), some (.ref b), y4, some (.ref st6), z6] ∧ Same H3 H6 ∧ SkAt H6 st6 r (feedsT r (zs.take j) tl0) ∧ TlOk r (feedsT r (zs.take j) tl0)) ⟨st0, y6, rfl, s4, sta0, tl0_ok hr1⟩ (fun j σ H6 _ ⟨_, _, _, s6, _⟩ => seqT h2 s6) ?_ ?_⟩
        · rintro j v σ H6 hj ⟨st6, z6, rfl, s6, sta6, ok6⟩
          obtain ⟨z, hz, rfl⟩ := map_at hj
          have hfs := feedsT_snoc (r := r) (x := tl0) hz
          have hok7 := feedT_ok ok6 hr1 (hNz z (List.mem_of_getElem? hz)) (c := 1) (by decide)
          refine ⟨.ref st6, rfl, .str z, rfl, st6, r, z, feedsT r (zs.take j) tl0, rfl, sta6, ok6, hr1, hr2, fun H7 st7 s7 _ sta7 => ?_⟩
          rw [← hfs] at sta7 hok7
          exact ⟨st7, _, rfl, s6.trans s7, sta7, hok7⟩
        · rintro σ H6 ⟨st6, z6, rfl, s6, sta6, ok6⟩
          rw [List.length_map, List.take_length] at sta6
          have hp6 := s6 _ _ hpl
          refine ⟨.ref p, rfl, .inl ⟨rfl, _, sql hp6⟩, .ref st6, rfl, p, _, _, rfl, rfl, hp6, (by rw [List.length_map, List.length_reverse, sizeLine_eq]; omega), ?_⟩
          exact fin _ _ _ _ _ _ _ _ _ (s3.trans s6) hp6 (paired_imp (fun s x h => h.same s6) hst) sta6 rfl
    · rintro σ H3 ⟨pl, y3, y4, y5, y6, rfl, s3, hpl, hst⟩
      rw [hl, List.take_length, hrun] at hst
      match pl, hst with
      | [e], .cons he .nil => exact ⟨.ref p, rfl, p, _, _, _, rfl, rfl, sql hpl, atI_nat (j := 0) rfl, q H3 e s3 he⟩
/-! _law_counted -/
def spCountedL (K : PySem.W.Frag) : Sp := fun vs H Q _ => ∃ (a : Addr) (l : List Stp), vs = [.ref a] ∧ TreeAt K H a l ∧ Tree l ∧
  ∀ H' k (ts : List Addr), Same H H' → Ptp H' k (ts.map V.ref) → Paired (PrT H') ts (srtZ (cntT l)) → Q (.ref k) H'
theorem ok_countedL (T : Blt mg) (d : Dncounted K mg) : FnOk P w K mg base CX0 1 d.f d.fd ["_law_tree_here"] (spCountedL K) := by
  refine d.F.ok sccounted (fun vs H Q E h => ?_) (fun cdv A outer s H vs Q E hr h => ?_)
  · obtain ⟨a, l, rfl, _⟩ := h
    rfl
  · obtain ⟨a, l, rfl, ht, tr, q⟩ := h
    have hu := hu_of hr
    refine ⟨_, (pss_cons (ps_set (i := 1) sccounted.nd rfl (Or.inl rfl) pe_dnewK)
    (pss_cons (ps_for PassesOwn.never rfl (pi_tup (pv 0)) (pg_name (i := 2) sccounted.nd rfl (Or.inl rfl))
      (pss_one (ps_if (pt_cmpR op_eq (pe_callB call_len_seq (by rfl) T.n_len (by decide +kernel) (pa_cons (pv 2) pa_nil)) pe_int (nomark _))
        (pss_one (ps_for PassesOwn.never rfl (pi_tup (pe_ix ix_tup (pv 2) pe_int (fun _ _ => rfl))) (pg_name (i := 3) sccounted.nd rfl (Or.inl rfl))
          (pss_one (ps_dput hu (pv 1) (pv 3) (pe_op op_add (pe_dget2 hu (pv 1) (pv 3) pe_int ⟨rfl, rfl, rfl, rfl⟩) pe_int) rfl))))
        pss_nil)))
    (pss_one (ps_ret (pe_callTy call_tupleF (by rfl) T.n_tuple (by decide +kernel) (pa_cons (pe_callB (cr_sortedIZ rfl) (by rfl) T.n_sorted (by decide +kernel) (pa_cons (pe_bm0 PySem.F.plainAttrs_dict PySem.F.slot_dict_items PySem.F.type_dict_items mt_itemsK (pv 1)) pa_nil)) pa_nil)))))), ?_⟩
    intro c nc
    obtain ⟨vs, hS, hp⟩ := ht
    have hl : vs.length = l.length := Paired.length hp
    have s2 : Same H (upd H c (.dK [])) := same_upd nc
    have few := tr.few
    refine ⟨.ref a, rfl, a, rfl, ⟨_, seqT hS s2⟩, for_tup (xs := vs) (fun i σ H3 => ∃ y2 y3 : Option V, σ = [some (.ref a), some (.ref c), y2, y3] ∧ Same H H3 ∧ H3 c = some (.dK ((cntT (l.take i)).map entZ))) ⟨none, none, rfl, s2, upd_same⟩ (fun i σ H3 _ ⟨_, _, _, s3, _⟩ => seqT hS s3) ?_ ?_⟩
    · rintro i v σ H3 hi ⟨y2, y3, rfl, s3, hc3⟩
      obtain ⟨st, hst, hat⟩ := paired_at hp hi
      have hat3 := hat.same s3
      have snoc := cntT_snoc hst
      have l0 := cntT_len (l.take i)
      have m0 := mny_mono l i
      have m1 := mny_mono l (i + 1)
      cases st with
      | put zs =>
        obtain ⟨b, t, rfl, h1, h2, _, hzl⟩ := hat3
        refine ⟨.ref b, rfl, b, _, rfl, .inr h1, rfl, true, congrArg V.bl (decide_eq_true rfl), iteT ?_⟩
        refine ⟨.ref b, rfl, b, _, _, _, rfl, rfl, h1, atI_nat (j := 1) rfl, t, rfl, ⟨_, h2⟩, for_tup (xs := zs.map V.str) (fun j σ H6 => ∃ z5 : Option V, σ = [some (.ref a), some (.ref c), some (.ref b), z5] ∧ Same H H6 ∧ SqT K H6 t (zs.map V.str) ∧ H6 c = some (.dK ((cntZ (zs.take j) (cntT (l.take i))).map entZ))) ⟨y3, rfl, s3, h2, hc3⟩ (fun j σ H6 _ ⟨_, _, _, h, _⟩ => h) ?_ ?_⟩
        · rintro j v σ H6 hj ⟨z5, rfl, s6, h6, hc6⟩
          obtain ⟨z, hz, rfl⟩ := map_at hj
          have lj := cntZ_len (zs := zs.take j) (kc := cntT (l.take i))
          rw [List.length_take] at lj
          refine ⟨.ref c, rfl, c, rfl, .inl ⟨_, .inl hc6⟩, .str z, rfl, _, DGet.k (k := Sum.inr z) hc6, ?_⟩
          rw [getZ_val]
          refine ⟨(getZ (cntZ (zs.take j) (cntT (l.take i))) z).getD 0, 1, ?_, rfl, ?_⟩
          · cases getZ (cntZ (zs.take j) (cntT (l.take i))) z <;> rfl
          refine ⟨.ref c, rfl, .str z, rfl, c, _, rfl, DPut.k (k := Sum.inr z) hc6 (by rw [List.length_map, sizeLine_eq]; omega), ?_⟩
          rw [putZ_put]
          refine ⟨some (.str z), rfl, Same.put s6 nc, ?_, ?_⟩
          · rcases h6 with (h | ⟨o', h⟩) | h
            · exact .inl (.inl (by rw [upd_ne (ne_of h hc6 (by intro z; cases z))]; exact h))
            · exact .inl (.inr ⟨o', by rw [upd_ne (ne_of h hc6 (by intro z; cases z))]; exact h⟩)
            · exact .inr h
          · rw [upd_same, cntZ_snoc hz]
            rfl
        · rintro σ H6 ⟨z5, rfl, s6, h6, hc6⟩
          rw [List.length_map, List.take_length] at hc6
          refine ⟨_, _, rfl, s6, ?_⟩
          rw [snoc]
          exact hc6
      | pour =>
        obtain ⟨b, rfl, h1⟩ := hat3
        refine ⟨.ref b, rfl, b, _, rfl, .inr h1, rfl, false, congrArg V.bl (decide_eq_false (by intro z; cases z)), iteF ?_⟩
        refine ⟨_, _, rfl, s3, ?_⟩
        rw [snoc]
        exact hc3
    · rintro σ H3 ⟨y2, y3, rfl, s3, hc3⟩
      rw [hl, List.take_length] at hc3
      refine ⟨.ref c, rfl, .inr (.inr (.inl ⟨rfl, .inl ⟨_, hc3⟩⟩)), c, _, rfl, rfl, hc3, fun p np => ?_⟩
      refine ⟨p, c, cntT l, rfl, upd_same, (by rw [upd_ne (ne_of_none hc3 np)]; exact hc3), fun H4 l4 ys ts s4 nl nts lts pm so hl4 hts => ?_⟩
      refine ⟨l4, _, rfl, sql hl4, fun k ob nk ho => ?_⟩
      have s5 : Same H H4 := fun b u e => s4 b u (Same.new s3 np b u e)
      have eys := srtZ_of (asc_of so pm (cntT_nd l)) pm (cntT_nd l)
      subst eys
      exact q _ k ts (Same.new s5 nk) ⟨ob, upd_same, ho⟩ (paired_imp (fun t e h => same_upd nk _ _ h) hts)
end
end Kb

namespace Kb
open PySem PySem.Spec PyProof.Rows L2 SrtZ SrtO
abbrev stree : Stmt := topS 48
abbrev Ntree : List Str := ["_law_hand_here", "_law_pool_here", "_law_streams", "_law_most", "_law_steps", "_law_pile", "_law_many", "_law_k", "_law_some", "_law_names", "_law_turn"]
theorem sctree : FnScope ["_law_hand_here", "_law_pool_here", "_law_streams", "_law_most", "_law_steps", "_law_pile", "_law_many", "_law_k", "_law_some", "_law_names", "_law_turn"] ["_law_hand_here", "_law_pool_here", "_law_streams", "_law_most"] (defScope stree) := ⟨rfl, rfl, rfl, by decide +kernel, rfl, by decide +kernel, by decide +kernel⟩
abbrev Dntree (K : PySem.W.Frag) (mg : Str → Option Value) := Dn K mg "_law_tree" stree ["_law_hand_here", "_law_pool_here", "_law_streams", "_law_most"]
def Vl : Int → List Stp → Prop
  | _, [] => True
  | h, .put _ :: l => Vl (h + 1) l
  | h, .pour :: l => 2 ≤ h ∧ Vl (h - 1) l
theorem vl_at : ∀ {l : List Stp} {h : Int} {i : Nat}, Vl h l → l[i]? = some .pour → 2 ≤ (l.take i).foldl hS h
  | [], _, i, _, e => by simp at e
  | .put zs :: l, h, 0, v, e => by cases e
  | .pour :: l, h, 0, v, _ => v.1
  | .put zs :: l, h, i + 1, v, e => vl_at (l := l) (h := h + 1) v (by simpa using e)
  | .pour :: l, h, i + 1, v, e => vl_at (l := l) (h := h - 1) v.2 (by simpa using e)
theorem vl_app : ∀ {l l' : List Stp} {h : Int}, Vl h l → Vl (l.foldl hS h) l' → Vl h (l ++ l')
  | [], _, _, _, v => v
  | .put zs :: l, l', h, v, w => vl_app (l := l) (h := h + 1) v w
  | .pour :: l, l', h, v, w => ⟨v.1, vl_app (l := l) (h := h - 1) v.2 w⟩
theorem vl_pours : ∀ (n : Nat) (h : Int), (n : Int) + 1 ≤ h → Vl h (List.replicate n .pour) ∧ (List.replicate n Stp.pour).foldl hS h = h - n
  | 0, h, _ => ⟨trivial, by show h = h - 0; omega⟩
  | n + 1, h, hn => by
    obtain ⟨a, b⟩ := vl_pours n (h - 1) (by omega)
    refine ⟨⟨by omega, a⟩, ?_⟩
    show (List.replicate n Stp.pour).foldl hS (h - 1) = _
    rw [b]
    omega
theorem cs_pours : ∀ (n : Nat) (m : Int), (List.replicate n Stp.pour).foldl cS m = m
  | 0, _ => rfl
  | n + 1, m => cs_pours n m
/-- a tree as it is being drawn -/
structure Gr (Pn : Str → Prop) (i : Nat) (pile : Int) (l : List Stp) : Prop where
  vl : Vl 0 l
  ht : hgt l = pile
  pos : 1 ≤ i → 1 ≤ pile
  few : mny l ≤ 40 * i
  len : (l.length : Int) = 2 * i - pile
  nm : ∀ zs, .put zs ∈ l → ∀ z ∈ zs, Pn z
theorem gr0 {Pn : Str → Prop} : Gr Pn 0 0 [] := ⟨trivial, rfl, fun h => absurd h (by decide), Int.le_refl _, rfl, fun _ h => nomatch h⟩
theorem gr_put {Pn : Str → Prop} {i : Nat} {pile : Int} {l : List Stp} {zs : List Str} (g : Gr Pn i pile l) (hp : 0 ≤ pile) (hz : ∀ z ∈ zs, Pn z) (hl : zs.length ≤ 40) : Gr Pn (i + 1) (pile + 1) (l ++ [.put zs]) := by
  obtain ⟨vl, ht, pos, few, len, nm⟩ := g
  refine ⟨vl_app vl (by trivial), ?_, fun _ => by omega, ?_, ?_, fun ys hy => ?_⟩
  · unfold hgt at ht ⊢
    rw [List.foldl_append, ht]
    rfl
  · unfold mny at few ⊢
    rw [List.foldl_append]
    show l.foldl cS 0 + (zs.length : Nat) ≤ _
    push_cast
    omega
  · rw [List.length_append, List.length_singleton]
    push_cast
    omega
  · rcases List.mem_append.mp hy with h | h
    · exact nm ys h
    · rcases List.mem_singleton.mp h with h
      cases h
      exact hz
theorem gr_pours {Pn : Str → Prop} {i : Nat} {pile : Int} {l : List Stp} (g : Gr Pn i pile l) (n : Nat) (hn : (n : Int) + 1 ≤ pile) : Gr Pn i (pile - n) (l ++ List.replicate n .pour) := by
  obtain ⟨vl, ht, pos, few, len, nm⟩ := g
  have hh : l.foldl hS 0 = pile := ht
  obtain ⟨a, b⟩ := vl_pours n (l.foldl hS 0) (by rw [hh]; exact hn)
  refine ⟨vl_app vl a, ?_, fun h => by omega, ?_, ?_, fun ys hy => ?_⟩
  · unfold hgt
    rw [List.foldl_append, b, hh]
  · unfold mny at few ⊢
    rw [List.foldl_append, cs_pours]
    exact few
  · rw [List.length_append, List.length_replicate]
    push_cast
    omega
  · rcases List.mem_append.mp hy with h | h
    · exact nm ys h
    · cases (List.eq_of_mem_replicate h)
theorem gr_tree {Pn : Str → Prop} {i : Nat} {l : List Stp} (g : Gr Pn i 1 l) (hi : i ≤ 100) : Tree l := by
  obtain ⟨vl, ht, pos, few, len, nm⟩ := g
  exact ⟨fun j e => vl_at vl e, ht, by omega, by omega⟩
theorem sq_upd {K : PySem.W.Frag} {H : Hp} {a t : Addr} {xs ys : List V} {u : HO} (h : SqT K H a xs) (ht : H t = some (.lst ys)) : SqT K (upd H t u) a xs := by
  rcases h with (h | ⟨o, h⟩) | h
  · exact .inl (.inl (by rw [upd_ne (ne_of h ht (by intro z; cases z))]; exact h))
  · exact .inl (.inr ⟨o, by rw [upd_ne (ne_of h ht (by intro z; cases z))]; exact h⟩)
  · exact .inr h
theorem StpAt.put {K : PySem.W.Frag} {H : Hp} {t : Addr} {ys : List V} {u : HO} {v : V} {st : Stp} (h : StpAt K H v st) (ht : H t = some (.lst ys)) : StpAt K (upd H t u) v st := by
  cases st with
  | put zs =>
    obtain ⟨a, b, e, h1, h2, r⟩ := h
    exact ⟨a, b, e, sq_upd h1 ht, sq_upd h2 ht, r⟩
  | pour =>
    obtain ⟨a, e, h1⟩ := h
    exact ⟨a, e, sq_upd h1 ht⟩
theorem paired_app {α β : Type} {F : α → β → Prop} : ∀ {xs xs' : List α} {ys ys' : List β}, Paired F xs ys → Paired F xs' ys' → Paired F (xs ++ xs') (ys ++ ys')
  | _, _, _, _, .nil, h => h
  | _, _, _, _, .cons h t, k => .cons h (paired_app t k)
theorem paired_rep {α β : Type} {F : α → β → Prop} {x : α} {y : β} (h : F x y) : ∀ n : Nat, Paired F (List.replicate n x) (List.replicate n y)
  | 0 => .nil
  | n + 1 => .cons h (paired_rep h n)
theorem rep_flat (n : Nat) (v : V) : (List.replicate n [v]).flatten = List.replicate n v := by
  induction n with
  | zero => rfl
  | succ n ih => rw [List.replicate_succ, List.flatten_cons, ih]; rfl
section
variable {P : Program} {w : World} {K : PySem.W.Frag} {mg : Str → Option Value} {base : Heap}
theorem StpAt.exw {a c : Addr} {H H' : Hp} {v : V} {t : Stp} (h : StpAt K H v t) (x : Exw a H H') (w0 : Wl a c H) : StpAt K H' v t := by
  cases t with
  | put zs =>
    obtain ⟨a, b, e, h1, h2, r⟩ := h
    exact ⟨a, b, e, x.tup w0 h1, x.tup w0 h2, r⟩
  | pour =>
    obtain ⟨a, e, h1⟩ := h
    exact ⟨a, e, x.tup w0 h1⟩
/-! _law_tree -/
def spTree (K : PySem.W.Frag) : Sp := fun vs H Q _ => ∃ (a c l : Addr) (ns : List Str) (lv : Nat) (m : Int), vs = [.ref a, .ref l, .int (lv : Int), .int m] ∧ Wl a c H ∧ l ≠ a ∧ H l = some (.lst (ns.map V.str)) ∧ 0 < ns.length ∧ ns.length ≤ 1000 ∧ (∀ z ∈ ns, Nm z) ∧ 1 ≤ lv ∧ lv ≤ 40 ∧ 0 ≤ m ∧ m ≤ 40 ∧
  ∀ H' t (i : Nat) (st : List Stp), Exw a H H' → Wl a c H' → H t = none → TreeAt K H' t st → Gr (· ∈ ns) i 1 st → i ≤ lv → Q (.ref t) H'
theorem ok_tree (T : Blt mg) (ddraw : Dndraw K mg) (dany : Dnany K mg) (d : Dntree K mg) : FnOk P w K mg base CX0 3 d.f d.fd ["_law_hand_here", "_law_pool_here", "_law_streams", "_law_most"] (spTree K) := by
  have Gdraw : FnOk P w K mg base CX0 1 ddraw.f ddraw.fd ["_law_hand_here", "_law_many"] spDraw := ok_draw T ddraw
  have Gany : FnOk P w K mg base CX0 2 dany.f dany.fd ["_law_hand_here", "_law_things"] spAny := ok_any T ddraw dany
  refine d.F.ok sctree (fun vs H Q E h => ?_) (fun cdv A outer s H vs Q E hr h => ?_)
  · obtain ⟨a, c, l, ns, lv, m, rfl, _⟩ := h
    rfl
  · obtain ⟨a, c, l, ns, lv, m, rfl, w0, la, hl, n0, n1, hnm, lv1, lv2, hm0, hm1, q⟩ := h
    refine ⟨_, (pss_cons (ps_par (i := 4) (j := 5) (by rfl) sctree.nd rfl rfl (by decide) rfl rfl (pa_cons (pe_lst pa_nil) (pa_cons pe_int pa_nil)) (by rfl))
    (pss_cons (ps_set (i := 6) sctree.nd rfl (Or.inl rfl) (pe_op op_add pe_int (pe_call Gdraw (hr.mono (by omega)) (by rfl) ddraw.g ddraw.F.kp ddraw.b .nil pass0 (pa_cons (pv 0) (pa_cons (pv 2) pa_nil)))))
    (pss_cons (ps_for PassesOwn.never rfl (pi_range1 (by rfl) T.n_range (pa_cons (pv 6) pa_nil)) (pg_name (i := 7) sctree.nd rfl (Or.inl rfl))
      (pss_cons (ps_asg (pe_op op_cat (pe_lc (own := [("_law_turn", 10)]) (g := gName 10) (tt := tYes) rfl sctree.nd (pi_range1 (by rfl) T.n_range (pa_cons (pe_op op_add pe_int (pe_call Gdraw (hr.mono (by omega)) (by rfl) ddraw.g ddraw.F.kp ddraw.b .nil pass0 (pa_cons (pv 0) (pa_cons pe_int pa_nil)))) pa_nil)) (blkOk_by (N := Ntree) (sc := defScope stree) (by decide +kernel)) (fun _ _ _ _ _ => pg_name (i := 10) sctree.nd rfl (Or.inl rfl)) (fun _ _ _ _ _ => pts_nil) (fun _ _ _ _ _ => (pe_call Gany (hr.mono (by omega)) (by rfl) dany.g dany.F.kp dany.b .nil pass0 (pa_cons (pv 0) (pa_cons (pv 1) pa_nil))))) (pe_slice sl_list (pv 1) po_none (po_some pe_int))) (pg_name (i := 8) sctree.nd rfl (Or.inr rfl)))
      (pss_cons (ps_setLc (i := 9) (own := [("_law_turn", 10)]) (g := gName 10) (tt := tYes) rfl sctree.nd rfl rfl (sw_true rfl rfl rfl (by decide +kernel)) (pi_range1 (by rfl) T.n_range (pa_cons (pe_call Gdraw (hr.mono (by omega)) (by rfl) ddraw.g ddraw.F.kp ddraw.b .nil pass0 (pa_cons (pv 0) (pa_cons (pe_op op_add (pv 3) pe_int) pa_nil))) pa_nil)) (blkOk_by (N := Ntree) (sc := defScope stree) (by decide +kernel)) (fun _ _ _ _ _ => pg_name (i := 10) sctree.nd rfl (Or.inl rfl)) (fun _ _ _ _ _ => pts_nil) (fun _ _ _ _ _ => (pe_call Gany (hr.mono (by omega)) (by rfl) dany.g dany.F.kp dany.b .nil pass0 (pa_cons (pv 0) (pa_cons (pe_ifExp (pt_cmpR op_gt (pe_call Gdraw (hr.mono (by omega)) (by rfl) ddraw.g ddraw.F.kp ddraw.b .nil pass0 (pa_cons (pv 0) (pa_cons pe_int pa_nil))) pe_int (nomark _)) (pv 8) (pv 1)) pa_nil)))))
      (pss_cons (ps_expr (pe_bm PySem.F.plainAttrs_list PySem.F.slot_list_append PySem.F.type_list_append mt_append (pv 4) (pa_cons (pe_tup (pa_cons pe_str (pa_cons (pe_callTy call_tuple_of (by rfl) T.n_tuple (by decide +kernel) (pa_cons (pv 9) pa_nil)) pa_nil))) pa_nil)))
      (pss_cons (ps_set (i := 5) sctree.nd rfl (Or.inl rfl) (pe_op op_add (pv 5) pe_int))
      (pss_one (ps_while PassesOwn.never (PW.pt (pw_and (pt_cmpR op_gt (pv 5) pe_int (nomark _)) (pw_and1 (pt_cmpR op_eq (pe_call Gdraw (hr.mono (by omega)) (by rfl) ddraw.g ddraw.F.kp ddraw.b .nil pass0 (pa_cons (pv 0) (pa_cons pe_int pa_nil))) pe_int (nomark _)))))
        (pss_cons (ps_expr (pe_bm PySem.F.plainAttrs_list PySem.F.slot_list_append PySem.F.type_list_append mt_append (pv 4) (pa_cons (pe_tup (pa_cons pe_str pa_nil)) pa_nil)))
        (pss_one (ps_set (i := 5) sctree.nd rfl (Or.inl rfl) (pe_op op_sub (pv 5) pe_int)))))))))))
    (pss_one (ps_ret (pe_callTy call_tuple_of (by rfl) T.n_tuple (by decide +kernel) (pa_cons (pe_op op_cat (pv 4) (pe_op op_rep (pe_lst (pa_cons (pe_tup (pa_cons pe_str pa_nil)) pa_nil)) (pe_op op_sub (pv 5) pe_int))) pa_nil))))))), ?_⟩
    refine ⟨(by show 0 ≤ sizeLine; decide), fun D nD => ⟨_, _, rfl, ?_⟩⟩
    have Da := w0.ne2 nD
    have s1 : Same H (upd H D (.lst [])) := same_upd nD
    have hD1 : (upd H D (.lst [])) D = some (.lst []) := upd_same
    have w1 := w0.same s1
    generalize upd H D (.lst []) = H1 at s1 hD1 w1 ⊢
    refine ⟨.ref a, rfl, .int (lv : Int), rfl, a, c, (lv : Int), rfl, w1, (by omega), (by omega), fun H2 k x2 w2 k0 k1 => ⟨_, _, rfl, rfl, ?_⟩⟩
    obtain ⟨k, rfl⟩ := Int.eq_ofNat_of_zero_le k0
    refine ⟨_, rfl, (1 + (k : Int)), rfl, by omega, by omega, ?_⟩
    rw [show (1 + (k : Int)).toNat = k + 1 by omega]
    refine for_range (lo := 0) (n := k + 1) (fun i σ H3 => ∃ (pile : Int) (vs : List V) (st : List Stp) (y7 y8 y9 y10 : Option V), σ = [some (.ref a), some (.ref l), some (.int (lv : Int)), some (.int m), some (.ref D), some (.int pile), some (.int (1 + (k : Int))), y7, y8, y9, y10] ∧ Exw a H H3 ∧ Wl a c H3 ∧ H3 D = some (.lst vs) ∧ Paired (StpAt K H3) vs st ∧ Gr (· ∈ ns) i pile st ∧ 0 ≤ pile ∧ pile ≤ i)
      ⟨0, [], [], none, none, none, none, rfl, (Same.exw s1).trans x2, w2, x2 _ _ Da.1 hD1, .nil, gr0, Int.le_refl _, Int.le_refl _⟩ ?_ ?_
    · rintro i σ H3 hi ⟨pile, vs, st, y7, y8, y9, y10, rfl, x3, w3, hD3, hpr3, gr, hp0, hp1⟩
      refine ⟨.ref a, rfl, a, c, 3, rfl, w3, (by decide), (by decide), fun H4 r x4 w4 r0 r1 => ⟨_, _, rfl, rfl, (1 + r : Int), rfl, by omega, by omega, fun G nG => ?_⟩⟩
      have Ga := w4.ne2 nG
      have hD4 := x4 _ _ Da.1 hD3
      have hl4 := (x3.trans x4) _ _ la hl
      have hpr4 : Paired (StpAt K H4) vs st := paired_imp (fun v t h => h.exw x4 w3) hpr3
      obtain ⟨r, rfl⟩ := Int.eq_ofNat_of_zero_le r0
      rw [show (1 + (r : Int)).toNat = r + 1 by omega]
      refine lc_range (lo := 0) (n := r + 1) (fun i H7 => Exw a H4 H7 ∧ Wl a c H7 ∧ ∃ ss : List Str, H7 G = some (.lst (ss.map V.str)) ∧ ss.length = i ∧ ∀ z ∈ ss, z ∈ ns) ⟨Same.exw (same_upd nG), w4.same (same_upd nG), [], upd_same, rfl, (fun _ h => nomatch h)⟩ (fun j H7 hj h7 => ?_) (fun H7 h7 => ?_)
      · obtain ⟨x7, w7, ss, hG7, hsl, hss⟩ := h7
        refine ⟨rfl, .ref a, rfl, .ref l, rfl, a, c, l, ns.map V.str, rfl, w7, la, x7 _ _ la hl4, (by rw [List.length_map]; exact n0), (by rw [List.length_map]; omega), fun H8 x x8 w8 hx => ?_⟩
        obtain ⟨z, hz, rfl⟩ := List.mem_map.mp hx
        refine ⟨_, x8 _ _ Ga.1 hG7, by rw [List.length_map, hsl, sizeLine_eq]; omega, (x7.trans x8).put nG, w8.put Ga, ss ++ [z], ?_, ?_, ?_⟩
        · rw [upd_same, List.map_append]
          rfl
        · rw [List.length_append, hsl]
          rfl
        · intro y hy
          rcases List.mem_append.mp hy with hy | hy
          · exact hss y hy
          · rw [List.mem_singleton.mp hy]
            exact hz
      obtain ⟨x7, w7, ss, hG7, hsl, hss⟩ := h7
      have hl7 := x7 _ _ la hl4
      have hD7 := x7 _ _ Da.1 hD4
      have hpr7 : Paired (StpAt K H7) vs st := paired_imp (fun v t h => h.exw x7 w4) hpr4
      refine ⟨.ref l, rfl, 1, rfl, l, _, rfl, sql hl7, fun p np => ?_⟩
      rw [show cutV (ns.map V.str) none (some 1) = (ns.take 1).map V.str by unfold cutV; rw [show HT.sIx (ns.map V.str).length (ns.map V.str).length (some 1) = min 1 (ns.map V.str).length from HT.sIx_nat _ _ 1, HT.sIx_none, List.drop_zero, Nat.sub_zero, ← List.map_take, List.length_map, show min 1 ns.length = 1 by omega]]
      have s8 := same_upd (o := .lst ((ns.take 1).map V.str)) np
      have hp8 : (upd H7 p (.lst ((ns.take 1).map V.str))) p = some (.lst ((ns.take 1).map V.str)) := upd_same
      generalize upd H7 p (.lst ((ns.take 1).map V.str)) = H8 at s8 hp8 ⊢
      refine ⟨G, p, _, _, rfl, rfl, s8 _ _ hG7, hp8, (by rw [List.length_map, List.length_map, hsl, List.length_take, sizeLine_eq]; omega), fun S nS => ?_⟩
      rw [← List.map_append]
      have hS9 : (upd H8 S (.lst ((ss ++ ns.take 1).map V.str))) S = some (.lst ((ss ++ ns.take 1).map V.str)) := upd_same
      have s79 : Same H7 (upd H8 S (.lst ((ss ++ ns.take 1).map V.str))) := Same.new s8 nS
      have t0 : 0 < (ss ++ ns.take 1).length := by rw [List.length_append, hsl]; omega
      have t1 : (ss ++ ns.take 1).length ≤ 10 := by rw [List.length_append, hsl, List.length_take]; omega
      have tn : ∀ z ∈ ss ++ ns.take 1, z ∈ ns := fun z hz => by
        rcases List.mem_append.mp hz with hz | hz
        · exact hss z hz
        · exact List.mem_of_mem_take hz
      have Sa : S ≠ a := (w7.same s8).ne2 nS |>.1
      generalize ss ++ ns.take 1 = tt at hS9 s79 t0 t1 tn ⊢
      generalize upd H8 S (.lst (tt.map V.str)) = H9 at hS9 s79 ⊢
      have w9 := w7.same s79
      have x9 : Exw a H H9 := ((x3.trans x4).trans x7).same s79
      have hl9 := s79 _ _ hl7
      have hD9 := s79 _ _ hD7
      have hpr9 : Paired (StpAt K H9) vs st := paired_imp (fun v t h => h.same s79) hpr7
      refine ⟨.ref a, rfl, .int m, rfl, _, _, rfl, rfl, a, c, (m + 1 : Int), rfl, w9, (by omega), (by omega), fun H10 r2 x10 w10 r20 r21 => ⟨r2, rfl, by omega, by omega, fun G2 nG2 => ?_⟩⟩
      have Ga2 := w10.ne2 nG2
      obtain ⟨r2, rfl⟩ := Int.eq_ofNat_of_zero_le r20
      rw [Int.toNat_natCast]
      have hS10 := x10 _ _ Sa hS9
      have hl10 := x10 _ _ la hl9
      have hD10 := x10 _ _ Da.1 hD9
      have hpr10 : Paired (StpAt K H10) vs st := paired_imp (fun v t h => h.exw x10 w9) hpr9
      refine lc_range (lo := 0) (n := r2) (fun i H11 => Exw a H10 H11 ∧ Wl a c H11 ∧ ∃ zs : List Str, H11 G2 = some (.lst (zs.map V.str)) ∧ zs.length = i ∧ ∀ z ∈ zs, z ∈ ns) ⟨Same.exw (same_upd nG2), w10.same (same_upd nG2), [], upd_same, rfl, (fun _ h => nomatch h)⟩ (fun j H11 hj h11 => ?_) (fun H11 h11 => ?_)
      · obtain ⟨x11, w11, zs, hG11, hzl, hzs⟩ := h11
        refine ⟨rfl, .ref a, rfl, .ref a, rfl, a, c, 3, rfl, w11, (by decide), (by decide), fun H12 r3 x12 w12 _ _ => ⟨_, _, rfl, rfl, _, rfl, ?_⟩⟩
        have fin : ∀ (H13 : Hp) (z : Str), Exw a H12 H13 → Wl a c H13 → z ∈ ns → ∃ acc, H13 G2 = some (.lst acc) ∧ acc.length < sizeLine ∧ (Exw a H10 (upd H13 G2 (.lst (acc ++ [.str z]))) ∧ Wl a c (upd H13 G2 (.lst (acc ++ [.str z]))) ∧ ∃ zs : List Str, (upd H13 G2 (.lst (acc ++ [.str z]))) G2 = some (.lst (zs.map V.str)) ∧ zs.length = j + 1 ∧ ∀ z ∈ zs, z ∈ ns) := fun H13 z x13 w13 hz =>
          ⟨_, x13 _ _ Ga2.1 (x12 _ _ Ga2.1 hG11), by rw [List.length_map, hzl, sizeLine_eq]; omega, ((x11.trans x12).trans x13).put nG2, w13.put Ga2, zs ++ [z], by rw [upd_same, List.map_append]; rfl, by rw [List.length_append, hzl]; rfl, fun y hy => by
            rcases List.mem_append.mp hy with hy | hy
            · exact hzs y hy
            · rw [List.mem_singleton.mp hy]
              exact hz⟩
        refine ite2 (fun _ => ?_) fun _ => ?_
        · refine ⟨.ref S, rfl, a, c, S, tt.map V.str, rfl, w12, Sa, x12 _ _ Sa (x11 _ _ Sa hS10), (by rw [List.length_map]; exact t0), (by rw [List.length_map]; omega), fun H13 x x13 w13 hx => ?_⟩
          obtain ⟨z, hz, rfl⟩ := List.mem_map.mp hx
          exact fin H13 z x13 w13 (tn z hz)
        · refine ⟨.ref l, rfl, a, c, l, ns.map V.str, rfl, w12, la, x12 _ _ la (x11 _ _ la hl10), (by rw [List.length_map]; exact n0), (by rw [List.length_map]; omega), fun H13 x x13 w13 hx => ?_⟩
          obtain ⟨z, hz, rfl⟩ := List.mem_map.mp hx
          exact fin H13 z x13 w13 hz
      obtain ⟨x11, w11, zs, hG11, hzl, hzs⟩ := h11
      have hD11 := x11 _ _ Da.1 hD10
      have hpr11 : Paired (StpAt K H11) vs st := paired_imp (fun v t h => h.exw x11 w10) hpr10
      have x011 : Exw a H H11 := (x9.trans x10).trans x11
      refine ⟨.ref D, rfl, .inl ⟨rfl, _, sql hD11⟩, .ref G2, rfl, G2, _, rfl, .inl ⟨sql hG11, fun t nt => ⟨(by show 2 ≤ sizeLine; decide), fun b nb => ?_⟩⟩⟩
      have s12 := same_upd (o := .tup (zs.map V.str)) nt
      have ht12 : (upd H11 t (.tup (zs.map V.str))) t = some (.tup (zs.map V.str)) := upd_same
      have sb := same_upd (o := .tup [.str (Str.ofString "stream"), .ref t]) nb
      have s35 : Same H11 (upd (upd H11 t (.tup (zs.map V.str))) b (.tup [.str (Str.ofString "stream"), .ref t])) := fun b' u z => sb b' u (s12 b' u z)
      have hpr12 : Paired (StpAt K (upd (upd H11 t (.tup (zs.map V.str))) b (.tup [.str (Str.ofString "stream"), .ref t]))) (vs ++ [.ref b]) (st ++ [.put zs]) := paired_app (paired_imp (fun v t h => h.same s35) hpr11) (.cons ⟨b, t, rfl, .inl (.inl upd_same), .inl (.inl (sb _ _ ht12)), (fun z hz => hnm z (hzs z hz)), by omega⟩ .nil)
      generalize upd (upd H11 t (.tup (zs.map V.str))) b (.tup [.str (Str.ofString "stream"), .ref t]) = H12 at s35 hpr12 ⊢
      have hD12 := s35 _ _ hD11
      have lvs : vs.length = st.length := Paired.length hpr3
      have gl := gr.len
      refine ⟨D, vs, _, rfl, rfl, hD12, (by rw [lvs, sizeLine_eq]; omega), .int pile, rfl, _, _, rfl, rfl, ?_⟩
      have hD13 : (upd H12 D (.lst (vs ++ [.ref b]))) D = some (.lst (vs ++ [.ref b])) := upd_same
      have w13 : Wl a c (upd H12 D (.lst (vs ++ [.ref b]))) := (w11.same s35).put Da
      have x13 : Exw a H (upd H12 D (.lst (vs ++ [.ref b]))) := (x011.same s35).put nD
      have hpr13 : Paired (StpAt K (upd H12 D (.lst (vs ++ [.ref b])))) (vs ++ [.ref b]) (st ++ [.put zs]) := paired_imp (fun v t h => h.put hD12) hpr12
      generalize upd H12 D (.lst (vs ++ [.ref b])) = H13 at hD13 w13 x13 hpr13 ⊢
      have gr13 := gr_put gr hp0 hzs (by omega)
      refine ⟨fun μ σ H8 => ∃ (pl : Int) (vs : List V) (st : List Stp), μ = pl.toNat ∧ σ = [some (.ref a), some (.ref l), some (.int (lv : Int)), some (.int m), some (.ref D), some (.int pl), some (.int (1 + (k : Int))), some (.int (0 + (i : Int))), some (.ref S), some (.ref G2), y10] ∧ Exw a H H8 ∧ Wl a c H8 ∧ H8 D = some (.lst vs) ∧ Paired (StpAt K H8) vs st ∧ Gr (· ∈ ns) (i + 1) pl st ∧ 0 ≤ pl ∧ pl ≤ i + 1, ⟨_, _, _, _, rfl, rfl, x13, w13, hD13, hpr13, gr13, by omega, by omega⟩, ?_⟩
      rintro μ σ H8 ⟨pl, vs8, st8, rfl, rfl, x8, w8, hD8, hpr8, gr8, hq0, hq1⟩
      refine ⟨.int pl, rfl, _, _, rfl, rfl, _, rfl, ite2 (fun hgt => ?_) fun _ => ?_⟩
      · have hgt := of_decide_eq_true hgt
        refine ⟨.ref a, rfl, a, c, 2, rfl, w8, (by decide), (by decide), fun H9 r9 x9' w9' _ _ => ⟨rfl, _, rfl, ?_⟩⟩
        have hD9 := x9' _ _ Da.1 hD8
        have hpr9 : Paired (StpAt K H9) vs8 st8 := paired_imp (fun v t h => h.exw x9' w8) hpr8
        refine ite2 (fun _ => ⟨fun σ' H' => ∃ (pl' : Int) (vs : List V) (st : List Stp), pl'.toNat < pl.toNat ∧ σ' = [some (.ref a), some (.ref l), some (.int (lv : Int)), some (.int m), some (.ref D), some (.int pl'), some (.int (1 + (k : Int))), some (.int (0 + (i : Int))), some (.ref S), some (.ref G2), y10] ∧ Exw a H H' ∧ Wl a c H' ∧ H' D = some (.lst vs) ∧ Paired (StpAt K H') vs st ∧ Gr (· ∈ ns) (i + 1) pl' st ∧ 0 ≤ pl' ∧ pl' ≤ i + 1, fun σ' H' ⟨pl', vs', st', h1, h2⟩ => ⟨_, h1, pl', vs', st', rfl, h2⟩, ?_⟩) fun _ => ?_
        · refine ⟨.ref D, rfl, .inl ⟨rfl, _, sql hD9⟩, (by show 1 ≤ sizeLine; decide), fun b8 nb8 => ?_⟩
          have sb8 := same_upd (o := .tup [.str (Str.ofString "pour")]) nb8
          have hprA : Paired (StpAt K (upd H9 b8 (.tup [.str (Str.ofString "pour")]))) (vs8 ++ [.ref b8]) (st8 ++ [.pour]) := paired_app (paired_imp (fun v t h => h.same sb8) hpr9) (.cons ⟨b8, rfl, .inl (.inl upd_same)⟩ .nil)
          generalize upd H9 b8 (.tup [.str (Str.ofString "pour")]) = HA at sb8 hprA ⊢
          have hDA := sb8 _ _ hD9
          have lvs8 : vs8.length = st8.length := Paired.length hpr8
          have gl8 := gr8.len
          have g9 := gr_pours gr8 1 (by omega)
          refine ⟨D, vs8, _, rfl, rfl, hDA, (by rw [lvs8, sizeLine_eq]; omega), .int pl, rfl, _, _, rfl, rfl, ?_⟩
          exact ⟨pl - 1, vs8 ++ [.ref b8], st8 ++ [.pour], by omega, rfl, ((x8.trans x9').same sb8).put nD, (w9'.same sb8).put Da, upd_same, paired_imp (fun v t h => h.put hDA) hprA, g9, by omega, by omega⟩
        · exact ⟨pl, vs8, st8, _, _, _, _, rfl, x8.trans x9', w9', hD9, hpr9, gr8, hq0, by push_cast; omega⟩
      · exact ⟨pl, vs8, st8, _, _, _, _, rfl, x8, w8, hD8, hpr8, gr8, hq0, by push_cast; omega⟩
    · rintro σ H3 ⟨pile, vs, st, y7, y8, y9, y10, rfl, x3, w3, hD3, hpr3, gr, hp0, hp1⟩
      have hp2 := gr.pos (by omega)
      obtain ⟨n, hn⟩ : ∃ n : Nat, pile - 1 = (n : Int) := ⟨(pile - 1).toNat, by omega⟩
      have gl := gr.len
      have lvs : vs.length = st.length := Paired.length hpr3
      refine ⟨.ref D, rfl, (by show 1 ≤ sizeLine; decide), fun b8 nb => ⟨(by show 1 ≤ sizeLine; decide), fun l1 nl1 => ?_⟩⟩
      have sb : Same H3 (upd (upd H3 b8 (.tup [.str (Str.ofString "pour")])) l1 (.lst [.ref b8])) := Same.new (same_upd nb) nl1
      have hb : (upd (upd H3 b8 (.tup [.str (Str.ofString "pour")])) l1 (.lst [.ref b8])) b8 = some (.tup [.str (Str.ofString "pour")]) := same_upd nl1 _ _ upd_same
      refine ⟨.int pile, rfl, _, _, rfl, rfl, l1, (n : Int), _, rfl, (by show V.int (pile - 1) = _; rw [hn]), upd_same, (by omega), (by omega), (by rw [Int.toNat_natCast, sizeLine_eq]; show 1 * n ≤ _; omega), fun l2 nl2 => ?_⟩
      rw [Int.toNat_natCast, rep_flat]
      have sc := Same.new (o := .lst (List.replicate n (V.ref b8))) sb nl2
      refine ⟨D, l2, _, _, rfl, rfl, sc _ _ hD3, upd_same, (by rw [List.length_replicate, lvs, sizeLine_eq]; omega), fun l3 nl3 => ?_⟩
      have sd := Same.new (o := .lst (vs ++ List.replicate n (V.ref b8))) sc nl3
      refine ⟨l3, _, rfl, .inl ⟨sql upd_same, fun t nt => ?_⟩⟩
      have se := Same.new (o := .tup (vs ++ List.replicate n (V.ref b8))) sd nt
      have g9 := gr_pours gr n (by omega)
      have e1 : pile - (n : Int) = 1 := by omega
      rw [e1] at g9
      have hbt := Same.new (o := .tup (vs ++ List.replicate n (V.ref b8))) (Same.new (o := .lst (vs ++ List.replicate n (V.ref b8))) (same_upd nl2 (o := .lst (List.replicate n (V.ref b8)))) nl3) nt _ _ hb
      exact q _ t (k + 1) _ (x3.same se) (w3.same se) ((x3.same sd).gone ((w3.same sd).ne2 nt).1 nt) ⟨_, .inl (.inl upd_same), paired_app (paired_imp (fun v t h => h.same se) hpr3) (paired_rep ⟨b8, rfl, .inl (.inl hbt)⟩ n)⟩ g9 (by omega)
end
end Kb

/-! plain tuples: slices of them, their sums, turned round -/
namespace L2
open PySem PySem.Spec PyProof.Rows HT
section
variable {prog : Program} {w : World} {A : Around} {E : Value → Shared → Prop} {s : Shared}
theorem rev_places (n : Nat) : Builtin.Slice.slicePlaces ((n : Int) - 1) (-1) (-1) = n := by
  unfold Builtin.Slice.slicePlaces
  have h1 : ¬ ((-1 : Int) > 0) := by decide
  simp only [h1, if_false, show (- -1 : Int) = 1 by decide, Int.ediv_one]
  split <;> omega
theorem rev_adjust (n : Nat) : Builtin.Slice.sliceAdjust none none (-1) (n : Int) = ((n : Int) - 1, -1) := by
  unfold Builtin.Slice.sliceAdjust
  simp
theorem sliceApplied_rev {sl : Addr} {vs : Value} {n : Nat} {Q : Int × Int × Nat → Shared → Prop} (hs : s.heap.IsSliceOf sl .none .none vs) (ps : IsPart vs (some (-1)))
    (h : Q (((n : Int) - 1), -1, n) s) : wpAny (model prog w) A (Builtin.Slice.sliceApplied (.ref sl) (pure (n : Int))) Q E s := by
  obtain ⟨os, hos, hcs, hds⟩ := id hs
  unfold Builtin.Slice.sliceApplied Builtin.Slice.sliceFields
  refine wpAny_bind (wpAny_bind (wpAny_field hos hds (x := .none) rfl (wpAny_bind (wpAny_field hos hds (x := .none) rfl (wpAny_bind (wpAny_field hos hds (x := vs) rfl (wpAny_pure ?_)))))))
  refine wpAny_bind (slicePart_ ps ?_)
  show wpAny _ _ (if ((-1 : Int) == 0) = true then _ else _) _ _ s
  rw [if_neg (by decide)]
  refine wpAny_bind (slicePart_none (wpAny_bind (slicePart_none (wpAny_bind (wpAny_pure ?_)))))
  show wpAny _ _ (match Builtin.Slice.sliceAdjust none none (-1) (n : Int) with | (lo, hi) => pure (lo, (-1 : Int), Builtin.Slice.slicePlaces lo hi (-1))) _ _ s
  rw [rev_adjust]
  show wpAny _ _ (pure (((n : Int) - 1), (-1 : Int), Builtin.Slice.slicePlaces ((n : Int) - 1) (-1) (-1))) _ _ s
  rw [rev_places]
  exact wpAny_pure h
theorem fm_congr {α β : Type} {f g : α → Option β} : ∀ {l : List α}, (∀ x ∈ l, f x = g x) → l.filterMap f = l.filterMap g
  | [], _ => rfl
  | x :: l, h => by
    rw [List.filterMap_cons, List.filterMap_cons, h x List.mem_cons_self, fm_congr (l := l) fun y hy => h y (List.mem_cons_of_mem _ hy)]
theorem same_fresh {H : Hp} {p : Addr} {u : HO} (h : H p = none) : Same H (upd H p u) := fun b o e => by
  rw [upd_ne (ne_of_none e h)]
  exact e
theorem rev_pick (xs : Array Value) : ((List.range xs.size).filterMap fun (m : Nat) => xs[(((xs.size : Nat) : Int) - 1 + (m : Int) * (-1)).toNat]?).toArray = xs.toList.reverse.toArray := by
  have e1 : ((List.range xs.size).filterMap fun (m : Nat) => xs[(((xs.size : Nat) : Int) - 1 + (m : Int) * (-1)).toNat]?) = (List.range xs.size).filterMap fun (m : Nat) => xs[xs.size - 1 - m]? := by
    refine fm_congr fun m hm => ?_
    have := List.mem_range.mp hm
    rw [show (((xs.size : Nat) : Int) - 1 + (m : Int) * (-1)).toNat = xs.size - 1 - m by omega]
  rw [e1]
  have e2 : ((List.range xs.size).filterMap fun (m : Nat) => xs[xs.size - 1 - m]?) = ((List.range xs.size).map fun k => xs.size - 1 - k).filterMap (xs[·]?) := by
    rw [List.filterMap_map]
    rfl
  rw [e2, PySem.W.krv_range, List.filterMap_reverse, PySem.W.krv_all]
/-- t[::-1] makes a new tuple: the slice is never the whole, for its step is -1 -/
theorem getItem_tuple_rev {t sl : Addr} {its : Array Value} {step : Value} {Q : Value → Shared → Prop} (isT : IsTup s.heap t its) (isSl : s.heap.IsSliceOf sl .none .none step) (minus : IsPart step (some (-1)))
    (q : Q (.ref s.heap.objs.size) { s with heap := s.heap.push { cls := .type "tuple", data := .seq its.toList.reverse.toArray } }) (small : its.size ≤ sizeLine) : wpAny (model prog w) A (getItem (.ref t) (.ref sl)) Q E s := by
  have fits : sizeOk (.seq its.toList.reverse.toArray) := by
    show its.toList.reverse.toArray.size ≤ _
    simpa using small
  have tySl : s.TypeIs (.ref sl) "slice" := let ⟨o, g, c, _⟩ := isSl; ⟨o, g, c⟩
  have notWhole : (((((its.size : Nat) : Int) - 1) == 0 && (-1 : Int) == 1) && its.size == its.size) = false := by simp
  unfold getItem
  try with_reducible refine wpAny_holding ?_
  try refine wpAny_bind (wpAny_pure ?_)
  refine wpAny_bind (wpAny_sequenceKey isT.typeIs (by decide) (wpAny_bind (wpAny_callSpecial?_slot (name := Str.ofString "__getitem__") isT.typeIs PyProof.Rows.slot_tuple_getitem (wpAny_call_entry PyProof.Rows.slot_tuple_getitem isT.typeIs entry_tuple_getitem ?_ (args_tuple_getitem _ _)))))
  show wpAny _ _ (Builtin.Tuple.tupleItemsOf (.ref t) >>= _) _ _ s
  refine wpAny_bind (tupleItemsOf_ isT (wpAny_bind (wpAny_typeOf tySl ?_)))
  rw [if_pos (by decide)]
  refine wpAny_bind (sliceApplied_rev isSl minus ?_)
  show wpAny _ _ (if ((((its.size : Nat) : Int) - 1) == 0 && (-1 : Int) == 1 && its.size == its.size) = true then _ else _) _ _ s
  rw [notWhole, if_neg (by decide), rev_pick]
  first
    | exact wpAny_bind (m := Builtin.Tuple.tupleExact _) (wpAny_newObj_type (wpAny_pure ⟨_, rfl, wpAny_pure q⟩) fits)
    | exact wpAny_bind (wpAny_bind (m := Builtin.Tuple.tupleExact _) (wpAny_newObj_type (wpAny_pure (wpAny_pure ⟨_, rfl, wpAny_pure q⟩)) fits))
    | exact wpAny_bind (wpAny_bind (m := Builtin.Tuple.tupleExact _) (wpAny_newObj_type (wpAny_pure ⟨_, rfl, wpAny_pure q⟩) fits))
end
section
variable {X : Cx}
/-- t[::-1], a plain tuple -/
def tRevP (K : PySem.W.Frag) (te : TE) : TE := fun σ H Q => te σ H fun x H1 => ∃ a xs, x = .ref a ∧ SqT K H1 a xs ∧ ∀ p H', Same H1 H' → Ptp H' p xs.reverse → Q (.ref p) H'
theorem pe_revP {e : Expr} {te : TE} {k : Nat} {p1 p2 p3 pos : Pos} (he : PE X e te) : PE X (.Subscript e (.Slice none none (some (.UnaryOp .USub (.Constant (.int 1) k p1) p2)) p3) pos) (tRevP X.K te) := by
  refine ⟨fun pins s σ H Q I h => ?_⟩
  refine Subscript_ (thn (he.run pins s σ H _ I h) fun v s1 ⟨x, H1, I1, r1, q1⟩ => ?_)
  obtain ⟨a, xs, ex, hx, q⟩ := q1
  subst ex
  cases r1
  have hst : PO X (some (.UnaryOp .USub (.Constant (.int 1) k p1) p2)) (tPart (tUn (rU fun i => .int (-i)) (tC (.int 1)))) := po_some (pe_un un_neg pe_int)
  refine wpAny_Slice (thn (po_none.run pins s1 σ H1 (fun o H2 => o = none ∧ H2 = H1) I1 ⟨rfl, rfl⟩) fun vl s2 ⟨l, H2, I2, pl, el, e2⟩ => ?_)
  subst el e2
  refine thn (po_none.run pins s2 σ H2 (fun o H3 => o = none ∧ H3 = H2) I2 ⟨rfl, rfl⟩) fun vu s3 ⟨u, H3, I3, pu, eu, e3⟩ => ?_
  subst eu e3
  refine thn (hst.run pins s3 σ H3 (fun o H4 => o = some (-1) ∧ H4 = H3) I3 ⟨1, rfl, -1, rfl, rfl, rfl⟩) fun vs s4 ⟨o, H4, I4, ps, eo, e4⟩ => ?_
  subst eo e4
  cases pl
  cases pu
  have I5 : Inv X pins σ H4 { s4 with heap := s4.heap.push { cls := .type "slice", data := .fields #[.none, .none, vs] } } := I4.kept (t' := s4.toks) fun b ob q => Heap.get?_push_of_some _ q
  obtain ⟨its, r, ht, hz⟩ := I5.tuple hx
  have hlen := r.length
  show wpAny (model X.prog X.w) X.A (subscriptTail e (.Slice none none (some (.UnaryOp .USub (.Constant (.int 1) k p1) p2)) p3) (.ref a) (.ref s4.heap.objs.size)) (EP X pins σ Q) X.xe { s4 with heap := s4.heap.push { cls := .type "slice", data := .fields #[.none, .none, vs] } }
  refine tail_any (ops := [.ref a, .ref s4.heap.objs.size]) ht.typeIs (PyProof.Rows.slot_tuple_getitem.lookup) ?_ (by with_unfolding_all rfl)
  refine getItem_tuple_rev ht (Heap.IsSliceOf.new _ .none .none vs) ps ?_ (by rw [List.size_toArray]; omega)
  have hf := I5.hok.fresh (Nat.le_refl _)
  refine ⟨.ref _, _, I5.laid (t' := s4.toks) (o := .frz { cls := .type "tuple", data := .seq its.reverse.toArray } (.tup xs.reverse)) (fun b ob q => Heap.get?_push_of_some _ q) (Nat.le_refl _) ?_, rfl, q _ _ (same_fresh hf) ⟨_, upd_same, rfl⟩⟩
  exact ⟨Heap.get?_push_size _ rfl, by rw [List.length_reverse]; exact hz, _, r.reverse, ⟨_, Heap.get?_push_size _ rfl, rfl, _, rfl⟩⟩
/-- t[lo:hi], t a plain tuple: a plain tuple -/
def rSlP (K : PySem.W.Frag) : V → Option Int → Option Int → Hp → VK → Prop := fun x lo hi H Q => ∃ a xs, x = .ref a ∧ Ptp H a xs ∧ ∀ p H', Same H H' → Ptp H' p (cutV xs lo hi) → Q (.ref p) H'
theorem cutV_whole {xs : List V} {lo hi : Option Int} (h : HT.sIx xs.length 0 lo = 0 ∧ HT.sIx xs.length xs.length hi = xs.length) : cutV xs lo hi = xs := by
  unfold cutV
  rw [h.1, h.2, List.drop_zero, Nat.sub_zero, List.take_length]
theorem sl_tupP : SlR X (rSlP X.K) := by
  intro pins s σ H x v vl vu lo hi sl Q I rx hs pl pu h
  obtain ⟨a, xs, rfl, hx, q⟩ := h
  by_cases hw : HT.sIx xs.length 0 lo = 0 ∧ HT.sIx xs.length xs.length hi = xs.length
  · exact sl_tupA pins s σ H _ v vl vu lo hi sl Q I rx hs pl pu ⟨a, xs, rfl, hx.seq, fun _ => q a H (Same.refl H) (by rw [cutV_whole hw]; exact hx), fun n => absurd hw n⟩
  · cases rx
    obtain ⟨its, r, ht, hz⟩ := I.tuple hx.seq
    have hlen : its.toArray.size = xs.length := by rw [List.size_toArray]; exact r.length.symm
    refine ⟨"tuple", _, PyProof.Rows.slot_tuple_getitem.lookup, ht.typeIs, ?_⟩
    refine HT.getItem_tuple_cut ht hs pl pu (by rw [hlen]; exact hw) ?_ (by rw [hlen]; exact hz)
    rw [hlen]
    have hf := I.hok.fresh (Nat.le_refl _)
    refine ⟨.ref s.heap.objs.size, _, I.laid (t' := s.toks) (o := .frz { cls := .type "tuple", data := .seq ((its.drop (HT.sIx xs.length 0 lo)).take (HT.sIx xs.length xs.length hi - HT.sIx xs.length 0 lo)).toArray } (.tup (cutV xs lo hi))) (fun b ob q => Heap.get?_push_of_some _ q) (Nat.le_refl _) ?_, rfl, q _ _ (same_fresh hf) ⟨_, upd_same, rfl⟩⟩
    exact ⟨Heap.get?_push_size _ rfl, Nat.le_trans (cutV_length xs lo hi) hz, _, (r.drop (HT.sIx xs.length 0 lo)).take (HT.sIx xs.length xs.length hi - HT.sIx xs.length 0 lo), ⟨_, Heap.get?_push_size _ rfl, rfl, _, rfl⟩⟩
/-- t + u, plain tuples: a plain tuple -/
def rCatP (K : PySem.W.Frag) : R2 := fun x y H Q => ∃ a b xs ys, x = .ref a ∧ y = .ref b ∧ Ptp H a xs ∧ Ptp H b ys ∧ xs.length + ys.length ≤ sizeLine ∧ ∀ p H', Same H H' → Ptp H' p (xs ++ ys) → Q (.ref p) H'
theorem op_catP : OpR X (binaryOp .Add) (rCatP X.K) := by
  intro pins s σ H x y v u Q I rx ry h
  obtain ⟨a, b, xs, ys, rfl, rfl, ha, hb, hz, q⟩ := h
  by_cases hx : xs = []
  · subst hx
    exact op_catA pins s σ H _ _ v u Q I rx ry ⟨a, b, [], ys, rfl, rfl, ha.seq, hb.seq, hz, fun _ => q b H (Same.refl H) hb, fun n => absurd rfl n, fun n => absurd rfl n⟩
  · cases rx
    cases ry
    obtain ⟨its, r1, p1, _⟩ := I.tuple ha.seq
    obtain ⟨its2, r2, p2, _⟩ := I.tuple hb.seq
    refine HT.cat_tup p1 p2 (fun z => hx (r1.nil_iff.mp z)) (fun z => ⟨.ref a, H, I, rfl, q a H (Same.refl H) (by rw [r2.nil_iff.mp z, List.append_nil]; exact ha)⟩) (fun z => ?_) (by rw [← r1.length, ← r2.length]; exact hz)
    have hf := I.hok.fresh (Nat.le_refl _)
    refine ⟨.ref s.heap.objs.size, _, I.laid (t' := s.toks) (o := .frz { cls := .type "tuple", data := .seq (its ++ its2).toArray } (.tup (xs ++ ys))) (fun b ob q => Heap.get?_push_of_some _ q) (Nat.le_refl _) ?_, rfl, q _ _ (same_fresh hf) ⟨_, upd_same, rfl⟩⟩
    exact ⟨Heap.get?_push_size _ rfl, by rw [List.length_append]; exact hz, _, r1.append r2, ⟨_, Heap.get?_push_size _ rfl, rfl, _, rfl⟩⟩
end
end L2

namespace Kb
open PySem PySem.Spec PyProof.Rows L2 SrtZ SrtO
abbrev slost : Stmt := topS 49
abbrev Nlost : List Str := ["_law_sketch_here", "_law_name", "_law_count"]
theorem sclost : FnScope ["_law_sketch_here", "_law_name", "_law_count"] ["_law_sketch_here"] (defScope slost) := ⟨rfl, rfl, rfl, by decide +kernel, rfl, by decide +kernel, by decide +kernel⟩
abbrev struth : Stmt := topS 50
abbrev Ntruth : List Str := ["_law_hand_here", "_law_sketch_here", "_law_fresh", "_law_taken", "_law_left", "_law_names", "_law_turn", "_law_more", "_law_counts", "_law_name", "_law_count"]
theorem sctruth : FnScope ["_law_hand_here", "_law_sketch_here", "_law_fresh", "_law_taken", "_law_left", "_law_names", "_law_turn", "_law_more", "_law_counts", "_law_name", "_law_count"] ["_law_hand_here", "_law_sketch_here", "_law_fresh"] (defScope struth) := ⟨rfl, rfl, rfl, by decide +kernel, rfl, by decide +kernel, by decide +kernel⟩
abbrev Dnlost (K : PySem.W.Frag) (mg : Str → Option Value) := Dn K mg "_law_lost" slost ["_law_sketch_here"]
abbrev Dntruth (K : PySem.W.Frag) (mg : Str → Option Value) := Dn K mg "_law_truth" struth ["_law_hand_here", "_law_sketch_here", "_law_fresh"]
/-! mathematics: what is taken -/
def min3 (i j k : Int) : Int := if k < (if j < i then j else i) then k else (if j < i then j else i)
theorem nuMin3_int (i j k : Int) : nuMin3 (.int i) (.int j) (.int k) = some (.int (min3 i j k)) := by
  unfold nuMin3 min3
  by_cases h : j < i
  · have e : nuMin2 (.int i) (.int j) = some (.int j) := by
      show ((some (decide (j < i))).map fun c => if c = true then V.int j else V.int i) = _
      rw [decide_eq_true h]
      rfl
    rw [e, if_pos h]
    show ((some (decide (k < j))).map fun c => if c = true then V.int k else V.int j) = _
    by_cases h2 : k < j
    · rw [decide_eq_true h2, if_pos h2]
      rfl
    · rw [decide_eq_false h2, if_neg h2]
      rfl
  · have e : nuMin2 (.int i) (.int j) = some (.int i) := by
      show ((some (decide (j < i))).map fun c => if c = true then V.int j else V.int i) = _
      rw [decide_eq_false h]
      rfl
    rw [e, if_neg h]
    show ((some (decide (k < i))).map fun c => if c = true then V.int k else V.int i) = _
    by_cases h2 : k < i
    · rw [decide_eq_true h2, if_pos h2]
      rfl
    · rw [decide_eq_false h2, if_neg h2]
      rfl
theorem sumC_nn : ∀ {t : Ct}, (∀ e ∈ t, 0 ≤ e.2) → 0 ≤ sumC t
  | [], _ => Int.le_refl _
  | e :: t, h => by
    rw [sumC_cons']
    have := h e List.mem_cons_self
    have := sumC_nn (t := t) fun f hf => h f (List.mem_cons_of_mem _ hf)
    omega
theorem gd_cons (e : Str × Int) (t : Ct) (k : Str) : gd (e :: t) k = if e.1 = k then e.2 else gd t k := by
  unfold gd
  rw [getZ_cons]
  split <;> rfl
theorem gd_out {t : Ct} {k : Str} (h : k ∉ t.map (·.1)) : gd t k = 0 := by
  unfold gd
  rw [getZ_none.mpr h]
  rfl
/-- without a name -/
def wo (n : Str) (t : Ct) : Ct := t.filter fun e => !decide (e.1 = n)
theorem wo_out {n : Str} : ∀ {t : Ct}, n ∉ t.map (·.1) → wo n t = t
  | [], _ => rfl
  | e :: t, h => by
    rw [List.map_cons, List.mem_cons, not_or] at h
    unfold wo
    rw [List.filter_cons_of_pos (by simpa using fun z => h.1 z.symm)]
    exact congrArg _ (wo_out (t := t) h.2)
theorem wo_sum {n : Str} : ∀ {t : Ct}, NdZ t → sumC (wo n t) = sumC t - gd t n
  | [], _ => by show (0 : Int) = 0 - 0; rfl
  | e :: t, nd => by
    unfold NdZ at nd
    rw [List.map_cons, List.nodup_cons] at nd
    by_cases h : e.1 = n
    · have hn : n ∉ t.map (·.1) := by rw [← h]; exact nd.1
      have : wo n (e :: t) = wo n t := by
        unfold wo
        rw [List.filter_cons_of_neg (by simp [h])]
      rw [this, wo_out hn, sumC_cons', gd_cons, if_pos h]
      omega
    · have : wo n (e :: t) = e :: wo n t := by
        unfold wo
        rw [List.filter_cons_of_pos (by simpa using h)]
      rw [this, sumC_cons', sumC_cons', gd_cons, if_neg h, wo_sum nd.2]
      omega
theorem wo_gd {n k : Str} (h : ¬ k = n) : ∀ t : Ct, gd (wo n t) k = gd t k
  | [] => rfl
  | e :: t => by
    by_cases hn : e.1 = n
    · have : wo n (e :: t) = wo n t := by
        unfold wo
        rw [List.filter_cons_of_neg (by simp [hn])]
      rw [this, gd_cons, if_neg (fun z => h (z.symm.trans hn)), wo_gd h t]
    · have : wo n (e :: t) = e :: wo n t := by
        unfold wo
        rw [List.filter_cons_of_pos (by simpa using hn)]
      rw [this, gd_cons, gd_cons, wo_gd h t]
theorem wo_nd {n : Str} {t : Ct} (nd : NdZ t) : NdZ (wo n t) := by
  unfold NdZ wo
  exact nd.sublist (List.Sublist.map _ List.filter_sublist)
theorem full_sum {o : Int} : ∀ {ns : List Str} {t : Ct}, ns.Nodup → NdZ t → (∀ e ∈ t, 0 ≤ e.2) → (∀ n ∈ ns, gd t n = o) → (ns.length : Int) * o ≤ sumC t
  | [], t, _, _, nn, _ => by
    have := sumC_nn nn
    show ((0 : Nat) : Int) * o ≤ _
    rw [Int.natCast_zero, Int.zero_mul]
    exact this
  | n :: ns, t, hn, nd, nn, h => by
    rw [List.nodup_cons] at hn
    have ih := full_sum (o := o) (ns := ns) (t := wo n t) hn.2 (wo_nd nd) (fun e he => nn e (List.mem_filter.mp he).1) fun k hk => by
      rw [wo_gd (n := n) (k := k) (fun z => hn.1 (by rw [← z]; exact hk)) t]
      exact h k (List.mem_cons_of_mem _ hk)
    rw [wo_sum nd, h n List.mem_cons_self] at ih
    show ((ns.length + 1 : Nat) : Int) * o ≤ sumC t
    push_cast
    rw [Int.add_mul, Int.one_mul]
    omega
theorem nodup_len : ∀ {l m : List Str}, l.Nodup → (∀ x ∈ l, x ∈ m) → l.length ≤ m.length
  | [], _, _, _ => Nat.zero_le _
  | x :: l, m, nd, h => by
    rw [List.nodup_cons] at nd
    have hx := h x List.mem_cons_self
    have ih := nodup_len (l := l) (m := m.erase x) nd.2 fun y hy => (List.mem_erase_of_ne (fun z => nd.1 (by rw [← z]; exact hy))).mpr (h y (List.mem_cons_of_mem _ hy))
    rw [List.length_erase_of_mem hx] at ih
    have := List.length_pos_of_mem hx
    show l.length + 1 ≤ m.length
    omega
/-- what is taken so far, and what is left -/
structure Tk (ns : List Str) (o lost : Int) (t : Ct) (left : Int) : Prop where
  nd : NdZ t
  ins : ∀ e ∈ t, e.1 ∈ ns
  nn : ∀ e ∈ t, 0 ≤ e.2
  le : ∀ k, gd t k ≤ o
  sum : left = lost - sumC t
  pos : 0 ≤ left
theorem gd_nn {t : Ct} (nn : ∀ e ∈ t, 0 ≤ e.2) (k : Str) : 0 ≤ gd t k := by
  unfold gd
  cases h : getZ t k with
  | none => exact Int.le_refl _
  | some v => exact nn _ (getZ_in h)
theorem Tk.zero {ns : List Str} {o lost : Int} (h0 : 0 ≤ o) (hl : 0 ≤ lost) : Tk ns o lost [] lost := ⟨List.nodup_nil, (fun _ h => nomatch h), (fun _ h => nomatch h), fun k => h0, by show lost = lost - 0; omega, hl⟩
theorem Tk.more {ns : List Str} {o lost : Int} {t : Ct} {left more : Int} {n : Str} (h : Tk ns o lost t left) (hn : n ∈ ns) (m0 : 0 ≤ more) (m1 : more ≤ left) (m2 : more ≤ o - gd t n) : Tk ns o lost (addZ t n more) (left - more) := by
  refine ⟨addZ_nd h.nd, fun e he => ?_, fun e he => ?_, fun k => ?_, ?_, by omega⟩
  · rcases putZ_mem he with he | rfl
    · exact h.ins e he
    · exact hn
  · rcases putZ_mem he with he | rfl
    · exact h.nn e he
    · have := gd_nn h.nn n
      unfold gd at this
      show 0 ≤ (getZ t n).getD 0 + more
      omega
  · rw [gd_add]
    have := h.le k
    by_cases e : k = n
    · rw [if_pos e, e]
      omega
    · rw [if_neg e]
      omega
  · rw [sumC_add h.nd, h.sum]
    omega
theorem Tk.len {ns : List Str} {o lost : Int} {t : Ct} {left : Int} (h : Tk ns o lost t left) : t.length ≤ ns.length := by
  have hs : (t.map (·.1)).length ≤ ns.length := by
    refine nodup_len h.nd fun k hk => ?_
    obtain ⟨e, he, rfl⟩ := List.mem_map.mp hk
    exact h.ins e he
  rw [List.length_map] at hs
  exact hs
theorem take0_gd {t : Ct} (nd : NdZ t) (nn : ∀ e ∈ t, 0 ≤ e.2) (k : Str) : gd (takeZ 0 t) k = gd t k := by
  unfold gd
  rw [getZ_take nd]
  cases h : getZ t k with
  | none => rfl
  | some v =>
    have := nn _ (getZ_in h)
    show ((if (0 : Int) < v then some (v - 0) else none).getD 0) = v
    have : (0 : Int) ≤ v := this
    split
    · show v - 0 = v; omega
    · show 0 = v; omega
theorem take0_sum : ∀ {t : Ct}, (∀ e ∈ t, 0 ≤ e.2) → sumC (takeZ 0 t) = sumC t
  | [], _ => rfl
  | e :: t, h => by
    have ih := take0_sum (t := t) fun f hf => h f (List.mem_cons_of_mem _ hf)
    have h0 := h e List.mem_cons_self
    by_cases hp : 0 < e.2
    · have : takeZ 0 (e :: t) = (e.1, e.2 - 0) :: takeZ 0 t := by
        unfold takeZ
        rw [List.filter_cons_of_pos (by simpa using hp)]
        rfl
      rw [this, sumC_cons', sumC_cons', ih]
      show e.2 - 0 + sumC t = _
      omega
    · have : takeZ 0 (e :: t) = takeZ 0 t := by
        unfold takeZ
        rw [List.filter_cons_of_neg (by simpa using hp)]
      rw [this, sumC_cons', ih]
      omega
/-- a truth of a sketch -/
structure TrOf (x : Tl) (ys : Ct) : Prop where
  asc : Asc ys
  nd : NdZ ys
  pos : ∀ e ∈ ys, 1 ≤ e.2
  nm : ∀ e ∈ ys, Nm e.1
  lo : ∀ k, gd x.c k ≤ gd ys k
  hi : ∀ k, gd ys k - gd x.c k ≤ x.o
  sum : sumC ys = x.m
theorem TrOf.of_taken {ns : List Str} {x : Tl} {r : Int} {t : Ct} (ok : TlOk r x) (h : Tk ns x.o (x.m - sumC x.c) t 0) (hn : ∀ n ∈ ns, Nm n) : TrOf x (takeZ 0 (srtZ (sumsZ t (srtZ x.c)))) := by
  have okS : TlOk r (skT x) := skT_ok ok
  have ndk : NdZ (srtZ x.c) := srtZ_nd ok.nd
  have nda : NdZ (sumsZ t (srtZ x.c)) := sumsZ_nd ndk
  have nds := srtZ_nd nda
  have sg : ∀ k, gd (srtZ x.c) k = gd x.c k := fun k => by
    unfold gd
    rw [getZ_perm (srtZ_perm x.c) ndk]
  have ga : ∀ k, gd (srtZ (sumsZ t (srtZ x.c))) k = gd x.c k + gd t k := fun k => by
    have : gd (srtZ (sumsZ t (srtZ x.c))) k = gd (sumsZ t (srtZ x.c)) k := by
      unfold gd
      rw [getZ_perm (srtZ_perm _) nds]
    rw [this, gd_sums h.nd, sg]
  have nn : ∀ e ∈ srtZ (sumsZ t (srtZ x.c)), 0 ≤ e.2 := fun e he => by
    have h1 : gd (srtZ (sumsZ t (srtZ x.c))) e.1 = e.2 := by
      unfold gd
      rw [getZ_mem nds he]
      rfl
    rw [ga] at h1
    have := gd_nn h.nn e.1
    have : 0 ≤ gd x.c e.1 := getZ_pos ok.pos
    omega
  refine ⟨takeZ_asc (srtZ_asc nda), takeZ_nd nds, takeZ_pos, takeZ_nm fun e he => ?_, fun k => ?_, fun k => ?_, ?_⟩
  · have he2 := (srtZ_perm _).mem_iff.mp he
    have gen : ∀ {more kvs : Ct}, (∀ e ∈ more, Nm e.1) → (∀ e ∈ kvs, Nm e.1) → ∀ e ∈ sumsZ more kvs, Nm e.1 := sumsZ_nm
    exact gen (fun e he => hn _ (h.ins e he)) okS.nm e he2
  · rw [take0_gd nds nn, ga]
    have := gd_nn h.nn k
    omega
  · rw [take0_gd nds nn, ga]
    have := h.le k
    omega
  · rw [take0_sum nn, sumC_perm' (srtZ_perm _), sumC_sums ndk, sumC_perm' (srtZ_perm x.c)]
    have := h.sum
    omega
end Kb

namespace Kb
open PySem PySem.Spec PyProof.Rows L2 SrtZ SrtO
section
variable {P : Program} {w : World} {K : PySem.W.Frag} {mg : Str → Option Value} {base : Heap}
theorem unlk {H H3 : Hp} {d : Addr} {u : HO} {od : Obj} (hd : H d = some u) (s : Same (upd H d (.frz od u)) H3) : Same H (upd H3 d u) := unlock_same hd s
/-! _law_lost -/
def spLost : Sp := fun vs H Q _ => ∃ (s : Addr) (r : Int) (x : Tl), vs = [.ref s] ∧ SkAt H s r x ∧ x.c.length ≤ 1000 ∧ ∀ H', Same H H' → Q (.int (x.m - sumC x.c)) H'
theorem ok_lost (T : Blt mg) (d : Dnlost K mg) : FnOk P w K mg base CX0 1 d.f d.fd ["_law_sketch_here"] spLost := by
  refine d.F.ok sclost (fun vs H Q E h => ?_) (fun cdv A outer s H vs Q E hr h => ?_)
  · obtain ⟨s, _, _, rfl, _⟩ := h
    rfl
  · obtain ⟨s, r, ⟨m, o, kvs0⟩, rfl, ⟨k, ts, hs0, hk, hp⟩, hl, q⟩ := h
    dsimp only at hs0 hp hl q
    have hs : SqT K H s [.int r, .int m, .int o, .ref k] := .inl (.inl hs0)
    have hl2 : (srtZ kvs0).length ≤ 1000 := by rw [(srtZ_perm kvs0).length_eq]; exact hl
    rw [← sumC_perm' (srtZ_perm kvs0)] at q
    generalize srtZ kvs0 = kvs at hp hl2 q
    refine ⟨_, (pss_one (ps_ret (pe_op op_sub (pe_ix ix_tup (pv 0) pe_int (fun _ _ => rfl)) (pe_callB (cr_sum rfl) (by rfl) T.n_sum (by decide +kernel) (pa_cons (pe_lc (own := [("_law_name", 1), ("_law_count", 2)]) (g := gTup K 2 (gCons (gName 1) (gCons (gName 2) gNil))) (tt := tYes) rfl sclost.nd (pi_tup (pe_ix ix_tup (pv 0) pe_int (fun _ _ => rfl))) (blkOk_by (N := Nlost) (sc := defScope slost) (by decide +kernel)) (fun _ _ _ _ _ => pg_tup (by rfl) (pgs_cons (pg_name (i := 1) sclost.nd rfl (Or.inl rfl)) (pgs_cons (pg_name (i := 2) sclost.nd rfl (Or.inl rfl)) pgs_nil))) (fun _ _ _ _ _ => pts_nil) (fun _ _ _ _ _ => (pv 2))) pa_nil))))), ?_⟩
    refine ⟨.ref s, rfl, s, _, _, _, rfl, rfl, hs, atI_nat (j := 1) rfl, .ref s, rfl, s, _, _, _, rfl, rfl, hs, atI_nat (j := 3) rfl, k, rfl, ⟨_, hk.seq⟩, fun D nD => lc_tup (xs := ts.map V.ref) (fun i H3 => Same H H3 ∧ H3 D = some (.lst ((kvs.take i).map fun e => V.int e.2))) ⟨same_upd nD, upd_same⟩ (fun i H3 _ h3 => (hk.same h3.1).seq) (fun i x H3 hx h3 => ?_) (fun H3 h3 => ?_)⟩
    · obtain ⟨t, ht, rfl⟩ := map_at hx
      obtain ⟨e, he, hat⟩ := paired_at hp ht
      refine ⟨t, _, rfl, .inl (.inl (h3.1 _ _ hat)), rfl, _, _, rfl, _, _, rfl, rfl, rfl, .int e.2, rfl, _, h3.2, ?_, fun b o z => ?_, ?_⟩
      · rw [List.length_map, List.length_take, sizeLine_eq]
        omega
      · rw [upd_ne (ne_of_none z nD)]
        exact h3.1 b o z
      · rw [upd_same, List.take_add_one, he, List.map_append]
        rfl
    · refine ⟨D, kvs.map (fun e : Str × Int => e.2), rfl, sql ?_, _, _, rfl, rfl, q H3 h3.1⟩
      rw [h3.2, List.length_map, Paired.length hp, List.take_length, List.map_map]
      rfl
/-! _law_truth -/
def spTruth : Sp := fun vs H Q _ => ∃ (a c s f : Addr) (r : Int) (x : Tl) (fs : List Str), vs = [.ref a, .ref s, .ref f] ∧ Wl a c H ∧ SkAt H s r x ∧ TlOk r x ∧ x.c.length ≤ 100 ∧ f ≠ a ∧ H f = some (.lst (fs.map V.str)) ∧ fs.length ≤ 700 ∧
  ((srtZ x.c).map (·.1) ++ fs).Nodup ∧ (∀ z ∈ fs, Nm z) ∧ 0 ≤ x.o ∧ x.o < 1000000000 ∧ 0 ≤ x.m - sumC x.c ∧ x.m - sumC x.c ≤ (((srtZ x.c).map (·.1) ++ fs).length : Nat) * x.o ∧
  ∀ H' k (ts : List Addr) (ys : Ct), Exw a H H' → Wl a c H' → H k = none → Ptp H' k (ts.map V.ref) → Paired (PrT H') ts ys → TrOf x ys → ys.length ≤ 900 → Q (.ref k) H'
theorem ok_truth (T : Blt mg) (ddraw : Dndraw K mg) (dany : Dnany K mg) (dlost : Dnlost K mg) (d : Dntruth K mg) : FnOk P w K mg base CX0 3 d.f d.fd ["_law_hand_here", "_law_sketch_here", "_law_fresh"] spTruth := by
  have Gdraw : FnOk P w K mg base CX0 1 ddraw.f ddraw.fd ["_law_hand_here", "_law_many"] spDraw := ok_draw T ddraw
  have Gany : FnOk P w K mg base CX0 2 dany.f dany.fd ["_law_hand_here", "_law_things"] spAny := ok_any T ddraw dany
  have Glost : FnOk P w K mg base CX0 1 dlost.f dlost.fd ["_law_sketch_here"] spLost := ok_lost T dlost
  refine d.F.ok sctruth (fun vs H Q E h => ?_) (fun cdv A outer s H vs Q E hr h => ?_)
  · obtain ⟨a, c, s, f, _, _, _, rfl, _⟩ := h
    rfl
  · obtain ⟨a, c, sk, f, r, x, fs, rfl, w0, hsk, ok, hxl, fa, hf, hfl, hnd, hfn, ho0, ho1, hl0, hl1, q⟩ := h
    have hu := hu_of hr
    have hnm : ∀ n ∈ (srtZ x.c).map (·.1) ++ fs, Nm n := fun n hn => by
      rcases List.mem_append.mp hn with hn | hn
      · obtain ⟨e, he, rfl⟩ := List.mem_map.mp hn
        exact (skT_ok ok).nm e he
      · exact hfn n hn
    have ofT : ∀ {t : Ct}, Tk ((srtZ x.c).map (·.1) ++ fs) x.o (x.m - sumC x.c) t 0 → TrOf x (takeZ 0 (srtZ (sumsZ t (srtZ x.c)))) := fun h => TrOf.of_taken ok h hnm
    have hkl : (srtZ x.c).length ≤ 100 := by rw [(srtZ_perm x.c).length_eq]; exact hxl
    refine ⟨_, (pss_cons (ps_set (i := 3) sctruth.nd rfl (Or.inl rfl) pe_dnewK)
    (pss_cons (ps_set (i := 4) sctruth.nd rfl (Or.inl rfl) (pe_call Glost (hr.mono (by omega)) (by rfl) dlost.g dlost.F.kp dlost.b .nil pass0 (pa_cons (pv 1) pa_nil)))
    (pss_cons (ps_set (i := 5) sctruth.nd rfl (Or.inl rfl) (pe_op op_cat (pe_lc (own := [("_law_name", 9), ("_law_count", 10)]) (g := gTup K 2 (gCons (gName 9) (gCons (gName 10) gNil))) (tt := tYes) rfl sctruth.nd (pi_tup (pe_ix ix_tup (pv 1) pe_int (fun _ _ => rfl))) (blkOk_by (N := Ntruth) (sc := defScope struth) (by decide +kernel)) (fun _ _ _ _ _ => pg_tup (by rfl) (pgs_cons (pg_name (i := 9) sctruth.nd rfl (Or.inl rfl)) (pgs_cons (pg_name (i := 10) sctruth.nd rfl (Or.inl rfl)) pgs_nil))) (fun _ _ _ _ _ => pts_nil) (fun _ _ _ _ _ => (pv 9))) (pv 2)))
    (pss_cons (ps_for PassesOwn.never rfl (pi_range1 (by rfl) T.n_range (pa_cons pe_int pa_nil)) (pg_name (i := 6) sctruth.nd rfl (Or.inl rfl))
      (pss_one (ps_if (pt_cmpR op_gt (pv 4) pe_int (nomark _))
        (pss_cons (ps_set (i := 9) sctruth.nd rfl (Or.inl rfl) (pe_call Gany (hr.mono (by omega)) (by rfl) dany.g dany.F.kp dany.b .nil pass0 (pa_cons (pv 0) (pa_cons (pv 5) pa_nil))))
        (pss_cons (ps_set (i := 7) sctruth.nd rfl (Or.inl rfl) (pe_callB (call_min3Nu rfl) (by rfl) T.n_min (by decide +kernel) (pa_cons (pv 4) (pa_cons (pe_op op_sub (pe_ix ix_tup (pv 1) pe_int (fun _ _ => rfl)) (pe_dget2 hu (pv 3) (pv 9) pe_int ⟨rfl, rfl, rfl, rfl⟩)) (pa_cons (pe_op op_add pe_int (pe_call Gdraw (hr.mono (by omega)) (by rfl) ddraw.g ddraw.F.kp ddraw.b .nil pass0 (pa_cons (pv 0) (pa_cons (pe_callB (call_max2 rfl) (by rfl) T.n_max (by decide +kernel) (pa_cons (pe_ix ix_tup (pv 1) pe_int (fun _ _ => rfl)) (pa_cons pe_int pa_nil))) pa_nil)))) pa_nil)))))
        (pss_cons (ps_dput hu (pv 3) (pv 9) (pe_op op_add (pe_dget2 hu (pv 3) (pv 9) pe_int ⟨rfl, rfl, rfl, rfl⟩) (pv 7)) rfl)
        (pss_one (ps_set (i := 4) sctruth.nd rfl (Or.inl rfl) (pe_op op_sub (pv 4) (pv 7)))))))
        pss_nil)))
    (pss_cons (ps_for PassesOwn.never rfl (pi_list (pv 5)) (pg_name (i := 9) sctruth.nd rfl (Or.inl rfl))
      (pss_cons (ps_set (i := 7) sctruth.nd rfl (Or.inl rfl) (pe_callB (call_min2 rfl) (by rfl) T.n_min (by decide +kernel) (pa_cons (pv 4) (pa_cons (pe_op op_sub (pe_ix ix_tup (pv 1) pe_int (fun _ _ => rfl)) (pe_dget2 hu (pv 3) (pv 9) pe_int ⟨rfl, rfl, rfl, rfl⟩)) pa_nil))))
      (pss_cons (ps_dput hu (pv 3) (pv 9) (pe_op op_add (pe_dget2 hu (pv 3) (pv 9) pe_int ⟨rfl, rfl, rfl, rfl⟩) (pv 7)) rfl)
      (pss_one (ps_set (i := 4) sctruth.nd rfl (Or.inl rfl) (pe_op op_sub (pv 4) (pv 7)))))))
    (pss_cons (ps_asg (pe_callTy (call_dictPT rfl) (by rfl) T.n_dict (by decide +kernel) (pa_cons (pe_ix ix_tup (pv 1) pe_int (fun _ _ => rfl)) pa_nil)) (pg_name (i := 8) sctruth.nd rfl (Or.inr rfl)))
    (pss_cons (ps_lock (ps_for PassesOwn.never rfl (pi_keys (pv 3)) (pg_name (i := 9) sctruth.nd rfl (Or.inl rfl))
      (pss_one (ps_dput hu (pv 8) (pv 9) (pe_op op_add (pe_dget2 hu (pv 8) (pv 9) pe_int ⟨rfl, rfl, rfl, rfl⟩) (pe_dget hu (pv 3) (pv 9) (fun _ _ => rfl))) rfl))))
    (pss_one (ps_ret (pe_callTy call_tupleF (by rfl) T.n_tuple (by decide +kernel) (pa_cons (pe_lc (own := [("_law_name", 9)]) (g := gName 9) rfl sctruth.nd (pi_list (pe_callB (cr_sortedDS rfl) (by rfl) T.n_sorted (by decide +kernel) (pa_cons (pv 8) pa_nil))) (blkOk_by (N := Ntruth) (sc := defScope struth) (by decide +kernel)) (fun _ _ _ _ _ => pg_name (i := 9) sctruth.nd rfl (Or.inl rfl)) (fun _ _ _ _ _ => pts_one (pt_cmpR op_gt (pe_dget hu (pv 8) (pv 9) (fun _ _ => rfl)) pe_int (nomark _))) (fun _ _ _ _ _ => (pe_tup (pa_cons (pv 9) (pa_cons (pe_dget hu (pv 8) (pv 9) (fun _ _ => rfl)) pa_nil))))) pa_nil))))))))))), ?_⟩
    -- taken
    intro tk ntk
    have tka := w0.ne2 ntk
    have s1 : Same H (upd H tk (.dK [])) := same_upd ntk
    have ht1 : (upd H tk (.dK [])) tk = some (.dK []) := upd_same
    generalize upd H tk (.dK []) = H1 at s1 ht1 ⊢
    refine ⟨.ref sk, rfl, sk, r, x, rfl, hsk.same s1, by omega, fun H2 s2 => ?_⟩
    have s02 := s1.trans s2
    have ht2 := s2 _ _ ht1
    have hsk2 := hsk.same s02
    obtain ⟨k, ts, hs0, hk, hp⟩ := id hsk2
    obtain ⟨m, o, kvs0⟩ := x
    dsimp only at *
    generalize hkv : srtZ kvs0 = kvs at hp hnd hnm ofT hkl hl1
    generalize hlost : m - sumC kvs0 = lost at hl0 hl1 ofT ⊢
    -- names
    refine ⟨.ref sk, rfl, sk, _, _, _, rfl, rfl, .inl (.inl hs0), atI_nat (j := 3) rfl, k, rfl, ⟨_, hk.seq⟩, fun D nD => ?_⟩
    refine lc_tup (xs := ts.map V.ref) (fun i H3 => Same H2 H3 ∧ H3 D = some (.lst ((kvs.take i).map fun e => V.str e.1))) ⟨same_upd nD, upd_same⟩ (fun i H3 _ h3 => (hk.same h3.1).seq) (fun i x H3 hx h3 => ?_) (fun H3 h3 => ?_)
    · obtain ⟨t, ht, rfl⟩ := map_at hx
      obtain ⟨e, he, hat⟩ := paired_at hp ht
      refine ⟨t, _, rfl, .inl (.inl (h3.1 _ _ hat)), rfl, _, _, rfl, _, _, rfl, rfl, rfl, .str e.1, rfl, _, h3.2, ?_, Same.put h3.1 nD, ?_⟩
      · rw [List.length_map, List.length_take, sizeLine_eq]
        omega
      · rw [upd_same, List.take_add_one, he, List.map_append]
        rfl
    obtain ⟨s3, hD3⟩ := h3
    rw [List.length_map, Paired.length hp, List.take_length] at hD3
    have s03 := s02.trans s3
    refine ⟨.ref f, rfl, D, f, _, _, rfl, rfl, hD3, s03 _ _ hf, (by rw [List.length_map, List.length_map, sizeLine_eq]; omega), fun Nl nN => ?_⟩
    rw [show (kvs.map fun e => V.str e.1) ++ fs.map V.str = (kvs.map (·.1) ++ fs).map V.str by rw [List.map_append, List.map_map]; rfl]
    generalize hns : kvs.map (·.1) ++ fs = ns at hnd hnm ofT hl1 ⊢
    have nsl : ns.length ≤ 800 := by rw [← hns, List.length_append, List.length_map]; omega
    have hN4 : (upd H3 Nl (.lst (ns.map V.str))) Nl = some (.lst (ns.map V.str)) := upd_same
    have s34 := same_upd (o := .lst (ns.map V.str)) nN
    have s04 := s03.trans s34
    have ht4 := s34 _ _ (s3 _ _ ht2)
    have Na := (w0.same s03).ne2 nN
    generalize upd H3 Nl (.lst (ns.map V.str)) = H4 at hN4 s34 s04 ht4 ⊢
    have w4 := w0.same s04
    -- the first loop
    refine ⟨400, rfl, by decide, by decide, ?_⟩
    refine for_range (lo := 0) (n := 400) (fun i σ H5 => ∃ (t : Ct) (left : Int) (y6 y7 y9 y10 : Option V), σ = [some (.ref a), some (.ref sk), some (.ref f), some (.ref tk), some (.int left), some (.ref Nl), y6, y7, none, y9, y10] ∧ Exw a H H5 ∧ Wl a c H5 ∧ H5 Nl = some (.lst (ns.map V.str)) ∧ H5 tk = some (.dK (t.map entZ)) ∧ Tk ns o lost t left)
      ⟨[], lost, none, none, none, none, rfl, Same.exw s04, w4, hN4, ht4, Tk.zero ho0 hl0⟩ ?_ ?_
    · rintro i σ H5 hi ⟨t, left, y6, y7, y9, y10, rfl, x5, w5, hN5, ht5, tkk⟩
      refine ⟨.int left, rfl, _, _, rfl, rfl, _, rfl, ite2 (fun hgt => ?_) fun _ => ⟨t, left, _, _, _, _, rfl, x5, w5, hN5, ht5, tkk⟩⟩
      have hgt : 0 < left := of_decide_eq_true hgt
      have o1 : 1 ≤ o := by
        by_cases h : 1 ≤ o
        · exact h
        · have : o = 0 := by omega
          rw [this, Int.mul_zero] at hl1
          have := tkk.sum
          have := sumC_nn tkk.nn
          omega
      have nl0 : 0 < ns.length := by
        cases ns with
        | nil =>
          exfalso
          have h0 : ((([] : List Str).length : Nat) : Int) * o = 0 := by show ((0 : Nat) : Int) * o = 0; rw [Int.natCast_zero, Int.zero_mul]
          rw [h0] at hl1
          have := tkk.sum
          have := sumC_nn tkk.nn
          omega
        | cons => exact Nat.succ_pos _
      refine ⟨.ref a, rfl, .ref Nl, rfl, a, c, Nl, ns.map V.str, rfl, w5, Na.1, hN5, (by rw [List.length_map]; exact nl0), (by rw [List.length_map]; omega), fun H6 v x6 w6 hv => ?_⟩
      obtain ⟨n, hn, rfl⟩ := List.mem_map.mp hv
      have ht6 := x6 _ _ tka.1 ht5
      have hN6 := x6 _ _ Na.1 hN5
      have x06 := x5.trans x6
      have hsk6 : SqT K H6 sk [.int r, .int m, .int o, .ref k] := .inl (.inl (by
        obtain ⟨k0, ts0, hs00, _, _⟩ := hsk
        have e1 := s02 _ _ hs00
        rw [hs0] at e1
        cases e1
        exact x06.at w0 hs00 (by intro _ z; cases z)))
      have tl := tkk.len
      refine ⟨.int left, rfl, .ref sk, rfl, sk, _, _, _, rfl, rfl, hsk6, atI_nat (j := 2) rfl, .ref tk, rfl, tk, rfl, .inl ⟨_, .inl ht6⟩, .str n, rfl, _, DGet.k (k := Sum.inr n) ht6, o, gd t n, rfl, ?_, ?_⟩
      · rw [getZ_val]
        unfold gd
        cases getZ t n <;> rfl
      refine ⟨.ref a, rfl, .ref sk, rfl, sk, _, _, _, rfl, rfl, hsk6, atI_nat (j := 2) rfl, o, 1, rfl, a, c, _, rfl, w6, ?_, ?_, fun H7 dd x7 w7 d0 d1 => ⟨_, _, rfl, rfl, ?_⟩⟩
      · split <;> omega
      · split <;> omega
      refine ⟨.int left, .int (o - gd t n), .int (1 + dd), .int (min3 left (o - gd t n) (1 + dd)), rfl, nuMin3_int _ _ _, ?_⟩
      have g1 := tkk.le n
      have m0 : 0 ≤ min3 left (o - gd t n) (1 + dd) := by unfold min3; split <;> (try split) <;> omega
      have m1 : min3 left (o - gd t n) (1 + dd) ≤ left := by unfold min3; split <;> (try split) <;> omega
      have m2 : min3 left (o - gd t n) (1 + dd) ≤ o - gd t n := by unfold min3; split <;> (try split) <;> omega
      generalize min3 left (o - gd t n) (1 + dd) = mm at m0 m1 m2 ⊢
      have ht7 := x7 _ _ tka.1 ht6
      have hN7 := x7 _ _ Na.1 hN6
      refine ⟨.ref tk, rfl, tk, rfl, .inl ⟨_, .inl ht7⟩, .str n, rfl, _, DGet.k (k := Sum.inr n) ht7, ?_⟩
      rw [getZ_val]
      refine ⟨.int mm, rfl, (getZ t n).getD 0, mm, ?_, rfl, ?_⟩
      · cases getZ t n <;> rfl
      refine ⟨.ref tk, rfl, .str n, rfl, tk, _, rfl, DPut.k (k := Sum.inr n) ht7 (by rw [List.length_map, sizeLine_eq]; omega), ?_⟩
      rw [putZ_put]
      refine ⟨.int left, rfl, .int mm, rfl, _, _, rfl, rfl, addZ t n mm, left - mm, _, _, _, _, rfl, (x06.trans x7).put ntk, w7.put tka, ?_, upd_same, tkk.more hn m0 m1 m2⟩
      rw [upd_ne (ne_of hN7 ht7 (by intro z; cases z))]
      exact hN7
    rintro σ H5 ⟨t5, left5, y6, y7, y9, y10, rfl, x5, w5, hN5, ht5, tkk5⟩
    -- the second loop
    refine ⟨.ref Nl, rfl, Nl, rfl, ⟨_, sql hN5⟩, ?_⟩
    refine for_list (xs := ns.map V.str) (fun i σ H6 => ∃ (t : Ct) (left : Int) (y6 y7 y9 y10 : Option V), σ = [some (.ref a), some (.ref sk), some (.ref f), some (.ref tk), some (.int left), some (.ref Nl), y6, y7, none, y9, y10] ∧ Exw a H H6 ∧ Wl a c H6 ∧ H6 Nl = some (.lst (ns.map V.str)) ∧ H6 tk = some (.dK (t.map entZ)) ∧ Tk ns o lost t left ∧ (left = 0 ∨ ∀ n ∈ ns.take i, gd t n = o))
      ⟨t5, left5, _, _, _, _, rfl, x5, w5, hN5, ht5, tkk5, .inr fun _ h => nomatch h⟩ (fun i σ H6 _ ⟨_, _, _, _, _, _, _, _, _, h, _⟩ => sql h) ?_ ?_
    · rintro i v σ H6 hi ⟨t, left, y6, y7, y9, y10, rfl, x6, w6, hN6, ht6, tkk, hful⟩
      obtain ⟨n, hn, rfl⟩ := map_at hi
      have hnm2 : n ∈ ns := List.mem_of_getElem? hn
      have hsk6 : SqT K H6 sk [.int r, .int m, .int o, .ref k] := .inl (.inl (by
        obtain ⟨k0, ts0, hs00, _, _⟩ := hsk
        have e1 := s02 _ _ hs00
        rw [hs0] at e1
        cases e1
        exact x6.at w0 hs00 (by intro _ z; cases z)))
      have tl := tkk.len
      refine ⟨.int left, rfl, .ref sk, rfl, sk, _, _, _, rfl, rfl, hsk6, atI_nat (j := 2) rfl, .ref tk, rfl, tk, rfl, .inl ⟨_, .inl ht6⟩, .str n, rfl, _, DGet.k (k := Sum.inr n) ht6, o, gd t n, rfl, ?_, ?_⟩
      · rw [getZ_val]
        unfold gd
        cases getZ t n <;> rfl
      refine ⟨left, o - gd t n, rfl, ?_⟩
      have g1 := tkk.le n
      have p0 := tkk.pos
      have m0 : 0 ≤ (if o - gd t n < left then o - gd t n else left) := by split <;> omega
      have m1 : (if o - gd t n < left then o - gd t n else left) ≤ left := by split <;> omega
      have m2 : (if o - gd t n < left then o - gd t n else left) ≤ o - gd t n := by split <;> omega
      have m3 : left - (if o - gd t n < left then o - gd t n else left) = 0 ∨ (if o - gd t n < left then o - gd t n else left) = o - gd t n := by split <;> omega
      generalize (if o - gd t n < left then o - gd t n else left) = mm at m0 m1 m2 m3 ⊢
      refine ⟨.ref tk, rfl, tk, rfl, .inl ⟨_, .inl ht6⟩, .str n, rfl, _, DGet.k (k := Sum.inr n) ht6, ?_⟩
      rw [getZ_val]
      refine ⟨.int mm, rfl, (getZ t n).getD 0, mm, ?_, rfl, ?_⟩
      · cases getZ t n <;> rfl
      refine ⟨.ref tk, rfl, .str n, rfl, tk, _, rfl, DPut.k (k := Sum.inr n) ht6 (by rw [List.length_map, sizeLine_eq]; omega), ?_⟩
      rw [putZ_put]
      refine ⟨.int left, rfl, .int mm, rfl, _, _, rfl, rfl, addZ t n mm, left - mm, _, _, _, _, rfl, x6.put ntk, w6.put tka, ?_, upd_same, tkk.more hnm2 m0 m1 m2, ?_⟩
      · rw [upd_ne (ne_of hN6 ht6 (by intro z; cases z))]
        exact hN6
      · rcases hful with h0 | hful
        · exact .inl (by omega)
        · rcases m3 with h0 | hm
          · exact .inl h0
          · refine .inr fun z hz => ?_
            rw [List.take_add_one, hn] at hz
            rw [gd_add]
            by_cases e : z = n
            · rw [if_pos e, e]
              omega
            · rw [if_neg e, Int.add_zero]
              rcases List.mem_append.mp hz with hz | hz
              · exact hful z hz
              · exact absurd (List.mem_singleton.mp (by simpa using hz)) e
    rintro σ H6 ⟨t, left, y6, y7, y9, y10, rfl, x6, w6, hN6, ht6, tkk, hful⟩
    rw [List.length_map, List.take_length] at hful
    have hleft : left = 0 := by
      rcases hful with h0 | hful
      · exact h0
      · have := full_sum hnd tkk.nd tkk.nn hful
        have h1 := tkk.sum
        have h2 := tkk.pos
        omega
    subst hleft
    have tr := ofT tkk
    have tl := tkk.len
    -- counts
    have hsk6 : SkAt H6 sk r ⟨m, o, kvs0⟩ := by
      obtain ⟨k0, ts0, hs00, hk00, hp00⟩ := hsk
      refine ⟨k0, ts0, x6.at w0 hs00 (by intro _ z; cases z), ?_, paired_imp (fun t e ht => x6.at w0 ht (by intro _ z; cases z)) hp00⟩
      obtain ⟨ob, g1, g2⟩ := hk00
      exact ⟨ob, x6.at w0 g1 (by intro _ z; cases z), g2⟩
    obtain ⟨k6, ts6, h6s, hk6, hp6⟩ := hsk6
    dsimp only at h6s hp6
    rw [hkv] at hp6
    have ndk : NdZ kvs := by rw [← hkv]; exact srtZ_nd ok.nd
    refine ⟨.ref sk, rfl, sk, _, _, _, rfl, rfl, .inl (.inl h6s), atI_nat (j := 3) rfl, k6, ts6, kvs.map entZ, rfl, hk6, ents_paired (paired_imp (fun t e h => .inl (.inl h)) hp6), fun p np => ?_⟩
    have em : mergeK [] (kvs.map entZ) = kvs.map entZ := mergeZ kvs [] (by rw [List.nil_append]; exact ndk)
    rw [em]
    have pa := w6.ne2 np
    have np0 : H p = none := x6.gone pa.1 np
    have s67 := same_upd (o := .dK (kvs.map entZ)) np
    have hp7 : (upd H6 p (.dK (kvs.map entZ))) p = some (.dK (kvs.map entZ)) := upd_same
    generalize upd H6 p (.dK (kvs.map entZ)) = H7 at s67 hp7 ⊢
    have x7 := x6.same s67
    have w7 := w6.same s67
    have ht7 := s67 _ _ ht6
    refine ⟨tk, _, ht7, trivial, fun od => ?_⟩
    have ptk : p ≠ tk := (ne_of_none ht6 np).symm
    have hlt : (upd H7 tk (.frz od (.dK (t.map entZ)))) tk = some (.frz od (.dK (t.map entZ))) := upd_same
    have hpl : (upd H7 tk (.frz od (.dK (t.map entZ)))) p = some (.dK (kvs.map entZ)) := by rw [upd_ne ptk]; exact hp7
    have back : ∀ {H3 : Hp}, (∀ b u, b ≠ p → (upd H7 tk (.frz od (.dK (t.map entZ)))) b = some u → H3 b = some u) → ∀ b u, b ≠ p → H7 b = some u → (upd H3 tk (.dK (t.map entZ))) b = some u := fun {H3} k3 b u nb e => by
      by_cases hb : b = tk
      · subst hb
        rw [ht7] at e
        cases e
        exact upd_same
      · rw [upd_ne hb]
        refine k3 b u nb ?_
        rw [upd_ne hb]
        exact e
    generalize upd H7 tk (.frz od (.dK (t.map entZ))) = Hl at hlt hpl back ⊢
    refine ⟨.ref tk, rfl, tk, od, rfl, .inl ⟨_, hlt, ?_⟩⟩
    have tl2 : t.length ≤ 800 := by omega
    refine for_it (walk_keys (kvs := t.map entZ)) (fun i σ H3 => ∃ y9 : Option V, σ = [some (.ref a), some (.ref sk), some (.ref f), some (.ref tk), some (.int 0), some (.ref Nl), y6, y7, some (.ref p), y9, y10] ∧ (∀ b u, b ≠ p → Hl b = some u → H3 b = some u) ∧ H3 p = some (.dK ((sumsZ (t.take i) kvs).map entZ)))
      ⟨_, rfl, fun _ _ _ e => e, hpl⟩ (fun i σ H3 _ h3 => by
        obtain ⟨_, _, h, _⟩ := h3
        exact h _ _ ptk.symm hlt) ?_ ?_
    · rintro i v σ H2' H3 hi ⟨y9', rfl, k3, hp3⟩ ⟨rfl, kk, v', hkv', rfl⟩
      obtain ⟨e, he, hkv2⟩ := map_at hkv'
      cases hkv2
      have ll := sumsZ_len (more := t.take i) (kvs := kvs)
      rw [List.length_take] at ll
      have dg : DGet H3 tk (.str e.1) (some (.int e.2)) := .inl ⟨t.map entZ, Sum.inr e.1, .inr ⟨od, k3 _ _ ptk.symm hlt⟩, rfl, by
        rw [getZ_val, getZ_self tkk.nd he]
        rfl⟩
      refine ⟨.ref p, rfl, p, rfl, .inl ⟨_, .inl hp3⟩, .str e.1, rfl, _, DGet.k (k := Sum.inr e.1) hp3, ?_⟩
      rw [getZ_val]
      refine ⟨.ref tk, rfl, .str e.1, rfl, tk, .int e.2, rfl, dg, (getZ (sumsZ (t.take i) kvs) e.1).getD 0, e.2, ?_, rfl, ?_⟩
      · cases getZ (sumsZ (t.take i) kvs) e.1 <;> rfl
      refine ⟨.ref p, rfl, .str e.1, rfl, p, _, rfl, DPut.k (k := Sum.inr e.1) hp3 (by rw [List.length_map, sizeLine_eq]; omega), ?_⟩
      rw [putZ_put]
      refine ⟨_, rfl, fun b u n e' => by rw [upd_ne n]; exact k3 b u n e', ?_⟩
      rw [upd_same, sumsZ_snoc he]
      rfl
    rintro σ H3' ⟨y9', rfl, k3, hp3⟩
    rw [List.length_map, List.take_length] at hp3
    refine ⟨k3 _ _ ptk.symm hlt, ?_⟩
    have k8 := back k3
    have hp8 : (upd H3' tk (.dK (t.map entZ))) p = some (.dK ((sumsZ t kvs).map entZ)) := by rw [upd_ne ptk]; exact hp3
    generalize upd H3' tk (.dK (t.map entZ)) = H8 at k8 hp8 ⊢
    have x8 : Exw a H H8 := fun b u nb e => by
      have hb : b ≠ p := ne_of_none e np0
      exact k8 b u hb (x7 b u nb e)
    have w8 : Wl a c H8 := by
      obtain ⟨n1, ns', i, u, s', t', e1, e2, rr⟩ := w7
      exact ⟨n1, ns', i, u, s', t', k8 _ _ pa.1.symm e1, k8 _ _ pa.2.symm e2, rr⟩
    have nda := sumsZ_nd (more := t) (kvs := kvs) ndk
    have lla := sumsZ_len (more := t) (kvs := kvs)
    generalize sumsZ t kvs = all at hp8 nda lla tr
    refine ⟨.ref p, rfl, p, _, all.map (·.1), rfl, hp8, keys_inr all, fun ss l2 pms sos nl2 => ?_⟩
    have ey := srt_names nda pms sos
    have s89 := same_upd (o := .lst (ss.map V.str)) nl2
    have hl9 : (upd H8 l2 (.lst (ss.map V.str))) l2 = some (.lst (ss.map V.str)) := upd_same
    have hp9 := s89 _ _ hp8
    have w9 := w8.same s89
    have x9 := x8.same s89
    generalize upd H8 l2 (.lst (ss.map V.str)) = H9 at hl9 hp9 w9 x9 ⊢
    have hsl : ss.length = all.length := by rw [pms.length_eq, List.length_map]
    refine ⟨l2, rfl, ⟨_, sql hl9⟩, fun D2 nD2 => ?_⟩
    refine lc_list (xs := ss.map V.str) (fun i H3 => Same H9 H3 ∧ ∃ us : List Addr, H3 D2 = some (.lst (us.map V.ref)) ∧ us.length ≤ i ∧ Paired (PrT H3) us (takeZ 0 ((srtZ all).take i)))
      ⟨same_upd nD2, [], upd_same, Nat.zero_le _, .nil⟩ (fun i H3 _ h3 => sql (h3.1 _ _ hl9)) (fun i x H3 hx h3 => ?_) (fun H3 h3 => ?_)
    · obtain ⟨z, hz, rfl⟩ := map_at hx
      obtain ⟨s3, us, hD, hul, hpr⟩ := h3
      have he : (srtZ all)[i]? = some (z, gd all z) := by
        rw [← ey, List.getElem?_map, hz]
        rfl
      have hmem : z ∈ all.map (·.1) := pms.mem_iff.mp (List.mem_of_getElem? hz)
      have dg : ∀ {H4 : Hp}, Same H3 H4 → DGet H4 p (.str z) (some (.int (gd all z))) := fun s34 => .inl ⟨all.map entZ, Sum.inr z, .inl (s34 _ _ (s3 _ _ hp9)), rfl, by
        rw [getZ_val]
        unfold gd
        cases hg : getZ all z with
        | none => exact absurd hmem (getZ_none.mp hg)
        | some v => rfl⟩
      refine ⟨rfl, .ref p, rfl, .str z, rfl, p, .int (gd all z), rfl, dg (Same.refl H3), _, _, rfl, rfl, _, rfl, ite2 (fun hg9 => ?_) fun hg9 => ?_⟩
      · have hg9 := of_decide_eq_true hg9
        refine ⟨.str z, rfl, .ref p, rfl, .str z, rfl, p, .int (gd all z), rfl, dg (Same.refl H3), (by show 2 ≤ sizeLine; decide), fun tt nt => ?_⟩
        have Dp : D2 ≠ tt := ne_of_none hD nt
        refine ⟨_, by rw [upd_ne Dp]; exact hD, ?_, Same.put (Same.new s3 nt) nD2, us ++ [tt], by rw [upd_same, List.map_append]; rfl, by rw [List.length_append, List.length_singleton]; omega, ?_⟩
        · have := (List.getElem?_eq_some_iff.mp hz).1
          rw [List.length_map, sizeLine_eq]
          omega
        · rw [List.take_add_one, he]
          show Paired _ _ (takeZ 0 ((srtZ all).take i ++ [(z, gd all z)]))
          rw [takeZ_snoc, if_pos (show 0 < gd all z by exact hg9)]
          refine paired_snoc (paired_imp (fun t e' ht => ?_) hpr) ?_
          · show _ = _
            rw [upd_ne (ne_of ht hD (by intro z; cases z)), upd_ne (ne_of_none ht nt)]
            exact ht
          · show _ = _
            rw [upd_ne Dp.symm]
            show _ = some (HO.tup [V.str z, V.int (gd all z - 0)])
            rw [Int.sub_zero]
            exact upd_same
      · have hg9 : ¬ 0 < gd all z := fun z => hg9 (decide_eq_true z)
        refine ⟨s3, us, hD, by omega, ?_⟩
        rw [List.take_add_one, he]
        show Paired _ _ (takeZ 0 ((srtZ all).take i ++ [(z, gd all z)]))
        rw [takeZ_snoc, if_neg hg9, List.append_nil]
        exact hpr
    · obtain ⟨s3, us, hD, hul, hpr⟩ := h3
      rw [show (srtZ all).take (ss.map V.str).length = srtZ all by rw [List.length_map, hsl, ← (srtZ_perm all).length_eq, List.take_length]] at hpr
      refine ⟨D2, _, rfl, sql hD, fun kk ob nkk ho => ?_⟩
      have sc : Same H3 (upd H3 kk (.frz ob (.tup (us.map V.ref)))) := same_upd nkk
      have hl4 : (takeZ 0 (srtZ all)).length ≤ 900 := by
        have := takeZ_len (a := 0) (kvs := srtZ all)
        rw [(srtZ_perm all).length_eq] at this
        omega
      exact q _ kk us _ ((x9.same s3).same sc) ((w9.same s3).same sc) ((x9.same s3).gone ((w9.same s3).ne2 nkk).1 nkk) ⟨ob, upd_same, ho⟩ (paired_imp (fun t e h => sc _ _ h) hpr) tr hl4
end
end Kb

namespace Kb
open PySem PySem.Spec PyProof.Rows L2 SrtZ SrtO
/-! things that are judged: a name with an int, a name with a flag, or no pair at all -/
inductive El
  | pr (n : Str) (i : Int)
  | prb (n : Str) (b : Bool)
  | no
def ElAt (K : PySem.W.Frag) (H : Hp) (v : V) : El → Prop
  | .pr n i => ∃ t, v = .ref t ∧ H t = some (.tup [.str n, .int i]) ∧ Nm n
  | .prb n b => ∃ t, v = .ref t ∧ H t = some (.tup [.str n, .bl b]) ∧ Nm n
  | .no => v = .non ∨ (∃ i, v = .int i) ∨ ∃ t, v = .ref t ∧ ((∃ xs, H t = some (.lst xs)) ∨ (∃ kvs, H t = some (.dK kvs)) ∨ ∃ xs, Ptp H t xs ∧ xs.length ≠ 2)
theorem ElAt.same {K : PySem.W.Frag} {H H' : Hp} {v : V} {e : El} (h : ElAt K H v e) (s : Same H H') : ElAt K H' v e := by
  cases e with
  | pr n i =>
    obtain ⟨t, e, h1, h2⟩ := h
    exact ⟨t, e, s _ _ h1, h2⟩
  | prb n b =>
    obtain ⟨t, e, h1, h2⟩ := h
    exact ⟨t, e, s _ _ h1, h2⟩
  | no =>
    rcases h with h | h | ⟨t, e, h⟩
    · exact .inl h
    · exact .inr (.inl h)
    · refine .inr (.inr ⟨t, e, ?_⟩)
      rcases h with ⟨xs, h⟩ | ⟨kvs, h⟩ | ⟨xs, h, l⟩
      · exact .inl ⟨xs, s _ _ h⟩
      · exact .inr (.inl ⟨kvs, s _ _ h⟩)
      · exact .inr (.inr ⟨xs, h.same s, l⟩)
/-- a thing: a tuple of these, or no tuple -/
def ThAt (K : PySem.W.Frag) (H : Hp) (v : V) : Option (List El) → Prop
  | some es => ∃ a vs, v = .ref a ∧ Ptp H a vs ∧ Paired (ElAt K H) vs es ∧ vs.length ≤ 1000
  | none => v = .non ∨ (∃ z, v = .str z) ∨ ∃ t, v = .ref t ∧ ((∃ xs, H t = some (.lst xs)) ∨ ∃ kvs, H t = some (.dK kvs))
theorem ThAt.same {K : PySem.W.Frag} {H H' : Hp} {v : V} {e : Option (List El)} (h : ThAt K H v e) (s : Same H H') : ThAt K H' v e := by
  cases e with
  | some es =>
    obtain ⟨a, vs, e, h1, h2, h3⟩ := h
    exact ⟨a, vs, e, h1.same s, paired_imp (fun v e h => h.same s) h2, h3⟩
  | none =>
    rcases h with h | h | ⟨t, e, h⟩
    · exact .inl h
    · exact .inr (.inl h)
    · refine .inr (.inr ⟨t, e, ?_⟩)
      rcases h with ⟨xs, h⟩ | ⟨kvs, h⟩
      · exact .inl ⟨xs, s _ _ h⟩
      · exact .inr ⟨kvs, s _ _ h⟩
def prE (e : Str × Int) : El := .pr e.1 e.2
/-- these are counts -/
structure CnIs (es : List El) (ys : Ct) : Prop where
  eq : es = ys.map prE
  pos : ∀ e ∈ ys, 1 ≤ e.2
  asc : Asc ys
def Cn (th : Option (List El)) : Prop := ∃ es ys, th = some es ∧ CnIs es ys
theorem cn_none : ¬ Cn none := fun ⟨_, _, e, _⟩ => nomatch e
theorem cn_at {es : List El} {ys : Ct} (h : CnIs es ys) {i : Nat} {e : El} (he : es[i]? = some e) : ∃ y, ys[i]? = some y ∧ e = .pr y.1 y.2 := by
  rw [h.eq] at he
  obtain ⟨y, hy, rfl⟩ := map_at he
  exact ⟨y, hy, rfl⟩
theorem asc_nd {ys : Ct} (h : Asc ys) : NdZ ys := by
  unfold NdZ
  rw [List.Nodup, List.pairwise_map]
  refine List.Pairwise.imp (fun {a b} h e => ?_) h
  rw [e, ltZ_irr] at h
  cases h
theorem ltZ_nil {n : Str} (h : Nm n) : ltZ (Str.ofString "") n = true := by
  have h1 := h.pos
  refine decide_eq_true ?_
  rw [show (Str.ofString "").cps.toList = [] by decide +kernel]
  cases hz : n.cps.toList with
  | nil =>
    have : n.length = 0 := by rw [← cs_len]; unfold cs; rw [hz]; rfl
    omega
  | cons c r => exact List.nil_lt_cons c r
def lastN (ys : Ct) : Str := match ys.getLast? with
  | some e => e.1
  | none => Str.ofString ""
theorem lastN_snoc (ys : Ct) (e : Str × Int) : lastN (ys ++ [e]) = e.1 := by
  unfold lastN
  rw [List.getLast?_append]
  rfl
theorem asc_snoc {ys : Ct} {e : Str × Int} (h : Asc ys) (hl : ltZ (lastN ys) e.1 = true) : Asc (ys ++ [e]) := by
  unfold Asc
  refine List.pairwise_append.mpr ⟨h, List.pairwise_singleton _ _, fun x hx y hy => ?_⟩
  rw [List.mem_singleton.mp hy]
  rcases List.eq_nil_or_concat ys with rfl | ⟨zs, z, rfl⟩
  · cases hx
  · rw [List.concat_eq_append] at *
    rw [lastN_snoc] at hl
    rcases List.mem_append.mp hx with hx | hx
    · exact ltZ_trans ((List.pairwise_append.mp h).2.2 x hx z (List.mem_singleton.mpr rfl)) hl
    · rw [List.mem_singleton.mp hx]
      exact hl
theorem asc_last {ys : Ct} {i : Nat} {e : Str × Int} (h : Asc ys) (he : ys[i]? = some e) (hn : Nm e.1) : ltZ (lastN (ys.take i)) e.1 = true := by
  rcases List.eq_nil_or_concat (ys.take i) with hx | ⟨zs, z, hx⟩
  · rw [hx]
    exact ltZ_nil hn
  · rw [List.concat_eq_append] at hx
    rw [hx, lastN_snoc]
    have h2 : Asc (ys.take (i + 1)) := h.sublist (List.take_sublist _ _)
    rw [List.take_add_one, he, hx] at h2
    exact (List.pairwise_append.mp h2).2.2 z (List.mem_append_right _ (List.mem_singleton.mpr rfl)) e (by simp)
theorem el_ty {K : PySem.W.Frag} {H : Hp} {v : V} (h : ElAt K H v .no) : (∃ t, TyX K H v t ∧ PySem.W.kitOne K t (.type "tuple") = some false) ∨ ∃ a xs, v = .ref a ∧ SqT K H a xs ∧ xs.length ≠ 2 := by
  rcases h with rfl | ⟨i, rfl⟩ | ⟨t, rfl, h⟩
  · exact .inl ⟨_, .base .non, kit_ty (by decide +kernel)⟩
  · exact .inl ⟨_, .base (.int i), kit_ty (by decide +kernel)⟩
  · rcases h with ⟨xs, h⟩ | ⟨kvs, h⟩ | ⟨xs, h, l⟩
    · exact .inl ⟨_, .base (.lst h), kit_ty (by decide +kernel)⟩
    · exact .inl ⟨_, .base (.dK h), kit_ty (by decide +kernel)⟩
    · exact .inr ⟨t, xs, rfl, h.seq, l⟩
theorem th_ty {K : PySem.W.Frag} {H : Hp} {v : V} (h : ThAt K H v none) : ∃ t, TyX K H v t ∧ PySem.W.kitOne K t (.type "tuple") = some false := by
  rcases h with rfl | ⟨z, rfl⟩ | ⟨t, rfl, h⟩
  · exact ⟨_, .base .non, kit_ty (by decide +kernel)⟩
  · exact ⟨_, .base (.str z), kit_ty (by decide +kernel)⟩
  · rcases h with ⟨xs, h⟩ | ⟨kvs, h⟩
    · exact ⟨_, .base (.lst h), kit_ty (by decide +kernel)⟩
    · exact ⟨_, .base (.dK h), kit_ty (by decide +kernel)⟩
theorem els_prs {K : PySem.W.Frag} {H : Hp} : ∀ {vs : List V} {ys : Ct}, Paired (ElAt K H) vs (ys.map prE) → ∃ ts : List Addr, vs = ts.map V.ref ∧ Paired (PrT H) ts ys ∧ ∀ e ∈ ys, Nm e.1
  | _, [], .nil => ⟨[], rfl, .nil, fun _ h => nomatch h⟩
  | _, e :: ys, .cons h t => by
    obtain ⟨t1, rfl, h1, h2⟩ := h
    obtain ⟨ts, rfl, h3, h4⟩ := els_prs t
    refine ⟨t1 :: ts, rfl, .cons h1 h3, fun f hf => ?_⟩
    rcases List.mem_cons.mp hf with rfl | hf
    · exact h2
    · exact h4 f hf
section
variable {P : Program} {w : World} {K : PySem.W.Frag} {mg : Str → Option Value} {base : Heap}
/-! is_int, of ints and flags -/
def spIsIntB : Sp := fun vs H Q _ => (∃ i, vs = [.int i] ∧ Q (.bl true) H) ∨ ∃ b, vs = [.bl b] ∧ Q (.bl false) H
theorem ok_is_intB (T : Blt mg) (d : DnIsInt K mg) : FnOk P w K mg base CX0 1 d.f d.fd ["thing"] spIsIntB := by
  refine d.F.ok scP_is_int (fun vs H Q E h => ?_) (fun cdv A outer s H vs Q E hr h => ?_)
  · rcases h with ⟨i, rfl, _⟩ | ⟨b, rfl, _⟩ <;> rfl
  · refine ⟨_, (pss_one (ps_ret (pe_and (pe_callB call_isi (by rfl) T.n_isinstance (by decide +kernel) (pa_cons (pv 0) (pa_cons (pe_bltn (v := .ty "int") (by rfl) T.n_int (by decide +kernel) rfl) pa_nil))) (pe_one (pe_not (pe_callB call_isi (by rfl) T.n_isinstance (by decide +kernel) (pa_cons (pv 0) (pa_cons (pe_bltn (v := .ty "bool") (by rfl) T.n_bool (by decide +kernel) rfl) pa_nil)))))))), ?_⟩
    rcases h with ⟨i, rfl, q⟩ | ⟨b, rfl, q⟩
    · refine ⟨.int i, rfl, .int i, _, _, _, true, rfl, .ty "int", .base (.int i), kit_ty (by decide +kernel), true, rfl, iteT ?_⟩
      exact ⟨.int i, rfl, .int i, _, _, _, false, rfl, .ty "bool", .base (.int i), kit_ty (by decide +kernel), false, rfl, q⟩
    · refine ⟨.bl b, rfl, .bl b, _, _, _, true, rfl, .ty "int", .base (.bl b), kit_ty (by decide +kernel), true, rfl, iteT ?_⟩
      exact ⟨.bl b, rfl, .bl b, _, _, _, true, rfl, .ty "bool", .base (.bl b), kit_ty (by decide +kernel), true, rfl, q⟩
/-! _is_counted, of anything -/
def elB : El → Bool
  | .pr _ i => decide (1 ≤ i)
  | .prb _ _ => false
  | .no => false
def spIsCountedA (K : PySem.W.Frag) : Sp := fun vs H Q _ => ∃ (v : V) (e : El), vs = [v] ∧ ElAt K H v e ∧ ∀ H', Same H H' → Q (.bl (elB e)) H'
theorem ok_is_countedA (T : Blt mg) (cL : Cst mg "LONGEST_NAME" (.int 8)) (dP_is_int : DnIsInt K mg) (dP_is_name : DnIsName K mg) (d : DnIsCounted K mg) : FnOk P w K mg base CX0 2 d.f d.fd ["pair"] (spIsCountedA K) := by
  have GP_is_int : FnOk P w K mg base CX0 1 dP_is_int.f dP_is_int.fd ["thing"] spIsIntB := ok_is_intB T dP_is_int
  have GP_is_name : FnOk P w K mg base CX0 1 dP_is_name.f dP_is_name.fd ["thing"] spIsName := ok_is_name T cL dP_is_name
  refine d.F.ok scP_is_counted (fun vs H Q E h => ?_) (fun cdv A outer s H vs Q E hr h => ?_)
  · obtain ⟨v, e, rfl, _⟩ := h
    rfl
  · obtain ⟨v, e, rfl, hat, q⟩ := h
    refine ⟨_, (pss_cons (ps_if (PW.pt (pw_or (pt_not (pt_val (pe_callB call_isi (by rfl) T.n_isinstance (by decide +kernel) (pa_cons (pv 0) (pa_cons (pe_bltn (v := .ty "tuple") (by rfl) T.n_tuple (by decide +kernel) rfl) pa_nil))))) (pw_or1 (pt_cmpR op_ne (pe_callB call_len_seq (by rfl) T.n_len (by decide +kernel) (pa_cons (pv 0) pa_nil)) pe_int (nomark _)))))
      (pss_one (ps_ret pe_bl))
      pss_nil)
    (pss_one (ps_ret (pe_and (pe_call GP_is_name (hr.mono (by omega)) (by rfl) dP_is_name.g dP_is_name.F.kp dP_is_name.b .nil pass0 (pa_cons (pe_ix ix_tup (pv 0) pe_int (fun _ _ => rfl)) pa_nil)) (pe_and (pe_call GP_is_int (hr.mono (by omega)) (by rfl) dP_is_int.g dP_is_int.F.kp dP_is_int.b .nil pass0 (pa_cons (pe_ix ix_tup (pv 0) pe_int (fun _ _ => rfl)) pa_nil)) (pe_one (pe_cmpR op_ge (pe_ix ix_tup (pv 0) pe_int (fun _ _ => rfl)) pe_int (nomark _)))))))), ?_⟩
    cases e with
    | pr n i =>
      obtain ⟨t, rfl, h1, h2⟩ := hat
      have hp : SqT K H t [.str n, .int i] := .inl (.inl h1)
      refine ⟨.ref t, rfl, .ref t, _, _, _, true, rfl, .ty "tuple", tyT hp, kit_ty (by decide +kernel), true, rfl, iteF ?_⟩
      refine ⟨.ref t, rfl, t, _, rfl, .inr hp, rfl, false, rfl, iteF ?_⟩
      refine ⟨.ref t, rfl, t, _, _, _, rfl, rfl, hp, atI_nat (j := 0) rfl, n, rfl, h2, fun H1 s1 => ⟨true, rfl, iteT ?_⟩⟩
      have hp1 : SqT K H1 t [.str n, .int i] := seqT hp s1
      refine ⟨.ref t, rfl, t, _, _, _, rfl, rfl, hp1, atI_nat (j := 1) rfl, .inl ⟨i, rfl, true, rfl, iteT ?_⟩⟩
      exact ⟨.ref t, rfl, t, _, _, _, rfl, rfl, hp1, atI_nat (j := 1) rfl, _, _, rfl, rfl, q H1 s1⟩
    | prb n b =>
      obtain ⟨t, rfl, h1, h2⟩ := hat
      have hp : SqT K H t [.str n, .bl b] := .inl (.inl h1)
      refine ⟨.ref t, rfl, .ref t, _, _, _, true, rfl, .ty "tuple", tyT hp, kit_ty (by decide +kernel), true, rfl, iteF ?_⟩
      refine ⟨.ref t, rfl, t, _, rfl, .inr hp, rfl, false, rfl, iteF ?_⟩
      refine ⟨.ref t, rfl, t, _, _, _, rfl, rfl, hp, atI_nat (j := 0) rfl, n, rfl, h2, fun H1 s1 => ⟨true, rfl, iteT ?_⟩⟩
      have hp1 : SqT K H1 t [.str n, .bl b] := seqT hp s1
      exact ⟨.ref t, rfl, t, _, _, _, rfl, rfl, hp1, atI_nat (j := 1) rfl, .inr ⟨b, rfl, false, rfl, iteF (q H1 s1)⟩⟩
    | no =>
      rcases el_ty hat with ⟨t, ty, kt⟩ | ⟨a, xs, rfl, hS, hl⟩
      · exact ⟨v, rfl, v, _, _, _, false, rfl, .ty "tuple", ty, kt, false, rfl, iteT (iteT (q H (Same.refl H)))⟩
      · refine ⟨.ref a, rfl, .ref a, _, _, _, true, rfl, .ty "tuple", tyT hS, kit_ty (by decide +kernel), true, rfl, iteF ?_⟩
        refine ⟨.ref a, rfl, a, xs, rfl, .inr hS, rfl, true, ?_, iteT (q H (Same.refl H))⟩
        rw [show decide (V.int ((xs.length : Nat) : Int) = V.int 2) = false from decide_eq_false (fun z => hl (by injection z with z; omega))]
        rfl
/-! are_counts, of anything -/
def spAreCountsA (K : PySem.W.Frag) : Sp := fun vs H Q _ => ∃ (v : V) (th : Option (List El)), vs = [v] ∧ ThAt K H v th ∧ ∀ H' b, Same H H' → (b = true ↔ Cn th) → Q (.bl b) H'
theorem ok_are_countsA (T : Blt mg) (cL : Cst mg "LONGEST_NAME" (.int 8)) (dP_is_int : DnIsInt K mg) (dP_is_name : DnIsName K mg) (dP_is_counted : DnIsCounted K mg) (d : DnAreCounts K mg) : FnOk P w K mg base CX0 3 d.f d.fd ["thing"] (spAreCountsA K) := by
  have GP_is_counted : FnOk P w K mg base CX0 2 dP_is_counted.f dP_is_counted.fd ["pair"] (spIsCountedA K) := ok_is_countedA T cL dP_is_int dP_is_name dP_is_counted
  refine d.F.ok scP_are_counts (fun vs H Q E h => ?_) (fun cdv A outer s H vs Q E hr h => ?_)
  · obtain ⟨v, th, rfl, _⟩ := h
    rfl
  · obtain ⟨v, th, rfl, hat, q⟩ := h
    refine ⟨_, (pss_cons (ps_if (pt_not (pt_val (pe_callB call_isi (by rfl) T.n_isinstance (by decide +kernel) (pa_cons (pv 0) (pa_cons (pe_bltn (v := .ty "tuple") (by rfl) T.n_tuple (by decide +kernel) rfl) pa_nil)))))
      (pss_one (ps_ret pe_bl))
      pss_nil)
    (pss_cons (ps_set (i := 1) scP_are_counts.nd rfl (Or.inl rfl) pe_str)
    (pss_cons (ps_for PassesOwn.never rfl (pi_tup (pv 0)) (pg_name (i := 2) scP_are_counts.nd rfl (Or.inl rfl))
      (pss_cons (ps_if (PW.pt (pw_or (pt_not (pt_val (pe_call GP_is_counted (hr.mono (by omega)) (by rfl) dP_is_counted.g dP_is_counted.F.kp dP_is_counted.b .nil pass0 (pa_cons (pv 2) pa_nil)))) (pw_or1 (pt_cmpR op_le_str (pe_ix ix_tup (pv 2) pe_int (fun _ _ => rfl)) (pv 1) (nomark _)))))
        (pss_one (ps_ret pe_bl))
        pss_nil)
      (pss_one (ps_set (i := 1) scP_are_counts.nd rfl (Or.inl rfl) (pe_ix ix_tup (pv 2) pe_int (fun _ _ => rfl))))))
    (pss_one (ps_ret pe_bl))))), ?_⟩
    cases th with
    | none =>
      obtain ⟨t, ty, kt⟩ := th_ty hat
      exact ⟨v, rfl, v, _, _, _, false, rfl, .ty "tuple", ty, kt, false, rfl, iteT (q H false (Same.refl H) ⟨fun z => (nomatch z), fun z => absurd z cn_none⟩)⟩
    | some es =>
      obtain ⟨a, vs, rfl, hS, hp, hl⟩ := hat
      refine ⟨.ref a, rfl, .ref a, _, _, _, true, rfl, .ty "tuple", tyT hS.seq, kit_ty (by decide +kernel), true, rfl, iteF ?_⟩
      have no : ∀ {H' : Hp}, Same H H' → ¬ Cn (some es) → Q (.bl false) H' := fun s h => q _ false s ⟨fun z => (nomatch z), fun z => absurd z h⟩
      refine ⟨.ref a, rfl, a, rfl, ⟨_, hS.seq⟩, for_tup (xs := vs) (fun i σ H3 => ∃ (ys : Ct) (x : Option V), σ = [some (.ref a), some (.str (lastN ys)), x] ∧ Same H H3 ∧ CnIs (es.take i) ys)
        ⟨[], none, rfl, Same.refl H, ⟨rfl, (fun _ h => nomatch h), .nil⟩⟩ (fun i σ H3 _ ⟨_, _, _, s3, _⟩ => (hS.same s3).seq) ?_ ?_⟩
      · rintro i v σ H3 hi ⟨ys, x, rfl, s3, cn⟩
        obtain ⟨e, he, hat⟩ := paired_at hp hi
        have hat3 := hat.same s3
        refine ⟨v, rfl, v, e, rfl, hat3, fun H4 s4 => ⟨_, rfl, ?_⟩⟩
        have s04 := s3.trans s4
        have bad : (∀ n j, e = .pr n j → ¬ 1 ≤ j) → ¬ Cn (some es) := fun hb ⟨es', ys', e1, c⟩ => by
          cases e1
          obtain ⟨y, hy, rfl⟩ := cn_at c he
          exact hb _ _ rfl (c.pos y (List.mem_of_getElem? hy))
        cases e with
        | no => exact iteT (iteT (no s04 (bad fun _ _ z => nomatch z)))
        | prb n b => exact iteT (iteT (no s04 (bad fun _ _ z => nomatch z)))
        | pr n j =>
          obtain ⟨t, rfl, h1, h2⟩ := hat3.same s4
          have hp4 : SqT K H4 t [.str n, .int j] := .inl (.inl h1)
          by_cases hj : 1 ≤ j
          · rw [show elB (.pr n j) = true from decide_eq_true hj]
            refine iteF ⟨.ref t, rfl, t, _, _, _, rfl, rfl, hp4, atI_nat (j := 0) rfl, .str (lastN ys), rfl, _, _, rfl, rfl, _, rfl, ?_⟩
            have hv : (!decide ((lastN ys).cps.toList < n.cps.toList)) = !ltZ (lastN ys) n := rfl
            rw [hv]
            cases hlt : ltZ (lastN ys) n with
            | false =>
              refine iteT (no s04 fun ⟨es', ys', e1, c⟩ => ?_)
              cases e1
              obtain ⟨y, hy, hye⟩ := cn_at c he
              injection hye with hy1 hy2
              have := asc_last c.asc hy (by rw [← hy1]; exact h2)
              have hty : ys'.take i = ys := by
                have h3 : es.take i = (ys'.take i).map prE := by rw [c.eq, List.map_take]
                rw [cn.eq] at h3
                have inj : ∀ {a b : Ct}, a.map prE = b.map prE → b = a := by
                  intro a
                  induction a with
                  | nil => intro b h; cases b with | nil => rfl | cons => cases h
                  | cons x a ih =>
                    intro b h
                    cases b with
                    | nil => cases h
                    | cons y b =>
                      injection h with h4 h5
                      injection h4 with h6 h7
                      rw [ih h5, show y = x from Prod.ext h6.symm h7.symm]
                exact inj h3
              rw [hty, ← hy1, hlt] at this
              cases this
            | true =>
              refine iteF ⟨.ref t, rfl, t, _, _, _, rfl, rfl, hp4, atI_nat (j := 0) rfl, ys ++ [(n, j)], some (.ref t), ?_, s04, ⟨?_, fun e' he' => ?_, asc_snoc cn.asc hlt⟩⟩
              · rw [lastN_snoc]
                rfl
              · rw [List.take_add_one, he, cn.eq, List.map_append]
                rfl
              · rcases List.mem_append.mp he' with h | h
                · exact cn.pos e' h
                · rw [List.mem_singleton.mp h]
                  exact hj
          · rw [show elB (.pr n j) = false from decide_eq_false hj]
            exact iteT (iteT (no s04 (bad fun n' j' z => by injection z with _ z; rw [← z]; exact hj)))
      · rintro σ H3 ⟨ys, x, rfl, s3, cn⟩
        rw [Paired.length hp, List.take_length] at cn
        exact q H3 true s3 ⟨fun _ => ⟨es, ys, rfl, cn⟩, fun _ => rfl⟩
end
end Kb

namespace Kb
open PySem PySem.Spec PyProof.Rows L2 SrtZ SrtO
abbrev sP_is_truth : Stmt := topS 34
abbrev NP_is_truth : List Str := ["sketch", "thing", "_", "many", "off", "kept", "left", "total", "name", "count"]
theorem scP_is_truth : FnScope ["sketch", "thing", "_", "many", "off", "kept", "left", "total", "name", "count"] ["sketch", "thing"] (defScope sP_is_truth) := ⟨rfl, rfl, rfl, by decide +kernel, rfl, by decide +kernel, by decide +kernel⟩
abbrev DnIsTruth (K : PySem.W.Frag) (mg : Str → Option Value) := Dn K mg "is_truth" sP_is_truth ["sketch", "thing"]
theorem prE_inj : ∀ {a b : Ct}, a.map prE = b.map prE → a = b
  | [], [], _ => rfl
  | [], _ :: _, h => nomatch h
  | _ :: _, [], h => nomatch h
  | x :: a, y :: b, h => by
    injection h with h4 h5
    injection h4 with h6 h7
    rw [prE_inj h5, show x = y from Prod.ext h6 h7]
/-- these counts are a truth -/
structure TrB (x : Tl) (ys : Ct) : Prop where
  lo : ∀ e ∈ ys, 0 ≤ e.2 - gd x.c e.1
  hi : ∀ e ∈ ys, e.2 - gd x.c e.1 ≤ x.o
  ins : ∀ e ∈ x.c, e.1 ∈ ys.map (·.1)
  sum : sumC ys = x.m
def Tr (x : Tl) (th : Option (List El)) : Prop := ∃ es ys, th = some es ∧ CnIs es ys ∧ TrB x ys
theorem tr_cn {x : Tl} {es : List El} {ys : Ct} (c : CnIs es ys) (h : Tr x (some es)) : TrB x ys := by
  obtain ⟨es', ys', e, c', t⟩ := h
  cases e
  have : ys = ys' := prE_inj (c.eq.symm.trans c'.eq)
  rw [this]
  exact t
/-- what is left over of the kept names -/
def lf (ys kvs : Ct) : Ct := kvs.filter fun e => !decide (e.1 ∈ ys.map (·.1))
theorem lf_nil (kvs : Ct) : lf [] kvs = kvs := by
  unfold lf
  rw [List.filter_eq_self]
  intro e _
  rfl
theorem lf_wo (ys kvs : Ct) (e : Str × Int) : wo e.1 (lf ys kvs) = lf (ys ++ [e]) kvs := by
  unfold wo lf
  rw [List.filter_filter]
  refine List.filter_congr fun f _ => ?_
  have hr : decide (f.1 ∈ (ys ++ [e]).map (·.1)) = (decide (f.1 ∈ ys.map (·.1)) || decide (f.1 = e.1)) := by
    rw [List.map_append]
    by_cases h1 : f.1 = e.1
    · rw [decide_eq_true h1, Bool.or_true]
      exact decide_eq_true (List.mem_append_right _ (List.mem_singleton.mpr h1))
    · rw [decide_eq_false h1, Bool.or_false]
      exact decide_eq_decide.mpr ⟨fun z => (List.mem_append.mp z).elim id fun z => absurd (List.mem_singleton.mp z) h1, fun z => List.mem_append_left _ z⟩
  show _ = !decide (f.1 ∈ (ys ++ [e]).map (·.1))
  rw [hr]
  cases decide (f.1 ∈ ys.map (·.1)) <;> cases decide (f.1 = e.1) <;> rfl
theorem lf_gd {ys : Ct} {n : Str} (h : n ∉ ys.map (·.1)) : ∀ kvs : Ct, gd (lf ys kvs) n = gd kvs n
  | [] => rfl
  | e :: t => by
    by_cases hn : e.1 ∈ ys.map (·.1)
    · have : lf ys (e :: t) = lf ys t := by
        unfold lf
        rw [List.filter_cons_of_neg (by simp [hn])]
      rw [this, gd_cons, if_neg (fun z => h (by rw [← z]; exact hn)), lf_gd h t]
    · have : lf ys (e :: t) = e :: lf ys t := by
        unfold lf
        rw [List.filter_cons_of_pos (by simpa using hn)]
      rw [this, gd_cons, gd_cons, lf_gd h t]
theorem dropZ (n : Str) (kvs : Ct) : dropK (kvs.map entZ) (Sum.inr n : Key) = (wo n kvs).map entZ := by
  unfold dropK wo
  rw [List.filter_map]
  congr 1
  refine List.filter_congr fun e _ => ?_
  show decide ((entZ e).1 ≠ (Sum.inr n : Key)) = _
  rw [decide_not, ent_dec]
theorem sumC_snoc (ys : Ct) (e : Str × Int) : sumC (ys ++ [e]) = sumC ys + e.2 := by
  rw [sumC_app]
  show sumC ys + (e.2 + 0) = _
  omega
theorem gd_srt {kvs : Ct} (nd : NdZ kvs) (k : Str) : gd (srtZ kvs) k = gd kvs k := by
  unfold gd
  rw [getZ_perm (srtZ_perm kvs) (srtZ_nd nd)]
theorem wo_gone {n : Str} {kvs : Ct} (h : getZ kvs n = none) : wo n kvs = kvs := wo_out (getZ_none.mp h)
section
variable {P : Program} {w : World} {K : PySem.W.Frag} {mg : Str → Option Value} {base : Heap}
/-! is_truth, of anything -/
def spIsTruth (K : PySem.W.Frag) : Sp := fun vs H Q _ => ∃ (s : Addr) (v : V) (r : Int) (x : Tl) (th : Option (List El)), vs = [.ref s, v] ∧ SkAt H s r x ∧ TlOk r x ∧ r ≤ 64 ∧ skB r x.m x.o (srtZ x.c) = true ∧ ThAt K H v th ∧ ∀ H' b, Same H H' → (b = true ↔ Tr x th) → Q (.bl b) H'
theorem ok_is_truth (T : Blt mg) (cM : Cst mg "MOST_ROOM" (.int 64)) (cL : Cst mg "LONGEST_NAME" (.int 8)) (dP_is_int : DnIsInt K mg) (dP_is_number : DnIsNumber K mg) (dP_is_room : DnIsRoom K mg) (dP_is_name : DnIsName K mg) (dP_is_counted : DnIsCounted K mg) (dP_are_counts : DnAreCounts K mg)
    (dP_lost_of : DnLostOf K mg) (dP_is_sketch : DnIsSketch K mg) (d : DnIsTruth K mg) : FnOk P w K mg base CX0 5 d.f d.fd ["sketch", "thing"] (spIsTruth K) := by
  have GP_is_sketch : FnOk P w K mg base CX0 4 dP_is_sketch.f dP_is_sketch.fd ["thing"] (spIsSketch K) := ok_is_sketch T cM cL dP_is_int dP_is_number dP_is_room dP_is_name dP_is_counted dP_are_counts dP_lost_of dP_is_sketch
  have GP_are_counts : FnOk P w K mg base CX0 3 dP_are_counts.f dP_are_counts.fd ["thing"] (spAreCountsA K) := ok_are_countsA T cL dP_is_int dP_is_name dP_is_counted dP_are_counts
  refine d.F.ok scP_is_truth (fun vs H Q E h => ?_) (fun cdv A outer s H vs Q E hr h => ?_)
  · obtain ⟨s, v, r, x, th, rfl, _⟩ := h
    rfl
  · obtain ⟨sk, v, r, ⟨m, o, kvs0⟩, th, rfl, ⟨k, ts, hs0, hk, hp⟩, ok, hr2, hsk, hth, q⟩ := h
    dsimp only at hs0 hp hsk
    have hu := hu_of hr
    have hs : SqT K H sk [.int r, .int m, .int o, .ref k] := .inl (.inl hs0)
    have cts : Cts (srtZ kvs0) := cts_of ok
    have ndk : NdZ (srtZ kvs0) := srtZ_nd ok.nd
    have kl : (srtZ kvs0).length ≤ 64 := by
      have h1 : (kvs0.length : Int) ≤ r := ok.len
      have h2 := (srtZ_perm kvs0).length_eq
      omega
    refine ⟨_, (pss_cons (ps_if (pt_not (pt_val (pe_call GP_is_sketch (hr.mono (by omega)) (by rfl) dP_is_sketch.g dP_is_sketch.F.kp dP_is_sketch.b .nil pass0 (pa_cons (pv 0) pa_nil))))
      (pss_one ps_never)
      pss_nil)
    (pss_cons (ps_if (pt_not (pt_val (pe_call GP_are_counts (hr.mono (by omega)) (by rfl) dP_are_counts.g dP_are_counts.F.kp dP_are_counts.b .nil pass0 (pa_cons (pv 1) pa_nil))))
      (pss_one (ps_ret pe_bl))
      pss_nil)
    (pss_cons (ps_asg (pv 0) (pg_tup (by rfl) (pgs_cons (pg_name (i := 2) scP_is_truth.nd rfl (Or.inl rfl)) (pgs_cons (pg_name (i := 3) scP_is_truth.nd rfl (Or.inl rfl)) (pgs_cons (pg_name (i := 4) scP_is_truth.nd rfl (Or.inl rfl)) (pgs_cons (pg_name (i := 5) scP_is_truth.nd rfl (Or.inl rfl)) pgs_nil))))))
    (pss_cons (ps_set (i := 6) scP_is_truth.nd rfl (Or.inl rfl) (pe_callTy (call_dictPT rfl) (by rfl) T.n_dict (by decide +kernel) (pa_cons (pv 5) pa_nil)))
    (pss_cons (ps_set (i := 7) scP_is_truth.nd rfl (Or.inl rfl) pe_int)
    (pss_cons (ps_for PassesOwn.never rfl (pi_tup (pv 1)) (pg_tup (by rfl) (pgs_cons (pg_name (i := 8) scP_is_truth.nd rfl (Or.inl rfl)) (pgs_cons (pg_name (i := 9) scP_is_truth.nd rfl (Or.inl rfl)) pgs_nil)))
      (pss_cons (ps_if (pt_not (pt_chain op_le op_le pe_int (pe_op op_sub (pv 9) (pe_dpop2 (pv 6) (pv 8) pe_int ⟨rfl, rfl, rfl, rfl⟩)) (pv 4)))
        (pss_one (ps_ret pe_bl))
        pss_nil)
      (pss_one (ps_aug (i := 7) scP_is_truth.nd rfl (Or.inl rfl) (pv 9) ip_add))))
    (pss_one (ps_ret (pe_and (pe_notT (pv 6)) (pe_one (pe_cmpR op_eq (pv 7) (pv 3) (nomark _)))))))))))), ?_⟩
    refine ⟨.ref sk, rfl, sk, k, r, m, o, srtZ kvs0, rfl, hs, ⟨ts, hk.seq, paired_imp (fun t e h => .inl (.inl h)) hp⟩, cts, by omega, fun H1 s1 => ⟨_, rfl, ?_⟩⟩
    rw [hsk]
    refine iteF ⟨v, rfl, v, th, rfl, hth.same s1, fun H2 b s2 hb => ⟨b, rfl, ?_⟩⟩
    have s02 := s1.trans s2
    cases b with
    | false => exact iteT (q H2 false s02 ⟨fun z => (nomatch z), fun ⟨es, ys, e, c, _⟩ => hb.mpr ⟨es, ys, e, c⟩⟩)
    | true =>
    obtain ⟨es, ys, rfl, cn⟩ := hb.mp rfl
    have no : ∀ {H' : Hp}, Same H H' → ¬ TrB ⟨m, o, kvs0⟩ ys → Q (.bl false) H' := fun s h => q _ false s ⟨fun z => (nomatch z), fun z => absurd (tr_cn cn z) h⟩
    obtain ⟨a, vs, rfl, hS, hpe, hvl⟩ := hth.same s02
    rw [cn.eq] at hpe
    obtain ⟨us, rfl, hpr, hnm⟩ := els_prs hpe
    have ndy := asc_nd cn.asc
    refine iteF ⟨.ref sk, rfl, sk, _, rfl, seqT hs s02, rfl, _, _, rfl, _, _, rfl, _, _, rfl, _, _, rfl, rfl, ?_⟩
    refine ⟨.ref k, rfl, k, ts, (srtZ kvs0).map entZ, rfl, hk.same s02, ents_paired (paired_imp (fun t e h => .inl (.inl (s02 _ _ h))) hp), fun dd nd => ?_⟩
    have em : mergeK [] ((srtZ kvs0).map entZ) = (srtZ kvs0).map entZ := mergeZ (srtZ kvs0) [] (by rw [List.nil_append]; exact ndk)
    rw [em]
    have nd0 : H dd = none := Same.gone s02 nd
    have s03 : Same H (upd H2 dd (.dK ((srtZ kvs0).map entZ))) := Same.new s02 nd
    have s23 : Same H2 (upd H2 dd (.dK ((srtZ kvs0).map entZ))) := same_upd nd
    have hd3 : (upd H2 dd (.dK ((srtZ kvs0).map entZ))) dd = some (.dK ((lf (ys.take 0) (srtZ kvs0)).map entZ)) := by rw [List.take_zero, lf_nil]; exact upd_same
    generalize upd H2 dd (.dK ((srtZ kvs0).map entZ)) = H3 at s03 s23 hd3 ⊢
    refine ⟨.ref a, rfl, a, rfl, ⟨_, (hS.same s23).seq⟩, for_tup (xs := us.map V.ref) (fun i σ H4 => ∃ y8 y9 : Option V, σ = [some (.ref sk), some (.ref a), some (.int r), some (.int m), some (.int o), some (.ref k), some (.ref dd), some (.int (sumC (ys.take i))), y8, y9] ∧ Same H2 H4 ∧ H4 dd = some (.dK ((lf (ys.take i) (srtZ kvs0)).map entZ)) ∧ ∀ e ∈ ys.take i, 0 ≤ e.2 - gd kvs0 e.1 ∧ e.2 - gd kvs0 e.1 ≤ o)
      ⟨none, none, rfl, s23, hd3, (fun _ h => nomatch h)⟩ (fun i σ H4 _ ⟨_, _, _, s4, _⟩ => (hS.same s4).seq) ?_ ?_⟩
    · rintro i u σ H4 hi ⟨y8, y9, rfl, s4, hd4, rg⟩
      obtain ⟨t, ht, rfl⟩ := map_at hi
      obtain ⟨e, he, hat⟩ := paired_at hpr ht
      have hem : e ∈ ys := List.mem_of_getElem? he
      have hnin : e.1 ∉ (ys.take i).map (·.1) := fun z => by
        have nd2 := ndy
        unfold NdZ at nd2
        rw [← List.take_append_drop i ys, List.map_append, List.nodup_append] at nd2
        refine nd2.2.2 _ z e.1 (List.mem_map.mpr ⟨e, ?_, rfl⟩) rfl
        rw [List.drop_eq_getElem_cons (List.getElem?_eq_some_iff.mp he).1, (List.getElem?_eq_some_iff.mp he).2]
        exact List.mem_cons_self
      have hg : gd (lf (ys.take i) (srtZ kvs0)) e.1 = gd kvs0 e.1 := by rw [lf_gd hnin, gd_srt ok.nd]
      have htk : ys.take (i + 1) = ys.take i ++ [e] := by rw [List.take_add_one, he]; rfl
      refine ⟨t, _, rfl, .inl (.inl (s4 _ _ hat)), rfl, _, _, rfl, _, _, rfl, rfl, ?_⟩
      have bad : ¬ (0 ≤ e.2 - gd kvs0 e.1 ∧ e.2 - gd kvs0 e.1 ≤ o) → ¬ TrB ⟨m, o, kvs0⟩ ys := fun h t => h ⟨t.lo e hem, t.hi e hem⟩
      have nxt : ∀ H5 : Hp, Same H2 H5 → H5 dd = some (.dK ((wo e.1 (lf (ys.take i) (srtZ kvs0))).map entZ)) → 0 ≤ e.2 - gd kvs0 e.1 → e.2 - gd kvs0 e.1 ≤ o →
          ∃ z8 z9 : Option V, ([some (.ref sk), some (.ref a), some (.int r), some (.int m), some (.int o), some (.ref k), some (.ref dd), some (.int (sumC (ys.take i) + e.2)), some (.str e.1), some (.int e.2)] : L2.St) = [some (.ref sk), some (.ref a), some (.int r), some (.int m), some (.int o), some (.ref k), some (.ref dd), some (.int (sumC (ys.take (i + 1)))), z8, z9] ∧ Same H2 H5 ∧ H5 dd = some (.dK ((lf (ys.take (i + 1)) (srtZ kvs0)).map entZ)) ∧ ∀ e ∈ ys.take (i + 1), 0 ≤ e.2 - gd kvs0 e.1 ∧ e.2 - gd kvs0 e.1 ≤ o := fun H5 s5 h5 c1 c2 => by
        refine ⟨some (.str e.1), some (.int e.2), ?_, s5, ?_, fun f hf => ?_⟩
        · rw [htk, sumC_snoc]
        · rw [htk, ← lf_wo]
          exact h5
        · rw [htk] at hf
          rcases List.mem_append.mp hf with hf | hf
          · exact rg f hf
          · rw [List.mem_singleton.mp hf]
            exact ⟨c1, c2⟩
      refine ⟨.int e.2, rfl, .ref dd, rfl, dd, rfl, .inl ⟨_, .inl hd4⟩, .str e.1, rfl, _, Sum.inr e.1, hd4, rfl, fun v' hv => ?_, fun hv => ?_⟩
      · rw [getZ_val] at hv
        have hv2 : v' = .int (gd kvs0 e.1) := by
          rw [← hg]
          unfold gd
          cases hz : getZ (lf (ys.take i) (srtZ kvs0)) e.1 with
          | none => rw [hz] at hv; cases hv
          | some g => rw [hz] at hv; cases hv; rfl
        subst hv2
        rw [dropZ]
        have s5 : Same H2 (upd H4 dd (.dK ((wo e.1 (lf (ys.take i) (srtZ kvs0))).map entZ))) := Same.put s4 nd
        have h5 : (upd H4 dd (.dK ((wo e.1 (lf (ys.take i) (srtZ kvs0))).map entZ))) dd = some (.dK ((wo e.1 (lf (ys.take i) (srtZ kvs0))).map entZ)) := upd_same
        generalize upd H4 dd (.dK ((wo e.1 (lf (ys.take i) (srtZ kvs0))).map entZ)) = H5 at s5 h5 ⊢
        refine ⟨_, _, rfl, rfl, _, _, rfl, rfl, decide (0 ≤ e.2 - gd kvs0 e.1), rfl, ?_⟩
        refine ite2 (fun c1 => ?_) fun c1 => ?_
        · have c1 := of_decide_eq_true c1
          refine ⟨.int o, rfl, _, _, rfl, rfl, decide (e.2 - gd kvs0 e.1 ≤ o), rfl, ?_⟩
          by_cases c2 : e.2 - gd kvs0 e.1 ≤ o
          · rw [decide_eq_true c2]
            exact iteF ⟨.int (sumC (ys.take i)), rfl, .int e.2, rfl, _, _, rfl, rfl, nxt H5 s5 h5 c1 c2⟩
          · rw [decide_eq_false c2]
            exact iteT (no (s02.trans s5) (bad fun z => c2 z.2))
        · have c1 : ¬ 0 ≤ e.2 - gd kvs0 e.1 := fun z => c1 (decide_eq_true z)
          exact ⟨false, rfl, iteT (no (s02.trans s5) (bad fun z => c1 z.1))⟩
      · rw [getZ_val] at hv
        have hz : getZ (lf (ys.take i) (srtZ kvs0)) e.1 = none := by
          cases hz : getZ (lf (ys.take i) (srtZ kvs0)) e.1 with
          | none => rfl
          | some g => rw [hz] at hv; cases hv
        have hg0 : gd kvs0 e.1 = 0 := by
          rw [← hg]
          unfold gd
          rw [hz]
          rfl
        have h5 : H4 dd = some (.dK ((wo e.1 (lf (ys.take i) (srtZ kvs0))).map entZ)) := by rw [wo_gone hz]; exact hd4
        rw [hg0] at bad nxt
        refine ⟨_, _, rfl, rfl, _, _, rfl, rfl, decide (0 ≤ e.2 - 0), rfl, ?_⟩
        refine ite2 (fun c1 => ?_) fun c1 => ?_
        · have c1 := of_decide_eq_true c1
          refine ⟨.int o, rfl, _, _, rfl, rfl, decide (e.2 - 0 ≤ o), rfl, ?_⟩
          by_cases c2 : e.2 - 0 ≤ o
          · rw [decide_eq_true c2]
            exact iteF ⟨.int (sumC (ys.take i)), rfl, .int e.2, rfl, _, _, rfl, rfl, nxt H4 s4 h5 c1 c2⟩
          · rw [decide_eq_false c2]
            exact iteT (no (s02.trans s4) (bad fun z => c2 z.2))
        · have c1 : ¬ 0 ≤ e.2 - 0 := fun z => c1 (decide_eq_true z)
          exact ⟨false, rfl, iteT (no (s02.trans s4) (bad fun z => c1 z.1))⟩
    · rintro σ H4 ⟨y8, y9, rfl, s4, hd4, rg⟩
      rw [show ys.take (us.map V.ref).length = ys by rw [List.length_map, Paired.length hpr, List.take_length]] at hd4 rg ⊢
      have s04 := s02.trans s4
      refine ⟨.ref dd, rfl, _, .inr (.inr ⟨_, hd4, rfl⟩), _, rfl, ?_⟩
      have emp : ((!(!((lf ys (srtZ kvs0)).map entZ).isEmpty)) = true) ↔ ∀ e ∈ kvs0, e.1 ∈ ys.map (·.1) := by
        rw [Bool.not_not, List.isEmpty_iff, List.map_eq_nil_iff]
        unfold lf
        rw [List.filter_eq_nil_iff]
        constructor
        · intro h e he
          have := h e ((srtZ_perm kvs0).mem_iff.mpr he)
          simpa using this
        · intro h e he
          have := h e ((srtZ_perm kvs0).mem_iff.mp he)
          simpa using this
      refine ite2 (fun c1 => ?_) fun c1 => ?_
      · have c1 := emp.mp c1
        refine ⟨.int (sumC ys), rfl, .int m, rfl, rfl, ?_⟩
        refine q H4 _ s04 ⟨fun z => ?_, fun z => ?_⟩
        · have e := of_decide_eq_true z
          injection e with e
          exact ⟨es, ys, rfl, cn, fun e he => (rg e he).1, fun e he => (rg e he).2, c1, e⟩
        · exact decide_eq_true (congrArg V.int (tr_cn cn z).sum)
      · exact q H4 false s04 ⟨fun z => (nomatch z), fun z => absurd (emp.mpr (tr_cn cn z).ins) c1⟩
end
end Kb

namespace Kb
open PySem PySem.Spec PyProof.Rows L2 SrtZ SrtO
/-- pairs, in a plain tuple -/
structure TupC (H : Hp) (k : Addr) (ys : Ct) : Prop where
  ob : ∃ us : List Addr, Ptp H k (us.map V.ref) ∧ Paired (PrT H) us ys
theorem TupC.same {H H' : Hp} {k : Addr} {ys : Ct} (h : TupC H k ys) (s : Same H H') : TupC H' k ys := by
  obtain ⟨us, h1, h2⟩ := h.ob
  exact ⟨us, h1.same s, prt_same h2 s⟩
end Kb

namespace PySem.SeqAt
open Builtin
open AutoSeq1 (wpAny_loadPart')
/-! a dict is no text and no tuple -/
theorem dict_no_str (l : Addr) (es : Array DictEntry) (n : Nat) (dd : Option Addr) (sl : Array (Option Value)) (i : Str) (u : Tok) :
    Meets (Builtin.«dict.__eq__» ⟨[.ref l, .str i u], []⟩) (fun _ R s => s.heap.get? l = some { cls := .type "dict", dict := dd, data := .dict es n, slots := sl } ∧ R (.ok (.ret .notImplemented)) s) := by
  refine .of_wp fun prog w A R s h => ?_
  obtain ⟨hp, g, d, tk, os⟩ := s
  obtain ⟨hl, h⟩ := h
  have f1 := F.sub_str_dict
  wp_walk using wpAny_loadPart' hl
  exact ⟨_, rfl, h⟩
theorem str_no_dict (l : Addr) (es : Array DictEntry) (n : Nat) (dd : Option Addr) (sl : Array (Option Value)) (i : Str) (u : Tok) :
    Meets (Builtin.«str.__eq__» ⟨[.str i u, .ref l], []⟩) (fun _ R s => s.heap.get? l = some { cls := .type "dict", dict := dd, data := .dict es n, slots := sl } ∧ R (.ok (.ret .notImplemented)) s) := by
  refine .of_wp fun prog w A R s h => ?_
  obtain ⟨hp, g, d, tk, os⟩ := s
  obtain ⟨hl, h⟩ := h
  wp_walk using wpAny_loadPart' hl, wpAny_load hl
  exact ⟨_, rfl, h⟩
theorem dict_no_tuple (l b : Addr) (es : Array DictEntry) (items2 : Array Value) (n n2 : Nat) (dd dd2 : Option Addr) (sl sl2 : Array (Option Value)) :
    Meets (Builtin.«dict.__eq__» ⟨[.ref l, .ref b], []⟩) (fun _ R s => s.heap.get? l = some { cls := .type "dict", dict := dd, data := .dict es n, slots := sl } ∧ s.heap.get? b = some { cls := .type "tuple", dict := dd2, data := .seq items2 n2, slots := sl2 } ∧ R (.ok (.ret .notImplemented)) s) := by
  refine .of_wp fun prog w A R s h => ?_
  obtain ⟨hp, g, d, tk, os⟩ := s
  obtain ⟨hl, hb, h⟩ := h
  have f1 := F.sub_tuple_dict
  wp_walk using wpAny_loadPart' hl, wpAny_loadPart' hb
  exact ⟨_, rfl, h⟩
theorem tuple_no_dict (l b : Addr) (items : Array Value) (es : Array DictEntry) (n n2 : Nat) (dd dd2 : Option Addr) (sl sl2 : Array (Option Value)) :
    Meets (Builtin.«tuple.__eq__» ⟨[.ref l, .ref b], []⟩) (fun _ R s => s.heap.get? l = some { cls := .type "tuple", dict := dd, data := .seq items n, slots := sl } ∧ s.heap.get? b = some { cls := .type "dict", dict := dd2, data := .dict es n2, slots := sl2 } ∧ R (.ok (.ret .notImplemented)) s) := by
  refine .of_wp fun prog w A R s h => ?_
  obtain ⟨hp, g, d, tk, os⟩ := s
  obtain ⟨hl, hb, h⟩ := h
  have f1 := F.sub_dict_tuple
  wp_walk using wpAny_loadPart' hl, wpAny_loadPart' hb
  exact ⟨_, rfl, h⟩
section
variable {A : Around} {s : Shared}
theorem RcAt.dict_str {l : Addr} {es : Array DictEntry} {n : Nat} {dd : Option Addr} {sl : Array (Option Value)} (b : Str) (u : Tok) (ho : s.heap.get? l = some { cls := .type "dict", dict := dd, data := .dict es n, slots := sl }) (hu : A.units < cLine) : RcAt A s (.ref l) (.str b u) false := fun prog w E Q h =>
  rc_eq_decline_or (k := false) ⟨_, ho, rfl⟩ (typeIs_str s b u) (by decide) F.sub_str_dict F.slot_dict_eq F.slot_str_eq_refl
    (fun _ hq => call_meets F.slot_dict_eq ⟨_, ho, rfl⟩ F.entry_dict_eq (F.args_dict_eq_2 _ _) (dict_no_str l es n dd sl b u) ⟨ho, hq⟩)
    (fun _ hq => call_meets F.slot_str_eq_refl (typeIs_str s b u) F.entry_str_eq (F.args_str_eq_2 _ _) (str_no_dict l es n dd sl b u) ⟨ho, hq⟩)
    (fun _ hq => wpAny_of_eq (rfl : isSame (.ref l) (.str b u) = pure false) hq) (.inr hu) h
theorem EqAt.dict_str {l : Addr} {es : Array DictEntry} {n : Nat} {dd : Option Addr} {sl : Array (Option Value)} (b : Str) (u : Tok) (ho : s.heap.get? l = some { cls := .type "dict", dict := dd, data := .dict es n, slots := sl }) (hu : A.units < cLine) : EqAt A s (.ref l) (.str b u) false := fun prog w E Q h => by
  unfold eqBool
  refine wpAny_holding ?_
  refine wpAny_ite_split (fun hab => absurd (eq_of_beq hab) nofun) (fun _ => ?_)
  exact wpAny_bind (RcAt.dict_str b u ho hu prog w E _ (wpAny_truthy_bool h))
theorem RcAt.dict_tuple {l b : Addr} {es : Array DictEntry} {n : Nat} {dd : Option Addr} {sl : Array (Option Value)} {items2 : Array Value} (ho : s.heap.get? l = some { cls := .type "dict", dict := dd, data := .dict es n, slots := sl }) (hb : s.heap.IsTuple b items2) (hu : A.units < cLine) : RcAt A s (.ref l) (.ref b) false := fun prog w E Q h => by
  obtain ⟨⟨cls2, dd2, data2, sl2⟩, ho2, hc2, n2, hd2⟩ := id hb
  simp only at hc2 hd2
  subst hc2 hd2
  have hne : l ≠ b := fun e => by
    subst e
    rw [ho] at ho2
    exact absurd ho2 (by simp)
  exact (rc_eq_decline_or (k := false) ⟨_, ho, rfl⟩ ⟨_, ho2, rfl⟩ (by decide) F.sub_tuple_dict F.slot_dict_eq F.slot_tuple_eq_refl
    (fun _ hq => call_meets F.slot_dict_eq ⟨_, ho, rfl⟩ F.entry_dict_eq (F.args_dict_eq_2 _ _) (dict_no_tuple l b es items2 n n2 dd dd2 sl sl2) ⟨ho, ho2, hq⟩)
    (fun _ hq => call_meets F.slot_tuple_eq_refl ⟨_, ho2, rfl⟩ F.entry_tuple_eq (F.args_tuple_eq_2 _ _) (tuple_no_dict b l items2 es n2 n dd2 dd sl2 sl) ⟨ho2, ho, hq⟩)
    (fun _ hq => wpAny_isSame_ref_other hne ho ho2 (by simp) hq) (.inr hu) h)
end
end PySem.SeqAt
namespace L2
open PySem PySem.Spec PyProof.Rows Builtin
variable {X : Cx} {pins : List (Addr × Obj)} {σ : St} {H : Hp} {s : Shared}
/-! anything against a text -/
def EqS (K : PySem.W.Frag) (H : Hp) (x : V) (z : Str) (c : Bool) : Prop :=
  (x = .non ∧ c = false) ∨ (∃ i, x = .int i ∧ c = false) ∨ (∃ b, x = .bl b ∧ c = false) ∨ (∃ y, x = .str y ∧ c = decide (y = z)) ∨
  ∃ a, x = .ref a ∧ c = false ∧ ((∃ xs, SqL K H a xs) ∨ (∃ xs, SqT K H a xs) ∨ ∃ k, H a = some (.dK k))
theorem dict_at (I : Inv X pins σ H s) {a : Addr} {k : List (Key × V)} (e : H a = some (.dK k)) : ∃ es n dd sl, s.heap.get? a = some { cls := .type "dict", dict := dd, data := .dict es n, slots := sl } := by
  obtain ⟨_, low, vs, _, dd⟩ := (show ObjOk X.prog X.w H s.heap a (.dK k) from I.hok a _ e)
  obtain ⟨o, es, n, ho, shape, r⟩ := dd
  obtain ⟨cls, dct, data, sl⟩ := o
  obtain ⟨c1, c2, c3⟩ := shape
  obtain ⟨c4, _⟩ := r
  simp only at c1 c4
  subst c1 c4
  exact ⟨es, n, dct, sl, ho⟩
theorem str_dec (y z : Str) : (y == z) = decide (y = z) := by
  by_cases h : y = z
  · rw [decide_eq_true h, h]
    exact beq_self_eq_true z
  · rw [decide_eq_false h]
    exact beq_eq_false_iff_ne.mpr h
theorem EqS.rc (I : Inv X pins σ H s) {A : Around} (hu : A.units < cLine) {x : V} {v : Value} {z : Str} {t : Tok} {c : Bool} (h : EqS X.K H x z c) (r : RelV x v) : SeqAt.RcAt A s v (.str z t) c := by
  rcases h with ⟨rfl, rfl⟩ | ⟨i, rfl, rfl⟩ | ⟨b, rfl, rfl⟩ | ⟨y, rfl, rfl⟩ | ⟨a, rfl, rfl, h⟩
  · cases (show v = Value.none from r)
    exact SeqAt.RcAt.none_str z t
  · obtain ⟨t', rfl⟩ := r
    exact SeqAt.RcAt.int_str i t' z t
  · cases (show v = Value.bool b from r)
    exact SeqAt.RcAt.bool_str b z t
  · obtain ⟨t', rfl⟩ := r
    rw [← str_dec]
    exact SeqAt.RcAt.str_str y t' z t
  · cases (show v = Value.ref a from r)
    rcases h with ⟨xs, h⟩ | ⟨xs, h⟩ | ⟨k, h⟩
    · obtain ⟨its, _, p, _⟩ := I.list h
      exact SeqAt.RcAt.list_str z t p.isList hu
    · obtain ⟨its, _, p, _⟩ := I.tuple h
      exact SeqAt.RcAt.tuple_str z t p hu
    · obtain ⟨es, n, dd, sl, ho⟩ := dict_at I h
      exact SeqAt.RcAt.dict_str z t ho hu
theorem EqS.eq (I : Inv X pins σ H s) {A : Around} (hu : A.units < cLine) {x : V} {v : Value} {z : Str} {t : Tok} {c : Bool} (h : EqS X.K H x z c) (r : RelV x v) : SeqAt.EqAt A s v (.str z t) c := by
  rcases h with ⟨rfl, rfl⟩ | ⟨i, rfl, rfl⟩ | ⟨b, rfl, rfl⟩ | ⟨y, rfl, rfl⟩ | ⟨a, rfl, rfl, h⟩
  · cases (show v = Value.none from r)
    exact SeqAt.EqAt.none_str z t
  · obtain ⟨t', rfl⟩ := r
    exact SeqAt.EqAt.int_str i t' z t
  · cases (show v = Value.bool b from r)
    exact SeqAt.EqAt.bool_str b z t
  · obtain ⟨t', rfl⟩ := r
    rw [← str_dec]
    exact SeqAt.EqAt.str_str y t' z t
  · cases (show v = Value.ref a from r)
    rcases h with ⟨xs, h⟩ | ⟨xs, h⟩ | ⟨k, h⟩
    · obtain ⟨its, _, p, _⟩ := I.list h
      exact SeqAt.EqAt.list_str z t p.isList hu
    · obtain ⟨its, _, p, _⟩ := I.tuple h
      exact SeqAt.EqAt.tuple_str z t p hu
    · obtain ⟨es, n, dd, sl, ho⟩ := dict_at I h
      exact SeqAt.EqAt.dict_str z t ho hu
/-- anything == a text -/
theorem op_eqS {K : PySem.W.Frag} (hK : X.K = K) (hu : X.A.units + 64 < cLine) : OpR X (compareOp .Eq) (fun x y H Q => ∃ z c, y = .str z ∧ EqS K H x z c ∧ Q (.bl c) H) := by
  subst hK
  intro pins s σ H x y v u Q I rx ry h
  obtain ⟨z, c, rfl, e, q⟩ := h
  obtain ⟨t, rfl⟩ := ry
  exact EqS.rc I (by omega) e rx _ _ _ _ ⟨.bl c, H, I, rfl, q⟩
/-! anything against a tuple of one text -/
def EqT (K : PySem.W.Frag) (H : Hp) (x : V) (z : Str) (c : Bool) : Prop :=
  (c = false ∧ (x = .non ∨ (∃ i, x = .int i) ∨ (∃ b, x = .bl b) ∨ ∃ y, x = .str y)) ∨
  ∃ a, x = .ref a ∧ ((c = false ∧ ((∃ xs, SqL K H a xs) ∨ ∃ k, H a = some (.dK k))) ∨ (∃ xs, SqT K H a xs ∧ ((xs = [] ∧ c = false) ∨ ∃ x0 r c0, xs = x0 :: r ∧ EqS K H x0 z c0 ∧ c = (c0 && decide (r = []))))) 
theorem vals_nil {its : List Value} (h : Vals [] its) : its = [] := by cases h; rfl
theorem vals_cons {x : V} {xs : List V} {its : List Value} (h : Vals (x :: xs) its) : ∃ v r, its = v :: r ∧ RelV x v ∧ Vals xs r := by
  cases h with
  | cons h t => exact ⟨_, _, rfl, h, t⟩
theorem EqT.rc (I : Inv X pins σ H s) {A : Around} (hu : A.units + 64 < cLine) (hu1 : A.in1.units < cLine) {x : V} {v : Value} {b : Addr} {z : Str} {c : Bool} (h : EqT X.K H x z c) (r : RelV x v) (hb : SqT X.K H b [.str z]) : SeqAt.RcAt A s v (.ref b) c := by
  obtain ⟨its2, rv2, p2, _⟩ := I.tuple hb
  have hu0 : A.units < cLine := by omega
  obtain ⟨w2, r2, rfl, rz, rr⟩ := vals_cons rv2
  obtain rfl := vals_nil rr
  obtain ⟨t, rfl⟩ := rz
  rcases h with ⟨rfl, h⟩ | ⟨a, rfl, h⟩
  · rcases h with rfl | ⟨i, rfl⟩ | ⟨j, rfl⟩ | ⟨y, rfl⟩
    · cases (show v = Value.none from r)
      exact SeqAt.RcAt.none_tuple p2 hu0
    · obtain ⟨t', rfl⟩ := r
      exact SeqAt.RcAt.int_tuple i t' p2 hu0
    · cases (show v = Value.bool j from r)
      exact SeqAt.RcAt.bool_tuple j p2 hu0
    · obtain ⟨t', rfl⟩ := r
      exact SeqAt.RcAt.str_tuple y t' p2 hu0
  · cases (show v = Value.ref a from r)
    rcases h with ⟨rfl, ⟨xs, h⟩ | ⟨k, h⟩⟩ | ⟨xs, hx, h⟩
    · obtain ⟨its, _, p, _⟩ := I.list h
      exact SeqAt.RcAt.list_tuple p.isList p2 hu0
    · obtain ⟨es, n, dd, sl, ho⟩ := dict_at I h
      exact SeqAt.RcAt.dict_tuple ho p2 hu0
    · obtain ⟨its, rv, p, _⟩ := I.tuple hx
      rcases h with ⟨rfl, rfl⟩ | ⟨x0, rs, c0, rfl, e0, rfl⟩
      · obtain rfl := vals_nil rv
        have := SeqAt.RcAt.tuples (e := fun _ => false) p p2 hu0 (fun j j1 j2 => absurd j1 (by simp))
        exact this
      · obtain ⟨v0, r0, rfl, rel0, rrs⟩ := vals_cons rv
        have := SeqAt.RcAt.tuples (A := A) (e := fun _ => c0) p p2 hu0 (fun j j1 j2 => by
          have j0 : j = 0 := by simpa using j2
          subst j0
          exact EqS.eq I hu1 e0 rel0)
        have l1 : rs.length = r0.length := Paired.length rrs
        have e2 : ((List.range (min (v0 :: r0).toArray.size [Value.str z t].toArray.size)).all (fun _ => c0) && (v0 :: r0).toArray.size == [Value.str z t].toArray.size) = (c0 && decide (rs = [])) := by
          cases rs with
          | nil =>
            cases r0 with
            | nil => simp
            | cons _ _ => simp at l1
          | cons y ys =>
            cases r0 with
            | nil => simp at l1
            | cons _ _ => simp
        rw [e2] at this
        exact this
/-- anything == a tuple of one text -/
theorem op_eqT {K : PySem.W.Frag} (hK : X.K = K) (hu : X.A.units + 64 < cLine) : OpR X (compareOp .Eq) (fun x y H Q => ∃ b z c, y = .ref b ∧ SqT K H b [.str z] ∧ EqT K H x z c ∧ Q (.bl c) H) := by
  subst hK
  intro pins s σ H x y v u Q I rx ry h
  obtain ⟨b, z, c, rfl, hb, e, q⟩ := h
  cases (show u = Value.ref b from ry)
  exact EqT.rc I hu (by have : X.A.in1.units ≤ X.A.units + 1 := by simp [Around.in1, Around.units]
                        omega) e rx hb _ _ _ _ ⟨.bl c, H, I, rfl, q⟩
end L2

namespace Kb
open PySem PySem.Spec PyProof.Rows L2 SrtZ SrtO
/-! things that may be trees -/
abbrev pourS : Str := Str.ofString "pour"
abbrev strmS : Str := Str.ofString "stream"
/-- a thing that may be a step -/
def SxAt (K : PySem.W.Frag) (H : Hp) (v : V) : Option Stp → Prop
  | some t => StpAt K H v t
  | none => v = .non ∨ (∃ i, v = .int i) ∨ ∃ a, v = .ref a ∧ ((∃ xs, SqL K H a xs) ∨ (∃ k, H a = some (.dK k)) ∨ (∃ xs, SqT K H a xs ∧ (xs = [] ∨ ∃ x0, xs = [x0] ∧ EqS K H x0 pourS false)) ∨ ∃ b ys, SqT K H a [.str strmS, .ref b] ∧ SqL K H b ys)
theorem sqL_same {K : PySem.W.Frag} {H H' : Hp} {a : Addr} {xs : List V} (h : SqL K H a xs) (s : Same H H') : SqL K H' a xs := by
  rcases h with (h | ⟨o, h⟩) | h
  · exact .inl (.inl (s _ _ h))
  · exact .inl (.inr ⟨o, s _ _ h⟩)
  · exact .inr h
theorem eqS_same {K : PySem.W.Frag} {H H' : Hp} {x : V} {z : Str} {c : Bool} (h : EqS K H x z c) (s : Same H H') : EqS K H' x z c := by
  rcases h with h | h | h | h | ⟨a, e, c, h⟩
  · exact .inl h
  · exact .inr (.inl h)
  · exact .inr (.inr (.inl h))
  · exact .inr (.inr (.inr (.inl h)))
  · refine .inr (.inr (.inr (.inr ⟨a, e, c, ?_⟩)))
    rcases h with ⟨xs, h⟩ | ⟨xs, h⟩ | ⟨k, h⟩
    · exact .inl ⟨xs, sqL_same h s⟩
    · exact .inr (.inl ⟨xs, seqT h s⟩)
    · exact .inr (.inr ⟨k, s _ _ h⟩)
theorem SxAt.same {K : PySem.W.Frag} {H H' : Hp} {v : V} {t : Option Stp} (h : SxAt K H v t) (s : Same H H') : SxAt K H' v t := by
  cases t with
  | some t => exact StpAt.same h s
  | none =>
    rcases h with h | h | ⟨a, e, h⟩
    · exact .inl h
    · exact .inr (.inl h)
    · refine .inr (.inr ⟨a, e, ?_⟩)
      rcases h with ⟨xs, h⟩ | ⟨k, h⟩ | ⟨xs, h, h2⟩ | ⟨b, ys, h, h2⟩
      · exact .inl ⟨xs, sqL_same h s⟩
      · exact .inr (.inl ⟨k, s _ _ h⟩)
      · refine .inr (.inr (.inl ⟨xs, seqT h s, ?_⟩))
        rcases h2 with h2 | ⟨x0, e2, h2⟩
        · exact .inl h2
        · exact .inr ⟨x0, e2, eqS_same h2 s⟩
      · exact .inr (.inr (.inr ⟨b, ys, seqT h s, sqL_same h2 s⟩))
/-- a thing that may be a tree -/
def TrAt (K : PySem.W.Frag) (H : Hp) (v : V) : Option (List (Option Stp)) → Prop
  | some l => ∃ a vs, v = .ref a ∧ SqT K H a vs ∧ Paired (SxAt K H) vs l ∧ vs.length ≤ 100000
  | none => v = .non ∨ (∃ z, v = .str z) ∨ ∃ a, v = .ref a ∧ ((∃ xs, SqL K H a xs) ∨ ∃ k, H a = some (.dK k))
theorem TrAt.same {K : PySem.W.Frag} {H H' : Hp} {v : V} {t : Option (List (Option Stp))} (h : TrAt K H v t) (s : Same H H') : TrAt K H' v t := by
  cases t with
  | some l =>
    obtain ⟨a, vs, e, h1, h2, h3⟩ := h
    exact ⟨a, vs, e, seqT h1 s, paired_imp (fun _ _ h => h.same s) h2, h3⟩
  | none =>
    rcases h with h | h | ⟨a, e, h⟩
    · exact .inl h
    · exact .inr (.inl h)
    · refine .inr (.inr ⟨a, e, ?_⟩)
      rcases h with ⟨xs, h⟩ | ⟨k, h⟩
      · exact .inl ⟨xs, sqL_same h s⟩
      · exact .inr ⟨k, s _ _ h⟩
/-- these are a tree -/
def TrIs (t : Option (List (Option Stp))) : Prop := ∃ ls : List Stp, t = some (ls.map some) ∧ Tree ls
theorem tyL {K : PySem.W.Frag} {H : Hp} {a : Addr} {xs : List V} (h : SqL K H a xs) : TyX K H (.ref a) (.type "list") := by
  rcases h with (h | ⟨o, h⟩) | ⟨o, its, n, e, c, _⟩
  · exact .base (.lst h)
  · exact .base (.frz h)
  · exact .kList e c
theorem tr_ty {K : PySem.W.Frag} {H : Hp} {v : V} (h : TrAt K H v none) : ∃ t, TyX K H v t ∧ PySem.W.kitOne K t (.type "tuple") = some false := by
  rcases h with rfl | ⟨z, rfl⟩ | ⟨t, rfl, h⟩
  · exact ⟨_, .base .non, kit_ty (by decide +kernel)⟩
  · exact ⟨_, .base (.str z), kit_ty (by decide +kernel)⟩
  · rcases h with ⟨xs, h⟩ | ⟨kvs, h⟩
    · exact ⟨_, tyL h, kit_ty (by decide +kernel)⟩
    · exact ⟨_, .base (.dK h), kit_ty (by decide +kernel)⟩
section
variable {P : Program} {w : World} {K : PySem.W.Frag} {mg : Str → Option Value} {base : Heap}
/-- whether a step puts a stream: the word alone -/
def putB : Option Stp → Prop → Prop
  | _, p => p
def spIsPutA (K : PySem.W.Frag) : Sp := fun vs H Q _ => ∃ (v : V) (t : Option Stp), vs = [v, .str strmS] ∧ SxAt K H v t ∧
  ((∃ zs, t = some (.put zs)) → Q (.bl true) H) ∧ (t = some .pour → Q (.bl false) H) ∧ (t = none → ∀ b : Bool, (b = true → ∃ a x ys, v = .ref a ∧ SqT K H a [.str strmS, .ref x] ∧ SqL K H x ys) → Q (.bl b) H)
theorem ok_is_putA (T : Blt mg) (d : DnIsPut K mg) : FnOk P w K mg base CX0 1 d.p.f d.p.fd ["step", "word"] (spIsPutA K) := by
  refine d.p.F.ok scP_is_put (fun vs H Q E h => ?_) (fun cdv A outer s H vs Q E hr h => ?_)
  · obtain ⟨v, t, rfl, _⟩ := h
    rfl
  · obtain ⟨v, t, rfl, ht, q1, q2, q3⟩ := h
    refine ⟨_, (pss_one (ps_ret (pe_and (pe_callB call_isi (by rfl) T.n_isinstance (by decide +kernel) (pa_cons (pv 0) (pa_cons (pe_bltn (v := .ty "tuple") (by rfl) T.n_tuple (by decide +kernel) rfl) pa_nil))) (pe_and (pe_cmpR op_eq (pe_callB call_len_seq (by rfl) T.n_len (by decide +kernel) (pa_cons (pv 0) pa_nil)) pe_int (nomark _)) (pe_one (pe_cmpR op_eq (pe_ix ix_tup (pv 0) pe_int (fun _ _ => rfl)) (pv 1) (nomark _))))))), ?_⟩
    cases t with
    | some t =>
      cases t with
      | put zs =>
        obtain ⟨a, b, rfl, h1, h2, h3, h4⟩ := ht
        refine ⟨.ref a, rfl, .ref a, _, _, _, true, rfl, .ty "tuple", tyT h1, kit_ty (by decide +kernel), true, rfl, iteT ?_⟩
        refine ⟨.ref a, rfl, a, _, rfl, .inr h1, rfl, true, congrArg V.bl (decide_eq_true rfl), iteT ?_⟩
        refine ⟨.ref a, rfl, a, _, _, _, rfl, rfl, h1, atI_nat (j := 0) rfl, .str strmS, rfl, rfl, ?_⟩
        rw [decide_eq_true rfl]
        exact q1 ⟨zs, rfl⟩
      | pour =>
        obtain ⟨a, rfl, h1⟩ := ht
        refine ⟨.ref a, rfl, .ref a, _, _, _, true, rfl, .ty "tuple", tyT h1, kit_ty (by decide +kernel), true, rfl, iteT ?_⟩
        exact ⟨.ref a, rfl, a, _, rfl, .inr h1, rfl, false, congrArg V.bl (decide_eq_false (by decide)), iteF (q2 rfl)⟩
    | none =>
      rcases ht with rfl | ⟨i, rfl⟩ | ⟨a, rfl, h⟩
      · exact ⟨.non, rfl, .non, _, _, _, false, rfl, .ty "tuple", .base .non, kit_ty (by decide +kernel), false, rfl, iteF (q3 rfl false fun z => nomatch z)⟩
      · exact ⟨.int i, rfl, .int i, _, _, _, false, rfl, .ty "tuple", .base (.int i), kit_ty (by decide +kernel), false, rfl, iteF (q3 rfl false fun z => nomatch z)⟩
      · rcases h with ⟨xs, h⟩ | ⟨k, h⟩ | ⟨xs, h, h2⟩ | ⟨b, ys, h, h2⟩
        · exact ⟨.ref a, rfl, .ref a, _, _, _, false, rfl, .ty "tuple", tyL h, kit_ty (by decide +kernel), false, rfl, iteF (q3 rfl false fun z => nomatch z)⟩
        · exact ⟨.ref a, rfl, .ref a, _, _, _, false, rfl, .ty "tuple", .base (.dK h), kit_ty (by decide +kernel), false, rfl, iteF (q3 rfl false fun z => nomatch z)⟩
        · have hl : ¬ V.int ((xs.length : Nat) : Int) = V.int 2 := by
            rcases h2 with rfl | ⟨x0, rfl, _⟩
            · decide
            · intro z
              injection z with z
              simp at z
          exact ⟨.ref a, rfl, .ref a, _, _, _, true, rfl, .ty "tuple", tyT h, kit_ty (by decide +kernel), true, rfl, iteT ⟨.ref a, rfl, a, _, rfl, .inr h, rfl, false, congrArg V.bl (decide_eq_false hl), iteF (q3 rfl false fun z => nomatch z)⟩⟩
        · refine ⟨.ref a, rfl, .ref a, _, _, _, true, rfl, .ty "tuple", tyT h, kit_ty (by decide +kernel), true, rfl, iteT ?_⟩
          refine ⟨.ref a, rfl, a, _, rfl, .inr h, rfl, true, congrArg V.bl (decide_eq_true rfl), iteT ?_⟩
          refine ⟨.ref a, rfl, a, _, _, _, rfl, rfl, h, atI_nat (j := 0) rfl, .str strmS, rfl, rfl, ?_⟩
          rw [decide_eq_true rfl]
          exact q3 rfl true fun _ => ⟨a, b, ys, rfl, h, h2⟩
def spIsPourA (K : PySem.W.Frag) : Sp := fun vs H Q _ => ∃ (v : V) (t : Option Stp), vs = [v] ∧ SxAt K H v t ∧ (∀ zs, t ≠ some (.put zs)) ∧ (∀ b : Bool, (b = true ↔ t = some .pour) → Q (.bl b) H)
theorem ok_is_pourA (T : Blt mg) (d : DnIsPour K mg) : FnOk P w K mg base CX0 1 d.f d.fd ["step"] (spIsPourA K) := by
  refine d.F.ok scP_is_pour (fun vs H Q E h => ?_) (fun cdv A outer s H vs Q E hr h => ?_)
  · obtain ⟨v, t, rfl, _⟩ := h
    rfl
  · obtain ⟨v, t, rfl, ht, hn, q⟩ := h
    refine ⟨_, (pss_one (ps_ret (pe_and (pe_callB call_isi (by rfl) T.n_isinstance (by decide +kernel) (pa_cons (pv 0) (pa_cons (pe_bltn (v := .ty "tuple") (by rfl) T.n_tuple (by decide +kernel) rfl) pa_nil))) (pe_and (pe_cmpR op_eq (pe_callB call_len_seq (by rfl) T.n_len (by decide +kernel) (pa_cons (pv 0) pa_nil)) pe_int (nomark _)) (pe_one (pe_cmpR (op_eqS (K := K) rfl hr.units) (pe_ix ix_tup (pv 0) pe_int (fun _ _ => rfl)) pe_str (nomark _))))))), ?_⟩
    have no : ∀ {t : Option Stp}, t = none → (false = true ↔ t = some .pour) := fun e => ⟨fun z => (nomatch z), fun z => by rw [e] at z; cases z⟩
    cases t with
    | some t =>
      cases t with
      | put zs => exact absurd rfl (hn zs)
      | pour =>
        obtain ⟨a, rfl, h1⟩ := ht
        refine ⟨.ref a, rfl, .ref a, _, _, _, true, rfl, .ty "tuple", tyT h1, kit_ty (by decide +kernel), true, rfl, iteT ?_⟩
        refine ⟨.ref a, rfl, a, _, rfl, .inr h1, rfl, true, congrArg V.bl (decide_eq_true rfl), iteT ?_⟩
        exact ⟨.ref a, rfl, a, _, _, _, rfl, rfl, h1, atI_nat (j := 0) rfl, pourS, true, rfl, .inr (.inr (.inr (.inl ⟨pourS, rfl, (decide_eq_true rfl).symm⟩))), q true ⟨fun _ => rfl, fun _ => rfl⟩⟩
    | none =>
      rcases ht with rfl | ⟨i, rfl⟩ | ⟨a, rfl, h⟩
      · exact ⟨.non, rfl, .non, _, _, _, false, rfl, .ty "tuple", .base .non, kit_ty (by decide +kernel), false, rfl, iteF (q false (no rfl))⟩
      · exact ⟨.int i, rfl, .int i, _, _, _, false, rfl, .ty "tuple", .base (.int i), kit_ty (by decide +kernel), false, rfl, iteF (q false (no rfl))⟩
      · rcases h with ⟨xs, h⟩ | ⟨k, h⟩ | ⟨xs, h, h2⟩ | ⟨b, ys, h, h2⟩
        · exact ⟨.ref a, rfl, .ref a, _, _, _, false, rfl, .ty "tuple", tyL h, kit_ty (by decide +kernel), false, rfl, iteF (q false (no rfl))⟩
        · exact ⟨.ref a, rfl, .ref a, _, _, _, false, rfl, .ty "tuple", .base (.dK h), kit_ty (by decide +kernel), false, rfl, iteF (q false (no rfl))⟩
        · refine ⟨.ref a, rfl, .ref a, _, _, _, true, rfl, .ty "tuple", tyT h, kit_ty (by decide +kernel), true, rfl, iteT ?_⟩
          rcases h2 with rfl | ⟨x0, rfl, h2⟩
          · exact ⟨.ref a, rfl, a, _, rfl, .inr h, rfl, false, congrArg V.bl (decide_eq_false (by decide)), iteF (q false (no rfl))⟩
          · refine ⟨.ref a, rfl, a, _, rfl, .inr h, rfl, true, congrArg V.bl (decide_eq_true rfl), iteT ?_⟩
            exact ⟨.ref a, rfl, a, _, _, _, rfl, rfl, h, atI_nat (j := 0) rfl, pourS, false, rfl, h2, q false (no rfl)⟩
        · refine ⟨.ref a, rfl, .ref a, _, _, _, true, rfl, .ty "tuple", tyT h, kit_ty (by decide +kernel), true, rfl, iteT ?_⟩
          exact ⟨.ref a, rfl, a, _, rfl, .inr h, rfl, false, congrArg V.bl (decide_eq_false (by show ¬ V.int ((2 : Nat) : Int) = V.int 1; decide)), iteF (q false (no rfl))⟩
/-- is_stream of a list -/
def spIsStreamA (K : PySem.W.Frag) : Sp := fun vs H Q _ => (∃ (a : Addr) (zs : List Str), vs = [.ref a] ∧ SqT K H a (zs.map V.str) ∧ (∀ z ∈ zs, Nm z) ∧ zs.length ≤ 100000 ∧ ∀ H', Same H H' → Q (.bl true) H') ∨ ∃ a ys, vs = [.ref a] ∧ SqL K H a ys ∧ Q (.bl false) H
theorem ok_is_streamA (T : Blt mg) (cL : Cst mg "LONGEST_NAME" (.int 8)) (dP_is_name : DnIsName K mg) (d : DnIsStream K mg) : FnOk P w K mg base CX0 2 d.f d.fd ["thing"] (spIsStreamA K) := by
  have GP_is_name : FnOk P w K mg base CX0 1 dP_is_name.f dP_is_name.fd ["thing"] spIsName := ok_is_name T cL dP_is_name
  refine d.F.ok scP_is_stream (fun vs H Q E h => ?_) (fun cdv A outer s H vs Q E hr h => ?_)
  · rcases h with ⟨a, zs, rfl, _⟩ | ⟨a, ys, rfl, _⟩ <;> rfl
  · refine ⟨_, (pss_one (ps_ret (pe_and (pe_callB call_isi (by rfl) T.n_isinstance (by decide +kernel) (pa_cons (pv 0) (pa_cons (pe_bltn (v := .ty "tuple") (by rfl) T.n_tuple (by decide +kernel) rfl) pa_nil))) (pe_one (pe_callB (cr_all rfl) (by rfl) T.n_all (by decide +kernel) (pa_cons (pe_lc (own := [("item", 1)]) (g := gName 1) (tt := tYes) rfl scP_is_stream.nd (pi_tup (pv 0)) (blkOk_by (N := NP_is_stream) (sc := defScope sP_is_stream) (by decide +kernel)) (fun _ _ _ _ _ => pg_name (i := 1) scP_is_stream.nd rfl (Or.inl rfl)) (fun _ _ _ _ _ => pts_nil) (fun _ _ _ _ _ => (pe_call GP_is_name (hr.mono (by omega)) (by rfl) dP_is_name.g dP_is_name.F.kp dP_is_name.b .nil pass0 (pa_cons (pv 1) pa_nil)))) pa_nil)))))), ?_⟩
    rcases h with ⟨a, zs, rfl, hS, hN, hl, q⟩ | ⟨a, ys, rfl, hL, q⟩
    case' inr => exact ⟨.ref a, rfl, .ref a, _, _, _, false, rfl, .ty "tuple", tyL hL, kit_ty (by decide +kernel), false, rfl, iteF q⟩
    refine ⟨.ref a, rfl, .ref a, _, _, _, true, rfl, .ty "tuple", tyT hS, kit_ty (by decide +kernel), true, rfl, iteT ?_⟩
    refine ⟨.ref a, rfl, a, rfl, ⟨_, hS⟩, fun D nD => lc_tup (xs := zs.map V.str) (fun i H3 => Same H H3 ∧ H3 D = some (.lst ((zs.take i).map fun _ => V.bl true))) ⟨same_upd nD, upd_same⟩ (fun i H3 _ h3 => seqT hS h3.1) (fun i x H3 hx h3 => ?_) (fun H3 h3 => ?_)⟩
    · obtain ⟨z, hz, rfl⟩ : ∃ z, zs[i]? = some z ∧ x = .str z := by
        rw [List.getElem?_map] at hx
        cases e : zs[i]? with
        | none => rw [e] at hx; cases hx
        | some z => rw [e] at hx; exact ⟨z, rfl, (Option.some.inj hx).symm⟩
      refine ⟨rfl, .str z, rfl, z, rfl, hN z (List.mem_of_getElem? hz), fun H4 s4 => ⟨_, s4 _ _ h3.2, ?_, fun b o e => ?_, ?_⟩⟩
      · rw [List.length_map, List.length_take, sizeLine_eq]
        omega
      · rw [upd_ne (ne_of_none e nD)]
        exact s4 b o (h3.1 b o e)
      · rw [upd_same, List.take_add_one, hz, List.map_append]
        rfl
    · refine ⟨D, zs.map fun _ => true, rfl, sql ?_, ?_⟩
      · rw [h3.2, List.length_map, List.take_length, List.map_map]
        rfl
      · rw [show ((zs.map fun _ => true).all id) = true by simp]
        exact q H3 h3.1
/-- how far the steps are a tree's beginning -/
structure TrTo (l : List (Option Stp)) (i : Nat) (ls : List Stp) : Prop where
  eq : l.take i = ls.map some
  two : ∀ j, ls[j]? = some .pour → 2 ≤ hgt (ls.take j)
theorem TrTo.no {l : List (Option Stp)} {i : Nat} {ls : List Stp} (h : TrTo l i ls) {t : Option Stp} (ht : l[i]? = some t) (bad : t = none ∨ (t = some .pour ∧ hgt ls < 2)) : ¬ TrIs (some l) := fun ⟨ls', e, tr⟩ => by
  cases e
  rw [List.getElem?_map] at ht
  obtain ⟨u, hu, rfl⟩ := Option.map_eq_some_iff.mp ht
  rcases bad with b | ⟨b, h2⟩
  · cases b
  · cases b
    have e2 : ls'.take i = ls := by
      have := h.eq
      rw [← List.map_take] at this
      exact List.map_inj_right (fun _ _ z => by injection z) |>.mp this
    have := tr.two i hu
    rw [e2] at this
    omega
theorem TrTo.snoc {l : List (Option Stp)} {i : Nat} {ls : List Stp} (h : TrTo l i ls) {t : Stp} (ht : l[i]? = some (some t)) (ok : t = .pour → 2 ≤ hgt ls) : TrTo l (i + 1) (ls ++ [t]) := by
  refine ⟨by rw [List.take_add_one, ht, h.eq, List.map_append]; rfl, fun j hj => ?_⟩
  by_cases hl : j < ls.length
  · rw [List.getElem?_append_left hl] at hj
    rw [List.take_append_of_le_length (Nat.le_of_lt hl)]
    exact h.two j hj
  · have hjl := (List.getElem?_eq_some_iff.mp hj).1
    rw [List.length_append, List.length_singleton] at hjl
    have : j = ls.length := by omega
    subst this
    rw [List.getElem?_append_right (Nat.le_refl _), Nat.sub_self] at hj
    rw [List.take_left']
    · exact ok (by injection hj)
    · rfl
theorem hgt_app (ls : List Stp) (t : Stp) : hgt (ls ++ [t]) = hS (hgt ls) t := by
  unfold hgt
  rw [List.foldl_append]
  rfl
theorem mny_app (ls : List Stp) (t : Stp) : mny (ls ++ [t]) = cS (mny ls) t := by
  unfold mny
  rw [List.foldl_append]
  rfl
def spIsTreeOfA (K : PySem.W.Frag) (g : Addr) : Sp := fun vs H Q _ => ∃ (v : V) (th : Option (List (Option Stp))), vs = [v, .str strmS, .ref g] ∧ TrAt K H v th ∧ ∀ H' b, Same H H' → (b = true ↔ TrIs th) → Q (.bl b) H'
theorem ok_is_tree_ofA (T : Blt mg) (cL : Cst mg "LONGEST_NAME" (.int 8)) (cS' : Cst mg "MOST_STEPS" (.int 5000)) (cI : Cst mg "MOST_ITEMS_streams" (.int 50000)) (dP_is_name : DnIsName K mg) (dP_is_stream : DnIsStream K mg) (dP_is_put : DnIsPut K mg) (dP_is_pour : DnIsPour K mg) :
    FnOk P w K mg base CX0 3 dP_is_put.o.f dP_is_put.o.fd ["thing", "word", "is_right"] (spIsTreeOfA K dP_is_stream.f) := by
  have GP_is_stream : FnOk P w K mg base CX0 2 dP_is_stream.f dP_is_stream.fd ["thing"] (spIsStreamA K) := ok_is_streamA T cL dP_is_name dP_is_stream
  have GP_is_put : FnOk P w K mg base CX0 1 dP_is_put.p.f dP_is_put.p.fd ["step", "word"] (spIsPutA K) := ok_is_putA T dP_is_put
  have GP_is_pour : FnOk P w K mg base CX0 1 dP_is_pour.f dP_is_pour.fd ["step"] (spIsPourA K) := ok_is_pourA T dP_is_pour
  refine dP_is_put.o.F.ok scP_is_tree_of (fun vs H Q E h => ?_) (fun cdv A outer s H vs Q E hr h => ?_)
  · obtain ⟨v, th, rfl, _⟩ := h
    rfl
  · obtain ⟨v, th, rfl, hat, q⟩ := h
    refine ⟨_, (pss_cons (ps_if (PW.pt (pw_or (pt_not (pt_val (pe_callB call_isi (by rfl) T.n_isinstance (by decide +kernel) (pa_cons (pv 0) (pa_cons (pe_bltn (v := .ty "tuple") (by rfl) T.n_tuple (by decide +kernel) rfl) pa_nil))))) (pw_or1 (pt_cmpR op_gt (pe_callB call_len_seq (by rfl) T.n_len (by decide +kernel) (pa_cons (pv 0) pa_nil)) (pe_glob rfl cS'.g cS'.r) (nomark _)))))
      (pss_one (ps_ret pe_bl))
      pss_nil)
    (pss_cons (ps_set (i := 3) scP_is_tree_of.nd rfl (Or.inl rfl) pe_int)
    (pss_cons (ps_set (i := 4) scP_is_tree_of.nd rfl (Or.inl rfl) pe_int)
    (pss_cons (ps_for PassesOwn.never rfl (pi_tup (pv 0)) (pg_name (i := 5) scP_is_tree_of.nd rfl (Or.inl rfl))
      (pss_one (ps_if (PW.pt (pw_and (pt_val (pe_call GP_is_put (hr.mono (by omega)) (by rfl) dP_is_put.p.g dP_is_put.p.F.kp dP_is_put.p.b .nil pass0 (pa_cons (pv 5) (pa_cons (pv 1) pa_nil)))) (pw_and1 (pt_val (pe_callL (i := 2) GP_is_stream (hr.mono (by omega)) rfl (.inl rfl) dP_is_stream.F.kp dP_is_stream.b .nil pass0 (pa_cons (pe_ix ix_tup (pv 5) pe_int (fun _ _ => rfl)) pa_nil))))))
        (pss_cons (ps_aug (i := 4) scP_is_tree_of.nd rfl (Or.inl rfl) pe_int ip_add)
        (pss_one (ps_aug (i := 3) scP_is_tree_of.nd rfl (Or.inl rfl) (pe_callB call_len_seq (by rfl) T.n_len (by decide +kernel) (pa_cons (pe_ix ix_tup (pv 5) pe_int (fun _ _ => rfl)) pa_nil)) ip_add)))
        (pss_one (ps_if (PW.pt (pw_and (pt_val (pe_call GP_is_pour (hr.mono (by omega)) (by rfl) dP_is_pour.g dP_is_pour.F.kp dP_is_pour.b .nil pass0 (pa_cons (pv 5) pa_nil))) (pw_and1 (pt_cmpR op_ge (pv 4) pe_int (nomark _)))))
          (pss_one (ps_aug (i := 4) scP_is_tree_of.nd rfl (Or.inl rfl) pe_int ip_sub))
          (pss_one (ps_ret pe_bl)))))))
    (pss_one (ps_ret (pe_and (pe_cmpR op_eq (pv 4) pe_int (nomark _)) (pe_one (pe_cmpR op_le (pv 3) (pe_glob rfl cI.g cI.r) (nomark _)))))))))), ?_⟩
    cases th with
    | none =>
      obtain ⟨t, ty, kt⟩ := tr_ty hat
      exact ⟨v, rfl, v, _, _, _, false, rfl, .ty "tuple", ty, kt, false, rfl, iteT (iteT (q H false (Same.refl H) ⟨fun z => (nomatch z), fun ⟨_, e, _⟩ => nomatch e⟩))⟩
    | some l =>
      obtain ⟨a, vs, rfl, hS, hp, hlen⟩ := hat
      have hl : vs.length = l.length := Paired.length hp
      have no : ∀ {H' : Hp}, Same H H' → ¬ TrIs (some l) → Q (.bl false) H' := fun s h => q _ false s ⟨fun z => (nomatch z), fun z => absurd z h⟩
      refine ⟨.ref a, rfl, .ref a, _, _, _, true, rfl, .ty "tuple", tyT hS, kit_ty (by decide +kernel), true, rfl, iteF ?_⟩
      refine ⟨.ref a, rfl, a, _, rfl, .inr hS, _, _, rfl, rfl, decide ((vs.length : Int) > 5000), rfl, ?_⟩
      by_cases h5 : (vs.length : Int) > 5000
      · rw [decide_eq_true h5]
        refine iteT (no (Same.refl H) fun ⟨ls, e, tr⟩ => ?_)
        cases e
        have := tr.len
        rw [List.length_map] at hl
        omega
      rw [decide_eq_false h5]
      refine iteF ?_
      refine ⟨.ref a, rfl, a, rfl, ⟨_, hS⟩, for_tup (xs := vs) (fun i σ H3 => ∃ (x : Option V) (ls : List Stp), σ = [some (.ref a), some (.str strmS), some (.ref dP_is_stream.f), some (.int (mny ls)), some (.int (hgt ls)), x] ∧ Same H H3 ∧ TrTo l i ls) ⟨none, [], rfl, Same.refl H, ⟨rfl, fun _ h => by simp at h⟩⟩ (fun i σ H3 _ ⟨_, _, _, s3, _⟩ => seqT hS s3) ?_ ?_⟩
      · rintro i v σ H3 hi ⟨x, ls, rfl, s3, tt⟩
        obtain ⟨t, ht, hat⟩ := paired_at hp hi
        have hat3 := hat.same s3
        refine ⟨v, rfl, _, rfl, v, t, rfl, hat3, fun ⟨zs, hz⟩ => ⟨true, rfl, ?_⟩, fun hz => ⟨false, rfl, ?_⟩, fun hz b hb => ⟨b, rfl, ?_⟩⟩
        · subst hz
          refine iteT ?_
          obtain ⟨b, c, rfl, h1, h2, h3, h4⟩ := hat3
          refine ⟨rfl, .ref b, rfl, b, _, _, _, rfl, rfl, h1, atI_nat (j := 1) rfl, .inl ⟨c, zs, rfl, h2, h3, h4, fun H4 s4 => ⟨true, rfl, iteT ?_⟩⟩⟩
          refine ⟨.int (hgt ls), rfl, _, _, rfl, rfl, ?_⟩
          refine ⟨.int (mny ls), rfl, .ref b, rfl, b, _, _, _, rfl, rfl, seqT h1 s4, atI_nat (j := 1) rfl, c, _, rfl, .inr (seqT h2 s4), _, _, rfl, rfl, ?_⟩
          refine ⟨some (.ref b), ls ++ [.put zs], ?_, fun b o e => s4 b o (s3 b o e), tt.snoc ht fun z => nomatch z⟩
          rw [hgt_app, mny_app, List.length_map]
          rfl
        · subst hz
          refine iteF ?_
          refine ⟨v, rfl, v, _, rfl, hat3, (fun zs z => by cases z), fun b hb => ?_⟩
          cases (hb.mpr rfl)
          refine ⟨true, rfl, iteT ⟨.int (hgt ls), rfl, _, _, rfl, rfl, decide (hgt ls ≥ 2), rfl, ?_⟩⟩
          by_cases h2 : hgt ls ≥ 2
          · rw [decide_eq_true h2]
            refine iteT ⟨.int (hgt ls), rfl, _, _, rfl, rfl, some v, ls ++ [.pour], ?_, s3, tt.snoc ht fun _ => h2⟩
            rw [hgt_app, mny_app]
            rfl
          · rw [decide_eq_false h2]
            exact iteF (no s3 (tt.no ht (.inr ⟨rfl, by omega⟩)))
        · subst hz
          cases b with
          | false =>
            refine iteF ⟨v, rfl, v, none, rfl, hat3, (fun zs z => by cases z), fun b hb => ⟨b, rfl, ?_⟩⟩
            cases b with
            | false => exact iteF (no s3 (tt.no ht (.inl rfl)))
            | true => exact nomatch hb.mp rfl
          | true =>
            obtain ⟨b, c, ys, rfl, h1, h2⟩ := hb rfl
            refine iteT ⟨rfl, .ref b, rfl, b, _, _, _, rfl, rfl, h1, atI_nat (j := 1) rfl, .inr ⟨c, ys, rfl, h2, false, rfl, iteF ?_⟩⟩
            refine ⟨.ref b, rfl, .ref b, none, rfl, hat3, (fun zs z => by cases z), fun b hb => ⟨b, rfl, ?_⟩⟩
            cases b with
            | false => exact iteF (no s3 (tt.no ht (.inl rfl)))
            | true => exact nomatch hb.mp rfl
      · rintro σ H3 ⟨x, ls, rfl, s3, tt⟩
        have e1 := tt.eq
        rw [hl, List.take_length] at e1
        refine ⟨.int (hgt ls), rfl, rfl, decide (hgt ls = 1), (by show V.bl (decide (V.int (hgt ls) = V.int 1)) = _; congr 1; exact decide_eq_decide.mpr ⟨fun e => by injection e, fun e => by rw [e]⟩), ?_⟩
        have fin : TrIs (some l) ↔ hgt ls = 1 ∧ mny ls ≤ 50000 := by
          constructor
          · rintro ⟨ls', e, tr⟩
            cases e
            have e2 : ls' = ls := List.map_inj_right (fun _ _ z => by injection z) |>.mp e1
            rw [← e2]
            exact ⟨tr.one, tr.few⟩
          · rintro ⟨h1, h2⟩
            refine ⟨ls, by rw [e1], fun j hj => tt.two j hj, h1, h2, ?_⟩
            have := congrArg List.length e1
            rw [List.length_map] at this
            omega
        by_cases h1 : hgt ls = 1
        · rw [decide_eq_true h1]
          refine iteT ⟨.int (mny ls), rfl, _, _, rfl, rfl, ?_⟩
          exact q H3 (decide (mny ls ≤ 50000)) s3 (by rw [decide_eq_true_iff, fin]; exact ⟨fun z => ⟨h1, z⟩, fun z => z.2⟩)
        · rw [decide_eq_false h1]
          exact iteF (no s3 fun z => h1 (fin.mp z).1)
def spIsTreeA (K : PySem.W.Frag) : Sp := fun vs H Q _ => ∃ (v : V) (th : Option (List (Option Stp))), vs = [v] ∧ TrAt K H v th ∧ ∀ H' b, Same H H' → (b = true ↔ TrIs th) → Q (.bl b) H'
theorem ok_is_treeA (T : Blt mg) (cL : Cst mg "LONGEST_NAME" (.int 8)) (cS' : Cst mg "MOST_STEPS" (.int 5000)) (cI : Cst mg "MOST_ITEMS_streams" (.int 50000)) (dP_is_name : DnIsName K mg) (dP_is_stream : DnIsStream K mg) (dP_is_put : DnIsPut K mg) (dP_is_pour : DnIsPour K mg) (d : DnIsTree K mg) :
    FnOk P w K mg base CX0 4 d.f d.fd ["thing"] (spIsTreeA K) := by
  have GP_is_tree_of : FnOk P w K mg base CX0 3 dP_is_put.o.f dP_is_put.o.fd ["thing", "word", "is_right"] (spIsTreeOfA K dP_is_stream.f) := ok_is_tree_ofA T cL cS' cI dP_is_name dP_is_stream dP_is_put dP_is_pour
  refine d.F.ok scP_is_tree (fun vs H Q E h => ?_) (fun cdv A outer s H vs Q E hr h => ?_)
  · obtain ⟨v, th, rfl, _⟩ := h
    rfl
  · obtain ⟨v, th, rfl, hT, q⟩ := h
    refine ⟨_, (pss_one (ps_ret (pe_call GP_is_tree_of (hr.mono (by omega)) (by rfl) dP_is_put.o.g dP_is_put.o.F.kp dP_is_put.o.b .nil pass0 (pa_cons (pv 0) (pa_cons pe_str (pa_cons (pe_glob (v := .ref dP_is_stream.f) rfl dP_is_stream.g rfl) pa_nil)))))), ?_⟩
    exact ⟨v, rfl, v, th, rfl, hT, q⟩
end
end Kb

namespace L2
open PySem PySem.Spec PyProof.Rows SrtO SrtZ
/-- a set of texts, in such a table as a walk wants -/
structure StrS (P : Program) (w : World) (h : Heap) (a : Addr) (S : Str → Bool) (n : Nat) (es : Array (Int × Value)) (ep : Nat) (t : SetTable) : Prop where
  ob : ∃ o, h.get? a = some o ∧ o.ExactSet ∧ o.data = .set es ep t
  el : ElemsOf (strKind P w) es.toList
  is_ : ∀ k : Str, S k = true ↔ ∃ e, e ∈ es.toList ∧ (strKind P w).is k e.2 = true
  lt : es.size < scanBound
  fits : t.fits es.size = true
  sz : es.size = n
  ris : Ris t.place.toList
  led : w.params.followText "set-order" = true ∨ t.led = true
def StrSet (P : Program) (w : World) (h : Heap) (a : Addr) (S : Str → Bool) (n : Nat) : Prop := ∃ es ep t, StrS P w h a S n es ep t
section
variable {P : Program} {w : World} {A : Around} {E : Value → Shared → Prop} {s : Shared} {a : Addr}
theorem strS_store {h : Heap} {o : Obj} {es0 : Array (Int × Value)} {ep : Nat} {t0 : SetTable} (h1 : h.get? a = some o) (h2 : o.ExactSet) (h3 : o.data = .set es0 ep t0) {es : Array (Int × Value)} {t : SetTable} {S : Str → Bool}
    (el : ElemsOf (strKind P w) es.toList) (is_ : ∀ k : Str, S k = true ↔ ∃ e, e ∈ es.toList ∧ (strKind P w).is k e.2 = true) (lt : es.size < scanBound) (fits : t.fits es.size = true) (ris : Ris t.place.toList) (led : w.params.followText "set-order" = true ∨ t.led = true) :
    StrS P w (h.update a (Obj.putSet es t)) a S es.size es (ep + 1) t :=
  ⟨⟨_, (SetOf_store (knd := strKind P w) h1 h2 h3 el is_ lt fits).1, h2, rfl⟩, el, is_, lt, fits, rfl, ris, led⟩
theorem strS_tail {g : Bool → Sem Unit} (hg : ∀ (b : Bool) (s₁ : Shared) (Q' : Unit → Shared → Prop), Q' () s₁ → wpAny (model P w) A (g b) Q' E s₁) {o : Obj} {es : Array (Int × Value)} {ep : Nat} {t : SetTable} (h1 : s.heap.get? a = some o) (h2 : o.ExactSet) (h3 : o.data = .set es ep t)
    {es1 : Array (Int × Value)} {t2 : SetTable} {S' : Str → Bool} (el : ElemsOf (strKind P w) es1.toList) (is_ : ∀ k : Str, S' k = true ↔ ∃ e, e ∈ es1.toList ∧ (strKind P w).is k e.2 = true) (lt : es1.size < scanBound) (fits : t2.fits es1.size = true) (ris : Ris t2.place.toList)
    (led : w.params.followText "set-order" = true ∨ t2.led = true) {wasDummy : Bool} {R : Option Bool → Shared → Prop}
    (q : ∀ h' : Heap, Heap.SameBut a s.heap h' → StrSet P w h' a S' es1.size → R (some true) { s with heap := h' }) :
    wpAny (model P w) A (do
      storeSet a es1 t2
      if (!wasDummy && t2.tooFull) = true then do
          g (relayAll t2 es1 (SetTable.grown es1.size)).2.2
          storeSet a (relayAll t2 es1 (SetTable.grown es1.size)).1 (relayAll t2 es1 (SetTable.grown es1.size)).2.1
          pure (some true)
        else pure (some true)) R E s := by
  have st := strS_store (P := P) (w := w) h1 h2 h3 el is_ lt fits ris led
  refine wpAny_bind (wpAny_storeSet_of h1 h3 ?_ (fits_of_scanBound lt))
  obtain ⟨o1, k1, k2, k3⟩ := st.ob
  split
  · refine wpAny_bind (hg _ _ _ ?_)
    have pm := relayAll_perm t2 es1 (SetTable.grown es1.size)
    have sz : (relayAll t2 es1 (SetTable.grown es1.size)).1.size = es1.size := by
      have := pm.length_eq
      simpa using this
    refine wpAny_bind (wpAny_storeSet_of k1 k3 ?_ (by rw [sz]; exact fits_of_scanBound lt))
    refine wpAny_pure ?_
    have st2 := strS_store (P := P) (w := w) (S := S') k1 k2 k3 (el.perm pm) (fun k => (is_ k).trans ⟨fun ⟨e, he, hk⟩ => ⟨e, pm.mem_iff.mpr he, hk⟩, fun ⟨e, he, hk⟩ => ⟨e, pm.mem_iff.mp he, hk⟩⟩) (by rw [sz]; exact lt) (relayAll_fits _ _ _) (relayAll_ris _ _ _) (by rw [relayAll_led]; exact led)
    rw [sz] at st2
    exact q _ (Heap.SameBut.trans (Heap.SameBut.update _ _ _) (Heap.SameBut.update _ _ _)) ⟨_, _, _, st2⟩
  · exact wpAny_pure (q _ (Heap.SameBut.update _ _ _) ⟨_, _, _, st⟩)
theorem gave_of {g : Bool → Sem Unit} (h1 : g true = rule "set.scan.the-table-gave-way") (h2 : g false = pure ()) : ∀ (b : Bool) (s₁ : Shared) (Q' : Unit → Shared → Prop), Q' () s₁ → wpAny (model P w) A (g b) Q' E s₁ := fun b s₁ Q' h => by
  cases b
  · rw [h2]
    exact wpAny_pure h
  · rw [h1]
    exact wpAny_rule h
theorem strS_add {S : Str → Bool} {n : Nat} {z : Str} {tk : Tok} {Q : Bool → Shared → Prop} (h : StrSet P w s.heap a S n) (hn : n + 1 < scanBound)
    (q : ∀ (b : Bool) (h' : Heap), Heap.SameBut a s.heap h' → StrSet P w h' a (fun k => S k || decide (k = z)) (if S z = true then n else n + 1) → Q b { s with heap := h' }) :
    wpAny (model P w) A (setAddHashed a (.str z tk) ((strKind P w).hash z)) Q E s := by
  obtain ⟨es, ep, t, ⟨⟨o, h1, h2, h3⟩, el, is_, lt, fits, sz, ris, led⟩⟩ := h
  subst sz
  unfold setAddHashed
  refine wpAny_holding ?_
  rw [setAddHashedIn.eq_def]
  dsimp only
  refine wpAny_bind (wpAny_setState_of h1 h3 fits ?_)
  dsimp only
  have hb : byScan (.str z tk) es = true := by
    unfold byScan
    rw [decide_eq_true lt]
    simp only [Bool.and_eq_true]
    refine ⟨⟨rfl, trivial⟩, ?_⟩
    rw [Array.all_eq_true']
    intro e he
    exact (el e (by simpa using he)).2
  rw [if_pos hb]
  refine wpAny_bind ?_
  unfold setAddByScan
  refine wpAny_bind (wpAny_rule ?_)
  have hk := strKind_is P w z tk
  refine wpAny_bind (wpAny_setScan_of hk h1 h3 fits el ?_)
  cases hf : List.findIdx? (fun e => (strKind P w).is z e.2) es.toList with
  | some j =>
    dsimp only
    refine wpAny_pure ?_
    dsimp only
    refine wpAny_pure ?_
    have hS : S z = true := by
      obtain ⟨hlt, hj, _⟩ := List.findIdx?_eq_some_iff_getElem.mp hf
      exact (is_ z).mpr ⟨_, List.getElem_mem hlt, hj⟩
    refine q _ _ (Heap.SameBut.refl _ _) ?_
    rw [if_pos hS]
    refine ⟨es, ep, t, ⟨⟨o, h1, h2, h3⟩, el, fun k => ?_, lt, fits, rfl, ris, led⟩⟩
    rw [← is_ k]
    by_cases hkz : k = z
    · subst hkz
      rw [hS]
      rfl
    · rw [decide_eq_false hkz, Bool.or_false]
  | none =>
    dsimp only
    have hS : S z = false := by
      cases e : S z with
      | false => rfl
      | true =>
        obtain ⟨e, he, hke⟩ := (is_ z).mp e
        have := List.findIdx?_eq_none_iff.mp hf e he
        rw [hke] at this
        cases this
    have pm := layNew_perm t es ((strKind P w).hash z) (.str z tk)
    have fi := layNew_fits t es ((strKind P w).hash z) (.str z tk)
    have ri := layNew_ris t es ((strKind P w).hash z) (.str z tk) ris
    have le := layNew_led t es ((strKind P w).hash z) (.str z tk)
    generalize layNew t es ((strKind P w).hash z) (.str z tk) = y at pm fi ri le ⊢
    obtain ⟨es1, t1, wasDummy, gave⟩ := y
    dsimp only at pm fi ri le ⊢
    have sz1 : es1.size = es.size + 1 := by
      have := pm.length_eq
      simpa using this
    have el1 : ElemsOf (strKind P w) es1.toList := fun e he => by
      have := pm.mem_iff.mp he
      rw [Array.toList_push, List.mem_append] at this
      rcases this with h | h
      · exact el e h
      · rw [List.mem_singleton.mp h]
        exact ⟨⟨z, hk, rfl⟩, rfl⟩
    have is1 : ∀ k : Str, (S k || decide (k = z)) = true ↔ ∃ e, e ∈ es1.toList ∧ (strKind P w).is k e.2 = true := fun k => by
      rw [Bool.or_eq_true, is_ k, decide_eq_true_eq]
      constructor
      · rintro (⟨e, he, h⟩ | rfl)
        · exact ⟨e, pm.mem_iff.mpr (by rw [Array.toList_push, List.mem_append]; exact .inl he), h⟩
        · exact ⟨_, pm.mem_iff.mpr (by rw [Array.toList_push, List.mem_append]; exact .inr (List.mem_singleton.mpr rfl)), hk⟩
      · rintro ⟨e, he, h⟩
        have := pm.mem_iff.mp he
        rw [Array.toList_push, List.mem_append] at this
        rcases this with h' | h'
        · exact .inl ⟨e, h', h⟩
        · rw [List.mem_singleton.mp h'] at h
          exact .inr ((strKind P w).inj _ _ _ h hk)
    have led1 : w.params.followText "set-order" = true ∨ t1.led = true := by rw [le]; exact led
    have fin : ∀ h' : Heap, Heap.SameBut a s.heap h' → StrSet P w h' a (fun k => S k || decide (k = z)) es1.size → Q true { s with heap := h' } := fun h' sb st => by
      refine q true h' sb ?_
      rw [hS, if_neg (by decide), ← sz1]
      exact st
    refine wpAny_bind (gave_of (by rfl) (by rfl) gave _ _ ?_)
    split
    · refine wpAny_bind ?_
      show wpAny _ _ (pure false) _ _ _
      refine wpAny_pure ?_
      rw [if_neg (by decide)]
      refine strS_tail (t2 := { t1 with plain := false }) ?hg1 h1 h2 h3 el1 is1 (by omega) fi ri led1 ?q1
      case q1 => exact fun h' sb st => wpAny_pure (fin h' sb st)
      case hg1 => exact gave_of (by rfl) (by rfl)
    · refine wpAny_bind (wpAny_pure ?_)
      rw [if_pos rfl]
      refine strS_tail ?hg2 h1 h2 h3 el1 is1 (by omega) fi ri led1 ?q2
      case q2 => exact fun h' sb st => wpAny_pure (fin h' sb st)
      case hg2 => exact gave_of (by rfl) (by rfl)
theorem StrSet.keep {S : Str → Bool} {n : Nat} {h h' : Heap} (st : StrSet P w h a S n) (k : ∀ o, h.get? a = some o → h'.get? a = some o) : StrSet P w h' a S n := by
  obtain ⟨es, ep, t, ⟨⟨o, h1, h2, h3⟩, el, is_, lt, fits, sz, ris, led⟩⟩ := st
  exact ⟨es, ep, t, ⟨⟨o, k o h1, h2, h3⟩, el, is_, lt, fits, sz, ris, led⟩⟩
theorem StrSet.congr {S S' : Str → Bool} {n : Nat} {h : Heap} (st : StrSet P w h a S n) (e : ∀ k, S k = S' k) : StrSet P w h a S' n := by
  rw [← show S = S' from funext e]
  exact st
def hasZ (xs : List Str) (i : Nat) : Str → Bool := fun k => (xs.take i).any fun x => decide (x = k)
theorem hasZ_snoc {xs : List Str} {i : Nat} {x : Str} (h : xs[i]? = some x) (k : Str) : hasZ xs (i + 1) k = (hasZ xs i k || decide (k = x)) := by
  unfold hasZ
  rw [List.take_add_one, h, List.any_append]
  congr 1
  show (decide (x = k) || false) = _
  rw [Bool.or_false]
  by_cases e : x = k
  · rw [decide_eq_true e, decide_eq_true e.symm]
  · rw [decide_eq_false e, decide_eq_false (Ne.symm e)]
/-- how many unlike ones stand before i -/
def dcz (xs : List Str) : Nat → Nat
  | 0 => 0
  | i + 1 => dcz xs i + (match xs[i]? with | some x => (if hasZ xs i x = true then 0 else 1) | none => 0)
theorem dcz_snoc {xs : List Str} {i : Nat} {x : Str} (h : xs[i]? = some x) : dcz xs (i + 1) = dcz xs i + (if hasZ xs i x = true then 0 else 1) := by
  show dcz xs i + _ = _
  rw [h]
theorem dcz_le (xs : List Str) : ∀ i, dcz xs i ≤ i
  | 0 => Nat.le_refl _
  | i + 1 => by
    have := dcz_le xs i
    show dcz xs i + _ ≤ i + 1
    split
    · split <;> omega
    · omega
theorem strS_loop {R : Result → Shared → Prop} {I : Addr} {fp wr : List Addr} {G : Array GenState → Array GenState → Prop} {n : Nat} {Pv : Nat → Value → Prop} {St : Nat → Shared → Prop} (wk : WalksS P w A.in1 I fp wr G n Pv St) (S : Addr) (hS : S ∉ fp) (xs : List Str) (hl : xs.length = n) (hn : n + 1 < scanBound)
    (hv : ∀ i v, Pv i v → ∃ x t, xs[i]? = some x ∧ v = Value.str x t) : ∀ (k i : Nat) (s : Shared), n - i = k → i ≤ n → St i s → (∃ m, m ≤ dcz xs i ∧ StrSet P w s.heap S (hasZ xs i) m) →
    (∀ s' : Shared, Moved (S :: wr) G s s' → (∃ m, m ≤ dcz xs n ∧ StrSet P w s'.heap S (hasZ xs n) m) → R (.ok (.ret .none)) s') →
    codeAny (model P w) A (.builtin "set.update.loop" { pos := [.ref S, .ref I] }) R s := by
  intro k
  induction k with
  | zero =>
    intro i s hk hi st ⟨m, hm, ss⟩ q
    have : i = n := by omega
    subst this
    refine codeAny_builtin F.entry_set_update_loop ?_
    rw [Around.under_plainId F.plain_set_update_loop]
    unfold Builtin.«set.update.loop»
    dsimp only
    refine wpAny_bind (wk.done s _ _ st fun s' mv => ?_)
    dsimp only
    refine wpAny_pure ?_
    dsimp only
    refine q s' (mv.mono fun b hb => List.mem_cons_of_mem _ hb) ⟨m, hm, ss.keep fun o e => mv.heap _ _ (fun z => hS (wk.sub _ z)) e⟩
  | succ k ih =>
    intro i s hk hi st ⟨m, hm, ss⟩ q
    refine codeAny_builtin F.entry_set_update_loop ?_
    rw [Around.under_plainId F.plain_set_update_loop]
    unfold Builtin.«set.update.loop»
    dsimp only
    refine wpAny_bind (wk.item i s _ _ (by omega) st fun v s' hp st' mv => ?_)
    obtain ⟨x, t, hx, rfl⟩ := hv i v hp
    dsimp only
    refine wpAny_bind (wpAny_holding ?_)
    unfold setAdd
    refine wpAny_holding (wpAny_bind ((strKind P w).pyHash (strKind_is P w x t) ?_))
    have ss' : StrSet P w s'.heap S (hasZ xs i) m := ss.keep fun o e => mv.heap _ _ (fun z => hS (wk.sub _ z)) e
    refine strS_add (s := { s' with toks := s'.toks + 1 }) ss' (by have := dcz_le xs i; omega) fun b h' sb ss2 => ?_
    refine wpAny_pure ?_
    refine ⟨plainId_quiet F.plain_set_update_loop _, ?_⟩
    have fr := wk.frame (i + 1) s' h' (s'.toks + 1) st' (Nat.le_succ _) fun b hb o e => by
      rw [sb.2 b (fun z => hS (z ▸ hb))]
      exact e
    refine ih (i + 1) _ (by omega) (by omega) fr ⟨_, ?_, ss2.congr fun k => (hasZ_snoc hx k).symm⟩ fun s2 mv2 ss3 => ?_
    · rw [dcz_snoc hx]
      split <;> omega
    · refine q s2 (Moved.trans (wk.gtrans) ?_ mv2) ss3
      refine (mv.mono fun b hb => List.mem_cons_of_mem _ hb).then_heap (Nat.le_succ _) fun b o hb e => ?_
      rw [sb.2 b (fun z => hb (z ▸ List.mem_cons_self))]
      exact e
end
end L2

namespace L2
open PySem PySem.Spec PyProof.Rows SrtO SrtZ
section
variable {P : Program} {w : World} {A : Around} {E : Value → Shared → Prop} {s : Shared} {a : Addr}
theorem call_set_init {self x : Value} {Q : Value → Shared → Prop} (hty : s.TypeIs self "set") (h : wpAny (model P w) A.in1 (Builtin.«set.__init__» { pos := [self, x] }) (fun fin s' => ∃ v, fin = Fin.done (.ret v) ∧ Q v s') E s) : wpAny (model P w) A (call (.builtin "set.__init__") [self, x]) Q E s := by
  refine wpAny_call (codeAny_call_builtin F.called_set.init.plain F.entry_set_init (check_set_init_1 hty (wpAny_mono h ?_ ?_)))
  · rintro fin s' ⟨v, rfl, hq⟩
    exact hq
  · exact fun _ _ h => h
theorem call_set_strs {l : Addr} {items : Array Value} {xs : List Str} {Q : Value → Shared → Prop} (hA : A.handled = none) (hl : s.heap.IsList l items) (hx : StrsAre items.toList xs) (hn : xs.length + 1 < scanBound)
    (q : ∀ (h' : Heap) (tk m : Nat), m ≤ dcz xs xs.length → StrSet P w h' s.heap.objs.size (hasZ xs xs.length) m → (∀ b o, s.heap.get? b = some o → h'.get? b = some o) → Q (.ref s.heap.objs.size) { s with heap := h', toks := tk }) :
    wpAny (model P w) A (call (.type "set") [.ref l]) Q E s := by
  have T := F.called_set
  obtain ⟨c, tl, hm⟩ := T.mro
  refine wpAny_call (codeAny_of_tree (wpAny_pure ⟨Code.quiet_builtin _ (by decide +kernel), ?_⟩))
  refine codeAny_builtin F.entry_type_call ?_
  rw [Around.under_plain (weight_type_call_type "set" [.ref l] []) rfl]
  unfold Builtin.«type.__call__»
  dsimp only
  rw [if_neg (by rw [T.notType]; decide), if_neg (by rw [show _ = false from T.canCreate]; decide)]
  rw [F.typeCall_set_1]
  refine wpAny_bind (wpAny_pure ?_)
  refine wpAny_bind (wpAny_of_eq hm ?_)
  rw [if_neg (by simp)]
  refine wpAny_bind (wpAny_of_eq T.made ?_)
  dsimp only
  refine wpAny_bind (wpAny_pure ?_)
  refine wpAny_bind (wpAny_holding (wpAny_call ?_))
  refine codeAny_mono (code_set_led1 (E := E) (Q₁ := fun v s' => v = .ref s.heap.objs.size ∧ s' = { s with heap := s.heap.push { cls := .type "set", data := .set #[] 0 (SetTable.fresh 0 0 !w.params.followText "set-order") } }) (.ref l) ⟨rfl, rfl⟩) fun r s' h => ?_
  match r, h with
  | .ok (.ret v), h =>
    obtain ⟨rfl, rfl⟩ := h
    dsimp only
    generalize hob : ({ cls := .type "set", data := .set #[] 0 (SetTable.fresh 0 0 !w.params.followText "set-order") } : Obj) = ob
    have hnew : (s.heap.push ob).get? s.heap.objs.size = some ob := Heap.get?_push_size _ (by rw [← hob]; rfl)
    have hty : ({ s with heap := s.heap.push ob } : Shared).TypeIs (.ref s.heap.objs.size) "set" := ⟨ob, hnew, by rw [← hob]⟩
    refine wpAny_bind (wpAny_isInstance hty T.sub ?_)
    rw [if_neg (by decide)]
    refine wpAny_bind (wpAny_holding ?_)
    unfold callSpecial?
    refine wpAny_bind (wpAny_specialOf hty T.init.lookup ?_)
    dsimp only
    refine wpAny_holding (wpAny_bind (wpAny_of_eq (T.init.bind _) ?_))
    dsimp only
    refine wpAny_bind (call_set_init hty ?_)
    unfold Builtin.«set.__init__»
    dsimp only
    refine wpAny_bind ?_
    unfold noKeywords
    rw [if_pos (by rfl)]
    refine wpAny_pure ?_
    unfold typeNameOfCut
    refine wpAny_bind (wpAny_bind ?_)
    unfold shownTypeOf
    refine wpAny_bind (wpAny_typeOf hty ?_)
    rw [if_neg (by decide +kernel)]
    refine wpAny_pure ?_
    unfold typeNameCut
    dsimp only
    unfold typeName
    refine wpAny_pure ?_
    refine wpAny_bind (show wpAny _ _ (pure ()) _ _ _ from wpAny_pure ?_)
    refine wpAny_bind (show wpAny _ _ (pure _) _ _ _ from wpAny_pure ?_)
    unfold setUsed
    have hfr : (SetTable.fresh 0 0 !w.params.followText "set-order").fits (#[] : Array (Int × Value)).size = true := rfl
    have hdat : ob.data = .set #[] 0 (SetTable.fresh 0 0 !w.params.followText "set-order") := by rw [← hob]
    refine wpAny_bind (wpAny_bind (wpAny_setState_of hnew hdat hfr (wpAny_pure ?_)))
    rw [if_neg (by simp [SetTable.fresh, SetTable.fill])]
    refine wpAny_bind ?_
    unfold Builtin.Frozenset.updateFrom Builtin.Frozenset.isAnySet
    obtain ⟨lo, hlo, hlc, hld⟩ := id hl
    have htl : ({ s with heap := s.heap.push ob } : Shared).TypeIs (.ref l) "list" := ⟨lo, Heap.get?_push_of_some _ hlo, hlc⟩
    refine wpAny_bind ?_
    unfold orM
    refine wpAny_bind (wpAny_isInstance htl F.sub_list_set ?_)
    refine wpAny_isInstance htl F.sub_list_frozenset ?_
    rw [if_neg (by decide)]
    refine wpAny_bind (wpAny_typeOf htl ?_)
    rw [if_neg (by decide +kernel)]
    refine wpAny_bind (wpAny_pyIter_list (hl.push ob) ?_)
    refine wpAny_bind (wpAny_runValue ?_)
    have hnl : s.heap.objs.size ≠ l := fun z => absurd (Heap.lt_size hlo) (by rw [← z]; exact Nat.lt_irrefl _)
    have isz : (s.heap.push ob).objs.size = s.heap.objs.size + 1 := size_push' _ _
    have hlI : l ≠ (s.heap.push ob).objs.size := fun z => by
      have h0 := Heap.lt_size hlo
      rw [z, isz] at h0
      exact Nat.not_lt.mpr (Nat.le_succ _) h0
    have hA2 : (A.in1.in1.in1).handled = none := hA
    have wk := (Walks.list (prog := P) (w := w) hA2 (s.heap.push ob).objs.size l hlI items).toS
    have hlen : xs.length = items.size := by
      have := hx.len_eq
      simpa using this.symm
    have hfp : s.heap.objs.size ∉ [(s.heap.push ob).objs.size, l] := fun z => by
      rcases List.mem_cons.mp z with z | z
      · omega
      · exact hnl (List.mem_singleton.mp z)
    have st0 : StrSet P w ((s.heap.push ob).push { cls := .type "list_iterator", data := .fields #[.ref l, .int 0 0] }) s.heap.objs.size (hasZ xs 0) 0 := by
      refine ⟨#[], 0, _, ⟨⟨ob, Heap.get?_push_of_some _ hnew, ?_, hdat⟩, (fun e he => by simp at he), fun k => ?_, (by decide), hfr, rfl, List.Pairwise.nil, ?_⟩⟩
      · rw [← hob]
        exact ⟨rfl, rfl, rfl⟩
      · unfold hasZ
        simp
      · show _ ∨ (!w.params.followText "set-order") = true
        cases w.params.followText "set-order" <;> simp
    refine strS_loop wk s.heap.objs.size hfp xs hlen (by omega) (fun i v hv => ?_) items.size 0 _ rfl (Nat.zero_le _) ⟨⟨_, Heap.get?_push_size _ rfl, rfl, rfl⟩, (hl.push ob).push _⟩ ⟨0, Nat.le_refl _, st0⟩ fun s' mv hs => ?_
    · obtain ⟨t, ht⟩ := SS.strs_at hx i v (by simpa using hv)
      have hi : i < xs.length := by
        rw [hlen]
        exact (Array.getElem?_eq_some_iff.mp hv).1
      exact ⟨_, t, List.getElem?_eq_getElem hi, by rw [ht]; simp [List.getD, hi]⟩
    obtain ⟨m, hm, ss⟩ := hs
    rw [← hlen] at hm ss
    dsimp only
    refine wpAny_pure (wpAny_pure ⟨_, rfl, wpAny_pure ?_⟩)
    dsimp only
    rw [if_neg (by decide)]
    refine wpAny_pure ?_
    dsimp only
    obtain ⟨h', g', d', tk', os'⟩ := s'
    have e1 := mv.gens
    have e2 := mv.drawn
    have e3 := mv.os
    dsimp only at e1 e2 e3 ss ⊢
    subst e1 e2 e3
    refine q h' tk' m hm ss fun b o e => mv.heap b o (fun z => ?_) (Heap.get?_push_of_some _ (Heap.get?_push_of_some _ e))
    have hb := Heap.lt_size e
    rcases List.mem_cons.mp z with z | z
    · rw [z] at hb
      exact absurd hb (Nat.lt_irrefl _)
    · rw [List.mem_singleton.mp z, isz] at hb
      exact Nat.not_lt.mpr (Nat.le_succ _) hb
  | .error e, h => exact h
end
end L2

namespace L2
open PySem PySem.Spec PyProof.Rows SrtO SrtZ
section
variable {P : Program} {w : World} {A : Around} {E : Value → Shared → Prop} {s : Shared} {a : Addr}
theorem isStr_of {z : Str} {v : Value} (h : (strKind P w).is z v = true) : ∃ t, v = .str z t := by
  cases v with
  | str x t =>
    have h := (strKind P w).inj (.str x t) z x h (strKind_is P w x t)
    exact ⟨t, by rw [h]⟩
  | _ => exact absurd h (by first | decide | (intro z; cases z))
theorem sorted_strS {S : Str → Bool} {n : Nat} {Q : Value → Shared → Prop} (hs : StrSet P w s.heap a S n) (hA : A.handled = none)
    (q : ∀ (s' : Shared) (p : Nat) (ys : List Str) (out : List Value), (∀ b o, s.heap.get? b = some o → s'.heap.get? b = some o) → s'.gens = s.gens → s'.os = s.os → s.heap.objs.size ≤ p → (∃ c, s'.heap.get? p = some (seqObj "list" out.toArray c)) → StrsAre out ys → (∀ z, z ∈ ys ↔ S z = true) → ys.length = n → Srtd ltZ ys → Q (.ref p) s') :
    wpAny (model P w) A (call (.builtin "sorted") [.ref a]) Q E s := by
  obtain ⟨es, ep, t, ⟨⟨o, h1, h2, h3⟩, el, is_, lt, fits, sz, ris, led⟩⟩ := hs
  subst sz
  refine call_function_entry_kw kind_sorted plain_sorted entry_sorted (args_sorted1 _) ?_
  unfold Builtin.«sorted»
  refine wpAny_bind (m := checkCount "sorted" 1 1 _) (wpAny_pure ?_)
  refine wpAny_bind (collect_set (A := A.in1) hA ⟨o, h1, h2.1, h3⟩ fits lt ris led fun s1 vs kp1 sz1 g1 os1 pm => ?_)
  have vl : vs.length = es.size := by
    have := pm.length_eq
    simpa using this
  have isS : ∀ v ∈ vs, ∃ x t, v = Value.str x t := fun v hv => by
    obtain ⟨e, he, rfl⟩ := List.mem_map.mp (pm.mem_iff.mp hv)
    obtain ⟨⟨k, hk, _⟩, _⟩ := el e he
    obtain ⟨t, ht⟩ := isStr_of hk
    exact ⟨k, t, ht⟩
  have hz : vs.length ≤ sizeLine := by rw [vl]; exact fits_of_scanBound lt
  refine wpAny_bind (wpAny_newList ?_ hz)
  have hoL : (s1.heap.push (seqObj "list" vs.toArray 0)).get? s1.heap.objs.size = some (seqObj "list" vs.toArray 0) := Heap.get?_push_size _ rfl
  refine wpAny_bind (wpAny_holding (wpAny_call_entry_kw slot_list_sort ⟨_, hoL, rfl⟩ entry_list_sort ?_ (args_list_sort _)))
  rw [plain_rev]
  refine SrtR.list_sort_ordR (s := { s1 with heap := s1.heap.push (seqObj "list" vs.toArray 0) }) (b := false) (ltv := ltSv) swo_str hoL hz (fun h2 => strs_sortable (strsAre_map vs isS) h2) fun out hs hb => ⟨_, rfl, ?_⟩
  refine wpAny_pure ⟨_, rfl, ?_⟩
  have pm2 : out.Perm vs := by
    have := hb.perm
    rwa [if_neg (by decide)] at this
  have isO : ∀ v ∈ out, ∃ x t, v = Value.str x t := fun v hv => isS v (pm2.mem_iff.mp hv)
  refine q _ _ (out.map strOf) out (fun b u e => ?_) g1 os1 sz1 (sortedHeap_at hoL) (strsAre_map out isO) (fun z => ?_) ?_ (srtd_map hs)
  · have k1 := kp1 b u e
    exact (sortedHeap_old (Nat.ne_of_lt (Heap.lt_size k1)) (Heap.lt_size (Heap.get?_push_of_some _ k1))).trans (Heap.get?_push_of_some _ k1)
  · rw [is_ z]
    constructor
    · intro h
      obtain ⟨v, hv, rfl⟩ := List.mem_map.mp h
      obtain ⟨e, he, rfl⟩ := List.mem_map.mp (pm.mem_iff.mp (pm2.mem_iff.mp hv))
      obtain ⟨⟨k, hk, _⟩, _⟩ := el e he
      obtain ⟨t, ht⟩ := isStr_of hk
      refine ⟨e, he, ?_⟩
      rw [ht] at hk ⊢
      exact hk
    · rintro ⟨e, he, hk⟩
      obtain ⟨t, ht⟩ := isStr_of hk
      refine List.mem_map.mpr ⟨e.2, pm2.mem_iff.mpr (pm.mem_iff.mpr (List.mem_map.mpr ⟨e, he, rfl⟩)), ?_⟩
      rw [ht]
      rfl
  · rw [List.length_map, pm2.length_eq, vl]
end
def SetS (P : Program) (w : World) (a : Addr) (S : Str → Bool) (n : Nat) : HO := .ext fun h => StrSet P w h a S n
theorem setS_ok {P : Program} {w : World} {H : Hp} {h : Heap} {a : Addr} {S : Str → Bool} {n : Nat} (st : StrSet P w h a S n) : ObjOk P w H h a (SetS P w a S n) :=
  ⟨st, (let ⟨_, _, _, ⟨⟨o, e, _⟩, _, _, _, _, _, _, _⟩⟩ := st; ⟨o, e⟩), fun h1 h2 x k => StrSet.keep x k⟩
section
variable {X : Cx}
/-- set(xs), xs a list of texts -/
def rSetOfS (K : PySem.W.Frag) (P : Program) (w : World) : List V → Hp → VK → Prop := fun xs H Q => ∃ (l : Addr) (zs : List Str), xs = [V.ref l] ∧ SqL K H l (zs.map V.str) ∧ zs.length ≤ 1000 ∧ ∀ (p : Addr) (n : Nat), H p = none → n ≤ dcz zs zs.length → Q (.ref p) (upd H p (SetS P w p (hasZ zs zs.length) n))
theorem cr_setOfS (hc : X.calm = true) : CallR X (.type "set") (rSetOfS X.K X.prog X.w) := by
  intro pins s σ H xs us Q I r h
  obtain ⟨l, zs, rfl, hS, hz, q⟩ := h
  obtain rfl := Vals.ref1 r
  obtain ⟨its, r', pl, hz'⟩ := I.list hS
  have h1 := strs_of_vals r'
  refine call_set_strs (items := its.toArray) (xs := zs) (I.ok.hd hc) pl.isList (by simpa using h1) (by show zs.length + 1 < 4096; omega) fun h' tk m hm ss kp => ?_
  have hf : H s.heap.objs.size = none := I.hok.fresh (Nat.le_refl _)
  exact ⟨.ref s.heap.objs.size, _, I.laid (t' := tk) kp (Nat.le_refl _) (setS_ok ss), rfl, q _ m hf hm⟩
/-- sorted(s), s a set of texts -/
def rSortedSS (P : Program) (w : World) : List V → Hp → VK → Prop := fun vs H Q => ∃ (a : Addr) (S : Str → Bool) (n : Nat), vs = [V.ref a] ∧ H a = some (SetS P w a S n) ∧ n ≤ 1000 ∧ ∀ (ys : List Str) (l : Addr), Srtd ltZ ys → (∀ z, z ∈ ys ↔ S z = true) → ys.length = n → H l = none → Q (.ref l) (upd H l (.lst (ys.map V.str)))
theorem cr_sortedSS (hc : X.calm = true) : CallR X (.builtin "sorted") (rSortedSS X.prog X.w) := by
  intro pins s σ H xs us Q I r h
  obtain ⟨a, S, n, rfl, ha, hn, q⟩ := h
  obtain rfl := Vals.ref1 r
  have ss : StrSet X.prog X.w s.heap a S n := (show ObjOk X.prog X.w H s.heap a (SetS X.prog X.w a S n) from I.hok a _ ha).1
  refine sorted_strS ss (I.ok.hd hc) fun s' p ys out kp g1 os1 hp hat hys hmem hlen hsrt => ?_
  obtain ⟨c, hat⟩ := hat
  have hf : H p = none := I.hok.fresh hp
  have hlen2 : (ys.map V.str).length ≤ sizeLine := by rw [List.length_map, hlen, sizeLine_eq]; omega
  have ok : ObjOk X.prog X.w (upd H p (.lst (ys.map V.str))) s'.heap p (.lst (ys.map V.str)) := ⟨hlen2, out, c, vals_of_strs hys, hat⟩
  obtain ⟨h', g', d', tk', os'⟩ := s'
  dsimp only at g1 os1 kp hat ok
  subst g1 os1
  exact ⟨.ref p, _, I.call (ch := []) (Un.laid kp hp hf) (I.hok.laid kp hp ok) I.bare (fun _ h => nomatch h), rfl, q ys p hsrt hmem hlen hf⟩
end
theorem memlen : ∀ {l m : List Str}, l.Nodup → (∀ x ∈ l, x ∈ m) → l.length ≤ m.length
  | [], _, _, _ => Nat.zero_le _
  | x :: l, m, nd, h => by
    rw [List.nodup_cons] at nd
    have hx := h x List.mem_cons_self
    have ih := memlen (l := l) (m := m.erase x) nd.2 fun y hy => (List.mem_erase_of_ne (fun z => nd.1 (by rw [← z]; exact hy))).mpr (h y (List.mem_cons_of_mem _ hy))
    rw [List.length_erase_of_mem hx] at ih
    have := List.length_pos_of_mem hx
    show l.length + 1 ≤ m.length
    omega
theorem memnd : ∀ {l m : List Str}, l.Nodup → (∀ x ∈ l, x ∈ m) → m.length ≤ l.length → m.Nodup
  | [], m, _, _, h => by
    have : m = [] := List.eq_nil_of_length_eq_zero (Nat.le_zero.mp h)
    rw [this]
    exact List.nodup_nil
  | x :: l, m, nd, h, hl => by
    have nd' := nd
    rw [List.nodup_cons] at nd
    have hx := h x List.mem_cons_self
    have hsub : ∀ y ∈ l, y ∈ m.erase x := fun y hy => (List.mem_erase_of_ne (fun z => nd.1 (by rw [← z]; exact hy))).mpr (h y (List.mem_cons_of_mem _ hy))
    have hle := List.length_erase_of_mem hx
    have hl' : m.length ≤ l.length + 1 := hl
    have ih := memnd (l := l) (m := m.erase x) nd.2 hsub (by omega)
    have hno : x ∉ m.erase x := fun z => by
      have := memlen (l := x :: l) (m := m.erase x) nd' fun y hy => by
        rcases List.mem_cons.mp hy with rfl | hy
        · exact z
        · exact hsub y hy
      have h0 : l.length + 1 ≤ (m.erase x).length := this
      have := List.length_pos_of_mem hx
      omega
    exact (List.perm_cons_erase hx).nodup_iff.mpr (List.nodup_cons.mpr ⟨hno, ih⟩)
/-- the unlike ones, each once -/
theorem dcz_list (xs : List Str) : ∀ i, i ≤ xs.length → ∃ l : List Str, l.Nodup ∧ l.length = dcz xs i ∧ ∀ z, z ∈ l ↔ hasZ xs i z = true
  | 0, _ => ⟨[], List.nodup_nil, rfl, fun z => by unfold hasZ; simp⟩
  | i + 1, h => by
    obtain ⟨l, nd, hl, hm⟩ := dcz_list xs i (by omega)
    have hx : xs[i]? = some xs[i] := List.getElem?_eq_getElem (by omega)
    generalize xs[i] = x at hx
    have hs := hasZ_snoc hx
    have hd := dcz_snoc hx
    cases e : hasZ xs i x with
    | true =>
      rw [e, if_pos rfl] at hd
      refine ⟨l, nd, by omega, fun z => ?_⟩
      rw [hm, hs, Bool.or_eq_true]
      constructor
      · exact .inl
      · rintro (h | h)
        · exact h
        · rw [of_decide_eq_true h]
          exact e
    | false =>
      rw [e, if_neg (by decide)] at hd
      refine ⟨x :: l, List.nodup_cons.mpr ⟨fun z => ?_, nd⟩, by rw [List.length_cons]; omega, fun z => ?_⟩
      · rw [hm, e] at z
        cases z
      · rw [List.mem_cons, hm, hs, Bool.or_eq_true, decide_eq_true_eq]
        exact Or.comm
theorem dcz_nd {xs ys : List Str} (h : ∀ z, z ∈ ys ↔ hasZ xs xs.length z = true) (hl : ys.length ≤ dcz xs xs.length) : ys.Nodup := by
  obtain ⟨l, nd, h1, h2⟩ := dcz_list xs xs.length (Nat.le_refl _)
  exact memnd nd (fun z hz => (h z).mpr ((h2 z).mp hz)) (by omega)
theorem hasZ_all (xs : List Str) (z : Str) : hasZ xs xs.length z = true ↔ z ∈ xs := by
  unfold hasZ
  rw [List.take_length, List.any_eq_true]
  constructor
  · rintro ⟨x, hx, e⟩
    rw [← of_decide_eq_true e]
    exact hx
  · intro h
    exact ⟨z, h, decide_eq_true rfl⟩
end L2

namespace Kb
open PySem PySem.Spec PyProof.Rows L2 SrtZ SrtO
abbrev sis_int : Stmt := topS 51
abbrev Nis_int : List Str := ["_law_thing"]
theorem scis_int : FnScope ["_law_thing"] ["_law_thing"] (defScope sis_int) := ⟨rfl, rfl, rfl, by decide +kernel, rfl, by decide +kernel, by decide +kernel⟩
abbrev sis_name : Stmt := topS 52
abbrev Nis_name : List Str := ["_law_thing", "_law_letters", "_law_sign"]
theorem scis_name : FnScope ["_law_thing", "_law_letters", "_law_sign"] ["_law_thing"] (defScope sis_name) := ⟨rfl, rfl, rfl, by decide +kernel, rfl, by decide +kernel, by decide +kernel⟩
abbrev sare_counts : Stmt := topS 53
abbrev Nare_counts : List Str := ["_law_thing", "_law_names", "_law_pair"]
theorem scare_counts : FnScope ["_law_thing", "_law_names", "_law_pair"] ["_law_thing"] (defScope sare_counts) := ⟨rfl, rfl, rfl, by decide +kernel, rfl, by decide +kernel, by decide +kernel⟩
abbrev Dnis_int (K : PySem.W.Frag) (mg : Str → Option Value) := Dn K mg "_law_is_int" sis_int ["_law_thing"]
abbrev Dnis_name (K : PySem.W.Frag) (mg : Str → Option Value) := Dn K mg "_law_is_name" sis_name ["_law_thing"]
abbrev Dnare_counts (K : PySem.W.Frag) (mg : Str → Option Value) := Dn K mg "_law_are_counts" sare_counts ["_law_thing"]
abbrev rLenK (K : PySem.W.Frag) : List V → Hp → VK → Prop := fun xs H Q => ∃ p ys, xs = [V.ref p] ∧ (SqL K H p ys ∨ SqT K H p ys) ∧ Q (V.int (ys.length : Nat)) H
theorem sign_in : ∀ m : Fin 26, (!(Builtin.Str.occurrences (Str.ofString "abcdefghijklmnopqrstuvwxyz") ⟨#[97 + m.val]⟩ 0 (Str.ofString "abcdefghijklmnopqrstuvwxyz").length 1).isEmpty) = true := by decide +kernel
theorem sign_in' {c : Nat} (h : nmC c = true) : (!(Builtin.Str.occurrences (Str.ofString "abcdefghijklmnopqrstuvwxyz") ⟨#[c]⟩ 0 (Str.ofString "abcdefghijklmnopqrstuvwxyz").length 1).isEmpty) = true := by
  unfold nmC at h
  have h1 : ¬ c < 97 := fun z => by rw [decide_eq_true z] at h; cases h
  have h2 : ¬ 122 < c := fun z => by rw [decide_eq_true z] at h; simp at h
  have := sign_in ⟨c - 97, by omega⟩
  rw [show 97 + (c - 97) = c by omega] at this
  exact this
def isP : El → Bool
  | .pr _ _ => true
  | .prb _ _ => true
  | .no => false
def nmE : El → Str
  | .pr n _ => n
  | .prb n _ => n
  | .no => Str.ofString ""
theorem posE {es : List El} (h : ∀ e ∈ es, elB e = true) : es = (es.map fun e => (nmE e, match e with | .pr _ i => i | _ => 0)).map prE := by
  rw [List.map_map]
  conv => lhs; rw [← List.map_id es]
  refine List.map_congr_left fun e he => ?_
  have := h e he
  cases e with
  | pr n i => rfl
  | prb n b => cases this
  | no => cases this
theorem eqv_strs : ∀ a b : List Str, PyData.eqvAll (a.map PyData.str) (b.map PyData.str) = true ↔ a = b
  | [], [] => ⟨fun _ => rfl, fun _ => rfl⟩
  | [], y :: b => ⟨fun h => (nomatch h), fun h => (nomatch h)⟩
  | x :: a, [] => ⟨fun h => (nomatch h), fun h => (nomatch h)⟩
  | x :: a, y :: b => by
    show ((x == y) && PyData.eqvAll (a.map PyData.str) (b.map PyData.str)) = true ↔ _
    rw [Bool.and_eq_true, eqv_strs a b, beq_iff_eq]
    constructor
    · rintro ⟨rfl, rfl⟩
      rfl
    · intro h
      injection h with h1 h2
      exact ⟨h1, h2⟩
/-- the names sorted, each once: the names themselves only if they ascend -/
theorem names_asc {L S : List Str} (so : Srtd ltZ S) (nd : S.Nodup) (hm : ∀ z, z ∈ S ↔ z ∈ L) : L = S ↔ L.Pairwise fun a b => ltZ a b = true := by
  have sS : S.Pairwise fun a b => ltZ a b = true := by
    refine List.Pairwise.imp₂ (fun {a b} h1 h2 => ?_) so nd
    rcases bcase (ltZ a b) with q | q
    · exact q
    · exact absurd (ltZ_tri q h1) h2
  constructor
  · rintro rfl
    exact sS
  · intro h
    have ndL : L.Nodup := by
      refine List.Pairwise.imp (fun {a b} h e => ?_) h
      rw [e, ltZ_irr] at h
      cases h
    have p : L.Perm S := (List.perm_ext_iff_of_nodup ndL nd).mpr fun z => (hm z).symm
    exact List.Perm.eq_of_pairwise (le := fun (a b : Str) => ltZ a b = true) (fun a b _ _ h1 h2 => by
      have := ltZ_asym h1
      rw [this] at h2
      cases h2) h sS p
section
variable {P : Program} {w : World} {K : PySem.W.Frag} {mg : Str → Option Value} {base : Heap}
/-! _law_is_int -/
theorem ok_is_intL (T : Blt mg) (d : Dnis_int K mg) : FnOk P w K mg base CX0 1 d.f d.fd ["_law_thing"] spIsIntB := by
  refine d.F.ok scis_int (fun vs H Q E h => ?_) (fun cdv A outer s H vs Q E hr h => ?_)
  · rcases h with ⟨i, rfl, _⟩ | ⟨b, rfl, _⟩ <;> rfl
  · refine ⟨_, (pss_one (ps_ret (pe_and (pe_callB call_isi (by rfl) T.n_isinstance (by decide +kernel) (pa_cons (pv 0) (pa_cons (pe_bltn (v := .ty "int") (by rfl) T.n_int (by decide +kernel) rfl) pa_nil))) (pe_one (pe_not (pe_callB call_isi (by rfl) T.n_isinstance (by decide +kernel) (pa_cons (pv 0) (pa_cons (pe_bltn (v := .ty "bool") (by rfl) T.n_bool (by decide +kernel) rfl) pa_nil)))))))), ?_⟩
    rcases h with ⟨i, rfl, q⟩ | ⟨b, rfl, q⟩
    · refine ⟨.int i, rfl, .int i, _, _, _, true, rfl, .ty "int", .base (.int i), kit_ty (by decide +kernel), true, rfl, iteT ?_⟩
      exact ⟨.int i, rfl, .int i, _, _, _, false, rfl, .ty "bool", .base (.int i), kit_ty (by decide +kernel), false, rfl, q⟩
    · refine ⟨.bl b, rfl, .bl b, _, _, _, true, rfl, .ty "int", .base (.bl b), kit_ty (by decide +kernel), true, rfl, iteT ?_⟩
      exact ⟨.bl b, rfl, .bl b, _, _, _, true, rfl, .ty "bool", .base (.bl b), kit_ty (by decide +kernel), true, rfl, q⟩
/-! _law_is_name -/
theorem ok_is_nameL (T : Blt mg) (d : Dnis_name K mg) : FnOk P w K mg base CX0 1 d.f d.fd ["_law_thing"] spIsName := by
  refine d.F.ok scis_name (fun vs H Q E h => ?_) (fun cdv A outer s H vs Q E hr h => ?_)
  · obtain ⟨z, rfl, _⟩ := h
    rfl
  · obtain ⟨z, rfl, nm, q⟩ := h
    refine ⟨_, (pss_cons (ps_set (i := 1) scis_name.nd rfl (Or.inr rfl) pe_str)
    (pss_one (ps_ret (pe_and (pe_callB call_isi (by rfl) T.n_isinstance (by decide +kernel) (pa_cons (pv 0) (pa_cons (pe_bltn (v := .ty "str") (by rfl) T.n_str (by decide +kernel) rfl) pa_nil))) (pe_and (pe_chain op_le op_le pe_int (pe_callB call_len_str (by rfl) T.n_len (by decide +kernel) (pa_cons (pv 0) pa_nil)) pe_int) (pe_one (pe_callB (cr_all rfl) (by rfl) T.n_all (by decide +kernel) (pa_cons (pe_lc (own := [("_law_sign", 2)]) (g := gName 2) (tt := tYes) rfl scis_name.nd (pi_str (pv 0)) (blkOk_by (N := Nis_name) (sc := defScope sis_name) (by decide +kernel)) (fun _ _ _ _ _ => pg_name (i := 2) scis_name.nd rfl (Or.inl rfl)) (fun _ _ _ _ _ => pts_nil) (fun _ _ _ _ _ => (pe_cmpR op_in_str (pv 2) (pv 1) rfl))) pa_nil)))))))), ?_⟩
    have h1 : decide ((1 : Int) ≤ (z.length : Int)) = true := decide_eq_true (by have := nm.pos; omega)
    have h8 : decide ((z.length : Int) ≤ 8) = true := decide_eq_true (by have := nm.len; omega)
    refine ⟨.str z, rfl, .str z, _, _, _, true, rfl, .ty "str", .base (.str z), kit_ty (by decide +kernel), true, rfl, iteT ?_⟩
    refine ⟨.str z, rfl, z, rfl, (by rw [sizeLine_eq]; have := nm.len; omega), _, _, rfl, rfl, true, congrArg V.bl h1, iteT ⟨_, _, rfl, rfl, true, congrArg V.bl h8, iteT ?_⟩⟩
    refine ⟨.str z, rfl, z, rfl, fun D nD => ?_⟩
    refine lc_it walk_str (fun i H3 => Same H H3 ∧ H3 D = some (.lst (((cs z).take i).map fun c => V.bl true))) ⟨same_upd nD, upd_same⟩ (fun _ _ _ _ => trivial) (fun i x H3 H4 hi h3 y => ?_) (fun H3 h3 => ?_)
    · obtain ⟨rfl, c, hc, rfl⟩ := y
      have hc2 : (cs z)[i]? = some c := by
        rw [← hc]
        simp [cs]
      have hcn := nm.abc c (List.mem_of_getElem? hc2)
      refine ⟨rfl, .str ⟨#[c]⟩, rfl, _, rfl, _, _, rfl, rfl, ?_⟩
      rw [sign_in' hcn]
      refine ⟨_, h3.2, ?_, fun b o e => ?_, ?_⟩
      · rw [List.length_map, List.length_take, sizeLine_eq]
        have := cs_len z
        have := nm.len
        omega
      · rw [upd_ne (ne_of_none e nD)]
        exact h3.1 b o e
      · rw [upd_same, List.take_add_one, hc2, List.map_append]
        rfl
    · refine ⟨D, (cs z).map fun _ => true, rfl, sql ?_, ?_⟩
      · rw [h3.2, List.map_map]
        rw [List.take_of_length_le (by
          show (cs z).length ≤ z.cps.size
          simp [cs])]
        rfl
      · rw [show (((cs z).map fun _ => true).all id) = true by simp]
        exact q H3 h3.1
/-! _law_are_counts -/
theorem ok_are_countsL (T : Blt mg) (dis_int : Dnis_int K mg) (dis_name : Dnis_name K mg) (d : Dnare_counts K mg) : FnOk P w K mg base CX0 2 d.f d.fd ["_law_thing"] (spAreCountsA K) := by
  have Gis_int : FnOk P w K mg base CX0 1 dis_int.f dis_int.fd ["_law_thing"] spIsIntB := ok_is_intL T dis_int
  have Gis_name : FnOk P w K mg base CX0 1 dis_name.f dis_name.fd ["_law_thing"] spIsName := ok_is_nameL T dis_name
  refine d.F.ok scare_counts (fun vs H Q E h => ?_) (fun cdv A outer s H vs Q E hr h => ?_)
  · obtain ⟨v, th, rfl, _⟩ := h
    rfl
  · obtain ⟨v, th, rfl, hat, q⟩ := h
    refine ⟨_, (pss_cons (ps_if (PW.pt (pw_or (pt_not (pt_val (pe_callB call_isi (by rfl) T.n_isinstance (by decide +kernel) (pa_cons (pv 0) (pa_cons (pe_bltn (v := .ty "tuple") (by rfl) T.n_tuple (by decide +kernel) rfl) pa_nil))))) (pw_or1 (pt_not (pt_val (pe_callB (cr_all rfl) (by rfl) T.n_all (by decide +kernel) (pa_cons (pe_lc (own := [("_law_pair", 2)]) (g := gName 2) (tt := tYes) rfl scare_counts.nd (pi_tup (pv 0)) (blkOk_by (N := Nare_counts) (sc := defScope sare_counts) (by decide +kernel)) (fun _ _ _ _ _ => pg_name (i := 2) scare_counts.nd rfl (Or.inl rfl)) (fun _ _ _ _ _ => pts_nil) (fun _ _ _ _ _ => (pe_and (pe_callB (r := rIsi K) call_isi (by rfl) T.n_isinstance (show bootBuiltins (Str.ofString "isinstance") = some (Value.builtin "isinstance") by decide +kernel) (pa_cons (pv 2) (pa_cons (pe_bltn (v := .ty "tuple") (by rfl) T.n_tuple (by decide +kernel) rfl) pa_nil))) (pe_one (pe_cmpR op_eq (pe_callB (r := rLenK K) call_len_seq (by rfl) T.n_len PySem.boot_len (pa_cons (pv 2) pa_nil)) pe_int (nomark _)))))) pa_nil)))))))
      (pss_one (ps_ret pe_bl))
      pss_nil)
    (pss_cons (ps_if (pt_not (pt_val (pe_callB (cr_all rfl) (by rfl) T.n_all (by decide +kernel) (pa_cons (pe_lc (own := [("_law_pair", 2)]) (g := gName 2) (tt := tYes) rfl scare_counts.nd (pi_tup (pv 0)) (blkOk_by (N := Nare_counts) (sc := defScope sare_counts) (by decide +kernel)) (fun _ _ _ _ _ => pg_name (i := 2) scare_counts.nd rfl (Or.inl rfl)) (fun _ _ _ _ _ => pts_nil) (fun _ _ _ _ _ => (pe_and (pe_call Gis_name (hr.mono (by omega)) (by rfl) dis_name.g dis_name.F.kp dis_name.b .nil pass0 (pa_cons (pe_ix (r := rIxT K) ix_tup (pv 2) pe_int (fun _ _ => rfl)) pa_nil)) (pe_and (pe_call Gis_int (hr.mono (by omega)) (by rfl) dis_int.g dis_int.F.kp dis_int.b .nil pass0 (pa_cons (pe_ix (r := rIxT K) ix_tup (pv 2) pe_int (fun _ _ => rfl)) pa_nil)) (pe_one (pe_cmpR op_gt (pe_ix (r := rIxT K) ix_tup (pv 2) pe_int (fun _ _ => rfl)) pe_int (nomark _))))))) pa_nil))))
      (pss_one (ps_ret pe_bl))
      pss_nil)
    (pss_cons (ps_setLc (i := 1) (own := [("_law_pair", 2)]) (g := gName 2) (tt := tYes) rfl scare_counts.nd rfl rfl (sw_true rfl rfl rfl (by decide +kernel)) (pi_tup (pv 0)) (blkOk_by (N := Nare_counts) (sc := defScope sare_counts) (by decide +kernel)) (fun _ _ _ _ _ => pg_name (i := 2) scare_counts.nd rfl (Or.inl rfl)) (fun _ _ _ _ _ => pts_nil) (fun _ _ _ _ _ => (pe_ix (r := rIxT K) ix_tup (pv 2) pe_int (fun _ _ => rfl))))
    (pss_one (ps_ret (pe_cmpR (op_eqD hr.units) (pv 1) (pe_callB (cr_sortedSS rfl) (by rfl) T.n_sorted (by decide +kernel) (pa_cons (pe_callTy (cr_setOfS rfl) (by rfl) T.n_set (by decide +kernel) (pa_cons (pv 1) pa_nil)) pa_nil)) (nomark _))))))), ?_⟩
    have no : ∀ {H' : Hp}, Same H H' → ¬ Cn th → Q (.bl false) H' := fun s h => q _ false s ⟨fun z => (nomatch z), fun z => absurd z h⟩
    cases th with
    | none =>
      obtain ⟨t, ty, kt⟩ := th_ty hat
      exact ⟨v, rfl, v, _, _, _, false, rfl, .ty "tuple", ty, kt, false, rfl, iteT (iteT (no (Same.refl H) cn_none))⟩
    | some es =>
      obtain ⟨a, vs, rfl, hS, hp, hl⟩ := hat
      have ell : vs.length = es.length := Paired.length hp
      refine ⟨.ref a, rfl, .ref a, _, _, _, true, rfl, .ty "tuple", tyT hS.seq, kit_ty (by decide +kernel), true, rfl, iteF ?_⟩
      refine ⟨.ref a, rfl, a, rfl, ⟨_, hS.seq⟩, fun D nD => ?_⟩
      refine lc_tup (xs := vs) (fun i H3 => Same H H3 ∧ H3 D = some (.lst ((es.take i).map fun e => V.bl (isP e)))) ⟨same_upd nD, upd_same⟩ (fun i H3 _ h3 => (hS.same h3.1).seq) (fun i x H3 hx h3 => ?_) (fun H3 h3 => ?_)
      · obtain ⟨e, he, hat⟩ := paired_at hp hx
        have hat3 := hat.same h3.1
        have fin : ∃ acc, H3 D = some (.lst acc) ∧ acc.length < sizeLine ∧ (Same H (upd H3 D (.lst (acc ++ [V.bl (isP e)]))) ∧ (upd H3 D (.lst (acc ++ [V.bl (isP e)]))) D = some (.lst ((es.take (i + 1)).map fun e => V.bl (isP e)))) := by
          refine ⟨_, h3.2, ?_, Same.put h3.1 nD, ?_⟩
          · rw [List.length_map, List.length_take, sizeLine_eq]
            omega
          · rw [upd_same, List.take_add_one, he, List.map_append]
            rfl
        refine ⟨rfl, x, rfl, ?_⟩
        cases e with
        | pr n j =>
          obtain ⟨t, rfl, g1, g2⟩ := hat3
          have hq : SqT K H3 t [.str n, .int j] := .inl (.inl g1)
          exact ⟨_, _, _, _, true, rfl, .ty "tuple", tyT hq, kit_ty (by decide +kernel), true, rfl, iteT ⟨.ref t, rfl, t, _, rfl, .inr hq, rfl, fin⟩⟩
        | prb n b =>
          obtain ⟨t, rfl, g1, g2⟩ := hat3
          have hq : SqT K H3 t [.str n, .bl b] := .inl (.inl g1)
          exact ⟨_, _, _, _, true, rfl, .ty "tuple", tyT hq, kit_ty (by decide +kernel), true, rfl, iteT ⟨.ref t, rfl, t, _, rfl, .inr hq, rfl, fin⟩⟩
        | no =>
          rcases el_ty hat3 with ⟨t, ty, kt⟩ | ⟨a', xs, rfl, hq, hlx⟩
          · exact ⟨_, _, _, _, false, rfl, .ty "tuple", ty, kt, false, rfl, iteF fin⟩
          · refine ⟨_, _, _, _, true, rfl, .ty "tuple", tyT hq, kit_ty (by decide +kernel), true, rfl, iteT ⟨.ref a', rfl, a', xs, rfl, .inr hq, rfl, ?_⟩⟩
            rw [show decide (V.int ((xs.length : Nat) : Int) = V.int 2) = false from decide_eq_false (fun z => hlx (by injection z with z; omega))]
            exact fin
      obtain ⟨s3, hD3⟩ := h3
      rw [ell, List.take_length] at hD3
      refine ⟨D, es.map isP, rfl, sql (by rw [hD3, List.map_map]; rfl), _, rfl, ?_⟩
      cases hall : (es.map isP).all id with
      | false =>
        refine iteT (no s3 fun ⟨es', ys, e, c⟩ => ?_)
        cases e
        rw [c.eq] at hall
        have : ((ys.map prE).map isP).all id = true := by
          rw [List.map_map, List.all_map]
          exact List.all_eq_true.mpr fun _ _ => rfl
        rw [this] at hall
        cases hall
      | true =>
      rw [List.all_map] at hall
      have hisP : ∀ e ∈ es, isP e = true := fun e he => List.all_eq_true.mp hall e he
      refine iteF ?_
      -- the second test
      refine ⟨.ref a, rfl, a, rfl, ⟨_, (hS.same s3).seq⟩, fun D2 nD2 => ?_⟩
      refine lc_tup (xs := vs) (fun i H4 => Same H H4 ∧ H4 D2 = some (.lst ((es.take i).map fun e => V.bl (elB e)))) ⟨s3.trans (same_upd nD2), upd_same⟩ (fun i H4 _ h4 => (hS.same h4.1).seq) (fun i x H4 hx h4 => ?_) (fun H4 h4 => ?_)
      · obtain ⟨e, he, hat⟩ := paired_at hp hx
        have hat4 := hat.same h4.1
        have fin : ∀ H5, Same H4 H5 → ∃ acc, H5 D2 = some (.lst acc) ∧ acc.length < sizeLine ∧ (Same H (upd H5 D2 (.lst (acc ++ [V.bl (elB e)]))) ∧ (upd H5 D2 (.lst (acc ++ [V.bl (elB e)]))) D2 = some (.lst ((es.take (i + 1)).map fun e => V.bl (elB e)))) := fun H5 s5 => by
          refine ⟨_, s5 _ _ h4.2, ?_, Same.put (h4.1.trans s5) (Same.gone s3 nD2), ?_⟩
          · rw [List.length_map, List.length_take, sizeLine_eq]
            omega
          · rw [upd_same, List.take_add_one, he, List.map_append]
            rfl
        refine ⟨rfl, x, rfl, ?_⟩
        cases e with
        | pr n j =>
          obtain ⟨t, rfl, g1, g2⟩ := hat4
          have hq : SqT K H4 t [.str n, .int j] := .inl (.inl g1)
          refine ⟨t, _, _, _, rfl, rfl, hq, atI_nat (j := 0) rfl, n, rfl, g2, fun H5 s5 => ⟨true, rfl, iteT ?_⟩⟩
          have hq5 := seqT hq s5
          refine ⟨.ref t, rfl, t, _, _, _, rfl, rfl, hq5, atI_nat (j := 1) rfl, .inl ⟨j, rfl, true, rfl, iteT ?_⟩⟩
          refine ⟨.ref t, rfl, t, _, _, _, rfl, rfl, hq5, atI_nat (j := 1) rfl, _, _, rfl, rfl, ?_⟩
          exact fin H5 s5
        | prb n b =>
          obtain ⟨t, rfl, g1, g2⟩ := hat4
          have hq : SqT K H4 t [.str n, .bl b] := .inl (.inl g1)
          refine ⟨t, _, _, _, rfl, rfl, hq, atI_nat (j := 0) rfl, n, rfl, g2, fun H5 s5 => ⟨true, rfl, iteT ?_⟩⟩
          have hq5 := seqT hq s5
          exact ⟨.ref t, rfl, t, _, _, _, rfl, rfl, hq5, atI_nat (j := 1) rfl, .inr ⟨b, rfl, false, rfl, iteF (fin H5 s5)⟩⟩
        | no =>
          have := hisP _ (List.mem_of_getElem? he)
          cases this
      obtain ⟨s4, hD4⟩ := h4
      rw [ell, List.take_length] at hD4
      refine ⟨D2, es.map elB, rfl, sql (by rw [hD4, List.map_map]; rfl), _, rfl, ?_⟩
      cases hall2 : (es.map elB).all id with
      | false =>
        refine iteT (no s4 fun ⟨es', ys, e, c⟩ => ?_)
        cases e
        rw [c.eq] at hall2
        have : ((ys.map prE).map elB).all id = true := by
          rw [List.map_map, List.all_map]
          exact List.all_eq_true.mpr fun e he => decide_eq_true (c.pos e he)
        rw [this] at hall2
        cases hall2
      | true =>
      rw [List.all_map] at hall2
      have hpos : ∀ e ∈ es, elB e = true := fun e he => List.all_eq_true.mp hall2 e he
      have heq := posE hpos
      generalize hys : (es.map fun e => (nmE e, match e with | .pr _ i => i | _ => (0 : Int))) = ys at heq
      have hpe := hp
      rw [heq] at hpe
      obtain ⟨us, rfl, hpr, hnm⟩ := els_prs hpe
      have hpos2 : ∀ e ∈ ys, 1 ≤ e.2 := fun e he => by
        have : elB (prE e) = true := hpos _ (by rw [heq]; exact List.mem_map.mpr ⟨e, he, rfl⟩)
        exact of_decide_eq_true this
      refine iteF ⟨.ref a, rfl, a, rfl, ⟨_, (hS.same s4).seq⟩, fun D3 nD3 => ?_⟩
      refine lc_tup (xs := us.map V.ref) (fun i H5 => Same H H5 ∧ H5 D3 = some (.lst ((ys.take i).map fun e => V.str e.1))) ⟨s4.trans (same_upd nD3), upd_same⟩ (fun i H5 _ h5 => (hS.same h5.1).seq) (fun i x H5 hx h5 => ?_) (fun H5 h5 => ?_)
      · obtain ⟨t, ht, rfl⟩ := map_at hx
        obtain ⟨e, he, hat⟩ := paired_at hpr ht
        have hq : SqT K H5 t [.str e.1, .int e.2] := .inl (.inl (h5.1 _ _ hat))
        refine ⟨rfl, .ref t, rfl, t, _, _, _, rfl, rfl, hq, atI_nat (j := 0) rfl, _, h5.2, ?_, Same.put h5.1 (Same.gone s4 nD3), ?_⟩
        · have := (List.getElem?_eq_some_iff.mp ht).1
          rw [List.length_map] at hl
          rw [List.length_map, List.length_take, sizeLine_eq]
          omega
        · rw [upd_same, List.take_add_one, he, List.map_append]
          rfl
      obtain ⟨s5, hD5⟩ := h5
      rw [List.length_map, Paired.length hpr, List.take_length] at hD5
      have hyl : ys.length ≤ 1000 := by
        rw [← Paired.length hpr]
        rw [List.length_map] at hl
        exact hl
      have hD5' : H5 D3 = some (.lst ((ys.map (·.1)).map V.str)) := by rw [hD5, List.map_map]; rfl
      refine ⟨.ref D3, rfl, .ref D3, rfl, D3, ys.map (·.1), rfl, sql hD5', (by rw [List.length_map]; exact hyl), fun p n np hn => ?_⟩
      have hnl : n ≤ 1000 := by
        have := dcz_le (ys.map (·.1)) (ys.map (·.1)).length
        rw [List.length_map] at this
        rw [List.length_map] at hn
        omega
      refine ⟨p, _, n, rfl, upd_same, hnl, fun S l so hmem hSl nl => ?_⟩
      have ndS := dcz_nd hmem (by omega)
      have hmem2 : ∀ z, z ∈ S ↔ z ∈ ys.map (·.1) := fun z => (hmem z).trans (hasZ_all _ z)
      have s7 : Same H5 (upd (upd H5 p _) l (.lst (S.map V.str))) := Same.new (same_upd np) nl
      have n1 : ∀ z ∈ ys.map (·.1), Nm z := fun z hz => by
        obtain ⟨e, he, rfl⟩ := List.mem_map.mp hz
        exact hnm e he
      obtain ⟨l1, l2⟩ := lay_strs n1
      obtain ⟨l3, l4⟩ := lay_strs (zs := S) fun z hz => n1 z ((hmem2 z).mp hz)
      refine ⟨.list ((ys.map (·.1)).map PyData.str), .list (S.map PyData.str), .lst (sql (s7 _ _ hD5')) (dp_strs _), .lst (sql upd_same) (dp_strs _), ?_, ?_, ?_⟩
      · show (PyData.canLayAll0 ((ys.map (·.1)).map PyData.str) && decide (PyData.depthAll ((ys.map (·.1)).map PyData.str) + 1 ≤ 64)) = true
        rw [l1, l2]
        rfl
      · show (PyData.canLayAll0 (S.map PyData.str) && decide (PyData.depthAll (S.map PyData.str) + 1 ≤ 64)) = true
        rw [l3, l4]
        rfl
      · refine q _ _ (s5.trans s7) ?_
        show PyData.eqvAll ((ys.map (·.1)).map PyData.str) (S.map PyData.str) = true ↔ _
        rw [eqv_strs, names_asc so ndS hmem2]
        constructor
        · intro h
          refine ⟨es, ys, rfl, heq, hpos2, ?_⟩
          rw [List.pairwise_map] at h
          exact h
        · rintro ⟨es', ys', e, c⟩
          cases e
          have : ys = ys' := prE_inj (heq.symm.trans c.eq)
          rw [this, List.pairwise_map]
          exact c.asc
end
end Kb

namespace Kb
open PySem PySem.Spec PyProof.Rows L2 SrtZ SrtO
abbrev sis_truth : Stmt := topS 54
abbrev Nis_truth : List Str := ["_law_sketch_here", "_law_thing", "_law_counts", "_law_kept", "_law_taken", "_law_name", "_law_one"]
theorem scis_truth : FnScope ["_law_sketch_here", "_law_thing", "_law_counts", "_law_kept", "_law_taken", "_law_name", "_law_one"] ["_law_sketch_here", "_law_thing"] (defScope sis_truth) := ⟨rfl, rfl, rfl, by decide +kernel, rfl, by decide +kernel, by decide +kernel⟩
abbrev Dnis_truth (K : PySem.W.Frag) (mg : Str → Option Value) := Dn K mg "_law_is_truth" sis_truth ["_law_sketch_here", "_law_thing"]
theorem dg_open {H : Hp} {d : Addr} {kvs : Ct} (h : H d = some (.dK (kvs.map entZ))) (n : Str) : DGet H d (.str n) ((getZ kvs n).map V.int) := by
  rw [← getZ_val]
  exact DGet.k (k := Sum.inr n) h
theorem dg_lock {H : Hp} {d : Addr} {kvs : Ct} {od : Obj} (h : H d = some (.frz od (.dK (kvs.map entZ)))) (n : Str) : DGet H d (.str n) ((getZ kvs n).map V.int) := by
  rw [← getZ_val]
  exact .inl ⟨kvs.map entZ, Sum.inr n, .inr ⟨od, h⟩, rfl, rfl⟩
/-- with all kept names among them, the sum of what is taken is what is lost -/
theorem taken_sum {ks : Ct} (ndk : NdZ ks) : ∀ {ys : Ct}, NdZ ys → (∀ e ∈ ks, e.1 ∈ ys.map (·.1)) → (ys.map fun e => e.2 - gd ks e.1).sum = sumC ys - sumC ks
  | [], _, h => by
    have : ks = [] := by
      cases ks with
      | nil => rfl
      | cons e r => exact absurd (h e List.mem_cons_self) (by simp)
    rw [this]
    rfl
  | y :: ys, nd, h => by
    unfold NdZ at nd
    rw [List.map_cons, List.nodup_cons] at nd
    have ih := taken_sum (ks := wo y.1 ks) (wo_nd ndk) (ys := ys) nd.2 fun e he => by
      obtain ⟨h1, h2⟩ := List.mem_filter.mp he
      have h3 : ¬ e.1 = y.1 := by simpa using h2
      rcases List.mem_cons.mp (h e h1) with h4 | h4
      · exact absurd h4 h3
      · exact h4
    have hc : (ys.map fun e => e.2 - gd ks e.1) = ys.map fun e => e.2 - gd (wo y.1 ks) e.1 := by
      refine List.map_congr_left fun e he => ?_
      rw [wo_gd (n := y.1) (k := e.1) (fun z => nd.1 (by rw [← z]; exact List.mem_map.mpr ⟨e, he, rfl⟩)) ks]
    rw [List.map_cons, List.sum_cons, hc, ih, wo_sum ndk, sumC_cons']
    omega
section
variable {P : Program} {w : World} {K : PySem.W.Frag} {mg : Str → Option Value} {base : Heap}
/-! _law_is_truth -/
def spIsTruthL (K : PySem.W.Frag) : Sp := fun vs H Q _ => ∃ (s : Addr) (v : V) (r : Int) (x : Tl) (th : Option (List El)), vs = [.ref s, v] ∧ SkAt H s r x ∧ TlOk r x ∧ r ≤ 64 ∧ ThAt K H v th ∧ ∀ H' b, Same H H' → (b = true ↔ Tr x th) → Q (.bl b) H'
theorem ok_is_truthL (T : Blt mg) (dlost : Dnlost K mg) (dis_int : Dnis_int K mg) (dis_name : Dnis_name K mg) (dare_counts : Dnare_counts K mg) (d : Dnis_truth K mg) : FnOk P w K mg base CX0 3 d.f d.fd ["_law_sketch_here", "_law_thing"] (spIsTruthL K) := by
  have Glost : FnOk P w K mg base CX0 1 dlost.f dlost.fd ["_law_sketch_here"] spLost := ok_lost T dlost
  have Gare_counts : FnOk P w K mg base CX0 2 dare_counts.f dare_counts.fd ["_law_thing"] (spAreCountsA K) := ok_are_countsL T dis_int dis_name dare_counts
  refine d.F.ok scis_truth (fun vs H Q E h => ?_) (fun cdv A outer s H vs Q E hr h => ?_)
  · obtain ⟨s, v, r, x, th, rfl, _⟩ := h
    rfl
  · obtain ⟨sk, v, r, x, th, rfl, hsk, ok, hr2, hth, q⟩ := h
    have hu := hu_of hr
    refine ⟨_, (pss_cons (ps_if (pt_not (pt_val (pe_call Gare_counts (hr.mono (by omega)) (by rfl) dare_counts.g dare_counts.F.kp dare_counts.b .nil pass0 (pa_cons (pv 1) pa_nil))))
      (pss_one (ps_ret pe_bl))
      pss_nil)
    (pss_cons (ps_asg (pe_tup (pa_cons (pe_callTy (call_dictPT rfl) (by rfl) T.n_dict (by decide +kernel) (pa_cons (pv 1) pa_nil)) (pa_cons (pe_callTy (call_dictPT rfl) (by rfl) T.n_dict (by decide +kernel) (pa_cons (pe_ix ix_tup (pv 0) pe_int (fun _ _ => rfl)) pa_nil)) pa_nil))) (pg_tup (by rfl) (pgs_cons (pg_name (i := 2) scis_truth.nd rfl (Or.inr rfl)) (pgs_cons (pg_name (i := 3) scis_truth.nd rfl (Or.inr rfl)) pgs_nil))))
    (pss_cons (ps_if (pt_not (pt_val (pe_callB (cr_all rfl) (by rfl) T.n_all (by decide +kernel) (pa_cons (pe_lock (pe_lc (own := [("_law_name", 5)]) (g := gName 5) (tt := tYes) rfl scis_truth.nd (pi_keys (pv 3)) (blkOk_by (N := Nis_truth) (sc := defScope sis_truth) (by decide +kernel)) (fun _ _ _ _ _ => pg_name (i := 5) scis_truth.nd rfl (Or.inl rfl)) (fun _ _ _ _ _ => pts_nil) (fun _ _ _ _ _ => (pe_cmp (pc_din hu (pv 5) (pv 2)) rfl)))) pa_nil))))
      (pss_one (ps_ret pe_bl))
      pss_nil)
    (pss_cons (ps_lock (ps_setLc (i := 4) (own := [("_law_name", 5)]) (g := gName 5) (tt := tYes) rfl scis_truth.nd rfl rfl (sw_true rfl rfl rfl (by decide +kernel)) (pi_keys (pv 2)) (blkOk_by (N := Nis_truth) (sc := defScope sis_truth) (by decide +kernel)) (fun _ _ _ _ _ => pg_name (i := 5) scis_truth.nd rfl (Or.inl rfl)) (fun _ _ _ _ _ => pts_nil) (fun _ _ _ _ _ => (pe_op op_sub (pe_dget hu (pv 2) (pv 5) (fun _ _ => rfl)) (pe_dget2 hu (pv 3) (pv 5) pe_int ⟨rfl, rfl, rfl, rfl⟩)))))
    (pss_one (ps_ret (pe_and (pe_callB (cr_all rfl) (by rfl) T.n_all (by decide +kernel) (pa_cons (pe_lc (own := [("_law_one", 6)]) (g := gName 6) (tt := tYes) rfl scis_truth.nd (pi_list (pv 4)) (blkOk_by (N := Nis_truth) (sc := defScope sis_truth) (by decide +kernel)) (fun _ _ _ _ _ => pg_name (i := 6) scis_truth.nd rfl (Or.inl rfl)) (fun _ _ _ _ _ => pts_nil) (fun _ _ _ _ _ => (pe_chain op_le op_le pe_int (pv 6) (pe_ix (r := rIxT K) ix_tup (pv 0) pe_int (fun _ _ => rfl))))) pa_nil)) (pe_one (pe_cmpR op_eq (pe_callB (cr_sum rfl) (by rfl) T.n_sum (by decide +kernel) (pa_cons (pv 4) pa_nil)) (pe_call Glost (hr.mono (by omega)) (by rfl) dlost.g dlost.F.kp dlost.b .nil pass0 (pa_cons (pv 0) pa_nil)) (nomark _)))))))))), ?_⟩
    refine ⟨v, rfl, v, th, rfl, hth, fun H1 b s1 hb => ⟨b, rfl, ?_⟩⟩
    cases b with
    | false => exact iteT (q H1 false s1 ⟨fun z => (nomatch z), fun ⟨es, ys, e, c, _⟩ => hb.mpr ⟨es, ys, e, c⟩⟩)
    | true =>
    obtain ⟨es, ys, rfl, cn⟩ := hb.mp rfl
    have no : ∀ {H' : Hp}, Same H H' → ¬ TrB x ys → Q (.bl false) H' := fun s h => q _ false s ⟨fun z => (nomatch z), fun z => absurd (tr_cn cn z) h⟩
    obtain ⟨a, vs, rfl, hS, hpe, hvl⟩ := hth.same s1
    rw [cn.eq] at hpe
    obtain ⟨us, rfl, hpr, hnm⟩ := els_prs hpe
    have ndy := asc_nd cn.asc
    have yl : ys.length ≤ 1000 := by
      rw [← Paired.length hpr]
      rw [List.length_map] at hvl
      exact hvl
    obtain ⟨k, ts, hs0, hk, hp⟩ := hsk.same s1
    have ndk : NdZ (srtZ x.c) := srtZ_nd ok.nd
    have kl : (srtZ x.c).length ≤ 64 := by
      have h1 : (x.c.length : Int) ≤ r := ok.len
      have h2 := (srtZ_perm x.c).length_eq
      omega
    have gS : ∀ n, gd (srtZ x.c) n = gd x.c n := gd_srt ok.nd
    have mS : ∀ e, e ∈ srtZ x.c ↔ e ∈ x.c := fun e => (srtZ_perm x.c).mem_iff
    have sS : sumC (srtZ x.c) = sumC x.c := sumC_perm' (srtZ_perm x.c)
    refine iteF ⟨.ref a, rfl, a, us, ys.map entZ, rfl, hS, ents_paired (paired_imp (fun t e h => .inl (.inl h)) hpr), fun dc nc => ?_⟩
    rw [show mergeK [] (ys.map entZ) = ys.map entZ from mergeZ ys [] (by rw [List.nil_append]; exact ndy)]
    have s2 := same_upd (o := .dK (ys.map entZ)) nc
    have hc2 : (upd H1 dc (.dK (ys.map entZ))) dc = some (.dK (ys.map entZ)) := upd_same
    generalize upd H1 dc (.dK (ys.map entZ)) = H2 at s2 hc2 ⊢
    refine ⟨.ref sk, rfl, sk, _, _, _, rfl, rfl, .inl (.inl (s2 _ _ hs0)), atI_nat (j := 3) rfl, k, ts, (srtZ x.c).map entZ, rfl, hk.same s2, ents_paired (paired_imp (fun t e h => .inl (.inl (s2 _ _ h))) hp), fun dk nk => ?_⟩
    rw [show mergeK [] ((srtZ x.c).map entZ) = (srtZ x.c).map entZ from mergeZ (srtZ x.c) [] (by rw [List.nil_append]; exact ndk)]
    generalize hkv : srtZ x.c = kvs at hp ndk kl gS mS sS
    have s3 := same_upd (o := .dK (kvs.map entZ)) nk
    have hk3 : (upd H2 dk (.dK (kvs.map entZ))) dk = some (.dK (kvs.map entZ)) := upd_same
    generalize upd H2 dk (.dK (kvs.map entZ)) = H3 at s3 hk3 ⊢
    refine ⟨(by show 2 ≤ sizeLine; decide), fun tp ntp => ⟨tp, _, rfl, .inl (.inl upd_same), rfl, _, _, rfl, _, _, rfl, rfl, ?_⟩⟩
    have s34 := same_upd (o := .tup [.ref dc, .ref dk]) ntp
    have hk4 := s34 _ _ hk3
    have hc4 := s34 _ _ (s3 _ _ hc2)
    have s04 : Same H (upd H3 tp (.tup [.ref dc, .ref dk])) := ((s1.trans s2).trans s3).trans s34
    have hs4 : SqT K (upd H3 tp (.tup [.ref dc, .ref dk])) sk [.int r, .int x.m, .int x.o, .ref k] := .inl (.inl (s34 _ _ (s3 _ _ (s2 _ _ hs0))))
    generalize upd H3 tp (.tup [.ref dc, .ref dk]) = H4 at hk4 hc4 s04 hs4 ⊢
    have ne : dc ≠ dk := fun z => by
      subst z
      have := s2 _ _ hs0
      rw [hc2] at nk
      cases nk
    -- all kept names
    refine ⟨dk, _, hk4, trivial, fun od => ⟨.ref dk, rfl, dk, od, rfl, .inl ⟨_, upd_same, fun D nD => ?_⟩⟩⟩
    generalize hHl : upd H4 dk (.frz od (.dK (kvs.map entZ))) = Hl at nD ⊢
    have hlk : Hl dk = some (.frz od (.dK (kvs.map entZ))) := by rw [← hHl]; exact upd_same
    have hlc : Hl dc = some (.dK (ys.map entZ)) := by rw [← hHl, upd_ne ne]; exact hc4
    have kD : dk ≠ D := ne_of_none hlk nD
    refine lc_it (walk_keys (kvs := kvs.map entZ)) (fun i H5 => Same Hl H5 ∧ H5 D = some (.lst ((kvs.take i).map fun e => V.bl (getZ ys e.1).isSome)))
      ⟨same_upd nD, upd_same⟩ (fun i H5 _ h5 => h5.1 _ _ hlk) (fun i y H5 H6 hi h5 yy => ?_) (fun H5 h5 => ?_)
    · obtain ⟨rfl, kk, v', hkv', rfl⟩ := yy
      obtain ⟨e, he, hkv2⟩ := map_at hkv'
      cases hkv2
      obtain ⟨s5, hD⟩ := h5
      refine ⟨rfl, .str e.1, rfl, .ref dc, rfl, dc, _, rfl, dg_open (s5 _ _ hlc) e.1, _, hD, ?_, Same.put s5 nD, ?_⟩
      · rw [List.length_map, List.length_take, sizeLine_eq]
        omega
      · rw [Option.isSome_map, upd_same, List.take_add_one, he, List.map_append]
        rfl
    obtain ⟨s5, hD5⟩ := h5
    rw [List.length_map, List.take_length] at hD5
    refine ⟨s5 _ _ hlk, ?_⟩
    have s6 : Same H4 (upd H5 dk (.dK (kvs.map entZ))) := unlk hk4 (by rw [hHl]; exact s5)
    have hD6 : (upd H5 dk (.dK (kvs.map entZ))) D = some (.lst (kvs.map fun e => V.bl (getZ ys e.1).isSome)) := by rw [upd_ne kD.symm]; exact hD5
    generalize upd H5 dk (.dK (kvs.map entZ)) = H6 at s6 hD6 ⊢
    refine ⟨D, kvs.map fun e => (getZ ys e.1).isSome, rfl, sql (by rw [hD6, List.map_map]; rfl), _, rfl, ?_⟩
    have s06 := s04.trans s6
    cases hall : (kvs.map fun e => (getZ ys e.1).isSome).all id with
    | false =>
      refine iteT (no s06 fun t => ?_)
      have : (kvs.map fun e => (getZ ys e.1).isSome).all id = true := by
        rw [List.all_map]
        refine List.all_eq_true.mpr fun e he => ?_
        have hin := t.ins e ((mS e).mp he)
        show (getZ ys e.1).isSome = true
        cases hg : getZ ys e.1 with
        | some _ => rfl
        | none => exact absurd hin (getZ_none.mp hg)
      rw [this] at hall
      cases hall
    | true =>
    have ins : ∀ e ∈ kvs, e.1 ∈ ys.map (·.1) := fun e he => by
      rw [List.all_map] at hall
      have := List.all_eq_true.mp hall e he
      have : (getZ ys e.1).isSome = true := this
      by_cases hz : e.1 ∈ ys.map (·.1)
      · exact hz
      · rw [getZ_none.mpr hz] at this
        cases this
    refine iteF ?_
    -- taken
    have hc6 := s6 _ _ hc4
    have hk6 := s6 _ _ hk4
    refine ⟨dc, _, hc6, trivial, fun oe => ⟨.ref dc, rfl, dc, oe, rfl, .inl ⟨_, upd_same, fun D2 nD2 => ?_⟩⟩⟩
    generalize hHm : upd H6 dc (.frz oe (.dK (ys.map entZ))) = Hm at nD2 ⊢
    have hmc : Hm dc = some (.frz oe (.dK (ys.map entZ))) := by rw [← hHm]; exact upd_same
    have hmk : Hm dk = some (.dK (kvs.map entZ)) := by rw [← hHm, upd_ne ne.symm]; exact hk6
    have cD : dc ≠ D2 := ne_of_none hmc nD2
    refine lc_it (walk_keys (kvs := ys.map entZ)) (fun i H7 => Same Hm H7 ∧ H7 D2 = some (.lst ((ys.take i).map fun e => V.int (e.2 - gd kvs e.1))))
      ⟨same_upd nD2, upd_same⟩ (fun i H7 _ h7 => h7.1 _ _ hmc) (fun i y H7 H8 hi h7 yy => ?_) (fun H7 h7 => ?_)
    · obtain ⟨rfl, kk, v', hkv', rfl⟩ := yy
      obtain ⟨e, he, hkv2⟩ := map_at hkv'
      cases hkv2
      obtain ⟨s7, hD⟩ := h7
      refine ⟨rfl, .ref dc, rfl, .str e.1, rfl, dc, .int e.2, rfl, ?_, .ref dk, rfl, dk, rfl, .inl ⟨_, .inl (s7 _ _ hmk)⟩, .str e.1, rfl, _, dg_open (s7 _ _ hmk) e.1, e.2, gd kvs e.1, rfl, ?_, _, hD, ?_, Same.put s7 nD2, ?_⟩
      · have := dg_lock (s7 _ _ hmc) e.1
        rw [getZ_self ndy he] at this
        exact this
      · unfold gd
        cases getZ kvs e.1 <;> rfl
      · rw [List.length_map, List.length_take, sizeLine_eq]
        omega
      · rw [upd_same, List.take_add_one, he, List.map_append]
        rfl
    obtain ⟨s7, hD7⟩ := h7
    rw [List.length_map, List.take_length] at hD7
    refine ⟨s7 _ _ hmc, ?_⟩
    have s8 : Same H6 (upd H7 dc (.dK (ys.map entZ))) := unlk hc6 (by rw [hHm]; exact s7)
    have hD8 : (upd H7 dc (.dK (ys.map entZ))) D2 = some (.lst (ys.map fun e => V.int (e.2 - gd kvs e.1))) := by rw [upd_ne cD.symm]; exact hD7
    generalize upd H7 dc (.dK (ys.map entZ)) = H8 at s8 hD8 ⊢
    have s08 := s06.trans s8
    have hs8 := seqT hs4 (s6.trans s8)
    refine ⟨.ref D2, rfl, D2, rfl, ⟨_, sql hD8⟩, fun D3 nD3 => ?_⟩
    refine lc_list (xs := ys.map fun e => V.int (e.2 - gd kvs e.1)) (fun i H9 => Same H8 H9 ∧ H9 D3 = some (.lst ((ys.take i).map fun e => V.bl (decide (0 ≤ e.2 - gd kvs e.1) && decide (e.2 - gd kvs e.1 ≤ x.o))))) ⟨same_upd nD3, upd_same⟩ (fun i H9 _ h9 => sql (h9.1 _ _ hD8)) (fun i y H9 hy h9 => ?_) (fun H9 h9 => ?_)
    · obtain ⟨e, he, rfl⟩ := map_at hy
      obtain ⟨s9, hD⟩ := h9
      have fin : ∃ acc, H9 D3 = some (.lst acc) ∧ acc.length < sizeLine ∧ (Same H8 (upd H9 D3 (.lst (acc ++ [V.bl (decide (0 ≤ e.2 - gd kvs e.1) && decide (e.2 - gd kvs e.1 ≤ x.o))]))) ∧ (upd H9 D3 (.lst (acc ++ [V.bl (decide (0 ≤ e.2 - gd kvs e.1) && decide (e.2 - gd kvs e.1 ≤ x.o))]))) D3 = some (.lst ((ys.take (i + 1)).map fun e => V.bl (decide (0 ≤ e.2 - gd kvs e.1) && decide (e.2 - gd kvs e.1 ≤ x.o))))) := by
        refine ⟨_, hD, ?_, Same.put s9 nD3, ?_⟩
        · rw [List.length_map, List.length_take, sizeLine_eq]
          omega
        · rw [upd_same, List.take_add_one, he, List.map_append]
          rfl
      refine ⟨rfl, .int (e.2 - gd kvs e.1), rfl, _, _, rfl, rfl, decide (0 ≤ e.2 - gd kvs e.1), rfl, ?_⟩
      refine ite2 (fun c1 => ?_) fun c1 => ?_
      · refine ⟨.ref sk, rfl, sk, _, _, _, rfl, rfl, seqT hs8 s9, atI_nat (j := 2) rfl, _, _, rfl, rfl, ?_⟩
        rw [c1, Bool.true_and] at fin
        exact fin
      · rw [show decide (0 ≤ e.2 - gd kvs e.1) = false by simpa using c1, Bool.false_and] at fin
        exact fin
    obtain ⟨s9, hD9⟩ := h9
    rw [List.length_map, List.take_length] at hD9
    refine ⟨D3, ys.map fun e => (decide (0 ≤ e.2 - gd kvs e.1) && decide (e.2 - gd kvs e.1 ≤ x.o)), rfl, sql (by rw [hD9, List.map_map]; rfl), _, rfl, ?_⟩
    have s09 := s08.trans s9
    cases hall2 : (ys.map fun e => (decide (0 ≤ e.2 - gd kvs e.1) && decide (e.2 - gd kvs e.1 ≤ x.o))).all id with
    | false =>
      refine iteF (no s09 fun t => ?_)
      have : (ys.map fun e => (decide (0 ≤ e.2 - gd kvs e.1) && decide (e.2 - gd kvs e.1 ≤ x.o))).all id = true := by
        rw [List.all_map]
        refine List.all_eq_true.mpr fun e he => ?_
        show (decide (0 ≤ e.2 - gd kvs e.1) && decide (e.2 - gd kvs e.1 ≤ x.o)) = true
        rw [gS, decide_eq_true (t.lo e he), decide_eq_true (t.hi e he)]
        rfl
      rw [this] at hall2
      cases hall2
    | true =>
    have rg : ∀ e ∈ ys, 0 ≤ e.2 - gd x.c e.1 ∧ e.2 - gd x.c e.1 ≤ x.o := fun e he => by
      rw [List.all_map] at hall2
      have := List.all_eq_true.mp hall2 e he
      have h3 : (decide (0 ≤ e.2 - gd kvs e.1) && decide (e.2 - gd kvs e.1 ≤ x.o)) = true := this
      rw [Bool.and_eq_true, decide_eq_true_eq, decide_eq_true_eq, gS] at h3
      exact h3
    have tsum := taken_sum ndk ndy ins
    have hskn : SkAt H9 sk r x := hsk.same s09
    refine iteT ⟨.ref D2, rfl, D2, ys.map (fun e => e.2 - gd kvs e.1), rfl, sql (by rw [s9 _ _ hD8, List.map_map]; rfl), .ref sk, rfl, sk, r, x, rfl, hskn, ?_, fun H10 s10 => ⟨rfl, ?_⟩⟩
    · have h2 := (srtZ_perm x.c).length_eq
      rw [hkv] at h2
      omega
    · refine q H10 _ (s09.trans s10) ⟨fun z => ?_, fun z => ?_⟩
      · have e := of_decide_eq_true z
        injection e with e
        rw [tsum, sS] at e
        exact ⟨es, ys, rfl, cn, fun e he => (rg e he).1, fun e he => (rg e he).2, fun e he => ins e ((mS e).mpr he), by omega⟩
      · have t := (tr_cn cn z).sum
        refine decide_eq_true (congrArg V.int ?_)
        rw [tsum, sS]
        omega
end
end Kb

namespace Kb
open PySem PySem.Spec PyProof.Rows L2 SrtZ SrtO
abbrev sdeep : Stmt := topS 57
abbrev Ndeep : List Str := ["_law_hand_here", "_law_found", "_law_turn"]
theorem scdeep : FnScope ["_law_hand_here", "_law_found", "_law_turn"] ["_law_hand_here"] (defScope sdeep) := ⟨rfl, rfl, rfl, by decide +kernel, rfl, by decide +kernel, by decide +kernel⟩
abbrev Dndeep (K : PySem.W.Frag) (mg : Str → Option Value) := Dn K mg "_law_deep" sdeep ["_law_hand_here"]
theorem ElAt.exw {K : PySem.W.Frag} {a c : Addr} {H H' : Hp} {v : V} {e : El} (h : ElAt K H v e) (x : Exw a H H') (w0 : Wl a c H) (w1 : Wl a c H') : ElAt K H' v e := by
  cases e with
  | pr n i =>
    obtain ⟨t, e, h1, h2⟩ := h
    exact ⟨t, e, x.at w0 h1 (by intro _ z; cases z), h2⟩
  | prb n b =>
    obtain ⟨t, e, h1, h2⟩ := h
    exact ⟨t, e, x.at w0 h1 (by intro _ z; cases z), h2⟩
  | no =>
    rcases h with h | h | ⟨t, e, h⟩
    · exact .inl h
    · exact .inr (.inl h)
    · refine .inr (.inr ⟨t, e, ?_⟩)
      rcases h with ⟨xs, h⟩ | ⟨kvs, h⟩ | ⟨xs, ⟨o, h, d⟩, l⟩
      · by_cases ta : t = a
        · subst ta
          obtain ⟨_, ns, i, u, s, t', e1, _⟩ := w1
          exact .inl ⟨_, e1⟩
        · exact .inl ⟨xs, x _ _ ta h⟩
      · exact .inr (.inl ⟨kvs, x.at w0 h (by intro _ z; cases z)⟩)
      · exact .inr (.inr ⟨xs, ⟨o, x.at w0 h (by intro _ z; cases z), d⟩, l⟩)
/-- something that can be judged -/
def Th (K : PySem.W.Frag) (H : Hp) (v : V) : Prop := ∃ th, ThAt K H v th
theorem Th.same {K : PySem.W.Frag} {H H' : Hp} {v : V} (h : Th K H v) (s : Same H H') : Th K H' v := let ⟨th, h⟩ := h; ⟨th, h.same s⟩
theorem Th.exw {K : PySem.W.Frag} {a c : Addr} {H H' : Hp} {v : V} (h : Th K H v) (x : Exw a H H') (w0 : Wl a c H) (w1 : Wl a c H') : Th K H' v := by
  obtain ⟨th, h⟩ := h
  refine ⟨th, ?_⟩
  cases th with
  | some es =>
    obtain ⟨t, vs, e, ⟨o, h1, d⟩, h2, h3⟩ := h
    exact ⟨t, vs, e, ⟨o, x.at w0 h1 (by intro _ z; cases z), d⟩, paired_imp (fun v e h => h.exw x w0 w1) h2, h3⟩
  | none =>
    rcases h with h | h | ⟨t, e, h⟩
    · exact .inl h
    · exact .inr (.inl h)
    · refine .inr (.inr ⟨t, e, ?_⟩)
      rcases h with ⟨xs, h⟩ | ⟨kvs, h⟩
      · by_cases ta : t = a
        · subst ta
          obtain ⟨_, ns, i, u, s, t', e1, _⟩ := w1
          exact .inl ⟨_, e1⟩
        · exact .inl ⟨xs, x _ _ ta h⟩
      · exact .inr ⟨kvs, x.at w0 h (by intro _ z; cases z)⟩
theorem ElAt.putL {K : PySem.W.Frag} {H : Hp} {v : V} {e : El} {D : Addr} {xs ys : List V} (h : ElAt K H v e) (hD : H D = some (.lst xs)) : ElAt K (upd H D (.lst ys)) v e := by
  cases e with
  | pr n i =>
    obtain ⟨t, e, h1, h2⟩ := h
    exact ⟨t, e, by rw [upd_ne (ne_of h1 hD (by intro z; cases z))]; exact h1, h2⟩
  | prb n b =>
    obtain ⟨t, e, h1, h2⟩ := h
    exact ⟨t, e, by rw [upd_ne (ne_of h1 hD (by intro z; cases z))]; exact h1, h2⟩
  | no =>
    rcases h with h | h | ⟨t, e, h⟩
    · exact .inl h
    · exact .inr (.inl h)
    · refine .inr (.inr ⟨t, e, ?_⟩)
      rcases h with ⟨zs, h⟩ | ⟨kvs, h⟩ | ⟨zs, ⟨o, h, d⟩, l⟩
      · by_cases ta : t = D
        · subst ta
          exact .inl ⟨_, upd_same⟩
        · exact .inl ⟨zs, by rw [upd_ne ta]; exact h⟩
      · exact .inr (.inl ⟨kvs, by rw [upd_ne (ne_of h hD (by intro z; cases z))]; exact h⟩)
      · exact .inr (.inr ⟨zs, ⟨o, by rw [upd_ne (ne_of h hD (by intro z; cases z))]; exact h, d⟩, l⟩)
theorem Th.putL {K : PySem.W.Frag} {H : Hp} {v : V} {D : Addr} {xs ys : List V} (h : Th K H v) (hD : H D = some (.lst xs)) : Th K (upd H D (.lst ys)) v := by
  obtain ⟨th, h⟩ := h
  refine ⟨th, ?_⟩
  cases th with
  | some es =>
    obtain ⟨t, vs, e, ⟨o, h1, d⟩, h2, h3⟩ := h
    exact ⟨t, vs, e, ⟨o, by rw [upd_ne (ne_of h1 hD (by intro z; cases z))]; exact h1, d⟩, paired_imp (fun v e h => h.putL hD) h2, h3⟩
  | none =>
    rcases h with h | h | ⟨t, e, h⟩
    · exact .inl h
    · exact .inr (.inl h)
    · refine .inr (.inr ⟨t, e, ?_⟩)
      rcases h with ⟨zs, h⟩ | ⟨kvs, h⟩
      · by_cases ta : t = D
        · subst ta
          exact .inl ⟨_, upd_same⟩
        · exact .inl ⟨zs, by rw [upd_ne ta]; exact h⟩
      · exact .inr ⟨kvs, by rw [upd_ne (ne_of h hD (by intro z; cases z))]; exact h⟩
theorem els_of {K : PySem.W.Frag} {H : Hp} : ∀ {vs : List V}, (∀ v ∈ vs, ∃ e, ElAt K H v e) → ∃ es, Paired (ElAt K H) vs es
  | [], _ => ⟨[], .nil⟩
  | v :: vs, h => by
    obtain ⟨e, he⟩ := h v List.mem_cons_self
    obtain ⟨es, hs⟩ := els_of (vs := vs) fun y hy => h y (List.mem_cons_of_mem _ hy)
    exact ⟨e :: es, .cons he hs⟩
theorem Th.tup {K : PySem.W.Frag} {H : Hp} {a : Addr} {vs : List V} (h : Ptp H a vs) (hv : ∀ v ∈ vs, ∃ e, ElAt K H v e) (hl : vs.length ≤ 1000) : Th K H (.ref a) := by
  obtain ⟨es, hs⟩ := els_of hv
  exact ⟨some es, a, vs, rfl, h, hs, hl⟩
theorem Th.lst {K : PySem.W.Frag} {H : Hp} {a : Addr} {xs : List V} (h : H a = some (.lst xs)) : Th K H (.ref a) := ⟨none, .inr (.inr ⟨a, rfl, .inl ⟨xs, h⟩⟩)⟩
theorem Th.dic {K : PySem.W.Frag} {H : Hp} {a : Addr} {kvs : List (Key × V)} (h : H a = some (.dK kvs)) : Th K H (.ref a) := ⟨none, .inr (.inr ⟨a, rfl, .inr ⟨kvs, h⟩⟩)⟩
theorem Th.non {K : PySem.W.Frag} {H : Hp} : Th K H .non := ⟨none, .inl rfl⟩
theorem Th.str {K : PySem.W.Frag} {H : Hp} (z : Str) : Th K H (.str z) := ⟨none, .inr (.inl ⟨z, rfl⟩)⟩
section
variable {P : Program} {w : World} {K : PySem.W.Frag} {mg : Str → Option Value} {base : Heap}
/-! _law_deep -/
def spDeep (K : PySem.W.Frag) : Sp := fun vs H Q _ => ∃ (a c : Addr), vs = [.ref a] ∧ Wl a c H ∧ ∀ H' v, Exw a H H' → Wl a c H' → Th K H' v → Q v H'
theorem ok_deep (T : Blt mg) (ddraw : Dndraw K mg) (d : Dndeep K mg) : FnOk P w K mg base CX0 2 d.f d.fd ["_law_hand_here"] (spDeep K) := by
  have Gdraw : FnOk P w K mg base CX0 1 ddraw.f ddraw.fd ["_law_hand_here", "_law_many"] spDraw := ok_draw T ddraw
  refine d.F.ok scdeep (fun vs H Q E h => ?_) (fun cdv A outer s H vs Q E hr h => ?_)
  · obtain ⟨a, c, rfl, _⟩ := h
    rfl
  · obtain ⟨a, c, rfl, w0, q⟩ := h
    refine ⟨_, (pss_cons (ps_set (i := 1) scdeep.nd rfl (Or.inl rfl) (pe_ix ix_list (pe_lst (pa_cons pe_non (pa_cons (pe_tupF pa_nil) (pa_cons pe_int pa_nil)))) (pe_call Gdraw (hr.mono (by omega)) (by rfl) ddraw.g ddraw.F.kp ddraw.b .nil pass0 (pa_cons (pv 0) (pa_cons pe_int pa_nil))) (fun _ _ => rfl)))
    (pss_cons (ps_for PassesOwn.never rfl (pi_range1 (by rfl) T.n_range (pa_cons (pe_op op_add pe_int (pe_call Gdraw (hr.mono (by omega)) (by rfl) ddraw.g ddraw.F.kp ddraw.b .nil pass0 (pa_cons (pv 0) (pa_cons pe_int pa_nil)))) pa_nil)) (pg_name (i := 2) scdeep.nd rfl (Or.inl rfl))
      (pss_one (ps_set (i := 1) scdeep.nd rfl (Or.inl rfl) (pe_ix ix_list (pe_lst (pa_cons (pe_lst (pa_cons (pv 1) pa_nil)) (pa_cons (pe_tupF (pa_cons (pv 1) pa_nil)) (pa_cons (pe_disp (pps_cons pe_int (pv 1) pps_nil) rfl rfl (by simp) (by decide)) pa_nil)))) (pe_call Gdraw (hr.mono (by omega)) (by rfl) ddraw.g ddraw.F.kp ddraw.b .nil pass0 (pa_cons (pv 0) (pa_cons pe_int pa_nil))) (fun _ _ => rfl)))))
    (pss_one (ps_ret (pv 1))))), ?_⟩
    refine ⟨(by show 0 ≤ sizeLine; decide), fun t ob nt ho => ⟨(by show 3 ≤ sizeLine; decide), fun l nl => ?_⟩⟩
    have s1 := Same.new (o := .lst [.non, .ref t, .int 0]) (same_upd nt (o := .frz ob (.tup []))) nl
    have hl1 : (upd (upd H t (.frz ob (.tup []))) l (.lst [.non, .ref t, .int 0])) l = some (.lst [.non, .ref t, .int 0]) := upd_same
    have ht1 : Ptp (upd (upd H t (.frz ob (.tup []))) l (.lst [.non, .ref t, .int 0])) t [] := ⟨ob, by rw [upd_ne (ne_of_none upd_same nl)]; exact upd_same, ho⟩
    have la : l ≠ a := ((w0.same (same_upd nt)).ne2 nl).1
    generalize upd (upd H t (.frz ob (.tup []))) l (.lst [.non, .ref t, .int 0]) = H1 at s1 hl1 ht1 ⊢
    have w1 := w0.same s1
    refine ⟨.ref a, rfl, a, c, 3, rfl, w1, (by decide), (by decide), fun H2 r x2 w2 r0 r1 => ?_⟩
    obtain ⟨r, rfl⟩ := Int.eq_ofNat_of_zero_le r0
    have hl2 := x2 _ _ la hl1
    have x02 := (Same.exw s1).trans x2
    have ht2 : Ptp H2 t [] := by
      obtain ⟨ob', g1, g2⟩ := ht1
      exact ⟨ob', x2.at w1 g1 (by intro _ z; cases z), g2⟩
    obtain ⟨v0, hv0, e0⟩ : ∃ v, ([.non, .ref t, .int 0] : List V)[r]? = some v ∧ ElAt K H2 v .no := by
      have : r < 3 := by omega
      match r, this with
      | 0, _ => exact ⟨_, rfl, .inl rfl⟩
      | 1, _ => exact ⟨_, rfl, .inr (.inr ⟨t, rfl, .inr (.inr ⟨[], ht2, by decide⟩)⟩)⟩
      | 2, _ => exact ⟨_, rfl, .inr (.inl ⟨0, rfl⟩)⟩
    refine ⟨l, _, _, v0, rfl, rfl, sql hl2, atI_nat hv0, ?_⟩
    refine ⟨.ref a, rfl, a, c, 8, rfl, w2, (by decide), (by decide), fun H3 m x3 w3 m0 m1 => ⟨_, _, rfl, rfl, (14 + m : Int), rfl, by omega, by omega, ?_⟩⟩
    obtain ⟨m, rfl⟩ := Int.eq_ofNat_of_zero_le m0
    rw [show (14 + (m : Int)).toNat = 14 + m by omega]
    refine for_range (lo := 0) (n := 14 + m) (fun i σ H4 => ∃ (v : V) (y2 : Option V), σ = [some (.ref a), some v, y2] ∧ Exw a H H4 ∧ Wl a c H4 ∧ ElAt K H4 v .no ∧ (1 ≤ i → Th K H4 v))
      ⟨v0, none, rfl, x02.trans x3, w3, e0.exw x3 w2 w3, fun h => absurd h (by decide)⟩ ?_ ?_
    · rintro i σ H4 hi ⟨v, y2, rfl, x4, w4, e4, _⟩
      refine ⟨v, rfl, (by show 1 ≤ sizeLine; decide), fun l1 nl1 => ⟨v, rfl, (by show 1 ≤ sizeLine; decide), fun t1 ob1 nt1 ho1 => fun d1 nd1 => ⟨v, rfl, upd_same, [(Sum.inl 0, v)], rfl, (by show 1 ≤ 15; decide), (by show 3 ≤ sizeLine; decide), fun l2 nl2 => ?_⟩⟩⟩
      have s5 : Same H4 (upd (upd H4 l1 (.lst [v])) t1 (.frz ob1 (.tup [v]))) := Same.new (same_upd nl1) nt1
      have hl5 : (upd (upd H4 l1 (.lst [v])) t1 (.frz ob1 (.tup [v]))) l1 = some (.lst [v]) := by rw [upd_ne (ne_of_none upd_same nt1)]; exact upd_same
      have ht5 : Ptp (upd (upd H4 l1 (.lst [v])) t1 (.frz ob1 (.tup [v]))) t1 [v] := ⟨ob1, upd_same, ho1⟩
      generalize upd (upd H4 l1 (.lst [v])) t1 (.frz ob1 (.tup [v])) = H5 at s5 hl5 ht5 nd1 nl2 ⊢
      rw [upd_upd] at nl2 ⊢
      have s6 := same_upd (o := .dK (mergeK [] [((Sum.inl 0 : Key), v)])) nd1
      have hd6 : (upd H5 d1 (.dK (mergeK [] [((Sum.inl 0 : Key), v)]))) d1 = some (.dK (mergeK [] [((Sum.inl 0 : Key), v)])) := upd_same
      generalize upd H5 d1 (.dK (mergeK [] [((Sum.inl 0 : Key), v)])) = H6 at s6 hd6 nl2 ⊢
      have s7 := same_upd (o := .lst [.ref l1, .ref t1, .ref d1]) nl2
      have hl7 : (upd H6 l2 (.lst [.ref l1, .ref t1, .ref d1])) l2 = some (.lst [.ref l1, .ref t1, .ref d1]) := upd_same
      have s47 := (s5.trans s6).trans s7
      have l2a : l2 ≠ a := ((w4.same (s5.trans s6)).ne2 nl2).1
      generalize upd H6 l2 (.lst [.ref l1, .ref t1, .ref d1]) = H7 at s7 hl7 s47 ⊢
      have w7 := w4.same s47
      refine ⟨.ref a, rfl, a, c, 3, rfl, w7, (by decide), (by decide), fun H8 r8 x8 w8 r80 r81 => ?_⟩
      obtain ⟨r8, rfl⟩ := Int.eq_ofNat_of_zero_le r80
      have hl8 := x8 _ _ l2a hl7
      have e7 := e4.same s47
      have tl : Th K H7 (.ref l1) := Th.lst (s7 _ _ (s6 _ _ hl5))
      have tt : Th K H7 (.ref t1) := Th.tup ((ht5.same s6).same s7) (fun u hu => by rw [List.mem_singleton.mp hu]; exact ⟨.no, e7⟩) (by show 1 ≤ 1000; decide)
      have td : Th K H7 (.ref d1) := Th.dic (s7 _ _ hd6)
      obtain ⟨v8, hv8, e8, t8⟩ : ∃ u, ([.ref l1, .ref t1, .ref d1] : List V)[r8]? = some u ∧ ElAt K H7 u .no ∧ Th K H7 u := by
        have : r8 < 3 := by omega
        match r8, this with
        | 0, _ => exact ⟨_, rfl, .inr (.inr ⟨l1, rfl, .inl ⟨_, s7 _ _ (s6 _ _ hl5)⟩⟩), tl⟩
        | 1, _ => exact ⟨_, rfl, .inr (.inr ⟨t1, rfl, .inr (.inr ⟨[v], (ht5.same s6).same s7, by simp⟩)⟩), tt⟩
        | 2, _ => exact ⟨_, rfl, .inr (.inr ⟨d1, rfl, .inr (.inl ⟨_, s7 _ _ hd6⟩)⟩), td⟩
      exact ⟨l2, _, _, v8, rfl, rfl, sql hl8, atI_nat hv8, v8, _, rfl, (x4.same s47).trans x8, w8, e8.exw x8 w7 w8, fun _ => t8.exw x8 w7 w8⟩
    · rintro σ H4 ⟨v, y2, rfl, x4, w4, e4, t4⟩
      exact ⟨v, rfl, q H4 v x4 w4 (t4 (by omega))⟩
end
end Kb

namespace Kb
open PySem PySem.Spec PyProof.Rows L2 SrtZ SrtO
/-! things that may be trees, in a heap that goes on; _law_deep anew -/
theorem sqT_ob {K : PySem.W.Frag} {H H' : Hp} {a : Addr} {xs : List V} (h : SqT K H a xs) (f : ∀ o, (∀ ys, o ≠ .lst ys) → H a = some o → H' a = some o) : SqT K H' a xs := by
  rcases h with (h | ⟨o, h⟩) | h
  · exact .inl (.inl (f _ (by intro _ z; cases z) h))
  · exact .inl (.inr ⟨o, f _ (by intro _ z; cases z) h⟩)
  · exact .inr h
theorem sqT_exw {K : PySem.W.Frag} {a c b : Addr} {H H' : Hp} {xs : List V} (h : SqT K H b xs) (x : Exw a H H') (w0 : Wl a c H) : SqT K H' b xs := sqT_ob h fun o n e => x.at w0 e fun ys => n ys
theorem sqT_putL {K : PySem.W.Frag} {H : Hp} {b D : Addr} {xs ys zs : List V} (h : SqT K H b xs) (hD : H D = some (.lst ys)) : SqT K (upd H D (.lst zs)) b xs := sqT_ob h fun o n e => by rw [upd_ne (ne_of e hD (by intro z; exact n _ z))]; exact e
theorem sqL_exw {K : PySem.W.Frag} {a c b : Addr} {H H' : Hp} {xs : List V} (h : SqL K H b xs) (x : Exw a H H') (w0 : Wl a c H) (w1 : Wl a c H') : ∃ xs, SqL K H' b xs := by
  rcases h with (h | ⟨o, h⟩) | h
  · by_cases ta : b = a
    · subst ta
      obtain ⟨_, ns, i, u, s, t', e1, _⟩ := w1
      exact ⟨_, .inl (.inl e1)⟩
    · exact ⟨xs, .inl (.inl (x _ _ ta h))⟩
  · exact ⟨xs, .inl (.inr ⟨o, x.at w0 h (by intro _ z; cases z)⟩)⟩
  · exact ⟨xs, .inr h⟩
theorem sqL_putL {K : PySem.W.Frag} {H : Hp} {b D : Addr} {xs ys zs : List V} (h : SqL K H b xs) (hD : H D = some (.lst ys)) : ∃ xs, SqL K (upd H D (.lst zs)) b xs := by
  rcases h with (h | ⟨o, h⟩) | h
  · by_cases ta : b = D
    · subst ta
      exact ⟨_, .inl (.inl upd_same)⟩
    · exact ⟨xs, .inl (.inl (by rw [upd_ne ta]; exact h))⟩
  · exact ⟨xs, .inl (.inr ⟨o, by rw [upd_ne (ne_of h hD (by intro z; cases z))]; exact h⟩)⟩
  · exact ⟨xs, .inr h⟩
theorem eqS_map {K : PySem.W.Frag} {H H' : Hp} {x : V} {z : Str} {c : Bool} (h : EqS K H x z c) (fT : ∀ a xs, SqT K H a xs → SqT K H' a xs) (fL : ∀ a xs, SqL K H a xs → ∃ xs, SqL K H' a xs) (fD : ∀ a k, H a = some (.dK k) → H' a = some (.dK k)) : EqS K H' x z c := by
  rcases h with h | h | h | h | ⟨a, e, c, h⟩
  · exact .inl h
  · exact .inr (.inl h)
  · exact .inr (.inr (.inl h))
  · exact .inr (.inr (.inr (.inl h)))
  · refine .inr (.inr (.inr (.inr ⟨a, e, c, ?_⟩)))
    rcases h with ⟨xs, h⟩ | ⟨xs, h⟩ | ⟨k, h⟩
    · exact .inl (fL _ _ h)
    · exact .inr (.inl ⟨xs, fT _ _ h⟩)
    · exact .inr (.inr ⟨k, fD _ _ h⟩)
theorem StpAt.map {K : PySem.W.Frag} {H H' : Hp} {v : V} {t : Stp} (h : StpAt K H v t) (fT : ∀ a xs, SqT K H a xs → SqT K H' a xs) : StpAt K H' v t := by
  cases t with
  | put zs =>
    obtain ⟨a, b, e, h1, h2, h3⟩ := h
    exact ⟨a, b, e, fT _ _ h1, fT _ _ h2, h3⟩
  | pour =>
    obtain ⟨a, e, h1⟩ := h
    exact ⟨a, e, fT _ _ h1⟩
theorem SxAt.map {K : PySem.W.Frag} {H H' : Hp} {v : V} {t : Option Stp} (h : SxAt K H v t) (fT : ∀ a xs, SqT K H a xs → SqT K H' a xs) (fL : ∀ a xs, SqL K H a xs → ∃ xs, SqL K H' a xs) (fD : ∀ a k, H a = some (.dK k) → H' a = some (.dK k)) : SxAt K H' v t := by
  cases t with
  | some t => exact StpAt.map h fT
  | none =>
    rcases h with h | h | ⟨a, e, h⟩
    · exact .inl h
    · exact .inr (.inl h)
    · refine .inr (.inr ⟨a, e, ?_⟩)
      rcases h with ⟨xs, h⟩ | ⟨k, h⟩ | ⟨xs, h, h2⟩ | ⟨b, ys, h, h2⟩
      · exact .inl (fL _ _ h)
      · exact .inr (.inl ⟨k, fD _ _ h⟩)
      · refine .inr (.inr (.inl ⟨xs, fT _ _ h, ?_⟩))
        rcases h2 with h2 | ⟨x0, e2, h2⟩
        · exact .inl h2
        · exact .inr ⟨x0, e2, eqS_map h2 fT fL fD⟩
      · obtain ⟨ys', h2'⟩ := fL _ _ h2
        exact .inr (.inr (.inr ⟨b, ys', fT _ _ h, h2'⟩))
theorem TrAt.map {K : PySem.W.Frag} {H H' : Hp} {v : V} {t : Option (List (Option Stp))} (h : TrAt K H v t) (fT : ∀ a xs, SqT K H a xs → SqT K H' a xs) (fL : ∀ a xs, SqL K H a xs → ∃ xs, SqL K H' a xs) (fD : ∀ a k, H a = some (.dK k) → H' a = some (.dK k)) : TrAt K H' v t := by
  cases t with
  | some l =>
    obtain ⟨a, vs, e, h1, h2, h3⟩ := h
    exact ⟨a, vs, e, fT _ _ h1, paired_imp (fun _ _ h => h.map fT fL fD) h2, h3⟩
  | none =>
    rcases h with h | h | ⟨a, e, h⟩
    · exact .inl h
    · exact .inr (.inl h)
    · refine .inr (.inr ⟨a, e, ?_⟩)
      rcases h with ⟨xs, h⟩ | ⟨k, h⟩
      · exact .inl (fL _ _ h)
      · exact .inr ⟨k, fD _ _ h⟩
theorem SxAt.exw {K : PySem.W.Frag} {a c : Addr} {H H' : Hp} {v : V} {t : Option Stp} (h : SxAt K H v t) (x : Exw a H H') (w0 : Wl a c H) (w1 : Wl a c H') : SxAt K H' v t := h.map (fun _ _ h => sqT_exw h x w0) (fun _ _ h => sqL_exw h x w0 w1) fun _ _ h => x.at w0 h (by intro _ z; cases z)
theorem TrAt.exw {K : PySem.W.Frag} {a c : Addr} {H H' : Hp} {v : V} {t : Option (List (Option Stp))} (h : TrAt K H v t) (x : Exw a H H') (w0 : Wl a c H) (w1 : Wl a c H') : TrAt K H' v t := h.map (fun _ _ h => sqT_exw h x w0) (fun _ _ h => sqL_exw h x w0 w1) fun _ _ h => x.at w0 h (by intro _ z; cases z)
theorem TrAt.putL {K : PySem.W.Frag} {H : Hp} {v : V} {D : Addr} {xs ys : List V} {t : Option (List (Option Stp))} (h : TrAt K H v t) (hD : H D = some (.lst xs)) : TrAt K (upd H D (.lst ys)) v t := h.map (fun _ _ h => sqT_putL h hD) (fun _ _ h => sqL_putL h hD) fun _ _ h => by rw [upd_ne (ne_of h hD (by intro z; cases z))]; exact h
/-- a thing that is no step is not the word either -/
theorem sx_eqS {K : PySem.W.Frag} {H : Hp} {v : V} (h : SxAt K H v none) (z : Str) : EqS K H v z false := by
  rcases h with h | ⟨i, h⟩ | ⟨a, e, h⟩
  · exact .inl ⟨h, rfl⟩
  · exact .inr (.inl ⟨i, h, rfl⟩)
  · refine .inr (.inr (.inr (.inr ⟨a, e, rfl, ?_⟩)))
    rcases h with h | h | ⟨xs, h, _⟩ | ⟨b, ys, h, _⟩
    · exact .inl h
    · exact .inr (.inr h)
    · exact .inr (.inl ⟨_, h⟩)
    · exact .inr (.inl ⟨_, h⟩)
section
variable {P : Program} {w : World} {K : PySem.W.Frag} {mg : Str → Option Value} {base : Heap}
def spDeepT (K : PySem.W.Frag) : Sp := fun vs H Q _ => ∃ (a c : Addr), vs = [.ref a] ∧ Wl a c H ∧ ∀ H' v th, Exw a H H' → Wl a c H' → TrAt K H' v th → Q v H'
theorem ok_deepT (T : Blt mg) (ddraw : Dndraw K mg) (d : Dndeep K mg) : FnOk P w K mg base CX0 2 d.f d.fd ["_law_hand_here"] (spDeepT K) := by
  have Gdraw : FnOk P w K mg base CX0 1 ddraw.f ddraw.fd ["_law_hand_here", "_law_many"] spDraw := ok_draw T ddraw
  refine d.F.ok scdeep (fun vs H Q E h => ?_) (fun cdv A outer s H vs Q E hr h => ?_)
  · obtain ⟨a, c, rfl, _⟩ := h
    rfl
  · obtain ⟨a, c, rfl, w0, q⟩ := h
    refine ⟨_, (pss_cons (ps_set (i := 1) scdeep.nd rfl (Or.inl rfl) (pe_ix ix_list (pe_lst (pa_cons pe_non (pa_cons (pe_tupF pa_nil) (pa_cons pe_int pa_nil)))) (pe_call Gdraw (hr.mono (by omega)) (by rfl) ddraw.g ddraw.F.kp ddraw.b .nil pass0 (pa_cons (pv 0) (pa_cons pe_int pa_nil))) (fun _ _ => rfl)))
    (pss_cons (ps_for PassesOwn.never rfl (pi_range1 (by rfl) T.n_range (pa_cons (pe_op op_add pe_int (pe_call Gdraw (hr.mono (by omega)) (by rfl) ddraw.g ddraw.F.kp ddraw.b .nil pass0 (pa_cons (pv 0) (pa_cons pe_int pa_nil)))) pa_nil)) (pg_name (i := 2) scdeep.nd rfl (Or.inl rfl))
      (pss_one (ps_set (i := 1) scdeep.nd rfl (Or.inl rfl) (pe_ix ix_list (pe_lst (pa_cons (pe_lst (pa_cons (pv 1) pa_nil)) (pa_cons (pe_tupF (pa_cons (pv 1) pa_nil)) (pa_cons (pe_disp (pps_cons pe_int (pv 1) pps_nil) rfl rfl (by simp) (by decide)) pa_nil)))) (pe_call Gdraw (hr.mono (by omega)) (by rfl) ddraw.g ddraw.F.kp ddraw.b .nil pass0 (pa_cons (pv 0) (pa_cons pe_int pa_nil))) (fun _ _ => rfl)))))
    (pss_one (ps_ret (pv 1))))), ?_⟩
    refine ⟨(by show 0 ≤ sizeLine; decide), fun t ob nt ho => ⟨(by show 3 ≤ sizeLine; decide), fun l nl => ?_⟩⟩
    have s1 := Same.new (o := .lst [.non, .ref t, .int 0]) (same_upd nt (o := .frz ob (.tup []))) nl
    have hl1 : (upd (upd H t (.frz ob (.tup []))) l (.lst [.non, .ref t, .int 0])) l = some (.lst [.non, .ref t, .int 0]) := upd_same
    have ht1 : SqT K (upd (upd H t (.frz ob (.tup []))) l (.lst [.non, .ref t, .int 0])) t [] := .inl (.inr ⟨ob, by rw [upd_ne (ne_of_none upd_same nl)]; exact upd_same⟩)
    have la : l ≠ a := ((w0.same (same_upd nt)).ne2 nl).1
    generalize upd (upd H t (.frz ob (.tup []))) l (.lst [.non, .ref t, .int 0]) = H1 at s1 hl1 ht1 ⊢
    have w1 := w0.same s1
    refine ⟨.ref a, rfl, a, c, 3, rfl, w1, (by decide), (by decide), fun H2 r x2 w2 r0 r1 => ?_⟩
    obtain ⟨r, rfl⟩ := Int.eq_ofNat_of_zero_le r0
    have hl2 := x2 _ _ la hl1
    have x02 := (Same.exw s1).trans x2
    have ht2 : SqT K H2 t [] := sqT_exw ht1 x2 w1
    obtain ⟨v0, hv0, e0⟩ : ∃ v, ([.non, .ref t, .int 0] : List V)[r]? = some v ∧ SxAt K H2 v none := by
      have : r < 3 := by omega
      match r, this with
      | 0, _ => exact ⟨_, rfl, .inl rfl⟩
      | 1, _ => exact ⟨_, rfl, .inr (.inr ⟨t, rfl, .inr (.inr (.inl ⟨[], ht2, .inl rfl⟩))⟩)⟩
      | 2, _ => exact ⟨_, rfl, .inr (.inl ⟨0, rfl⟩)⟩
    refine ⟨l, _, _, v0, rfl, rfl, sql hl2, atI_nat hv0, ?_⟩
    refine ⟨.ref a, rfl, a, c, 8, rfl, w2, (by decide), (by decide), fun H3 m x3 w3 m0 m1 => ⟨_, _, rfl, rfl, (14 + m : Int), rfl, by omega, by omega, ?_⟩⟩
    obtain ⟨m, rfl⟩ := Int.eq_ofNat_of_zero_le m0
    rw [show (14 + (m : Int)).toNat = 14 + m by omega]
    refine for_range (lo := 0) (n := 14 + m) (fun i σ H4 => ∃ (v : V) (y2 : Option V), σ = [some (.ref a), some v, y2] ∧ Exw a H H4 ∧ Wl a c H4 ∧ SxAt K H4 v none ∧ (1 ≤ i → ∃ th, TrAt K H4 v th))
      ⟨v0, none, rfl, x02.trans x3, w3, e0.exw x3 w2 w3, fun h => absurd h (by decide)⟩ ?_ ?_
    · rintro i σ H4 hi ⟨v, y2, rfl, x4, w4, e4, _⟩
      refine ⟨v, rfl, (by show 1 ≤ sizeLine; decide), fun l1 nl1 => ⟨v, rfl, (by show 1 ≤ sizeLine; decide), fun t1 ob1 nt1 ho1 => fun d1 nd1 => ⟨v, rfl, upd_same, [(Sum.inl 0, v)], rfl, (by show 1 ≤ 15; decide), (by show 3 ≤ sizeLine; decide), fun l2 nl2 => ?_⟩⟩⟩
      have s5 : Same H4 (upd (upd H4 l1 (.lst [v])) t1 (.frz ob1 (.tup [v]))) := Same.new (same_upd nl1) nt1
      have hl5 : (upd (upd H4 l1 (.lst [v])) t1 (.frz ob1 (.tup [v]))) l1 = some (.lst [v]) := by rw [upd_ne (ne_of_none upd_same nt1)]; exact upd_same
      have ht5 : SqT K (upd (upd H4 l1 (.lst [v])) t1 (.frz ob1 (.tup [v]))) t1 [v] := .inl (.inr ⟨ob1, upd_same⟩)
      generalize upd (upd H4 l1 (.lst [v])) t1 (.frz ob1 (.tup [v])) = H5 at s5 hl5 ht5 nd1 nl2 ⊢
      rw [upd_upd] at nl2 ⊢
      have s6 := same_upd (o := .dK (mergeK [] [((Sum.inl 0 : Key), v)])) nd1
      have hd6 : (upd H5 d1 (.dK (mergeK [] [((Sum.inl 0 : Key), v)]))) d1 = some (.dK (mergeK [] [((Sum.inl 0 : Key), v)])) := upd_same
      generalize upd H5 d1 (.dK (mergeK [] [((Sum.inl 0 : Key), v)])) = H6 at s6 hd6 nl2 ⊢
      have s7 := same_upd (o := .lst [.ref l1, .ref t1, .ref d1]) nl2
      have hl7 : (upd H6 l2 (.lst [.ref l1, .ref t1, .ref d1])) l2 = some (.lst [.ref l1, .ref t1, .ref d1]) := upd_same
      have s47 := (s5.trans s6).trans s7
      have l2a : l2 ≠ a := ((w4.same (s5.trans s6)).ne2 nl2).1
      generalize upd H6 l2 (.lst [.ref l1, .ref t1, .ref d1]) = H7 at s7 hl7 s47 ⊢
      have w7 := w4.same s47
      refine ⟨.ref a, rfl, a, c, 3, rfl, w7, (by decide), (by decide), fun H8 r8 x8 w8 r80 r81 => ?_⟩
      obtain ⟨r8, rfl⟩ := Int.eq_ofNat_of_zero_le r80
      have hl8 := x8 _ _ l2a hl7
      have e7 := e4.same s47
      have hL : SqL K H7 l1 [v] := .inl (.inl (s7 _ _ (s6 _ _ hl5)))
      have hT := (seqT (seqT ht5 s6) s7)
      have hD := s7 _ _ hd6
      obtain ⟨v8, hv8, e8, th8, t8⟩ : ∃ u, ([.ref l1, .ref t1, .ref d1] : List V)[r8]? = some u ∧ SxAt K H7 u none ∧ ∃ th, TrAt K H7 u th := by
        have : r8 < 3 := by omega
        match r8, this with
        | 0, _ => exact ⟨_, rfl, .inr (.inr ⟨l1, rfl, .inl ⟨_, hL⟩⟩), none, .inr (.inr ⟨l1, rfl, .inl ⟨_, hL⟩⟩)⟩
        | 1, _ => exact ⟨_, rfl, .inr (.inr ⟨t1, rfl, .inr (.inr (.inl ⟨[v], hT, .inr ⟨v, rfl, sx_eqS e7 _⟩⟩))⟩), some [none], t1, [v], rfl, hT, .cons e7 .nil, by show 1 ≤ 100000; decide⟩
        | 2, _ => exact ⟨_, rfl, .inr (.inr ⟨d1, rfl, .inr (.inl ⟨_, hD⟩)⟩), none, .inr (.inr ⟨d1, rfl, .inr ⟨_, hD⟩⟩)⟩
      exact ⟨l2, _, _, v8, rfl, rfl, sql hl8, atI_nat hv8, v8, _, rfl, (x4.same s47).trans x8, w8, e8.exw x8 w7 w8, fun _ => ⟨th8, t8.exw x8 w7 w8⟩⟩
    · rintro σ H4 ⟨v, y2, rfl, x4, w4, e4, t4⟩
      obtain ⟨th, t4⟩ := t4 (by omega)
      exact ⟨v, rfl, q H4 v th x4 w4 t4⟩
end
end Kb

namespace Kb
open PySem PySem.Spec PyProof.Rows L2 SrtZ SrtO
/-! what the law's tree leads to -/
def sprd (kvs : Ct) : List Str := kvs.flatMap fun e => List.replicate e.2.toNat e.1
theorem getZ_app_new {kvs : Ct} {z : Str} {k : Int} (h : z ∉ kvs.map (·.1)) : getZ (kvs ++ [(z, k)]) z = some k := by
  unfold getZ
  rw [List.find?_append, List.find?_eq_none.mpr (fun e he q => h (List.mem_map.mpr ⟨e, he, of_decide_eq_true q⟩))]
  simp
theorem addZ_app {kvs : Ct} {z : Str} {k c : Int} (h : z ∉ kvs.map (·.1)) : addZ (kvs ++ [(z, k)]) z c = kvs ++ [(z, k + c)] := by
  unfold addZ
  rw [getZ_app_new h]
  unfold putZ
  rw [any_getZ, getZ_app_new h, if_pos (show (some k).isSome = true from rfl), List.map_append]
  congr 1
  · have : ∀ e ∈ kvs, (if e.1 = z then (e.1, (some k).getD 0 + c) else e) = e := fun e he => by
      rw [if_neg (fun q => h (List.mem_map.mpr ⟨e, he, q⟩))]
    rw [List.map_congr_left this, List.map_id']
  · simp
theorem full_no {r : Int} {n : Str} {kvs : Ct} (h : (getZ kvs n).isSome = true ∨ ¬ (kvs.length : Int) = r) : full r n kvs = false := by
  unfold full
  rcases h with h | h
  · rw [h]
    rfl
  · rw [decide_eq_false h, Bool.and_false]
theorem feed_new {r m o : Int} {z : Str} {kvs : Ct} (h : z ∉ kvs.map (·.1)) (hl : (kvs.length : Int) < r) : feedT r z 1 ⟨m, o, kvs⟩ = ⟨m + 1, o, kvs ++ [(z, 1)]⟩ := by
  unfold feedT
  dsimp only
  rw [full_no (.inr (by omega)), if_neg (by decide), if_pos (by decide)]
  unfold addZ
  rw [getZ_none.mpr h, putZ_snoc h]
  rfl
theorem feed_old {r m o k : Int} {z : Str} {kvs : Ct} (h : z ∉ kvs.map (·.1)) : feedT r z 1 ⟨m, o, kvs ++ [(z, k)]⟩ = ⟨m + 1, o, kvs ++ [(z, k + 1)]⟩ := by
  unfold feedT
  dsimp only
  rw [full_no (.inl (by rw [getZ_app_new h]; rfl)), if_neg (by decide), if_pos (by decide), addZ_app h]
theorem feeds_old {r o : Int} {z : Str} {kvs : Ct} (h : z ∉ kvs.map (·.1)) : ∀ (n : Nat) (m k : Int), feedsT r (List.replicate n z) ⟨m, o, kvs ++ [(z, k)]⟩ = ⟨m + n, o, kvs ++ [(z, k + n)]⟩
  | 0, m, k => by simp [feedsT]
  | n + 1, m, k => by
    show feedsT r (List.replicate n z) (feedT r z 1 ⟨m, o, kvs ++ [(z, k)]⟩) = _
    rw [feed_old h, feeds_old h n]
    have e1 : m + 1 + (n : Int) = m + ((n + 1 : Nat) : Int) := by omega
    have e2 : k + 1 + (n : Int) = k + ((n + 1 : Nat) : Int) := by omega
    rw [e1, e2]
theorem feeds_app {r : Int} (a b : List Str) (x : Tl) : feedsT r (a ++ b) x = feedsT r b (feedsT r a x) := by
  unfold feedsT
  rw [List.foldl_append]
theorem feeds_sprd {r o : Int} : ∀ (ks kvs : Ct) (m : Int), NdZ (kvs ++ ks) → (∀ e ∈ ks, 1 ≤ e.2) → ((kvs ++ ks).length : Int) ≤ r → feedsT r (sprd ks) ⟨m, o, kvs⟩ = ⟨m + sumC ks, o, kvs ++ ks⟩
  | [], kvs, m, _, _, _ => by
    show (⟨m, o, kvs⟩ : Tl) = ⟨m + 0, o, kvs ++ []⟩
    rw [List.append_nil, Int.add_zero]
  | e :: ks, kvs, m, nd, pos, len => by
    have hz : e.1 ∉ kvs.map (·.1) := fun z => by
      unfold NdZ at nd
      rw [List.map_append, List.nodup_append] at nd
      exact nd.2.2 _ z _ (List.mem_map.mpr ⟨e, List.mem_cons_self, rfl⟩) rfl
    have h1 := pos e List.mem_cons_self
    obtain ⟨n, hn⟩ : ∃ n : Nat, e.2.toNat = n + 1 := ⟨e.2.toNat - 1, by omega⟩
    have hl : (kvs.length : Int) < r := by
      rw [List.length_append, List.length_cons] at len
      omega
    have e0 : sprd (e :: ks) = List.replicate e.2.toNat e.1 ++ sprd ks := by
      unfold sprd
      rw [List.flatMap_cons]
    rw [e0, feeds_app, hn]
    show feedsT r (sprd ks) (feedsT r (List.replicate n e.1) (feedT r e.1 1 ⟨m, o, kvs⟩)) = _
    rw [feed_new hz hl, feeds_old hz n]
    have e1 : (1 : Int) + (n : Int) = e.2 := by omega
    rw [e1]
    have e2 : kvs ++ (e.1, e.2) :: ks = kvs ++ [(e.1, e.2)] ++ ks := by rw [List.append_assoc]; rfl
    rw [feeds_sprd ks (kvs ++ [(e.1, e.2)]) (m + 1 + n) (by rw [← e2]; exact nd) (fun f hf => pos f (List.mem_cons_of_mem _ hf)) (by rw [← e2]; exact len)]
    have e3 : m + 1 + (n : Int) + sumC ks = m + sumC (e :: ks) := by
      unfold sumC
      rw [List.map_cons, List.sum_cons]
      omega
    rw [e3, ← e2]
def ones (l : List Str) : Ct := l.map fun z => (z, 1)
theorem sprd_ones : ∀ l : List Str, sprd (ones l) = l
  | [] => rfl
  | z :: l => by
    have := sprd_ones l
    unfold sprd ones at this ⊢
    rw [List.map_cons, List.flatMap_cons, this]
    rfl
theorem ones_keys (l : List Str) : (ones l).map (·.1) = l := by
  unfold ones
  rw [List.map_map]
  exact List.map_id' l
theorem sum_ones : ∀ l : List Str, sumC (ones l) = (l.length : Int)
  | [] => rfl
  | z :: l => by
    have := sum_ones l
    unfold sumC ones at this ⊢
    rw [List.map_cons, List.map_cons, List.sum_cons, this, List.length_cons]
    show 1 + (l.length : Int) = ((l.length + 1 : Nat) : Int)
    omega
theorem feeds_ones {r : Int} {l : List Str} (nd : l.Nodup) (hl : (l.length : Int) ≤ r) : feedsT r l tl0 = ⟨(l.length : Int), 0, ones l⟩ := by
  have h := feeds_sprd (r := r) (o := 0) (ones l) [] 0 (by unfold NdZ; rw [List.nil_append, ones_keys]; exact nd) (fun e he => by
    obtain ⟨z, _, rfl⟩ := List.mem_map.mp he
    exact Int.le_refl _) (by rw [List.nil_append]; unfold ones; rw [List.length_map]; exact hl)
  rw [sprd_ones, List.nil_append, Int.zero_add, sum_ones] at h
  exact h
theorem sumsZ_new : ∀ (more kvs : Ct), NdZ (kvs ++ more) → sumsZ more kvs = kvs ++ more
  | [], kvs, _ => (List.append_nil _).symm
  | e :: more, kvs, nd => by
    have hz : e.1 ∉ kvs.map (·.1) := fun z => by
      unfold NdZ at nd
      rw [List.map_append, List.nodup_append] at nd
      exact nd.2.2 _ z _ (List.mem_map.mpr ⟨e, List.mem_cons_self, rfl⟩) rfl
    show sumsZ more (addZ kvs e.1 e.2) = _
    have e1 : addZ kvs e.1 e.2 = kvs ++ [e] := by
      unfold addZ
      rw [getZ_none.mpr hz, putZ_snoc hz]
      show kvs ++ [(e.1, 0 + e.2)] = _
      rw [Int.zero_add]
    have e2 : kvs ++ e :: more = kvs ++ [e] ++ more := by rw [List.append_assoc]; rfl
    rw [e1, e2, sumsZ_new more (kvs ++ [e]) (by rw [← e2]; exact nd)]
theorem mem_ones {l : List Str} {e : Str × Int} (h : e ∈ ones l) : e.2 = 1 := by
  obtain ⟨z, _, rfl⟩ := List.mem_map.mp h
  rfl
/-- two streams of unlike names, together above room, poured: nothing is kept, one is taken off -/
theorem layer_pour {rn : Nat} {l : List Str} (nd : l.Nodup) (h1 : rn < l.length) : pourT rn (skT ⟨((l.drop rn).length : Int), 0, ones (l.drop rn)⟩) ⟨((l.take rn).length : Int), 0, ones (l.take rn)⟩ = ⟨(l.length : Int), 1, []⟩ := by
  have ndo : NdZ (ones (l.drop rn)) := by unfold NdZ; rw [ones_keys]; exact nd.sublist (List.drop_sublist _ _)
  have hp := srtZ_perm (ones (l.drop rn))
  have nd2 : NdZ (ones (l.take rn) ++ srtZ (ones (l.drop rn))) := by
    unfold NdZ
    have : ((ones (l.take rn) ++ srtZ (ones (l.drop rn))).map (·.1)).Perm l := by
      rw [List.map_append, ones_keys]
      have h2 := hp.map (·.1)
      rw [ones_keys] at h2
      have h3 := List.Perm.append_left (l.take rn) h2
      rw [List.take_append_drop] at h3
      exact h3
    exact this.nodup_iff.mpr nd
  unfold pourT skT
  dsimp only
  rw [sumsZ_new _ _ nd2]
  have hlen : (ones (l.take rn) ++ srtZ (ones (l.drop rn))).length = l.length := by
    rw [List.length_append, hp.length_eq]
    unfold ones
    rw [List.length_map, List.length_map, List.length_take, List.length_drop]
    omega
  have hall : ∀ e ∈ ones (l.take rn) ++ srtZ (ones (l.drop rn)), e.2 = 1 := fun e he => by
    rcases List.mem_append.mp he with h | h
    · exact mem_ones h
    · exact mem_ones (hp.mem_iff.mp h)
  generalize ones (l.take rn) ++ srtZ (ones (l.drop rn)) = all at hlen hall
  rw [if_pos (by omega)]
  have hf : fallZ all rn = 1 := by
    unfold fallZ
    rw [Int.toNat_natCast]
    have hpm := List.mergeSort_perm (all.map (·.2)) (fun a b => decide (b ≤ a))
    have hl : rn < ((all.map (·.2)).mergeSort (fun a b => decide (b ≤ a))).length := by rw [hpm.length_eq, List.length_map]; omega
    have eg : ((all.map (·.2)).mergeSort (fun a b => decide (b ≤ a))).getD rn 0 = ((all.map (·.2)).mergeSort (fun a b => decide (b ≤ a)))[rn] := by
      rw [List.getD_eq_getElem?_getD, List.getElem?_eq_getElem hl]
      rfl
    rw [eg]
    have hm := hpm.mem_iff.mp (List.getElem_mem hl)
    obtain ⟨e, he, h⟩ := List.mem_map.mp hm
    rw [← h]
    exact hall e he
  rw [hf]
  have ht : takeZ 1 all = [] := by
    unfold takeZ
    rw [List.filter_eq_nil_iff.mpr (fun e he q => by
      have := of_decide_eq_true q
      rw [hall e he] at this
      omega)]
    rfl
  rw [ht]
  have e1 : ((l.take rn).length : Int) + ((l.drop rn).length : Int) = (l.length : Int) := by
    rw [List.length_take, List.length_drop]
    omega
  rw [e1]
  rfl
theorem layer_base {r : Int} {m o : Int} {kvs : Ct} {n : Int} (h : (kvs.length : Int) ≤ r) : pourT r (skT ⟨n, 1, []⟩) ⟨m, o, kvs⟩ = ⟨m + n, o + 1, kvs⟩ := by
  unfold pourT skT
  dsimp only
  have e : srtZ [] = [] := List.Perm.eq_nil (srtZ_perm [])
  rw [e]
  show (if r < (kvs.length : Int) then _ else _) = _
  rw [if_neg (by omega)]
  rfl
/-! the tree is one -/
theorem sprd_len : ∀ {kvs : Ct}, (∀ e ∈ kvs, 1 ≤ e.2) → ((sprd kvs).length : Int) = sumC kvs
  | [], _ => rfl
  | e :: kvs, h => by
    have ih := sprd_len (kvs := kvs) fun f hf => h f (List.mem_cons_of_mem _ hf)
    have h1 := h e List.mem_cons_self
    unfold sprd sumC at ih ⊢
    rw [List.flatMap_cons, List.length_append, List.length_replicate, List.map_cons, List.sum_cons, ← ih]
    omega
theorem sprd_mem {kvs : Ct} {z : Str} (h : z ∈ sprd kvs) : ∃ e ∈ kvs, e.1 = z := by
  unfold sprd at h
  obtain ⟨e, he, h⟩ := List.mem_flatMap.mp h
  exact ⟨e, he, (List.eq_of_mem_replicate h).symm⟩
theorem sumC_cons (e : Str × Int) (kvs : Ct) : sumC (e :: kvs) = e.2 + sumC kvs := by
  unfold sumC
  rw [List.map_cons, List.sum_cons]
theorem sumC_perm {a b : Ct} (p : a.Perm b) : sumC a = sumC b := by
  induction p with
  | nil => rfl
  | cons x _ ih => rw [sumC_cons, sumC_cons, ih]
  | swap x y l =>
    rw [sumC_cons, sumC_cons, sumC_cons, sumC_cons]
    omega
  | trans _ _ ih1 ih2 => rw [ih1, ih2]
theorem cut_to {xs : List V} {n : Nat} : cutV xs none (some (n : Int)) = xs.take n := by
  unfold cutV
  rw [HT.sIx_nat, HT.sIx_none, List.drop_zero, Nat.sub_zero]
  by_cases h : n ≤ xs.length
  · rw [Nat.min_eq_left h]
  · rw [Nat.min_eq_right (by omega), List.take_of_length_le (Nat.le_refl _), List.take_of_length_le (by omega)]
theorem cut_from {xs : List V} {n : Nat} : cutV xs (some (n : Int)) none = xs.drop n := by
  unfold cutV
  rw [HT.sIx_nat, HT.sIx_none]
  by_cases h : n ≤ xs.length
  · rw [Nat.min_eq_left h, List.take_of_length_le (by rw [List.length_drop]; omega)]
  · rw [Nat.min_eq_right (by omega), List.drop_of_length_le (Nat.le_refl _), List.drop_of_length_le (by omega), List.take_nil]
end Kb

/-! own rules: a lambda handed to sorted as its key -/
namespace FlX
open PySem PySem.Spec PyProof.Rows PySem.W L2 LamX SrtZ
/-- a lambda that stands at f -/
def LamO (f : Addr) (qual : Str) (params : Arguments) (body : Expr) (scope : Scope) (c' : Addr) : HO := .ext fun h => ∃ pm ctv, h.get? f = some (kla_obj "<lambda>" qual params body scope [] pm c' ctv)
theorem LamO.mk {P : Program} {w : World} {H : Hp} {h : Heap} {f c' : Addr} {qual : Str} {params : Arguments} {body : Expr} {scope : Scope} {pm ctv : Value} (e : h.get? f = some (kla_obj "<lambda>" qual params body scope [] pm c' ctv)) :
    ObjOk P w H h f (LamO f qual params body scope c') :=
  ⟨⟨pm, ctv, e⟩, ⟨_, e⟩, fun h1 h2 ⟨b, c, q⟩ k => ⟨b, c, k _ q⟩⟩
/-- what the key does: less the second -/
structure NegSnd (params : Arguments) (bd : Expr) (scope : Scope) : Prop where
  kind : scope.kind = .function
  co : scope.isCoroutine = false
  gen : scope.isGenerator = false
  loc : scope.names.lookup ("pair" : Str) = some NameKind.local
  cell : ∀ y ∈ scope.names, y.2 ≠ NameKind.cell
  bdy : ∃ p1 p2 p3 p4 j, bd = .UnaryOp .USub (.Subscript (.Name "pair" p1) (.Constant (.int 1) j p2) p3) p4
  bind : ∀ (q : Str) (cl : List (Str × Addr)) (pm cv ctv u : Value), bindArgs (kla_fn "<lambda>" q params bd scope cl pm cv ctv) ⟨[u], []⟩ = pure [(("pair" : Str), u)]
/-- the greatest second first, alike ones in their turns -/
def fallBy {α : Type} (k : α → Int) (l : List α) : List α := l.mergeSort fun a b => decide (-(k a) ≤ -(k b))
section
variable {prog : Program} {w : World} {A : Around} {E : Value → Shared → Prop} {s : Shared}
theorem neg_snd {A' : Around} {env : Env} {t : Addr} {x : Str} {n : Int} {tx tn : Tok} {m : Str → Option Value} {p1 p2 p3 p4 : Pos} {j : Nat} {Q : Value → Shared → Prop} (hk : env.scope.kind = .function) (hl : env.kindOf "pair" = some .local)
    (hn : s.heap.Ns env.locals m) (hm : m "pair" = some (.ref t)) (ht : IsTup s.heap t #[.str x tx, .int n tn]) (q : ∀ tk tk2, Q (.int (-n) tk) { s with toks := tk2 }) :
    wpAny (model prog w) A' (eval (.UnaryOp .USub (.Subscript (.Name "pair" p1) (.Constant (.int 1) j p2) p3) p4) env) Q E s := by
  refine UnaryOp_ (Subscript_ (wpAny_Name (wpAny_loadName_local hk hl hn hm ?_)))
  refine wpAny_Constant_int ?_
  have ht' : IsTup ({ s with toks := s.toks + 1 } : Shared).heap t #[.str x tx, .int n tn] := ht
  refine subscriptTail_builtinR (x := .int n tn) (s := { s with toks := s.toks + 1 }) ht'.typeIs slot_tuple_getitem.lookup
    (getItem_tuple (j := 1) ht' (by decide) (by decide) rfl rfl ⟨rfl, ?_⟩)
  exact neg_int (q _ _)
/-- f(t) for the key f and a tuple t -/
theorem lam_call {A : Around} {f c' t : Addr} {qual x : Str} {n : Int} {tx tn : Tok} {params : Arguments} {body : Expr} {scope : Scope} {pm ctv : Value} {E : Value → Shared → Prop} (N : NegSnd params body scope) (hd : A.depth < recursionLimit) (hlim : s.heap.NoLimit)
    (ho : s.heap.get? f = some (kla_obj "<lambda>" qual params body scope [] pm c' ctv)) (hc : s.heap.CodeRec (.ref c') qual) (ht : IsTup s.heap t #[.str x tx, .int n tn]) :
    wpAny (model prog w) A (call (.ref f) [.ref t]) (KeyPure (.int (-n)) s) E s := by
  obtain ⟨p1, p2, p3, p4, j, hb⟩ := N.bdy
  refine wpAny_call (kla_callFunE hd ho rfl N.co N.gen rfl hc ?_)
  rw [N.bind]
  refine wpAny_pure (wpAny_newFunctionEnv N.cell (fun y hy => ?_) (fun h₁ hns hsb => ⟨hlim.fresh _ hsb, ?_⟩) N.kind)
  · rw [List.mem_singleton.mp hy]
    exact N.loc
  show codeAny _ _ (.expr body (envX qual scope s.heap.objs.size f (.ref c') [])) _ _
  have kp : ∀ b o, s.heap.get? b = some o → h₁.get? b = some o := fun b o e => hsb.extBut b o (Nat.ne_of_lt (Heap.lt_size e)) (Heap.get?_push_of_some _ e)
  have ht1 : IsTup h₁ t #[.str x tx, .int n tn] := by
    obtain ⟨o, e, c⟩ := ht
    exact ⟨o, kp _ _ e, c⟩
  refine kla_codeExpr ?_
  rw [hb]
  refine neg_snd (s := { s with heap := h₁, toks := s.toks + ([(("pair" : Str), Value.ref t)]).length }) N.kind N.loc hns (by simp) ht1 fun tk tk2 => ?_
  exact ⟨h₁, tk2, rfl, kp, .int _ _⟩
end
end FlX

namespace FlX
open PySem PySem.Spec PyProof.Rows PySem.W L2 LamX SrtZ
section
variable {prog : Program} {w : World} {A : Around} {E : Value → Shared → Prop} {s : Shared}
/-- what is collected of a tuple -/
theorem gather_tup {l : Addr} {vs : List Value} {Q : List Value → Shared → Prop} (hl : IsTup s.heap l vs.toArray)
    (h : Q vs { s with heap := (s.heap.push (seqObj "list" #[] 0)).update s.heap.objs.size (Obj.mapSeq (· ++ vs.toArray)) }) (hsz : vs.length ≤ sizeLine) :
    wpAny (model prog w) A (collect (.ref l)) Q E s := by
  obtain ⟨o, ho, hc, n, hd⟩ := id hl
  unfold collect
  refine wpAny_bind (wpAny_runValue (codeAny_builtin entry_proto_collect' ?_))
  refine wpAny_bind (m := newList []) (wpAny_newList (wpAny_pure ⟨Code.quiet_builtin _ (by decide +kernel), codeAny_builtin entry_list_iadd' ?_⟩))
  have hT : ({ s with heap := s.heap.push (seqObj "list" #[] 0) } : Shared).heap.get? l = some o := Heap.get?_push_of_some _ ho
  have hL : ({ s with heap := s.heap.push (seqObj "list" #[] 0) } : Shared).heap.get? s.heap.objs.size = some (seqObj "list" #[] 0) := Heap.get?_push_size _ rfl
  show wpAny (model prog w) _ (Builtin.List.listExtendWith (.ref s.heap.objs.size) (.ref l) (.ref s.heap.objs.size)) _ _ { s with heap := s.heap.push (seqObj "list" #[] 0) }
  unfold Builtin.List.listExtendWith
  refine wpAny_bind (wpAny_typeOf (T := "tuple") (v := .ref l) ⟨o, hT, hc⟩ ?_)
  rw [if_pos (by simp)]
  refine wpAny_bind (listItems_at hT hd ?_)
  refine wpAny_bind (listItems_at hL rfl ?_)
  rw [if_neg (by simp)]
  refine wpAny_bind (listUpdate_at hL rfl ?_ (Nat.zero_le _) (by simp only [Array.size_append, List.size_toArray]; show 0 + vs.length ≤ _; omega))
  refine wpAny_pure ?_
  refine wpAny_bind (m := load s.heap.objs.size) (wpAny_load (get?_update_seq (Heap.get?_push_size _ rfl) _) ?_)
  have e : ((#[] : Array Value) ++ vs.toArray).toList = vs := by simp
  show wpAny _ _ (pure ((#[] : Array Value) ++ vs.toArray).toList) Q E _
  rw [e]
  exact wpAny_pure h
/-- sorted(t, key=f) of a tuple is a sort by the key of a new list -/
theorem sorted_tup {l q : Addr} {vs : List Value} {Q : Value → Shared → Prop} (hl : IsTup s.heap l vs.toArray) (hL : vs.length ≤ sizeLine)
    (body : ∀ E' : Value → Shared → Prop, wpAny (model prog w) A.in1.in1 (Builtin.«list.sort» ⟨[.ref (s.heap.objs.size + 1)], [(Str.ofString "key", .ref q)]⟩) (fun f s' => f = .done (.ret .none) ∧ Q (.ref (s.heap.objs.size + 1)) s') E' { s with heap := copyHeap s.heap vs }) :
    wpAny (model prog w) A (call (.builtin "sorted") [.ref l] [(Str.ofString "key", .ref q)]) Q E s := by
  refine call_function_entry_kw kind_sorted plain_sorted entry_sorted (ksk_s1 _ _) ?_
  unfold Builtin.«sorted»
  refine wpAny_bind (m := checkCount "sorted" 1 1 _) (wpAny_pure ?_)
  refine wpAny_bind (gather_tup hl ?_ hL)
  refine wpAny_bind (wpAny_newList ?_ hL)
  have hsz : ((s.heap.push (seqObj "list" #[] 0)).update s.heap.objs.size (Obj.mapSeq (· ++ vs.toArray))).objs.size = s.heap.objs.size + 1 := by
    rw [Heap.size_update, size_push']
  rw [show (({ s with heap := (s.heap.push (seqObj "list" #[] 0)).update s.heap.objs.size (Obj.mapSeq (· ++ vs.toArray)) } : Shared).heap.objs.size) = s.heap.objs.size + 1 from hsz]
  refine wpAny_bind (wpAny_holding (wpAny_call_entry_kw slot_list_sort ⟨_, copyHeap_at s.heap vs, rfl⟩ entry_list_sort ?_ (ksk_l1 _ _)))
  refine wpAny_mono (body _) (fun f s' hf => ?_) fun _ _ e => e
  obtain ⟨rfl, hq⟩ := hf
  exact ⟨_, rfl, wpAny_pure ⟨_, rfl, hq⟩⟩
end
end FlX

namespace FlX
open PySem PySem.Spec PyProof.Rows PySem.W L2 LamX SrtZ
section
variable {prog : Program} {w : World} {A : Around} {E : Value → Shared → Prop} {s : Shared} {β : Type} {vs : List Value} {bs : List β} {R : Value → β → Prop}
/-- sorted(t, key=f) of a tuple -/
theorem sorted_key_tup {l q : Addr} {Q : Value → Shared → Prop} (k : β → PyData) (hl : IsTup s.heap l vs.toArray) (e : EachIs R vs bs) (hal : AllAlike (bs.map k)) (hk : Sortable (bs.map k)) (hL : bs.length ≤ sizeLine)
    (hu : ∀ x, x ∈ bs → A.units + 2 + (k x).depth < cLine)
    (turn : ∀ (v : Value) (x : β), R v x → x ∈ bs → ∀ (h : Heap) (tk : Nat), (∀ b o, s.heap.get? b = some o → h.get? b = some o) →
      wpAny (model prog w) A.in1.in1 (call (.ref q) [v]) (KeyPure (k x) { s with heap := h, toks := tk }) (fun _ _ => False) { s with heap := h, toks := tk })
    (h : ∀ out c h' tk, (∀ b o, s.heap.get? b = some o → h'.get? b = some o) → h'.get? (s.heap.objs.size + 1) = some (seqObj "list" (List.toArray out) c) → out.length = bs.length → EachIs R out (bs.mergeSort (dataLe false k)) →
      Q (.ref (s.heap.objs.size + 1)) { s with heap := h', toks := tk }) :
    wpAny (model prog w) A (call (.builtin "sorted") [.ref l] [(Str.ofString "key", .ref q)]) Q E s := by
  have up : ∀ {g : Heap}, KeepsBut (s.heap.objs.size + 1) (copyHeap s.heap vs) g → ∀ b o, s.heap.get? b = some o → g.get? b = some o := fun {g} kp b o z =>
    kp b o (Nat.ne_of_lt (Nat.lt_succ_of_lt (Heap.lt_size z))) (copyHeap_old z)
  have el := e.length
  refine sorted_tup hl (by omega) fun E' => ?_
  rw [ksk_t1]
  refine keyH_tree (kz := bs.map k) (s := { s with heap := copyHeap s.heap vs }) (copyHeap_at s.heap vs) (by rw [List.length_map]; exact el.symm) (by omega) hal hk (bound_map (A := A.in1.in1) hu)
    (keyH_turns (s := { s with heap := copyHeap s.heap vs }) e fun v x hR hx g tk kp => turn v x hR hx g tk (up kp)) fun h' tk out c kp hD ko => ⟨rfl, ?_⟩
  exact h out c h' tk (up kp) hD ((ko.length (by rw [List.length_map]; exact el.symm)).trans el) (keyedOut_each k ko e)
end
theorem refs_of : ∀ {ts : List Addr} {its : List Value}, Vals (ts.map V.ref) its → its = ts.map Value.ref
  | [], _, .nil => rfl
  | t :: ts, _, .cons h r => by
    have h : _ = Value.ref t := h
    rw [h, refs_of r]
    rfl
theorem eachRefs : ∀ {ts : List Addr} {kvs : List (Str × Int)}, ts.length = kvs.length → EachIs (fun (v : Value) (x : Addr × (Str × Int)) => v = .ref x.1) (ts.map Value.ref) (ts.zip kvs)
  | [], [], _ => .nil
  | t :: ts, e :: kvs, h => .cons rfl (eachRefs (by simpa using h))
theorem refs_each : ∀ {out : List Value} {xs : List (Addr × (Str × Int))}, EachIs (fun (v : Value) (x : Addr × (Str × Int)) => v = .ref x.1) out xs → out = (xs.map (·.1)).map Value.ref
  | _, _, .nil => rfl
  | _, _, .cons h t => by rw [h, refs_each t]; rfl
theorem zip_in {F : Addr → Str × Int → Prop} : ∀ {ts : List Addr} {kvs : List (Str × Int)}, Paired F ts kvs → ∀ x ∈ ts.zip kvs, F x.1 x.2
  | _, _, .nil, _, h => nomatch h
  | _, _, .cons h t, x, hx => by
    rcases List.mem_cons.mp hx with rfl | hx
    · exact h
    · exact zip_in t x hx
theorem paired_maps {F : Addr → Str × Int → Prop} : ∀ {xs : List (Addr × (Str × Int))}, (∀ x ∈ xs, F x.1 x.2) → Paired F (xs.map (·.1)) (xs.map (·.2))
  | [], _ => .nil
  | x :: xs, h => .cons (h x List.mem_cons_self) (paired_maps fun y hy => h y (List.mem_cons_of_mem _ hy))
theorem zip_snd {α β : Type} : ∀ {ts : List α} {kvs : List β}, ts.length = kvs.length → (ts.zip kvs).map (·.2) = kvs
  | [], [], _ => rfl
  | t :: ts, e :: kvs, h => congrArg (List.cons e) (zip_snd (by simpa using h))
section
variable {X : Cx}
/-- sorted(t, key=lambda pair: -pair[1]), t a tuple of pairs (text, int) -/
def rSortFall (K : PySem.W.Frag) (qual : Str) (params : Arguments) (body : Expr) (scope : Scope) : List V → List V → Hp → VK → Prop := fun vs zs H Q => ∃ (t f c' : Addr) (ts : List Addr) (kvs : List (Str × Int)), vs = [V.ref t] ∧ zs = [V.ref f] ∧ SqT K H t (ts.map V.ref) ∧
  Paired (fun (t : Addr) (e : Str × Int) => SqT K H t [.str e.1, .int e.2]) ts kvs ∧ H f = some (LamO f qual params body scope c') ∧ H c' = some (CodeO c' qual) ∧
  ∀ (p : Addr) (us : List Addr), H p = none → Paired (fun (t : Addr) (e : Str × Int) => SqT K H t [.str e.1, .int e.2]) us (fallBy (·.2) kvs) → Q (.ref p) (upd H p (.lst (us.map V.ref)))
theorem cr_sortFall {qual : Str} {params : Arguments} {body : Expr} {scope : Scope} {k : Nat} (N : NegSnd params body scope) (hr : Room k X.A) : CallRK X (.builtin "sorted") [Str.ofString "key"] (rSortFall X.K qual params body scope) := by
  intro pins s σ H vs zs us ws Q I r rz h
  obtain ⟨t, f, c', ts, kvs, rfl, rfl, ht, hp, hf, hc, q⟩ := h
  obtain rfl := Vals.ref1 r
  obtain rfl := Vals.ref1 rz
  obtain ⟨its, rv, hT, hz⟩ := I.tuple ht
  obtain rfl := refs_of rv
  have hl := Paired.length hp
  rw [List.length_map] at hz
  have hbl : (ts.zip kvs).length = ts.length := by rw [List.length_zip]; omega
  have hlim := I.nolimit
  have en : dataLe false (fun x : Addr × (Str × Int) => PyData.int (-x.2.2)) = fun a b => decide (-(a.2.2) ≤ -(b.2.2)) := dataLe_int (fun x : Addr × (Str × Int) => -x.2.2)
  refine sorted_key_tup (R := fun (v : Value) (x : Addr × (Str × Int)) => v = .ref x.1) (bs := ts.zip kvs) (fun x => PyData.int (-x.2.2)) hT (eachRefs hl) ?_ ?_ (by omega) (fun x hx => ?_) (fun v x hv hx g tk kp => ?_) fun out c h' tk kp hD hlen ho => ?_
  · intro d hd d' hd'
    obtain ⟨_, _, rfl⟩ := List.mem_map.mp hd
    obtain ⟨_, _, rfl⟩ := List.mem_map.mp hd'
    rfl
  · refine .inr fun d hd => ?_
    obtain ⟨_, _, rfl⟩ := List.mem_map.mp hd
    exact ⟨(fun z => nomatch z), fun xs z => nomatch z⟩
  · have h1 := hr.un
    show X.A.units + 2 + 0 < cLine
    omega
  · subst hv
    obtain ⟨i2, r2, T2, _⟩ := I.tuple (zip_in hp x hx)
    obtain ⟨u1, u2, rfl, ri, rj⟩ := vals2 r2
    obtain ⟨t1, rfl⟩ := ri
    obtain ⟨t2, rfl⟩ := rj
    obtain ⟨⟨pm, ctv, hfo⟩, _, _⟩ := I.hok f _ hf
    obtain ⟨⟨oc, vs, tq, h1, h2, h3⟩, _, _⟩ := I.hok c' _ hc
    obtain ⟨o, e1, e2⟩ := T2
    have hd : X.A.in1.in1.depth < recursionLimit := hr.depth
    exact lam_call (s := { s with heap := g, toks := tk }) N hd (hlim.keeps kp) (kp _ _ hfo) ⟨c', oc, vs, tq, rfl, kp _ _ h1, h2, h3⟩ (t := x.1) ⟨o, kp _ _ e1, e2⟩
  · rw [en] at ho
    obtain rfl := refs_each ho
    have hn : H (s.heap.objs.size + 1) = none := I.hok.fresh (Nat.le_succ _)
    generalize hbs : (ts.zip kvs).mergeSort (fun a b => decide (-(a.2.2) ≤ -(b.2.2))) = sx at hD hlen
    have pm : sx.Perm (ts.zip kvs) := by rw [← hbs]; exact List.mergeSort_perm _ _
    have hsn : sx.map (·.2) = fallBy (·.2) kvs := by
      rw [← hbs, sort_maps (s := fun a b : Str × Int => decide (-(a.2) ≤ -(b.2))) Prod.snd (fun _ _ _ _ => rfl), zip_snd hl]
      rfl
    refine ⟨.ref _, upd H (s.heap.objs.size + 1) (.lst ((sx.map (·.1)).map V.ref)), I.laid (t' := tk) kp (Nat.le_succ _) ⟨?_, _, c, LiI.vals_refs _, hD⟩, rfl, q _ _ hn ?_⟩
    · rw [List.length_map, List.length_map, pm.length_eq]
      omega
    · rw [← hsn]
      exact paired_maps fun x hx => zip_in hp x (pm.mem_iff.mp hx)
end
end FlX

namespace FlX
open PySem PySem.Spec PyProof.Rows PySem.W L2 LamX SrtZ
theorem tabS_new {H : Hp} {P p : Addr} {q : Str} {o : HO} (h : TabS H P q) (n : H p = none) : TabS (upd H p o) P q := h.ext fun b u e => by rw [upd_ne (ne_of_none e n)]; exact e
/-- all but the table stays, and the table is well -/
structure ExT (P : Addr) (q : Str) (H H' : Hp) : Prop where
  tab : TabS H' P q
  keep : ∀ b o, b ≠ P → H b = some o → H' b = some o
section
variable {P : Addr} {q : Str} {H H1 H2 : Hp}
theorem tab_no {b : Addr} {o : HO} (T : TabS H P q) (e : H b = some o) (n : ∀ ps, o ≠ .tbl ps) : b ≠ P := fun z => by
  obtain ⟨ps, h, _⟩ := T
  rw [z, h] at e
  exact n ps (Option.some.inj e).symm
theorem ExT.refl (T : TabS H P q) : ExT P q H H := ⟨T, fun _ _ _ e => e⟩
theorem ExT.trans (a : ExT P q H H1) (b : ExT P q H1 H2) : ExT P q H H2 := ⟨b.tab, fun c o n e => b.keep c o n (a.keep c o n e)⟩
theorem tabS_same (T : TabS H P q) (s : Same H H1) : TabS H1 P q := T.ext s
theorem Same.exT (s : Same H H1) (T : TabS H P q) : ExT P q H H1 := ⟨tabS_same T s, fun b o _ e => s b o e⟩
theorem ExT.same (a : ExT P q H H1) (s : Same H1 H2) : ExT P q H H2 := ⟨tabS_same a.tab s, fun b o n e => s b o (a.keep b o n e)⟩
theorem ExT.new {p : Addr} {o : HO} (a : ExT P q H H1) (n : H1 p = none) : ExT P q H (upd H1 p o) := a.same fun b u e => by rw [upd_ne (ne_of_none e n)]; exact e
theorem ExT.at {b : Addr} {o : HO} (a : ExT P q H H1) (T : TabS H P q) (e : H b = some o) (n : ∀ ps, o ≠ .tbl ps) : H1 b = some o := a.keep b o (tab_no T e n) e
theorem ExT.ne {p : Addr} (a : ExT P q H H1) (n : H1 p = none) : p ≠ P := fun z => by
  obtain ⟨ps, h, _⟩ := a.tab
  rw [z, h] at n
  cases n
theorem ExT.gone {p : Addr} (a : ExT P q H H1) (n : H1 p = none) : H p = none := by
  cases h : H p with
  | none => rfl
  | some o =>
    rw [a.keep p o (a.ne n) h] at n
    cases n
/-- what was new is stored anew -/
theorem ExT.put {p : Addr} {o : HO} (a : ExT P q H H1) (n : H p = none) (np : p ≠ P) (nc : ∀ cq, H1 p ≠ some (CodeO p cq)) : ExT P q H (upd H1 p o) := by
  refine ⟨?_, fun b u nb e => ?_⟩
  · obtain ⟨ps, h1, h2, h3⟩ := a.tab
    refine ⟨ps, by rw [upd_ne np.symm]; exact h1, h2, fun pos cv hc => ?_⟩
    obtain ⟨c, e1, e2⟩ := h3 pos cv hc
    refine ⟨c, e1, ?_⟩
    have : c ≠ p := fun z => by
      subst z
      exact nc q e2
    rw [upd_ne this]
    exact e2
  · rw [upd_ne (ne_of_none e n)]
    exact a.keep b u nb e
theorem ExT.tup {K : PySem.W.Frag} {b : Addr} {xs : List V} (a : ExT P q H H1) (T : TabS H P q) (h : SqT K H b xs) : SqT K H1 b xs := by
  rcases h with (h | ⟨o, h⟩) | h
  · exact .inl (.inl (a.at T h (fun ps z => nomatch z)))
  · exact .inl (.inr ⟨o, a.at T h (fun ps z => nomatch z)⟩)
  · exact .inr h
theorem ExT.tups {K : PySem.W.Frag} {ts : List Addr} {kvs : List (Str × Int)} (a : ExT P q H H1) (T : TabS H P q) (h : Paired (fun (t : Addr) (e : Str × Int) => SqT K H t [.str e.1, .int e.2]) ts kvs) : Paired (fun (t : Addr) (e : Str × Int) => SqT K H1 t [.str e.1, .int e.2]) ts kvs :=
  L2.Paired.mapP h fun _ _ k => a.tup T k
end
section
variable {X : Cx} {pins : List (Addr × Obj)} {σ : L2.St} {H : Hp} {s : Shared}
theorem exT_of {H : Hp} {P c : Addr} {o : HO} {ps qs : Array Value} (nc : H c = none) : ∀ b u, b ≠ P → H b = some u → (upd (upd H P (.tbl qs)) c o) b = some u := fun b u n e => by
  rw [upd_ne (ne_of_none e nc), upd_ne n]
  exact e
/-- a lambda is made, and tracked -/
theorem lam_new {c P : Addr} {params : Arguments} {body : Expr} {scope : Scope} {pos : Pos} {q : Str} {E : Value → Shared → Prop} {Q : VK} (I : Inv X pins σ H s) (TB : TabB X.base X.mg c P) (hcode : X.env.code = .ref c) (hT : TabS H P q) (hq : X.env.qual ++ "<lambda>" = q)
    (hdef : defaultsOf params X.env = ([], [])) (hfree : ∀ y ∈ scope.names, y.2 = .free → ∃ c, X.env.cells.lookup y.1 = some c) (hclo : cloFrom X.env.cells scope.names [] = [])
    (h : ∀ (f c' : Addr) (H1 : Hp), ExT P q H H1 → H f = none → H1 f = some (LamO f q params body scope c') → H1 c' = some (CodeO c' q) → Q (.ref f) H1) :
    wpAny (model X.prog X.w) X.A (eval (.Lambda params body scope pos) X.env) (EP X pins σ Q) E s := by
  subst hq
  have T0 := hT
  obtain ⟨ps, hP, ht, ha⟩ := hT
  have hP0 : s.heap.get? P = some { cls := .none, data := .fields ps } := I.hok P _ hP
  have hb0 : s.heap.BuiltinsAt X.mg P := TB.bm.keeps I.bk
  refine kla_eval hdef ?_
  -- what follows once the function stands at the heap's end
  have fin : ∀ (h' : Heap) (tk : Nat) (c' : Addr) (ctv : Value) (H1 : Hp), Inv X pins σ H1 { s with heap := h', toks := tk } → s.heap.objs.size ≤ h'.objs.size → ExT P (X.env.qual ++ "<lambda>") H H1 → H1 c' = some (CodeO c' (X.env.qual ++ "<lambda>")) →
      EP X pins σ Q (.ref h'.objs.size) { s with heap := h'.push (kla_obj "<lambda>" (X.env.qual ++ "<lambda>") params body scope (cloFrom X.env.cells scope.names []) ((X.mg "__name__").getD .none) c' ctv), toks := tk } := by
    intro h' tk c' ctv H1 I1 hsz eN hc'
    rw [hclo]
    have hn : H1 h'.objs.size = none := I1.hok.fresh (Nat.le_refl _)
    have ne : c' ≠ h'.objs.size := ne_of_none hc' hn
    refine ⟨.ref h'.objs.size, upd H1 h'.objs.size (LamO h'.objs.size (X.env.qual ++ "<lambda>") params body scope c'), ?_, rfl, h _ c' _ (eN.new hn) (I.hok.fresh hsz) upd_same (by rw [upd_ne ne]; exact hc')⟩
    exact I1.laid (t' := tk) (fun b o e => Heap.get?_push_of_some _ e) (Nat.le_refl _) (LamO.mk (Heap.get?_push_size _ rfl))
  cases hc : codeAmong pos ps.toList with
  | some cv =>
    obtain ⟨c', rfl, hco⟩ := ha pos cv hc
    refine kla_makeFunctionHit (closure_ok hfree) I.ok.glob (I.mod.glob.keeps I.bk) hcode (TB.code.keeps I.bk) hP0 ht hc hb0 fun ctv h' tk hx hsz => ?_
    exact fin h' tk c' ctv H (I.kept hx) hsz (.refl T0) hco
  | none =>
    refine kla_makeFunction (closure_ok hfree) I.ok.glob (I.mod.glob.keeps I.bk) hcode (TB.code.keeps I.bk) hP0 ht hc TB.gP hb0 fun c' ctv h' tk hx hge hlt hrec htb => ?_
    obtain ⟨c2, oc, vs, t, e2, hoc, hd, hv⟩ := hrec
    cases e2
    have nc : H c' = none := I.hok.fresh hge
    have I1 := inv_table (t' := tk) (more := #[rawInt pos.line, rawInt pos.col, .ref c']) I hP hx htb hge ⟨oc, vs, t, hoc, hd, hv⟩
    have eN : ∀ b u, b ≠ P → H b = some u → (upd (upd H P (.tbl (ps ++ #[rawInt pos.line, rawInt pos.col, .ref c']))) c' (CodeO c' (X.env.qual ++ "<lambda>"))) b = some u := exT_of (ps := ps) nc
    refine fin h' tk c' ctv _ I1 (Nat.le_trans hge (Nat.le_of_lt hlt)) ⟨⟨_, by rw [upd_ne (ne_of_none hP nc), upd_same], ?_, fun p' cv hcv => ?_⟩, eN⟩ upd_same
    · simp only [Array.toList_append]
      exact PySem.TriplesOk_snoc _ _ _ _ ht
    · simp only [Array.toList_append] at hcv
      rcases among_app _ ht hcv with z | z
      · obtain ⟨c0, e1, e2⟩ := ha p' cv z
        exact ⟨c0, e1, eN _ _ (tab_no T0 e2 codeO_ne) e2⟩
      · exact ⟨c', z, upd_same⟩
/-- what the making of a lambda asks of the maker -/
structure LamOk (X : Cx) (c P : Addr) (q : Str) (params : Arguments) (scope : Scope) : Prop where
  tb : TabB X.base X.mg c P
  code : X.env.code = .ref c
  qual : X.env.qual ++ "<lambda>" = q
  dflt : defaultsOf params X.env = ([], [])
  free : ∀ y ∈ scope.names, y.2 ≠ .free
  clo : cloFrom X.env.cells scope.names [] = []
def tLamV (P : Addr) (q : Str) (params : Arguments) (body : Expr) (scope : Scope) : TE := fun _ H Q => TabS H P q ∧ ∀ (f c' : Addr) (H1 : Hp), ExT P q H H1 → H f = none → H1 f = some (LamO f q params body scope c') → H1 c' = some (CodeO c' q) → Q (.ref f) H1
theorem pe_lam {c P : Addr} {q : Str} {params : Arguments} {body : Expr} {scope : Scope} {pos : Pos} (L : LamOk X c P q params scope) : PE X (.Lambda params body scope pos) (tLamV P q params body scope) :=
  ⟨fun pins s σ H Q I h => lam_new I L.tb L.code h.1 L.qual L.dflt (fun y hy e => absurd e (L.free y hy)) L.clo fun f c' H1 => h.2 f c' H1⟩
/-- sorted(t, key=lambda pair: -pair[1]) -/
def tFall (K : PySem.W.Frag) (P : Addr) (q : Str) (params : Arguments) (body : Expr) (scope : Scope) (t : TA) : TE := tCKw (rSortFall K q params body scope) t (tCons (tLamV P q params body scope) tNil)
theorem pe_fall {c P : Addr} {q : Str} {params : Arguments} {body : Expr} {scope : Scope} {k : Nat} {e : Expr} {t : TA} {p lpos kpos pos : Pos} (N : NegSnd params body scope) (L : LamOk X c P q params scope) (hr : Room k X.A) (hg : Gl X "sorted") (hm : X.mg "sorted" = none) (ha : PA X [e] t)
    (h1 : backTo pos (starEach [e] X.env) = (false, eval e X.env) :: backTo pos (starEach [] X.env) := by rfl) (h2 : (backTo pos (starEach [e] X.env)).any (·.1) = false := by rfl) :
    PE X (.Call (.Name "sorted" p) [e] [⟨some "key", .Lambda params body scope lpos, kpos⟩] pos) (tFall X.K P q params body scope t) :=
  pe_callBK (p := p) (pos := pos) (cr_sortFall (X := X) (qual := q) N hr) hg hm (by decide +kernel) ha (pk_cons (nm := some "key") (kpos := kpos) (pe_lam (body := body) (pos := lpos) L) pk_nil) (he := h1) (hpl := h2)
theorem sqT_new {K : PySem.W.Frag} {H : Hp} {t p : Addr} {xs : List V} {o : HO} (h : SqT K H t xs) (n : H p = none) : SqT K (upd H p o) t xs := by
  rcases h with (h | ⟨u, h⟩) | h
  · exact .inl (.inl (by rw [upd_ne (ne_of_none h n)]; exact h))
  · exact .inl (.inr ⟨u, by rw [upd_ne (ne_of_none h n)]; exact h⟩)
  · exact .inr h
/-- its reading -/
theorem rd_fall {K : PySem.W.Frag} {P : Addr} {q : Str} {params : Arguments} {body : Expr} {scope : Scope} {σ : L2.St} {H : Hp} {i : Nat} {a : Addr} {ts : List Addr} {kvs : List (Str × Int)} {Q : VK} (h0 : σ[i]? = some (some (.ref a))) (ht : SqT K H a (ts.map V.ref))
    (hp : Paired (fun (t : Addr) (e : Str × Int) => SqT K H t [.str e.1, .int e.2]) ts kvs) (T : TabS H P q)
    (k : ∀ (H2 : Hp) (p : Addr) (us : List Addr), ExT P q H H2 → H p = none → H2 p = some (.lst (us.map V.ref)) → Paired (fun (t : Addr) (e : Str × Int) => SqT K H2 t [.str e.1, .int e.2]) us (fallBy (·.2) kvs) → Q (.ref p) H2) :
    tFall K P q params body scope (tCons (tVar i) tNil) σ H Q := by
  refine ⟨.ref a, h0, T, fun f c' H2 eN nf hf hc => ⟨a, f, c', ts, kvs, rfl, rfl, eN.tup T ht, eN.tups T hp, hf, hc, fun p us np hus => ?_⟩⟩
  exact k _ p us (eN.new np) (eN.gone np) upd_same (L2.Paired.mapP hus fun _ _ h => sqT_new h np)
end
end FlX

namespace Kb
/-! the mathematics of ends: lists of kept counts, the greatest first, what was taken of each, and fresh counts -/
def mnI (off S : Int) : Int := if S < off then S else off
theorem mnI_le {off S : Int} : mnI off S ≤ off ∧ mnI off S ≤ S := by unfold mnI; split <;> omega
theorem mnI_nn {off S : Int} (h : 0 ≤ off) (k : 0 ≤ S) : 0 ≤ mnI off S := by unfold mnI; split <;> omega
/-- falling -/
def Fall (L : List Int) : Prop := L.Pairwise (· ≥ ·)
/-- each is at most so much -/
def Most (a : Int) (L : List Int) : Prop := ∀ b ∈ L, b ≤ a
def Nn (L : List Int) : Prop := ∀ b ∈ L, 0 ≤ b
theorem Nn.cons {a : Int} {L : List Int} (h : Nn (a :: L)) : 0 ≤ a ∧ Nn L := ⟨h a List.mem_cons_self, fun b hb => h b (List.mem_cons_of_mem _ hb)⟩
theorem Fall.cons {a : Int} {L : List Int} (h : Fall (a :: L)) : Most a L ∧ Fall L := by
  unfold Fall at h
  rw [List.pairwise_cons] at h
  exact ⟨fun b hb => h.1 b hb, h.2⟩
theorem sum_nn : ∀ {l : List Int}, Nn l → 0 ≤ l.sum
  | [], _ => Int.le_refl _
  | a :: l, h => by
    rw [List.sum_cons]
    have := h.cons
    have := sum_nn this.2
    omega
/-! squares -/
def sqs (l : List Int) : Int := (l.map fun x => x * x).sum
theorem sqs_cons (a : Int) (l : List Int) : sqs (a :: l) = a * a + sqs l := by unfold sqs; rw [List.map_cons, List.sum_cons]
def sqP (off S : Int) : Int := S / off * (off * off) + S % off * (S % off)
def sqG (off : Int) : List Int → Int → Int
  | [], S => sqP off S
  | b :: L, S => (b + mnI off S) * (b + mnI off S) + sqG off L (S - mnI off S)
theorem div_add {S off : Int} (h : 0 < off) : (S + off) / off = S / off + 1 ∧ (S + off) % off = S % off := by
  constructor
  · have := Int.add_mul_ediv_right S 1 (show off ≠ 0 by omega)
    rw [Int.one_mul] at this
    exact this
  · exact Int.add_emod_right S off
theorem sqP_small {off S : Int} (h0 : 0 ≤ S) (h : S < off) : sqP off S = S * S := by
  unfold sqP
  rw [Int.ediv_eq_zero_of_lt h0 h, Int.emod_eq_of_lt h0 h]
  omega
theorem sqP_more {off S : Int} (h : 0 < off) : sqP off (S + off) = sqP off S + off * off := by
  unfold sqP
  rw [(div_add h).1, (div_add h).2]
  grind
theorem sqP_incr {off S d : Int} (h : 0 < off) (h0 : 0 ≤ S) (d0 : 0 ≤ d) (d1 : d ≤ off) : sqP off (S + d) - sqP off S ≤ d * (2 * off - d) := by
  have e := Int.emod_add_mul_ediv S off
  have r0 := Int.emod_nonneg S (show off ≠ 0 by omega)
  have r1 := Int.emod_lt_of_pos S h
  have q0 : 0 ≤ S / off := Int.ediv_nonneg h0 (by omega)
  generalize S / off = q at *
  generalize S % off = r at *
  subst e
  have gen : ∀ x : Int, sqP off (x + off * q) = sqP off x + q * (off * off) := fun x => by
    unfold sqP
    rw [Int.add_mul_ediv_left x q (show off ≠ 0 by omega), Int.add_mul_emod_self_left]
    grind
  rw [show r + off * q + d = (r + d) + off * q by omega, gen, gen, sqP_small r0 r1]
  by_cases c : r + d < off
  · rw [sqP_small (by omega) c]
    have := Int.mul_le_mul_of_nonneg_left (show r + d ≤ off by omega) d0
    grind
  · have e2 : sqP off (r + d) = sqP off (r + d - off) + off * off := by
      have := sqP_more (S := r + d - off) h
      rw [show r + d - off + off = r + d by omega] at this
      exact this
    rw [e2, sqP_small (by omega) (by omega)]
    have := Int.mul_nonneg (show 0 ≤ off - d by omega) (show 0 ≤ r + d - off by omega)
    clear gen e2
    grind
theorem sqG_zero {off : Int} (h : 0 < off) : ∀ {L : List Int}, sqG off L 0 = sqs L
  | [] => by
    show sqP off 0 = 0
    rw [sqP_small (Int.le_refl _) h]
    rfl
  | b :: L => by
    show (b + mnI off 0) * (b + mnI off 0) + sqG off L (0 - mnI off 0) = _
    rw [show mnI off 0 = 0 from if_pos h, Int.sub_zero, sqG_zero h, sqs_cons, Int.add_zero]
theorem sqG_incr0 {off a d : Int} (h : 0 < off) (a0 : 0 ≤ a) (d0 : 0 ≤ d) (d1 : d ≤ off) : ∀ {L : List Int}, Most a L → Nn L → sqG off L d - sqG off L 0 ≤ d * (2 * a + d)
  | [], _, _ => by
    show sqP off d - sqP off 0 ≤ _
    rw [sqP_small (Int.le_refl _) h]
    have := Int.mul_nonneg d0 a0
    by_cases c : d < off
    · rw [sqP_small d0 c]
      grind
    · obtain rfl : d = off := by omega
      have := sqP_more (S := 0) h
      rw [Int.zero_add, sqP_small (Int.le_refl _) h] at this
      grind
  | b :: L, m, n => by
    show (b + mnI off d) * (b + mnI off d) + sqG off L (d - mnI off d) - ((b + mnI off 0) * (b + mnI off 0) + sqG off L (0 - mnI off 0)) ≤ _
    have e : mnI off d = d := by unfold mnI; split <;> omega
    rw [e, show mnI off 0 = 0 from if_pos h, show d - d = 0 by omega, Int.sub_zero]
    have := Int.mul_le_mul_of_nonneg_left (m b List.mem_cons_self) d0
    grind
theorem sqG_incr {off a d : Int} (h : 0 < off) (a0 : 0 ≤ a) (d0 : 0 ≤ d) (d1 : d ≤ off) : ∀ {L : List Int} {S : Int}, 0 ≤ S → Most a L → Nn L → Fall L → sqG off L (S + d) - sqG off L S ≤ d * (2 * a + 2 * off - d)
  | [], S, s0, _, _, _ => by
    have := sqP_incr (S := S) (d := d) h s0 d0 d1
    have := Int.mul_nonneg d0 a0
    show sqP off (S + d) - sqP off S ≤ _
    grind
  | b :: L, S, s0, m, n, f => by
    show (b + mnI off (S + d)) * (b + mnI off (S + d)) + sqG off L (S + d - mnI off (S + d)) - ((b + mnI off S) * (b + mnI off S) + sqG off L (S - mnI off S)) ≤ _
    have hb := m b List.mem_cons_self
    have b0 := n.cons.1
    have k1 := Int.mul_le_mul_of_nonneg_left hb d0
    by_cases c1 : off ≤ S
    · rw [show mnI off (S + d) = off from if_neg (by omega), show mnI off S = off from if_neg (by omega)]
      have ih := sqG_incr (L := L) (S := S - off) h a0 d0 d1 (by omega) (fun x hx => m x (List.mem_cons_of_mem _ hx)) n.cons.2 f.cons.2
      rw [show S - off + d = S + d - off by omega] at ih
      omega
    · have e1 : mnI off S = S := if_pos (by omega)
      by_cases c2 : S + d ≤ off
      · have e2 : mnI off (S + d) = S + d := by unfold mnI; split <;> omega
        rw [e1, e2, show S + d - (S + d) = 0 by omega, show S - S = 0 by omega]
        have := Int.mul_le_mul_of_nonneg_left (show S + d ≤ off by omega) d0
        grind
      · rw [e1, show mnI off (S + d) = off from if_neg (by omega), show S - S = 0 by omega]
        have ih := sqG_incr0 (L := L) (a := b) (d := S + d - off) h b0 (by omega) (by omega) f.cons.1 n.cons.2
        generalize hd2 : S + d - off = d2 at *
        have k2 := Int.mul_nonneg (show 0 ≤ d2 by omega) (show 0 ≤ S - d2 by omega)
        have hd : d = d2 + off - S := by omega
        subst hd
        grind
/-- no truth has more squares than where the greatest get the most -/
theorem sqG_best {off : Int} (h : 0 < off) : ∀ {L t f : List Int} {S : Int}, Fall L → Nn L → t.length = L.length → (∀ x ∈ t, 0 ≤ x ∧ x ≤ off) → (∀ x ∈ f, 0 ≤ x ∧ x ≤ off) → t.sum + f.sum = S →
    sqs (List.zipWith (· + ·) L t) + sqs f ≤ sqG off L S
  | [], t, f, S, _, _, hl, ht, hf, e => by
    obtain rfl : t = [] := List.length_eq_zero_iff.mp hl
    rw [List.sum_nil, Int.zero_add] at e
    subst e
    show sqs [] + sqs f ≤ sqP off f.sum
    have : ∀ {f : List Int}, (∀ x ∈ f, 0 ≤ x ∧ x ≤ off) → sqs f ≤ sqP off f.sum := by
      intro f
      induction f with
      | nil =>
        intro _
        show (0 : Int) ≤ sqP off 0
        rw [sqP_small (Int.le_refl _) h]
        omega
      | cons x f ih =>
        intro hf
        have h1 := hf x List.mem_cons_self
        have ih := ih fun y hy => hf y (List.mem_cons_of_mem _ hy)
        have s0 : 0 ≤ f.sum := sum_nn fun y hy => (hf y (List.mem_cons_of_mem _ hy)).1
        rw [sqs_cons, List.sum_cons]
        have e := Int.emod_add_mul_ediv f.sum off
        have r0 := Int.emod_nonneg f.sum (show off ≠ 0 by omega)
        have r1 := Int.emod_lt_of_pos f.sum h
        generalize f.sum / off = q at *
        generalize f.sum % off = r at *
        have gen : ∀ x : Int, sqP off (x + off * q) = sqP off x + q * (off * off) := fun x => by
          unfold sqP
          rw [Int.add_mul_ediv_left x q (show off ≠ 0 by omega), Int.add_mul_emod_self_left]
          grind
        rw [← e] at ih ⊢
        rw [show x + (r + off * q) = (r + x) + off * q by omega, gen]
        rw [gen, sqP_small r0 r1] at ih
        by_cases c : r + x < off
        · rw [sqP_small (by omega) c]
          have := Int.mul_nonneg r0 h1.1
          grind
        · have e2 : sqP off (r + x) = sqP off (r + x - off) + off * off := by
            have := sqP_more (S := r + x - off) h
            rw [show r + x - off + off = r + x by omega] at this
            exact this
          rw [e2, sqP_small (by omega) (by omega)]
          have := Int.mul_nonneg (show 0 ≤ off - r by omega) (show 0 ≤ off - x by omega)
          grind
    have := this hf
    show (0 : Int) + sqs f ≤ _
    omega
  | b :: L, t, f, S, fl, n, hl, ht, hf, e => by
    match t, hl with
    | t0 :: t, hl =>
      have h0 := ht t0 List.mem_cons_self
      have hl' : t.length = L.length := by simpa using hl
      rw [List.sum_cons] at e
      have st : 0 ≤ t.sum := sum_nn fun x hx => (ht x (List.mem_cons_of_mem _ hx)).1
      have sf : 0 ≤ f.sum := sum_nn fun x hx => (hf x hx).1
      have ih := sqG_best (L := L) (t := t) (f := f) (S := S - t0) h fl.cons.2 n.cons.2 hl' (fun x hx => ht x (List.mem_cons_of_mem _ hx)) hf (by omega)
      show sqs ((b + t0) :: List.zipWith (· + ·) L t) + sqs f ≤ (b + mnI off S) * (b + mnI off S) + sqG off L (S - mnI off S)
      rw [sqs_cons]
      have b0 := n.cons.1
      have g := mnI_le (off := off) (S := S)
      have gt : t0 ≤ mnI off S := by unfold mnI; split <;> omega
      by_cases c : S < off
      · have eg : mnI off S = S := if_pos c
        rw [eg, Int.sub_self]
        have i0 := sqG_incr0 (L := L) (a := b) (d := S - t0) h b0 (by omega) (by omega) fl.cons.1 n.cons.2
        have k := Int.mul_nonneg (show 0 ≤ S - t0 by omega) h0.1
        grind
      · have eg : mnI off S = off := if_neg c
        rw [eg]
        have i1 := sqG_incr (L := L) (a := b) (d := off - t0) (S := S - off) h b0 (by omega) (by omega) (by omega) fl.cons.1 n.cons.2 fl.cons.2
        rw [show S - off + (off - t0) = S - t0 by omega] at i1
        grind
/-- nor fewer than where all is new, one by one -/
theorem sqs_least : ∀ {L t f : List Int}, Nn L → t.length = L.length → (∀ x ∈ t, 0 ≤ x) → (∀ x ∈ f, 0 ≤ x) → sqs L + (t.sum + f.sum) ≤ sqs (List.zipWith (· + ·) L t) + sqs f
  | [], t, f, _, hl, _, hf => by
    obtain rfl : t = [] := List.length_eq_zero_iff.mp hl
    show (0 : Int) + (0 + f.sum) ≤ 0 + sqs f
    have : ∀ {f : List Int}, (∀ x ∈ f, 0 ≤ x) → f.sum ≤ sqs f := by
      intro f
      induction f with
      | nil => intro _; exact Int.le_refl _
      | cons x f ih =>
        intro h
        have h1 := h x List.mem_cons_self
        have := ih fun y hy => h y (List.mem_cons_of_mem _ hy)
        rw [sqs_cons, List.sum_cons]
        have : x ≤ x * x := by
          by_cases c : x = 0
          · rw [c]; decide
          · have := Int.mul_le_mul_of_nonneg_left (show 1 ≤ x by omega) h1
            omega
        omega
    have := this hf
    omega
  | b :: L, t, f, n, hl, ht, hf => by
    match t, hl with
    | t0 :: t, hl =>
      have h0 := ht t0 List.mem_cons_self
      have ih := sqs_least (L := L) (t := t) (f := f) n.cons.2 (by simpa using hl) (fun x hx => ht x (List.mem_cons_of_mem _ hx)) hf
      show sqs (b :: L) + ((t0 :: t).sum + f.sum) ≤ sqs ((b + t0) :: List.zipWith (· + ·) L t) + sqs f
      rw [sqs_cons, sqs_cons, List.sum_cons]
      have b0 := n.cons.1
      have k := Int.mul_nonneg b0 h0
      have : t0 ≤ t0 * t0 := by
        by_cases c : t0 = 0
        · rw [c]; decide
        · have := Int.mul_le_mul_of_nonneg_left (show 1 ≤ t0 by omega) h0
          omega
      grind
end Kb

namespace Kb
/-! the sum of the greatest -/
theorem fall_nn_take : ∀ {l : List Int} (j : Nat), Nn l → 0 ≤ (l.take j).sum
  | l, j, h => sum_nn fun b hb => h b (List.mem_of_mem_take hb)
theorem perm_sum {l m : List Int} (p : l.Perm m) : l.sum = m.sum := by
  induction p with
  | nil => rfl
  | cons a _ ih => rw [List.sum_cons, List.sum_cons, ih]
  | swap a b l => rw [List.sum_cons, List.sum_cons, List.sum_cons, List.sum_cons]; omega
  | trans _ _ h1 h2 => exact h1.trans h2
theorem top_ge : ∀ {l m rest : List Int} {j : Nat}, Fall l → Nn l → (m ++ rest).Perm l → m.length ≤ j → m.sum ≤ (l.take j).sum
  | [], m, rest, j, _, _, p, _ => by
    have := p.length_eq
    rw [List.length_append] at this
    obtain rfl : m = [] := List.length_eq_zero_iff.mp (by rw [List.length_nil] at this; omega)
    rw [List.take_nil]
    exact Int.le_refl _
  | a :: l, m, rest, j, fl, n, p, hj => by
    match j with
    | 0 =>
      obtain rfl : m = [] := List.length_eq_zero_iff.mp (Nat.le_zero.mp hj)
      exact Int.le_refl _
    | j + 1 =>
      rw [List.take_succ_cons, List.sum_cons]
      by_cases ha : a ∈ m
      · have pm := List.perm_cons_erase ha
        have p2 : (m.erase a ++ rest).Perm l := by
          have h1 : (a :: (m.erase a ++ rest)).Perm (a :: l) := (List.Perm.append_right rest pm.symm).trans p
          exact h1.cons_inv
        have hl := pm.length_eq
        rw [List.length_cons] at hl
        have ih := top_ge (l := l) (m := m.erase a) (rest := rest) (j := j) fl.cons.2 n.cons.2 p2 (by omega)
        have := perm_sum pm
        rw [List.sum_cons] at this
        omega
      · match m, ha with
        | [], _ =>
          have := fall_nn_take j n.cons.2
          have := n.cons.1
          show (0 : Int) ≤ _
          omega
        | b :: m, ha =>
          have hb : b ∈ a :: l := p.mem_iff.mp (List.mem_append_left _ List.mem_cons_self)
          have hab : b ≤ a := by
            rcases List.mem_cons.mp hb with h | h
            · omega
            · exact fl.cons.1 b h
          have har : a ∈ rest := by
            have : a ∈ b :: m ++ rest := p.mem_iff.mpr List.mem_cons_self
            rcases List.mem_append.mp this with h | h
            · exact absurd h ha
            · exact h
          have pr := List.perm_cons_erase har
          have p2 : (m ++ (b :: rest.erase a)).Perm l := by
            have h1 : (a :: (m ++ (b :: rest.erase a))).Perm (a :: l) := by
              refine List.Perm.trans ?_ p
              have h2 : (m ++ (b :: rest.erase a)).Perm (b :: (m ++ rest.erase a)) := List.perm_middle
              have h3 : (a :: (b :: (m ++ rest.erase a))).Perm (b :: (a :: (m ++ rest.erase a))) := List.Perm.swap _ _ _
              have h4 : (a :: (m ++ rest.erase a)).Perm (m ++ (a :: rest.erase a)) := List.perm_middle.symm
              have h5 : (m ++ (a :: rest.erase a)).Perm (m ++ rest) := List.Perm.append_left m pr.symm
              exact ((h2.cons a).trans h3).trans ((h4.trans h5).cons b)
            exact h1.cons_inv
          have ih := top_ge (l := l) (m := m) (rest := b :: rest.erase a) (j := j) fl.cons.2 n.cons.2 p2 (by simpa using hj)
          rw [List.sum_cons]
          omega
/-- a falling list is told by what it holds -/
theorem fall_eq : ∀ {l m : List Int}, Fall l → Fall m → l.Perm m → l = m
  | [], m, _, _, p => (List.nil_perm.mp p).symm
  | a :: l, m, fl, fm, p => by
    match m, p with
    | [], p => exact absurd p.length_eq (by simp)
    | b :: m, p =>
      have h1 : b ≤ a := by
        rcases List.mem_cons.mp (p.mem_iff.mpr (List.mem_cons_self (a := b) (l := m))) with h | h
        · omega
        · exact fl.cons.1 b h
      have h2 : a ≤ b := by
        rcases List.mem_cons.mp (p.mem_iff.mp (List.mem_cons_self (a := a) (l := l))) with h | h
        · omega
        · exact fm.cons.1 a h
      obtain rfl : a = b := by omega
      rw [fall_eq fl.cons.2 fm.cons.2 p.cons_inv]
/-- groups (count, many): the sum of the j greatest -/
def grtZ : List (Int × Int) → Int → Int
  | [], _ => 0
  | e :: g, j => e.1 * mnI e.2 j + grtZ g (j - mnI e.2 j)
def exZ (g : List (Int × Int)) : List Int := g.flatMap fun e => List.replicate e.2.toNat e.1
theorem sum_rep (n : Nat) (c : Int) : (List.replicate n c).sum = c * n := by
  induction n with
  | zero => rw [List.replicate_zero]; show (0 : Int) = c * ((0 : Nat) : Int); simp
  | succ n ih => rw [List.replicate_succ, List.sum_cons, ih]; push_cast; grind
theorem grtZ_ex : ∀ {g : List (Int × Int)} {j : Int}, (∀ e ∈ g, 0 ≤ e.2) → 0 ≤ j → grtZ g j = ((exZ g).take j.toNat).sum
  | [], j, _, _ => by
    show (0 : Int) = (([] : List Int).take j.toNat).sum
    rw [List.take_nil]
    rfl
  | e :: g, j, h, hj => by
    have h0 := h e List.mem_cons_self
    have m1 := mnI_le (off := e.2) (S := j)
    have ih := grtZ_ex (g := g) (j := j - mnI e.2 j) (fun x hx => h x (List.mem_cons_of_mem _ hx)) (by omega)
    show e.1 * mnI e.2 j + grtZ g (j - mnI e.2 j) = ((List.replicate e.2.toNat e.1 ++ exZ g).take j.toNat).sum
    rw [ih, List.take_append, List.sum_append, List.take_replicate, sum_rep, List.length_replicate]
    have e1 : ((min j.toNat e.2.toNat : Nat) : Int) = mnI e.2 j := by
      unfold mnI
      split <;> omega
    have e2 : (j - mnI e.2 j).toNat = j.toNat - e.2.toNat := by
      unfold mnI
      split <;> omega
    rw [e1, e2]
/-! what the greatest j can come to -/
theorem sum_bound {off : Int} : ∀ {l : List Int}, (∀ x ∈ l, x ≤ off) → l.sum ≤ l.length * off
  | [], _ => by show (0 : Int) ≤ ((0 : Nat) : Int) * off; simp
  | a :: l, h => by
    have := h a List.mem_cons_self
    have := sum_bound (l := l) fun x hx => h x (List.mem_cons_of_mem _ hx)
    rw [List.sum_cons, List.length_cons]
    push_cast
    grind
def bndZ (off : Int) (L : List Int) (S : Int) (j : Nat) : Int := (L.take j).sum + mnI (j * off) S
theorem sum_split : ∀ m : List (Int × Int), (m.map fun p => p.1 + p.2).sum = (m.map (·.1)).sum + (m.map (·.2)).sum
  | [] => rfl
  | a :: m => by
    rw [List.map_cons, List.map_cons, List.map_cons, List.sum_cons, List.sum_cons, List.sum_cons, sum_split m]
    omega
theorem take_zeros {L : List Int} {n j : Nat} : ((L ++ List.replicate n (0 : Int)).take j).sum = (L.take j).sum := by
  rw [List.take_append, List.sum_append, List.take_replicate, sum_rep]
  omega
theorem fall_zeros {L : List Int} {n : Nat} (fl : Fall L) (nn : Nn L) : Fall (L ++ List.replicate n (0 : Int)) := by
  unfold Fall
  rw [List.pairwise_append]
  refine ⟨fl, ?_, fun a ha b hb => ?_⟩
  · rw [List.pairwise_replicate]
    exact .inr (Int.le_refl _)
  · rw [(List.mem_replicate.mp hb).2]
    exact nn a ha
/-- any j of a truth's counts -/
theorem some_le {off S : Int} {L : List Int} {n j : Nat} {D m rest : List (Int × Int)} (o0 : 0 ≤ off) (fl : Fall L) (nn : Nn L) (hD : D.map (·.1) = L ++ List.replicate n 0) (ht : ∀ p ∈ D, 0 ≤ p.2 ∧ p.2 ≤ off) (hS : (D.map (·.2)).sum = S) (p : (m ++ rest).Perm D) (hj : m.length ≤ j) :
    (m.map fun p => p.1 + p.2).sum ≤ bndZ off L S j := by
  rw [sum_split]
  have h1 : (m.map (·.1)).sum ≤ (L.take j).sum := by
    have q := p.map (·.1)
    rw [hD, List.map_append] at q
    have := top_ge (j := j) (fall_zeros fl nn) (fun b hb => by
      rcases List.mem_append.mp hb with h | h
      · exact nn b h
      · rw [(List.mem_replicate.mp h).2]
        exact Int.le_refl _) q (by rw [List.length_map]; exact hj)
    rw [take_zeros] at this
    exact this
  have hm : ∀ x ∈ m.map (·.2), 0 ≤ x ∧ x ≤ off := fun x hx => by
    obtain ⟨e, he, rfl⟩ := List.mem_map.mp hx
    exact ht e (p.mem_iff.mp (List.mem_append_left _ he))
  have h2 : (m.map (·.2)).sum ≤ j * off := by
    have := sum_bound fun x hx => (hm x hx).2
    rw [List.length_map] at this
    have := Int.mul_le_mul_of_nonneg_right (show (m.length : Int) ≤ j by omega) o0
    omega
  have h3 : (m.map (·.2)).sum ≤ S := by
    have q := perm_sum (p.map (·.2))
    rw [List.map_append, List.sum_append, hS] at q
    have : 0 ≤ (rest.map (·.2)).sum := sum_nn fun x hx => by
      obtain ⟨e, he, rfl⟩ := List.mem_map.mp hx
      exact (ht e (p.mem_iff.mp (List.mem_append_right _ he))).1
    omega
  unfold bndZ mnI
  split <;> omega
/-- kept and taken where the greatest get the most, one behind another -/
def lumpZ (off : Int) : List Int → Int → List Int
  | [], _ => []
  | b :: L, S => (b + mnI off S) :: lumpZ off L (S - mnI off S)
def lumpR (off : Int) : List Int → Int → Int
  | [], S => S
  | _ :: L, S => lumpR off L (S - mnI off S)
theorem lumpR_nn {off : Int} : ∀ {L : List Int} {S : Int}, 0 ≤ S → 0 ≤ lumpR off L S
  | [], _, h => h
  | _ :: L, S, h => lumpR_nn (L := L) (by have := mnI_le (off := off) (S := S); omega)
def partE (off R : Int) : List Int := List.replicate (R / off).toNat off ++ (if R % off = 0 then [] else [R % off])
theorem partE_take {off R : Int} (h : 0 < off) (r0 : 0 ≤ R) (j : Nat) : ((partE off R).take j).sum = mnI (j * off) R := by
  unfold partE
  have e := Int.emod_add_mul_ediv R off
  have m0 := Int.emod_nonneg R (show off ≠ 0 by omega)
  have m1 := Int.emod_lt_of_pos R h
  have q0 : 0 ≤ R / off := Int.ediv_nonneg r0 (by omega)
  generalize R / off = q at *
  generalize R % off = r at *
  rw [List.take_append, List.sum_append, List.take_replicate, sum_rep, List.length_replicate]
  obtain ⟨n, rfl⟩ := Int.eq_ofNat_of_zero_le q0
  rw [Int.toNat_natCast]
  by_cases c : j ≤ n
  · rw [Nat.min_eq_left c, Nat.sub_eq_zero_of_le c, List.take_zero]
    have := Int.mul_le_mul_of_nonneg_left (show (j : Int) ≤ n by omega) (show 0 ≤ off by omega)
    unfold mnI
    rw [Int.mul_comm (j : Int) off]
    show off * (j : Int) + 0 = _
    split <;> omega
  · rw [Nat.min_eq_right (by omega)]
    have h1 : R ≤ j * off := by
      have := Int.mul_le_mul_of_nonneg_left (show (n : Int) + 1 ≤ j by omega) (show 0 ≤ off by omega)
      rw [Int.mul_comm (j : Int) off]
      grind
    have h2 : ((if r = 0 then [] else [r]).take (j - n)).sum = r := by
      by_cases c2 : r = 0
      · rw [if_pos c2, List.take_nil, c2]
        rfl
      · rw [if_neg c2, List.take_of_length_le (by simp; omega)]
        show r + 0 = r
        omega
    rw [h2]
    unfold mnI
    split <;> omega
theorem lump_take {off : Int} (h : 0 < off) : ∀ {L : List Int} {S : Int} (j : Nat), 0 ≤ S → ((lumpZ off L S ++ partE off (lumpR off L S)).take j).sum = bndZ off L S j
  | [], S, j, h0 => by
    unfold bndZ
    rw [List.take_nil]
    show ((partE off S).take j).sum = 0 + _
    rw [partE_take h h0]
    omega
  | b :: L, S, 0, h0 => by
    unfold bndZ
    rw [List.take_zero, List.take_zero]
    show (0 : Int) = 0 + mnI (((0 : Nat) : Int) * off) S
    unfold mnI
    simp
    omega
  | b :: L, S, j + 1, h0 => by
    have m1 := mnI_le (off := off) (S := S)
    have ih := lump_take (L := L) (S := S - mnI off S) h j (by omega)
    show (((b + mnI off S) :: (lumpZ off L (S - mnI off S) ++ partE off (lumpR off L (S - mnI off S)))).take (j + 1)).sum = _
    rw [List.take_succ_cons, List.sum_cons, ih]
    unfold bndZ
    rw [List.take_succ_cons, List.sum_cons]
    have : mnI off S + mnI (j * off) (S - mnI off S) = mnI (((j + 1 : Nat) : Int) * off) S := by
      have jo := Int.mul_nonneg (show 0 ≤ (j : Int) by omega) (show 0 ≤ off by omega)
      have e : ((j + 1 : Nat) : Int) * off = j * off + off := by push_cast; grind
      rw [e]
      generalize (j : Int) * off = x at *
      unfold mnI
      split <;> split <;> split <;> omega
    omega
/-! how many there are -/
theorem lumpR_mono {off : Int} : ∀ {L : List Int} {S S' : Int}, S ≤ S' → lumpR off L S ≤ lumpR off L S'
  | [], _, _, h => h
  | _ :: L, S, S', h => lumpR_mono (L := L) (by unfold mnI; split <;> split <;> omega)
theorem lumpR_le {off : Int} (o0 : 0 ≤ off) : ∀ {L t : List Int} {S F : Int}, t.length = L.length → (∀ x ∈ t, 0 ≤ x ∧ x ≤ off) → t.sum + F = S → 0 ≤ F → lumpR off L S ≤ F
  | [], t, S, F, hl, _, e, _ => by
    obtain rfl : t = [] := List.length_eq_zero_iff.mp hl
    show S ≤ F
    rw [List.sum_nil] at e
    omega
  | b :: L, t, S, F, hl, ht, e, f0 => by
    match t, hl with
    | t0 :: t, hl =>
      have h0 := ht t0 List.mem_cons_self
      have st : 0 ≤ t.sum := sum_nn fun x hx => (ht x (List.mem_cons_of_mem _ hx)).1
      rw [List.sum_cons] at e
      show lumpR off L (S - mnI off S) ≤ F
      have ih := lumpR_le (L := L) (t := t) (S := S - t0) (F := F) o0 (by simpa using hl) (fun x hx => ht x (List.mem_cons_of_mem _ hx)) (by omega) f0
      exact Int.le_trans (lumpR_mono (by unfold mnI; split <;> omega)) ih
theorem partE_len {off R : Int} {f : List Int} (h : 0 < off) (r0 : 0 ≤ R) (hf : ∀ x ∈ f, x ≤ off) (hs : R ≤ f.sum) : (partE off R).length ≤ f.length := by
  have := sum_bound hf
  unfold partE
  have e := Int.emod_add_mul_ediv R off
  have m0 := Int.emod_nonneg R (show off ≠ 0 by omega)
  have m1 := Int.emod_lt_of_pos R h
  have q0 : 0 ≤ R / off := Int.ediv_nonneg r0 (by omega)
  generalize R / off = q at *
  generalize R % off = r at *
  obtain ⟨n, rfl⟩ := Int.eq_ofNat_of_zero_le q0
  rw [List.length_append, List.length_replicate, Int.toNat_natCast]
  by_cases c : r = 0
  · rw [if_pos c, List.length_nil]
    by_cases c2 : n ≤ f.length
    · omega
    · have h3 := Int.mul_le_mul_of_nonneg_right (show (f.length : Int) + 1 ≤ n by omega) (show 0 ≤ off by omega)
      exfalso
      grind
  · rw [if_neg c]
    show n + 1 ≤ _
    by_cases c2 : n + 1 ≤ f.length
    · exact c2
    · have h3 := Int.mul_le_mul_of_nonneg_right (show (f.length : Int) ≤ n by omega) (show 0 ≤ off by omega)
      exfalso
      grind
theorem ones_le : ∀ {f : List Int}, (∀ x ∈ f, 1 ≤ x) → (f.length : Int) ≤ f.sum
  | [], _ => Int.le_refl _
  | a :: f, h => by
    have := h a List.mem_cons_self
    have := ones_le (f := f) fun x hx => h x (List.mem_cons_of_mem _ hx)
    rw [List.sum_cons, List.length_cons]
    push_cast
    omega
end Kb

namespace Kb
open PySem PySem.Spec PyProof.Rows L2 SrtZ SrtO FlX LamX
abbrev NP_asked : List Str := ["question", "part"]
abbrev NP_falling : List Str := ["kept", "name", "_"]
abbrev NP_parted : List Str := ["amount", "size", "groups", "part", "many"]
abbrev qFall : Str := (("falling" : Str) ++ ".<locals>.") ++ "<lambda>"
/-- a question -/
inductive Qn where
  | count (z : Str) | lot (zs : List Str) | apart (y z : Str) | place (z : Str) | first (j : Int) | unlike | squares
def Qn.word : Qn → Str
  | .count _ => "count"
  | .lot _ => "lot"
  | .apart _ _ => "apart"
  | .place _ => "place"
  | .first _ => "first"
  | .unlike => "unlike"
  | .squares => "squares"
def Qn.names : Qn → List Str
  | .count z => [z]
  | .lot zs => zs
  | .apart y z => [y, z]
  | .place z => [z]
  | _ => []
/-- the parts of a question that is no lot -/
def Qn.parts : Qn → List V
  | .count z => [.str z]
  | .lot _ => []
  | .apart y z => [.str y, .str z]
  | .place z => [.str z]
  | .first j => [.int j]
  | _ => []
def QnAt (K : PySem.W.Frag) (H : Hp) (q : Addr) : Qn → Prop
  | .lot zs => ∃ t, SqT K H q [.str "lot", .ref t] ∧ SqT K H t (zs.map V.str)
  | x => SqT K H q (.str x.word :: x.parts)
structure QnOk (x : Qn) : Prop where
  nm : ∀ z ∈ x.names, Nm z
  len : x.names.length ≤ 40
  asc : ∀ zs, x = .lot zs → zs.Pairwise fun a b => ltZ a b = true
  ne : ∀ y z, x = .apart y z → y ≠ z
  j : ∀ j, x = .first j → 1 ≤ j ∧ j ≤ 40
theorem QnAt.same {K : PySem.W.Frag} {H H' : Hp} {q : Addr} {x : Qn} (h : QnAt K H q x) (s : Same H H') : QnAt K H' q x := by
  cases x with
  | lot zs =>
    obtain ⟨t, h1, h2⟩ := h
    exact ⟨t, seqT h1 s, seqT h2 s⟩
  | _ => exact seqT h s
theorem QnAt.ext {K : PySem.W.Frag} {H H' : Hp} {q P : Addr} {x : Qn} {c : Str} (h : QnAt K H q x) (T : TabS H P c) (s : ExT P c H H') : QnAt K H' q x := by
  cases x with
  | lot zs =>
    obtain ⟨t, h1, h2⟩ := h
    exact ⟨t, s.tup T h1, s.tup T h2⟩
  | _ => exact s.tup T h
/-- its word is read -/
theorem QnAt.word {K : PySem.W.Frag} {H : Hp} {q : Addr} {x : Qn} (h : QnAt K H q x) : ∃ xs, SqT K H q (.str x.word :: xs) := by
  cases x with
  | lot zs =>
    obtain ⟨t, h1, h2⟩ := h
    exact ⟨_, h1⟩
  | _ => exact ⟨_, h⟩
/-! plans as mathematics -/
/-- pairs of ints on the heap -/
abbrev PrI (H : Hp) (t : Addr) (e : Int × Int) : Prop := H t = some (.tup [.int e.1, .int e.2])
def groupsZ (a sz : Int) : List (Int × Int) := [(sz, a / sz), (a % sz, 1)]
def okG (e : Int × Int) : Bool := decide (0 < e.1) && decide (0 < e.2)
def partedZ (a sz : Int) : List (Int × Int) := if a = 0 then [] else (groupsZ a sz).filter okG
theorem partedZ_len (a sz : Int) : (partedZ a sz).length ≤ 2 := by
  unfold partedZ
  split
  · exact Nat.zero_le _
  · exact Nat.le_trans (List.length_filter_le _ _) (Nat.le_refl 2)
/-- what is taken from these names, one behind another, and what is left -/
def fillZ (off : Int) : List Str → Ct × Int → Ct × Int
  | [], x => x
  | n :: r, x => fillZ off r (putZ x.1 n (if x.2 < off then x.2 else off), x.2 - (if x.2 < off then x.2 else off))
def nullZ : List Str → Ct → Ct
  | [], d => d
  | n :: r, d => nullZ r (putZ d n 0)
theorem nullZ_snoc (n : Str) : ∀ (zs : List Str) (d : Ct), nullZ (zs ++ [n]) d = putZ (nullZ zs d) n 0
  | [], _ => rfl
  | z :: r, d => nullZ_snoc n r (putZ d z 0)
theorem fillZ_snoc (off : Int) (n : Str) : ∀ (zs : List Str) (x : Ct × Int), fillZ off (zs ++ [n]) x = fillZ off [n] (fillZ off zs x)
  | [], _ => rfl
  | z :: r, x => fillZ_snoc off n r _
theorem nullZ_len : ∀ (zs : List Str) (d : Ct), (nullZ zs d).length ≤ d.length + zs.length
  | [], _ => Nat.le_refl _
  | z :: r, d => by
    have := nullZ_len r (putZ d z 0)
    have := putZ_len (kvs := d) (n := z) (v := 0)
    show (nullZ r (putZ d z 0)).length ≤ d.length + (r.length + 1)
    omega
theorem fillZ_len (off : Int) : ∀ (zs : List Str) (x : Ct × Int), (fillZ off zs x).1.length ≤ x.1.length + zs.length
  | [], _ => Nat.le_refl _
  | z :: r, x => by
    have := fillZ_len off r (putZ x.1 z (if x.2 < off then x.2 else off), x.2 - (if x.2 < off then x.2 else off))
    have := putZ_len (kvs := x.1) (n := z) (v := if x.2 < off then x.2 else off)
    dsimp only at *
    show (fillZ off r _).1.length ≤ x.1.length + (r.length + 1)
    omega
theorem fillZ_left {off : Int} (h0 : 0 ≤ off) : ∀ (zs : List Str) (x : Ct × Int), 0 ≤ x.2 → 0 ≤ (fillZ off zs x).2 ∧ (fillZ off zs x).2 ≤ x.2
  | [], x, h => ⟨h, Int.le_refl _⟩
  | z :: r, x, h => by
    have := fillZ_left h0 r (putZ x.1 z (if x.2 < off then x.2 else off), x.2 - (if x.2 < off then x.2 else off)) (by dsimp only; split <;> omega)
    dsimp only at this
    show 0 ≤ (fillZ off r _).2 ∧ (fillZ off r _).2 ≤ x.2
    refine ⟨this.1, ?_⟩
    have h2 := this.2
    split at h2 <;> omega
/-- a sketch on the heap, anywhere -/
structure SkC (K : PySem.W.Frag) (H : Hp) (s : Addr) (r m o : Int) (kvs : Ct) : Prop where
  ob : ∃ (k : Addr) (ts : List Addr), SqT K H s [.int r, .int m, .int o, .ref k] ∧ Ptp H k (ts.map V.ref) ∧ Paired (PrAt K H) ts kvs
theorem SkC.same {K : PySem.W.Frag} {H H' : Hp} {s : Addr} {r m o : Int} {kvs : Ct} (h : SkC K H s r m o kvs) (y : Same H H') : SkC K H' s r m o kvs := by
  obtain ⟨k, ts, h1, h2, h3⟩ := h.ob
  exact ⟨k, ts, seqT h1 y, h2.same y, paired_imp (fun t e h => seqT h y) h3⟩
/-- it is a sketch -/
structure SkG (r m o : Int) (kvs : Ct) : Prop where
  r1 : 1 ≤ r
  r64 : r ≤ 64
  m0 : 0 ≤ m
  o0 : 0 ≤ o
  cts : Cts kvs
  len : (kvs.length : Int) ≤ r
  lo : (r + 1) * o ≤ m - sumC kvs
  hi : m - sumC kvs ≤ 2 * r * o
  big : m < 2 ^ 100
theorem SkC.of {K : PySem.W.Frag} {H : Hp} {s : Addr} {r : Int} {x : Tl} (h : SkAt H s r x) : SkC K H s r x.m x.o (srtZ x.c) := by
  obtain ⟨k, ts, h1, h2, h3⟩ := h
  exact ⟨k, ts, .inl (.inl h1), h2, paired_imp (fun t e h => .inl (.inl h)) h3⟩
section
variable {P : Program} {w : World} {K : PySem.W.Frag} {mg : Str → Option Value} {base : Heap}
/-- THE RULE for a def, its code told -/
theorem okC {x qual : Str} {st : Stmt} {f : Addr} {fd : FuncData} {N ps : List Str} {k : Nat} {sp : Sp} (F : Fun K x qual st f fd) (S : FnScope N ps (defScope st)) (len : ∀ vs H Q E, sp vs H Q E → vs.length = ps.length)
    (hbody : ∀ (cdv : Value) (A : Around) (outer : List Env) (s : Shared) (H : Hp) (vs : List V) (Q : VK) (E : XK), cdv = fd.code → Room k (A.deeper (envOfC qual (defScope st) s.heap.objs.size f cdv)) → sp vs H Q E →
      ∃ t, PSs (cxOf CX0 P w K mg base N qual (defScope st) f cdv A outer s H E).nox (defBody st) t ∧ t { nx := fun _ H' => Q .non H', rt := Q } (L2.start N vs) H) : FnOk P w K mg base CX0 (k + 1) f fd ps sp := by
  obtain ⟨oc, od, kV, doc, pm, an, cdv, ct, osl, rfl, lk, hcd⟩ := F.ex
  refine fn_of lk hcd S len fun A outer s H vs Q E hr hsp => ?_
  obtain ⟨t, h, q⟩ := hbody cdv A outer s H vs Q E rfl hr hsp
  exact ⟨t, h.nox, q⟩
/-! falling -/
def spFalling (K : PySem.W.Frag) (P : Addr) : Sp := fun vs H Q _ => ∃ (a : Addr) (ts : List Addr) (kvs : Ct), vs = [.ref a] ∧ SqT K H a (ts.map V.ref) ∧ Paired (PrAt K H) ts kvs ∧ kvs.length ≤ 1000 ∧ TabS H P qFall ∧
  ∀ H' p, ExT P qFall H H' → H p = none → H' p = some (.lst (((fallBy (·.2) kvs).map (·.1)).map V.str)) → Q (.ref p) H'
/-! asked -/
def spAsked (K : PySem.W.Frag) : Sp := fun vs H Q _ => ∃ (q : Addr) (x : Qn), vs = [.ref q] ∧ QnAt K H q x ∧ ∀ H' p, Same H H' → SqT K H' p (x.names.map V.str) → Q (.ref p) H'
theorem word_ne {a b : Str} (h : decide (V.str a = V.str b) = false) {x : Qn} (e : x.word = a) : decide (V.str x.word = V.str b) = false := by rw [e]; exact h
theorem lot_ne : ∀ {x : Qn}, (∀ zs, x ≠ .lot zs) → decide (V.str x.word = V.str (Str.ofString "lot")) = false
  | .count _, _ => word_ne (a := "count") (by decide +kernel) rfl
  | .lot zs, h => absurd rfl (h zs)
  | .apart _ _, _ => word_ne (a := "apart") (by decide +kernel) rfl
  | .place _, _ => word_ne (a := "place") (by decide +kernel) rfl
  | .first _, _ => word_ne (a := "first") (by decide +kernel) rfl
  | .unlike, _ => word_ne (a := "unlike") (by decide +kernel) rfl
  | .squares, _ => word_ne (a := "squares") (by decide +kernel) rfl
def strsV : List V → List V := List.filter fun v => match v with | .str _ => true | _ => false
theorem parts_strs : ∀ {x : Qn}, (∀ zs, x ≠ .lot zs) → strsV x.parts = x.names.map V.str
  | .lot zs, h => absurd rfl (h zs)
  | .count _, _ => rfl
  | .apart _ _, _ => rfl
  | .place _, _ => rfl
  | .first _, _ => rfl
  | .unlike, _ => rfl
  | .squares, _ => rfl
theorem parts_flat : ∀ {x : Qn}, ∀ v ∈ x.parts, (∃ z, v = .str z) ∨ ∃ i, v = .int i
  | .count z, v, h => .inl ⟨z, List.mem_singleton.mp h⟩
  | .lot _, v, h => nomatch h
  | .apart y z, v, h => by
    rcases List.mem_cons.mp h with h | h
    · exact .inl ⟨y, h⟩
    · exact .inl ⟨z, List.mem_singleton.mp h⟩
  | .place z, v, h => .inl ⟨z, List.mem_singleton.mp h⟩
  | .first j, v, h => .inr ⟨j, List.mem_singleton.mp h⟩
  | .unlike, v, h => nomatch h
  | .squares, v, h => nomatch h
theorem parts_len (x : Qn) : x.parts.length ≤ 2 := by
  cases x <;> simp [Qn.parts]
/-! parted -/
def spParted : Sp := fun vs H Q _ => ∃ (a sz : Int), vs = [.int a, .int sz] ∧ 0 ≤ a ∧ (a = 0 ∨ (0 < sz ∧ sz < 2 ^ 100)) ∧ ∀ H' p (ts : List Addr), Same H H' → H p = none → H' p = some (.lst (ts.map V.ref)) → Paired (PrI H') ts (partedZ a sz) → Q (.ref p) H'
end
end Kb

namespace Kb
/-! how many can have a greater count than one name -/
def needZ (mine c : Int) : Int := if mine + 1 - c > 0 then mine + 1 - c else 0
theorem needZ_nn {mine c : Int} : 0 ≤ needZ mine c := by unfold needZ; split <;> omega
def plZ (off mine : Int) : List Int → Int → Int
  | [], S => if mine + 1 ≤ off then S / (mine + 1) else 0
  | b :: L, S => if needZ mine b ≤ mnI off S then 1 + plZ off mine L (S - needZ mine b) else plZ off mine L S
theorem mnI_iff {d off S : Int} : d ≤ mnI off S ↔ d ≤ off ∧ d ≤ S := by unfold mnI; split <;> omega
theorem plZ_nn {off mine : Int} (m0 : 0 ≤ mine) : ∀ {L : List Int} {S : Int}, 0 ≤ S → 0 ≤ plZ off mine L S
  | [], S, h => by
    show 0 ≤ if mine + 1 ≤ off then S / (mine + 1) else 0
    split
    · exact Int.ediv_nonneg h (by omega)
    · exact Int.le_refl _
  | b :: L, S, h => by
    show 0 ≤ if needZ mine b ≤ mnI off S then 1 + plZ off mine L (S - needZ mine b) else plZ off mine L S
    split
    · rename_i c
      have := mnI_iff.mp c
      have := plZ_nn (off := off) m0 (L := L) (S := S - needZ mine b) (by omega)
      omega
    · exact plZ_nn m0 h
/-- needs that rise: none is met that is more than what there is -/
theorem plZ_zero {off mine d : Int} (m0 : 0 ≤ mine) : ∀ {L : List Int} {S : Int}, 0 ≤ S → S < d → d ≤ mine + 1 → (∀ b ∈ L, d ≤ needZ mine b) → plZ off mine L S = 0
  | [], S, s0, h, hd, _ => by
    show (if mine + 1 ≤ off then S / (mine + 1) else 0) = 0
    split
    · exact Int.ediv_eq_zero_of_lt s0 (by omega)
    · rfl
  | b :: L, S, s0, h, hd, hb => by
    have := hb b List.mem_cons_self
    show (if needZ mine b ≤ mnI off S then 1 + plZ off mine L (S - needZ mine b) else plZ off mine L S) = 0
    rw [if_neg (fun c => by have := mnI_iff.mp c; omega)]
    exact plZ_zero m0 s0 h hd fun x hx => hb x (List.mem_cons_of_mem _ hx)
theorem need_rise {mine : Int} {L : List Int} (f : Fall L) : L.Pairwise fun a b => needZ mine a ≤ needZ mine b := f.imp fun {a b} h => by
  unfold needZ
  split <;> split <;> omega
theorem need_le {mine b : Int} (h : 0 ≤ b) (m0 : 0 ≤ mine) : needZ mine b ≤ mine + 1 := by unfold needZ; split <;> omega
theorem plZ_mono {off mine : Int} (m0 : 0 ≤ mine) : ∀ {L : List Int} {S S' : Int}, Nn L → Fall L → 0 ≤ S → S ≤ S' → plZ off mine L S ≤ plZ off mine L S'
  | [], S, S', _, _, s0, h => by
    show (if mine + 1 ≤ off then S / (mine + 1) else 0) ≤ if mine + 1 ≤ off then S' / (mine + 1) else 0
    split
    · exact Int.ediv_le_ediv (by omega) h
    · exact Int.le_refl _
  | b :: L, S, S', n, f, s0, h => by
    show (if needZ mine b ≤ mnI off S then 1 + plZ off mine L (S - needZ mine b) else plZ off mine L S) ≤ if needZ mine b ≤ mnI off S' then 1 + plZ off mine L (S' - needZ mine b) else plZ off mine L S'
    have nb := n.cons
    have fb := f.cons
    by_cases c1 : needZ mine b ≤ mnI off S
    · have c1' := mnI_iff.mp c1
      rw [if_pos c1, if_pos (mnI_iff.mpr ⟨c1'.1, by omega⟩)]
      have := plZ_mono (off := off) m0 (L := L) (S := S - needZ mine b) (S' := S' - needZ mine b) nb.2 fb.2 (by omega) (by omega)
      omega
    · rw [if_neg c1]
      by_cases c2 : needZ mine b ≤ mnI off S'
      · rw [if_pos c2]
        have c2' := mnI_iff.mp c2
        have hS : S < needZ mine b := by
          have := mt mnI_iff.mpr c1
          omega
        have r := need_rise (mine := mine) f
        rw [List.pairwise_cons] at r
        rw [plZ_zero (d := needZ mine b) m0 s0 hS (need_le nb.1 m0) r.1]
        have := plZ_nn (off := off) m0 (L := L) (S := S' - needZ mine b) (by omega)
        omega
      · rw [if_neg c2]
        exact plZ_mono m0 nb.2 fb.2 s0 h
theorem plZ_less {off mine d : Int} (m0 : 0 ≤ mine) (d0 : 0 ≤ d) (dm : d ≤ mine + 1) : ∀ {L : List Int} {S : Int}, Nn L → Fall L → (∀ b ∈ L, d ≤ needZ mine b) → d ≤ S → plZ off mine L S ≤ 1 + plZ off mine L (S - d)
  | [], S, _, _, _, h => by
    show (if mine + 1 ≤ off then S / (mine + 1) else 0) ≤ 1 + if mine + 1 ≤ off then (S - d) / (mine + 1) else 0
    split
    · have h1 : S / (mine + 1) ≤ (S - d + (mine + 1)) / (mine + 1) := Int.ediv_le_ediv (by omega) (by omega)
      have h2 := Int.add_mul_ediv_right (S - d) 1 (show mine + 1 ≠ 0 by omega)
      rw [Int.one_mul] at h2
      omega
    · omega
  | b :: L, S, n, f, hb, h => by
    have nb := n.cons
    have fb := f.cons
    have h1 := hb b List.mem_cons_self
    have hL : ∀ x ∈ L, d ≤ needZ mine x := fun x hx => hb x (List.mem_cons_of_mem _ hx)
    show (if needZ mine b ≤ mnI off S then 1 + plZ off mine L (S - needZ mine b) else plZ off mine L S) ≤ 1 + if needZ mine b ≤ mnI off (S - d) then 1 + plZ off mine L (S - d - needZ mine b) else plZ off mine L (S - d)
    by_cases c1 : needZ mine b ≤ mnI off S
    · have c1' := mnI_iff.mp c1
      rw [if_pos c1]
      by_cases c2 : needZ mine b ≤ mnI off (S - d)
      · have c2' := mnI_iff.mp c2
        rw [if_pos c2]
        have := plZ_less (off := off) m0 d0 dm (L := L) (S := S - needZ mine b) nb.2 fb.2 hL (by omega)
        rw [show S - needZ mine b - d = S - d - needZ mine b by omega] at this
        omega
      · rw [if_neg c2]
        have := plZ_mono (off := off) m0 (L := L) (S := S - needZ mine b) (S' := S - d) nb.2 fb.2 (by omega) (by omega)
        omega
    · rw [if_neg c1]
      by_cases c2 : needZ mine b ≤ mnI off (S - d)
      · exact absurd (mnI_iff.mpr ⟨(mnI_iff.mp c2).1, by have := (mnI_iff.mp c2).2; omega⟩) c1
      · rw [if_neg c2]
        exact plZ_less m0 d0 dm nb.2 fb.2 hL h
/-- how many of these are more -/
def cntG (mine : Int) (l : List Int) : Int := ((l.filter fun x => decide (mine < x)).length : Nat)
theorem cntG_cons (mine a : Int) (l : List Int) : cntG mine (a :: l) = (if mine < a then 1 else 0) + cntG mine l := by
  unfold cntG
  by_cases h : mine < a
  · rw [List.filter_cons_of_pos (by simpa using h), if_pos h, List.length_cons]
    push_cast
    omega
  · rw [List.filter_cons_of_neg (by simpa using h), if_neg h]
    omega
theorem cntG_app (mine : Int) (l m : List Int) : cntG mine (l ++ m) = cntG mine l + cntG mine m := by
  unfold cntG
  rw [List.filter_append, List.length_append]
  push_cast
  rfl
theorem cntG_perm {mine : Int} {l m : List Int} (p : l.Perm m) : cntG mine l = cntG mine m := by
  unfold cntG
  rw [(p.filter _).length_eq]
theorem cntG_nn (mine : Int) (l : List Int) : 0 ≤ cntG mine l := by unfold cntG; omega
/-- fresh names that are more: each has taken so much -/
theorem fresh_more {mine : Int} (m0 : 0 ≤ mine) : ∀ {f : List Int}, (∀ x ∈ f, 0 ≤ x) → cntG mine f * (mine + 1) ≤ f.sum
  | [], _ => by show (0 : Int) * _ ≤ 0; omega
  | a :: f, h => by
    have h0 := h a List.mem_cons_self
    have := fresh_more m0 (f := f) fun x hx => h x (List.mem_cons_of_mem _ hx)
    rw [cntG_cons, List.sum_cons, Int.add_mul]
    split <;> omega
theorem plZ_best {off mine : Int} (m0 : 0 ≤ mine) (o0 : 0 ≤ off) : ∀ {L t f : List Int} {S : Int}, Nn L → Fall L → t.length = L.length → (∀ x ∈ t, 0 ≤ x ∧ x ≤ off) → (∀ x ∈ f, 0 ≤ x ∧ x ≤ off) → t.sum + f.sum ≤ S →
    cntG mine (List.zipWith (· + ·) L t) + cntG mine f ≤ plZ off mine L S
  | [], t, f, S, _, _, hl, _, hf, e => by
    obtain rfl : t = [] := List.length_eq_zero_iff.mp hl
    rw [List.sum_nil] at e
    show (0 : Int) + cntG mine f ≤ if mine + 1 ≤ off then S / (mine + 1) else 0
    split
    · have := fresh_more m0 fun x hx => (hf x hx).1
      rw [Int.zero_add]
      exact (Int.le_ediv_iff_mul_le (by omega)).mpr (by omega)
    · have : cntG mine f = 0 := by
        unfold cntG
        rw [List.filter_eq_nil_iff.mpr fun x hx => by have := (hf x hx).2; simp; omega]
        rfl
      omega
  | b :: L, t, f, S, n, fl, hl, ht, hf, e => by
    match t, hl with
    | t0 :: t, hl =>
      have h0 := ht t0 List.mem_cons_self
      have nb := n.cons
      have fb := fl.cons
      have hl' : t.length = L.length := by simpa using hl
      have ht' : ∀ x ∈ t, 0 ≤ x ∧ x ≤ off := fun x hx => ht x (List.mem_cons_of_mem _ hx)
      rw [List.sum_cons] at e
      have st : 0 ≤ t.sum := sum_nn fun x hx => (ht' x hx).1
      have sf : 0 ≤ f.sum := sum_nn fun x hx => (hf x hx).1
      have r := need_rise (mine := mine) fl
      rw [List.pairwise_cons] at r
      show cntG mine ((b + t0) :: List.zipWith (· + ·) L t) + cntG mine f ≤ if needZ mine b ≤ mnI off S then 1 + plZ off mine L (S - needZ mine b) else plZ off mine L S
      rw [cntG_cons]
      have ndef : mine < b + t0 → needZ mine b ≤ t0 := fun h => by unfold needZ; split <;> omega
      by_cases c1 : needZ mine b ≤ mnI off S
      · have c1' := mnI_iff.mp c1
        rw [if_pos c1]
        by_cases c2 : mine < b + t0
        · rw [if_pos c2]
          have ih := plZ_best m0 o0 (L := L) (t := t) (f := f) (S := S - t0) nb.2 fb.2 hl' ht' hf (by omega)
          have := plZ_mono (off := off) m0 (L := L) (S := S - t0) (S' := S - needZ mine b) nb.2 fb.2 (by omega) (by have := ndef c2; omega)
          omega
        · rw [if_neg c2]
          have ih := plZ_best m0 o0 (L := L) (t := t) (f := f) (S := S) nb.2 fb.2 hl' ht' hf (by omega)
          have := plZ_less (off := off) m0 needZ_nn (need_le nb.1 m0) (L := L) (S := S) nb.2 fb.2 r.1 c1'.2
          omega
      · rw [if_neg c1]
        have c2 : ¬ mine < b + t0 := fun h => c1 (mnI_iff.mpr ⟨by have := ndef h; omega, by have := ndef h; omega⟩)
        rw [if_neg c2]
        have ih := plZ_best m0 o0 (L := L) (t := t) (f := f) (S := S) nb.2 fb.2 hl' ht' hf (by omega)
        omega
end Kb

namespace Kb
open PySem PySem.Spec PyProof.Rows L2 SrtZ SrtO FlX LamX
abbrev NP_filled : List Str := ["sketch", "question", "names", "size", "off", "left", "taken", "name"]
abbrev NP_passed : List Str := ["sketch", "name", "off", "left", "counts", "mine", "taken", "other", "need"]
/-- a plan on the heap: what is taken, and parts -/
structure PlanAt (H : Hp) (p : Addr) (x : Ct × List (Int × Int)) : Prop where
  ob : ∃ (d l : Addr) (ts : List Addr), H p = some (.tup [.ref d, .ref l]) ∧ H d = some (.dK (x.1.map entZ)) ∧ H l = some (.lst (ts.map V.ref)) ∧ Paired (PrI H) ts x.2
theorem PlanAt.same {H H' : Hp} {p : Addr} {x : Ct × List (Int × Int)} (h : PlanAt H p x) (y : Same H H') : PlanAt H' p x := by
  obtain ⟨d, l, ts, h1, h2, h3, h4⟩ := h.ob
  exact ⟨d, l, ts, y _ _ h1, y _ _ h2, y _ _ h3, paired_imp (fun t e h => y _ _ h) h4⟩
theorem PlanAt.ext {H H' : Hp} {p P : Addr} {c : Str} {x : Ct × List (Int × Int)} (h : PlanAt H p x) (T : TabS H P c) (y : ExT P c H H') : PlanAt H' p x := by
  obtain ⟨d, l, ts, h1, h2, h3, h4⟩ := h.ob
  exact ⟨d, l, ts, y.at T h1 (by intro _ z; cases z), y.at T h2 (by intro _ z; cases z), y.at T h3 (by intro _ z; cases z), paired_imp (fun t e h => y.at T h (by intro _ z; cases z)) h4⟩
theorem SkC.ext {K : PySem.W.Frag} {H H' : Hp} {s P : Addr} {c : Str} {r m o : Int} {kvs : Ct} (h : SkC K H s r m o kvs) (T : TabS H P c) (y : ExT P c H H') : SkC K H' s r m o kvs := by
  obtain ⟨k, ts, h1, ⟨ob, h2, h4⟩, h3⟩ := h.ob
  exact ⟨k, ts, y.tup T h1, ⟨ob, y.at T h2 (by intro _ z; cases z), h4⟩, paired_imp (fun t e h => y.tup T h) h3⟩
/-- a tuple or a list of these -/
def SqX (K : PySem.W.Frag) (H : Hp) (a : Addr) (xs : List V) : Prop := SqT K H a xs ∨ H a = some (.lst xs)
theorem SqX.same {K : PySem.W.Frag} {H H' : Hp} {a : Addr} {xs : List V} (h : SqX K H a xs) (s : Same H H') : SqX K H' a xs := by
  rcases h with h | h
  · exact .inl (seqT h s)
  · exact .inr (s _ _ h)
theorem pi_or {X : Cx} {tg iter : Expr} {w1 w2 : TI} (h1 : PI X tg iter w1) (h2 : PI X tg iter w2) : PI X tg iter (fun σ H R => w1 σ H R ∨ w2 σ H R) := by
  refine ⟨fun pins s σ H R I h => ?_⟩
  rcases h with h | h
  · exact h1.run pins s σ H R I h
  · exact h2.run pins s σ H R I h
def planZ (kvs : Ct) (m off size : Int) (zs ys : List Str) : Ct × List (Int × Int) := ((fillZ off ys (nullZ zs [], m - sumC kvs)).1, partedZ (fillZ off ys (nullZ zs [], m - sumC kvs)).2 size)
/-- just so much from others that as many as can be have a greater count -/
def passB (off mine : Int) (name : Str) (e : Str × Int) (left : Int) : Bool := !decide (e.1 = name) && decide (needZ mine e.2 ≤ mnI off left)
def passZ (off mine : Int) (name : Str) : Ct → Ct × Int → Ct × Int
  | [], x => x
  | e :: r, x => passZ off mine name r (if passB off mine name e x.2 = true then (putZ x.1 e.1 (needZ mine e.2), x.2 - needZ mine e.2) else x)
theorem passZ_snoc (off mine : Int) (name : Str) (e : Str × Int) : ∀ (zs : Ct) (x : Ct × Int), passZ off mine name (zs ++ [e]) x = passZ off mine name [e] (passZ off mine name zs x)
  | [], _ => rfl
  | z :: r, x => passZ_snoc off mine name e r _
theorem passZ_len (off mine : Int) (name : Str) : ∀ (zs : Ct) (x : Ct × Int), (passZ off mine name zs x).1.length ≤ x.1.length + zs.length
  | [], _ => Nat.le_refl _
  | z :: r, x => by
    have := passZ_len off mine name r (if passB off mine name z x.2 = true then (putZ x.1 z.1 (needZ mine z.2), x.2 - needZ mine z.2) else x)
    show (passZ off mine name r _).1.length ≤ x.1.length + (r.length + 1)
    refine Nat.le_trans this ?_
    split
    · have := putZ_len (kvs := x.1) (n := z.1) (v := needZ mine z.2)
      dsimp only
      omega
    · omega
theorem passZ_left {off mine : Int} (name : Str) : ∀ (zs : Ct) (x : Ct × Int), 0 ≤ x.2 → 0 ≤ (passZ off mine name zs x).2 ∧ (passZ off mine name zs x).2 ≤ x.2
  | [], x, h => ⟨h, Int.le_refl _⟩
  | z :: r, x, h => by
    have nn : 0 ≤ needZ mine z.2 := by unfold needZ; split <;> omega
    have g : 0 ≤ (if passB off mine name z x.2 = true then (putZ x.1 z.1 (needZ mine z.2), x.2 - needZ mine z.2) else x).2 ∧ (if passB off mine name z x.2 = true then (putZ x.1 z.1 (needZ mine z.2), x.2 - needZ mine z.2) else x).2 ≤ x.2 := by
      split
      · rename_i hb
        unfold passB at hb
        rw [Bool.and_eq_true, decide_eq_true_eq] at hb
        have := mnI_le (off := off) (S := x.2)
        dsimp only
        omega
      · omega
    have := passZ_left (off := off) (mine := mine) name r _ g.1
    show 0 ≤ (passZ off mine name r _).2 ∧ (passZ off mine name r _).2 ≤ x.2
    exact ⟨this.1, Int.le_trans this.2 g.2⟩
def planP (kvs : Ct) (m off : Int) (z : Str) : Ct × List (Int × Int) := ((passZ off (gd kvs z) z (fallBy (·.2) kvs) ([(z, 0)], m - sumC kvs)).1, partedZ (passZ off (gd kvs z) z (fallBy (·.2) kvs) ([(z, 0)], m - sumC kvs)).2 (mnI (gd kvs z + 1) off))
section
variable {P : Program} {w : World} {K : PySem.W.Frag} {mg : Str → Option Value} {base : Heap}
/-! _filled -/
def spFilled (K : PySem.W.Frag) : Sp := fun vs H Q _ => ∃ (s q n : Addr) (r m off size : Int) (kvs : Ct) (x : Qn) (ys : List Str), vs = [.ref s, .ref q, .ref n, .int size] ∧ SkC K H s r m off kvs ∧ SkG r m off kvs ∧ QnAt K H q x ∧ QnOk x ∧ SqX K H n (ys.map V.str) ∧ ys.length ≤ 100 ∧ size < 2 ^ 100 ∧ (0 < size ∨ (fillZ off ys (nullZ x.names [], m - sumC kvs)).2 = 0) ∧
  ∀ H' p, Same H H' → H p = none → PlanAt H' p (planZ kvs m off size x.names ys) → Q (.ref p) H'
end
end Kb

namespace Kb
open PySem PySem.Spec PyProof.Rows L2 SrtZ SrtO FlX LamX
section
variable {P : Program} {w : World} {K : PySem.W.Frag} {mg : Str → Option Value} {base : Heap}
theorem dget_of {H : Hp} {d : Addr} {kvs : Ct} {y : Str} {v : Int} (h : H d = some (.dK (kvs.map entZ))) (g : getZ kvs y = some v) : DGet H d (.str y) (some (.int v)) := by
  have gv : valV (kvs.map entZ) (Sum.inr y : Key) = some (.int v) := by
    rw [getZ_val, g]
    rfl
  rw [← gv]
  exact DGet.k (k := Sum.inr y) h
theorem sumC_pos : ∀ {l : Ct}, (∀ e ∈ l, 1 ≤ e.2) → 0 ≤ sumC l
  | [], _ => Int.le_refl _
  | e :: l, h => by
    have h1 := h e List.mem_cons_self
    have h2 := sumC_pos (l := l) fun x hx => h x (List.mem_cons_of_mem _ hx)
    unfold sumC at h2 ⊢
    rw [List.map_cons, List.sum_cons]
    omega
theorem SkG.lost {r m o : Int} {kvs : Ct} (g : SkG r m o kvs) : 0 ≤ m - sumC kvs ∧ o ≤ m - sumC kvs ∧ (o = 0 → m - sumC kvs = 0) ∧ o < 2 ^ 100 := by
  have h1 := g.lo
  have h2 := g.hi
  have h3 := g.o0
  have h4 := g.r1
  have h5 := g.big
  have h6 := sumC_pos g.cts.pos
  have h7 : 1 * o ≤ (r + 1) * o := Int.mul_le_mul_of_nonneg_right (by omega) h3
  refine ⟨by omega, by omega, fun e => ?_, by omega⟩
  rw [e, Int.mul_zero] at h2
  omega
/-! _passed -/
def spPassed (K : PySem.W.Frag) (Pt : Addr) : Sp := fun vs H Q _ => ∃ (s : Addr) (r m off : Int) (kvs : Ct) (z : Str), vs = [.ref s, .str z] ∧ SkC K H s r m off kvs ∧ SkG r m off kvs ∧ TabS H Pt qFall ∧
  ∀ H' p, ExT Pt qFall H H' → H p = none → PlanAt H' p (planP kvs m off z) → Q (.ref p) H'
end
end Kb

namespace Kb
open PySem PySem.Spec PyProof.Rows L2 SrtZ SrtO FlX LamX
abbrev Plan := Ct × List (Int × Int)
def lumped (kvs : Ct) (m off : Int) : Plan := planZ kvs m off off [] ((fallBy (·.2) kvs).map (·.1))
def spread (kvs : Ct) (m off : Int) : Plan := planZ kvs m off 1 [] []
/-- the plans of the least and of the greatest value -/
def plansZ (kvs : Ct) (m off : Int) : Qn → Plan × Plan
  | .count z => (planZ kvs m off off [z] [], planZ kvs m off off [z] [z])
  | .lot zs => (planZ kvs m off off zs [], planZ kvs m off off zs zs)
  | .apart y z => (planZ kvs m off off [y, z] [z], planZ kvs m off off [y, z] [y])
  | .place z => (planZ kvs m off off [z] [z], planP kvs m off z)
  | .first _ => (spread kvs m off, lumped kvs m off)
  | .unlike => (lumped kvs m off, spread kvs m off)
  | .squares => (spread kvs m off, lumped kvs m off)
theorem fallB_perm (kvs : Ct) : (fallBy (·.2) kvs).Perm kvs := List.mergeSort_perm _ _
theorem fallB_len (kvs : Ct) : (fallBy (·.2) kvs).length = kvs.length := (fallB_perm kvs).length_eq
theorem size_ok {r m off : Int} {kvs : Ct} (hg : SkG r m off kvs) (zs ys : List Str) : 0 < off ∨ (fillZ off ys (nullZ zs [], m - sumC kvs)).2 = 0 := by
  obtain ⟨a1, a2, a3, a4⟩ := hg.lost
  have ho := hg.o0
  by_cases e : off = 0
  · have := fillZ_left ho ys (nullZ zs [], m - sumC kvs) a1
    dsimp only at this
    have := a3 e
    exact .inr (by omega)
  · exact .inl (by omega)
section
variable {P : Program} {w : World} {K : PySem.W.Frag} {mg : Str → Option Value} {base : Heap}
/-! plans_of -/
def spPlansOf (K : PySem.W.Frag) (Pt : Addr) : Sp := fun vs H Q _ => ∃ (s q : Addr) (r m off : Int) (kvs : Ct) (x : Qn), vs = [.ref s, .ref q] ∧ SkC K H s r m off kvs ∧ SkG r m off kvs ∧ QnAt K H q x ∧ QnOk x ∧ TabS H Pt qFall ∧
  ∀ H' p p1 p2, ExT Pt qFall H H' → H' p = some (.tup [.ref p1, .ref p2]) → PlanAt H' p1 (plansZ kvs m off x).1 → PlanAt H' p2 (plansZ kvs m off x).2 → Q (.ref p) H'
end
end Kb

namespace Kb
open PySem PySem.Spec PyProof.Rows L2 SrtZ SrtO FlX LamX RZ
abbrev NP_is_lot : List Str := ["thing", "one", "other", "name"]
/-- zip of two tuples, turn by turn -/
theorem walk_zipT {K : PySem.W.Frag} {a b : Addr} {xs ys : List V} {n : Nat} (hn : n = min xs.length ys.length) : Walk (ItzT K a b) n (fun H => SqT K H a xs ∧ SqT K H b ys) (YPair (fun i => xs[i]?) (fun i => ys[i]?)) := by
  subst hn
  refine ⟨fun i _ hi q => ?_, fun _ q => ⟨xs, ys, q.1, q.2, by omega⟩, fun i H v H' _ q y => ?_⟩
  · have h1 : i < xs.length := by omega
    have h2 : i < ys.length := by omega
    exact ⟨xs, ys, xs[i], ys[i], q.1, q.2, by simp [h1], by simp [h2]⟩
  · obtain ⟨T, x, z, h1, h2, h3, h4, h5⟩ := y
    exact ⟨T, x, z, h1, h2, h3, h4 xs q.1, h5 ys q.2⟩
section
variable {P : Program} {w : World} {K : PySem.W.Frag} {mg : Str → Option Value} {base : Heap}
/-! _is_lot -/
def spIsLot (K : PySem.W.Frag) : Sp := fun vs H Q _ => ∃ (t : Addr) (zs : List Str), vs = [.ref t] ∧ SqT K H t (zs.map V.str) ∧ zs.length ≤ 40 ∧ (∀ z ∈ zs, Nm z) ∧ (zs.Pairwise fun a b => ltZ a b = true) ∧ ∀ H', Same H H' → Q (.bl true) H'
/-! is_question -/
def spIsQuestion (K : PySem.W.Frag) : Sp := fun vs H Q _ => ∃ (q : Addr) (x : Qn), vs = [.ref q] ∧ QnAt K H q x ∧ QnOk x ∧ ∀ H', Same H H' → Q (.bl true) H'
end
end Kb

namespace FlX
open PySem PySem.Spec PyProof.Rows PySem.W L2 LamX SrtZ
/-- the pair of ints that a tuple of the heap holds -/
def rdI (H : Hp) (v : V) : Int × Int := match v with
  | .ref t => (match H t with
    | some (.tup [.int x, .int y]) => (x, y)
    | _ => (0, 0))
  | _ => (0, 0)
theorem rdI_of {H : Hp} {t : Addr} {e : Int × Int} (h : H t = some (.tup [.int e.1, .int e.2])) : rdI H (.ref t) = e := by
  unfold rdI
  dsimp only
  rw [h]
theorem pairedI_rd {H : Hp} : ∀ {ts : List Addr} {ns : List (Int × Int)}, Paired (fun (t : Addr) (e : Int × Int) => H t = some (.tup [.int e.1, .int e.2])) ts ns → (ts.map V.ref).map (rdI H) = ns ∧ ∀ v ∈ ts.map V.ref, ∃ t, v = V.ref t ∧ H t = some (.tup [.int (rdI H v).1, .int (rdI H v).2])
  | _, _, .nil => ⟨rfl, fun _ h => nomatch h⟩
  | t :: ts, _ :: ns, .cons h r => by
    obtain ⟨h1, h2⟩ := pairedI_rd r
    have e := rdI_of h
    refine ⟨by rw [List.map_cons, List.map_cons, h1, e], fun v hv => ?_⟩
    rcases List.mem_cons.mp hv with rfl | hv
    · exact ⟨t, rfl, by rw [e]; exact h⟩
    · exact h2 v hv
theorem pairedI_of {H : Hp} : ∀ {vs : List V}, (∀ v ∈ vs, ∃ t, v = V.ref t ∧ H t = some (.tup [.int (rdI H v).1, .int (rdI H v).2])) → ∃ us : List Addr, vs = us.map V.ref ∧ Paired (fun (t : Addr) (e : Int × Int) => H t = some (.tup [.int e.1, .int e.2])) us (vs.map (rdI H))
  | [], _ => ⟨[], rfl, .nil⟩
  | v :: vs, h => by
    obtain ⟨t, e, ht⟩ := h v List.mem_cons_self
    obtain ⟨us, e2, hp⟩ := pairedI_of fun x hx => h x (List.mem_cons_of_mem _ hx)
    refine ⟨t :: us, by rw [e, e2]; rfl, .cons ht hp⟩
/-- the firsts of a falling list fall -/
theorem srtd_desc {k : V → Int × Int} : ∀ {ys : List V}, SrtO.Srtd (ltP k) ys → (ys.map k).Pairwise fun a b => a.1 ≤ b.1
  | [], _ => .nil
  | y :: ys, h => by
    rw [List.map_cons, List.pairwise_cons]
    have h' := List.pairwise_cons.mp h
    refine ⟨fun b hb => ?_, srtd_desc (k := k) h'.2⟩
    obtain ⟨x, hx, rfl⟩ := List.mem_map.mp hb
    have := SrtO.lexB_no.mp (h'.1 x hx)
    omega
section
variable {X : Cx}
/-- sorted(pairs, reverse=True), pairs of ints, any number of them -/
def rSortedPR (K : PySem.W.Frag) : List V → List V → Hp → VK → Prop := fun vs zs H Q => ∃ (a : Addr) (ts : List Addr) (ns : List (Int × Int)), vs = [V.ref a] ∧ zs = [.bl true] ∧ SqL K H a (ts.map V.ref) ∧ Paired (fun (t : Addr) (e : Int × Int) => H t = some (.tup [.int e.1, .int e.2])) ts ns ∧
  ∀ (p : Addr) (us : List Addr) (ms : List (Int × Int)), ms.Perm ns → (ms.Pairwise fun a b => b.1 ≤ a.1) → H p = none → Paired (fun (t : Addr) (e : Int × Int) => H t = some (.tup [.int e.1, .int e.2])) us ms → Q (.ref p) (upd H p (.lst (us.map V.ref)))
theorem cr_sortedPR : CallRK X (.builtin "sorted") [Str.ofString "reverse"] (rSortedPR X.K) := by
  intro pins s σ H vs zs us ws Q I r rz h
  obtain ⟨a, ts, ns, rfl, rfl, hs, hp, q⟩ := h
  obtain rfl := Vals.ref1 r
  obtain ⟨w1, rfl, e1⟩ := vals1 rz
  obtain rfl : w1 = Value.bool true := e1
  obtain ⟨its, rv, hl, hz⟩ := I.list hs
  obtain ⟨hk, hx⟩ := pairedI_rd hp
  obtain ⟨e1, e2⟩ := refs_back rv fun x m => by
    obtain ⟨t, e, _⟩ := hx x m
    exact ⟨t, e⟩
  have hpr : ∀ v ∈ its, Srt.IsPair s.heap v (rdI H (backV v)).1 (rdI H (backV v)).2 := fun v hv => by
    obtain ⟨t, rfl⟩ := e2 v hv
    have hm : V.ref t ∈ ts.map V.ref := by rw [e1]; exact List.mem_map.mpr ⟨_, hv, rfl⟩
    obtain ⟨t', e, ht⟩ := hx _ hm
    cases e
    obtain ⟨_, its2, r2, o, ho, hc, n, hd⟩ := I.hok _ _ ht
    obtain ⟨u1, u2, rfl, ri, rj⟩ := vals2 r2
    obtain ⟨t1, rfl⟩ := ri
    obtain ⟨t2, rfl⟩ := rj
    exact ⟨t, o, t1, t2, n, rfl, ho, hc, hd⟩
  refine SrtR.sorted_ordK (b := true) (fun _ => rfl) (PyProof.Rows.args_sorted_rev _ _) (fun _ => PyProof.Rows.args_list_sort_rev _ _) (SrtO.swo_lex fun u => rdI H (backV u)) hl.isList (by rw [← rv.length]; exact hz) (fun h2 h₁ a' ha' keep => ?_) fun out h1 h2 => ?_
  · refine SrtO.pairs_sortableO (by omega) (fun v hv => ?_) fun o e => ?_
    · obtain ⟨t, o, t1, t2, n, e, ho, hc, hd⟩ := hpr v hv
      exact ⟨t, o, t1, t2, n, e, (keep _ _ ho).2, hc, hd⟩
    · have e' : some o = some (seqObj "list" its.toArray 0) := e.symm.trans ha'
      cases e'
      intro z
      exact absurd (Value.type.inj z) (by decide)
  · have h2p : out.Perm its := h2.perm.trans (List.reverse_perm _)
    have h3 : ∀ u ∈ out, ∃ a, u = Value.ref a := fun u hu => e2 u (h2p.mem_iff.mp hu)
    have hb : (out.map backV).Perm (ts.map V.ref) := by
      rw [e1]
      exact h2p.map backV
    obtain ⟨ep, he'⟩ := PyProof.Rows.sortedAll_at s.heap its out.toArray.reverse
    have h4 : ∀ u ∈ out.reverse, ∃ a, u = Value.ref a := fun u hu => h3 u (List.mem_reverse.mp hu)
    have ea : out.reverse.toArray = out.toArray.reverse := by
      apply Array.ext'
      rw [Array.toList_reverse]
    obtain ⟨us, eu, hpu⟩ := pairedI_of (H := H) (vs := out.reverse.map backV) fun v hv => by
      refine hx v (hb.mem_iff.mp ?_)
      rw [List.map_reverse] at hv
      exact List.mem_reverse.mp hv
    have hlen : (us.map V.ref).length ≤ sizeLine := by
      rw [← eu, List.length_map, List.length_reverse, h2p.length_eq, ← rv.length]
      exact hz
    have hn : H (s.heap.objs.size + 1) = none := I.hok.fresh (Nat.le_succ _)
    refine ⟨.ref _, upd H (s.heap.objs.size + 1) (.lst (us.map V.ref)), I.laid (t' := s.toks) (fun _ _ => PyProof.Rows.sortedAll_old) (Nat.le_succ _) ⟨hlen, out.reverse, ep, by rw [← eu]; exact vals_back h4, by rw [ea]; exact he'⟩, rfl, q _ us _ ?_ ?_ hn hpu⟩
    · rw [← hk]
      refine List.Perm.map _ ?_
      rw [List.map_reverse]
      exact (List.reverse_perm _).trans hb
    · rw [List.map_reverse, List.map_reverse, List.pairwise_reverse]
      exact srtd_desc (SrtO.srtd_map h1)
end
end FlX

namespace Kb
open PySem PySem.Spec PyProof.Rows L2 SrtZ SrtO FlX LamX RZ
abbrev NP_worth : List Str := ["named", "parts", "question", "word", "groups", "mine", "count", "many", "name", "_"]
/-! what a plan is worth, as mathematics -/
def dscZ (ns : List (Int × Int)) : List (Int × Int) := ns.mergeSort fun a b => decide (b.1 ≤ a.1)
theorem dscZ_perm (ns : List (Int × Int)) : (dscZ ns).Perm ns := List.mergeSort_perm _ _
theorem dscZ_desc (ns : List (Int × Int)) : (dscZ ns).Pairwise fun a b => b.1 ≤ a.1 := by
  have := List.pairwise_mergeSort (le := fun a b : Int × Int => decide (b.1 ≤ a.1)) (fun a b c h1 h2 => by simp at *; omega) (fun a b => by simp; omega) ns
  exact this.imp fun h => by simpa using h
theorem exZ_fall : ∀ {ms : List (Int × Int)}, (ms.Pairwise fun a b => b.1 ≤ a.1) → Fall (exZ ms)
  | [], _ => .nil
  | e :: ms, h => by
    have h' := List.pairwise_cons.mp h
    show Fall (List.replicate e.2.toNat e.1 ++ exZ ms)
    unfold Fall
    rw [List.pairwise_append]
    refine ⟨List.pairwise_replicate.mpr (.inr (Int.le_refl _)), exZ_fall h'.2, fun a ha b hb => ?_⟩
    rw [(List.mem_replicate.mp ha).2]
    obtain ⟨f, hf, hb⟩ := List.mem_flatMap.mp hb
    rw [(List.mem_replicate.mp hb).2]
    exact h'.1 f hf
theorem exZ_perm {a b : List (Int × Int)} (p : a.Perm b) : (exZ a).Perm (exZ b) := p.flatMap_right _
def topG (ns : List (Int × Int)) (j : Int) : Int := ((exZ (dscZ ns)).take j.toNat).sum
theorem topG_of {ms ns : List (Int × Int)} {j : Int} (p : ms.Perm ns) (h : ms.Pairwise fun a b => b.1 ≤ a.1) (nn : ∀ e ∈ ns, 0 ≤ e.2) (hj : 0 ≤ j) : grtZ ms j = topG ns j := by
  rw [grtZ_ex (fun e he => nn e (p.mem_iff.mp he)) hj]
  unfold topG
  rw [fall_eq (exZ_fall h) (exZ_fall (dscZ_desc ns)) (exZ_perm (p.trans (dscZ_perm ns).symm))]
def groupsW (d : Ct) (ps : List (Int × Int)) : List (Int × Int) := ((d.filter fun e => decide (0 < e.2)).map fun e => (e.2, 1)) ++ ps
def worthZ (d : Ct) (ps : List (Int × Int)) : Qn → Int
  | .count z => gd d z
  | .lot zs => (zs.map (gd d)).sum
  | .apart y z => gd d y - gd d z
  | .place z => 1 + (((groupsW d ps).filter fun e => decide (gd d z < e.1)).map (·.2)).sum
  | .first j => topG (groupsW d ps) j
  | .unlike => ((groupsW d ps).map (·.2)).sum
  | .squares => ((groupsW d ps).map fun e => e.1 * e.1 * e.2).sum
section
variable {P : Program} {w : World} {K : PySem.W.Frag} {mg : Str → Option Value} {base : Heap}
/-! _greatest -/
def spGreatest (K : PySem.W.Frag) : Sp := fun vs H Q _ => ∃ (l : Addr) (j : Int) (ts : List Addr) (ns : List (Int × Int)), vs = [.ref l, .int j] ∧ SqL K H l (ts.map V.ref) ∧ Paired (PrI H) ts ns ∧ (∀ e ∈ ns, 0 ≤ e.2) ∧ 0 ≤ j ∧ j ≤ 40 ∧ ∀ H', Same H H' → Q (.int (topG ns j)) H'
/-! _worth -/
theorem gd_getD (d : Ct) (z : Str) : (((getZ d z).map V.int).getD (.int 0)) = .int (gd d z) := by
  unfold gd
  cases getZ d z <;> rfl
def spWorth (K : PySem.W.Frag) : Sp := fun vs H Q _ => ∃ (dd l q : Addr) (d : Ct) (ps : List (Int × Int)) (ts : List Addr) (x : Qn), vs = [.ref dd, .ref l, .ref q] ∧ H dd = some (.dK (d.map entZ)) ∧ d.length ≤ 1000 ∧ H l = some (.lst (ts.map V.ref)) ∧ Paired (PrI H) ts ps ∧ ps.length ≤ 1000 ∧ QnAt K H q x ∧ QnOk x ∧
  (∀ e ∈ ps, 0 ≤ e.2) ∧ (∀ e ∈ d, e.2.natAbs < 2 ^ 200) ∧ (∀ e ∈ ps, e.1.natAbs < 2 ^ 200 ∧ e.2.natAbs < 2 ^ 200) ∧ ∀ H', Same H H' → Q (.int (worthZ d ps x)) H'
end
end Kb

namespace Kb
open PySem PySem.Spec PyProof.Rows L2 SrtZ SrtO FlX LamX RZ
abbrev NP_named : List Str := ["sketch", "taken", "named", "name", "amount"]
abbrev NP_ends : List Str := ["sketch", "question", "low", "high", "taken", "parts"]
def namedZ (kvs tk : Ct) : Ct := tk.foldl (fun a e => addZ a e.1 e.2) kvs
theorem namedZ_snoc (kvs tk : Ct) (e : Str × Int) : namedZ kvs (tk ++ [e]) = addZ (namedZ kvs tk) e.1 e.2 := by
  unfold namedZ
  rw [List.foldl_append]
  rfl
theorem namedZ_len : ∀ (tk kvs : Ct), (namedZ kvs tk).length ≤ kvs.length + tk.length
  | [], _ => Nat.le_refl _
  | e :: r, kvs => by
    have := namedZ_len r (addZ kvs e.1 e.2)
    have : (addZ kvs e.1 e.2).length ≤ kvs.length + 1 := putZ_len
    show (namedZ (addZ kvs e.1 e.2) r).length ≤ kvs.length + (r.length + 1)
    omega
/-! what plans keep to -/
theorem getZ_bd {kvs : Ct} {B : Int} (h0 : 0 ≤ B) (h : ∀ e ∈ kvs, 0 ≤ e.2 ∧ e.2 ≤ B) (n : Str) : 0 ≤ gd kvs n ∧ gd kvs n ≤ B := by
  unfold gd
  cases hg : getZ kvs n with
  | none => exact ⟨Int.le_refl _, h0⟩
  | some v => exact h _ (getZ_in hg)
theorem namedZ_bd {C : Int} (c0 : 0 ≤ C) : ∀ {tk kvs : Ct} {B : Int}, 0 ≤ B → (∀ e ∈ kvs, 0 ≤ e.2 ∧ e.2 ≤ B) → (∀ e ∈ tk, 0 ≤ e.2 ∧ e.2 ≤ C) → ∀ e ∈ namedZ kvs tk, 0 ≤ e.2 ∧ e.2 ≤ B + tk.length * C
  | [], kvs, B, b0, hk, _ => fun e he => by
    have := hk e he
    show 0 ≤ e.2 ∧ e.2 ≤ B + ((0 : Nat) : Int) * C
    simp
    exact this
  | f :: tk, kvs, B, b0, hk, ht => fun e he => by
    have hf := ht f List.mem_cons_self
    have := namedZ_bd (tk := tk) (kvs := addZ kvs f.1 f.2) (B := B + C) c0 (by omega) (fun g hg => by
      rcases putZ_mem hg with hg | rfl
      · have := hk g hg
        omega
      · have := getZ_bd b0 hk f.1
        unfold gd at this
        show 0 ≤ (getZ kvs f.1).getD 0 + f.2 ∧ (getZ kvs f.1).getD 0 + f.2 ≤ B + C
        omega) (fun g hg => ht g (List.mem_cons_of_mem _ hg)) e he
    rw [List.length_cons]
    push_cast
    have e2 : ((tk.length : Int) + 1) * C = tk.length * C + C := by grind
    omega
theorem mem_le_sum : ∀ {l : Ct}, (∀ e ∈ l, 1 ≤ e.2) → ∀ e ∈ l, e.2 ≤ sumC l
  | f :: l, h, e, he => by
    have h1 := sumC_pos (l := l) fun x hx => h x (List.mem_cons_of_mem _ hx)
    have h2 := h f List.mem_cons_self
    have : sumC (f :: l) = f.2 + sumC l := by unfold sumC; rw [List.map_cons, List.sum_cons]
    rcases List.mem_cons.mp he with rfl | he
    · omega
    · have := mem_le_sum (l := l) (fun x hx => h x (List.mem_cons_of_mem _ hx)) e he
      omega
structure PlanOk (kvs : Ct) (pl : Plan) : Prop where
  len : pl.1.length ≤ 200
  plen : pl.2.length ≤ 2
  pos : ∀ e ∈ pl.2, 0 < e.1 ∧ 0 < e.2
  pb : ∀ e ∈ pl.2, e.1.natAbs < 2 ^ 200 ∧ e.2.natAbs < 2 ^ 200
  nb : ∀ e ∈ namedZ kvs pl.1, 0 ≤ e.2 ∧ e.2.natAbs < 2 ^ 200
theorem nullZ_mem : ∀ {zs : List Str} {d : Ct}, (∀ e ∈ d, e.2 = 0) → ∀ e ∈ nullZ zs d, e.2 = 0
  | [], _, h => h
  | z :: zs, d, h => nullZ_mem (zs := zs) fun e he => by
    rcases putZ_mem he with he | rfl
    · exact h e he
    · rfl
theorem fillZ_mem {off : Int} (h0 : 0 ≤ off) : ∀ {ys : List Str} {x : Ct × Int}, 0 ≤ x.2 → (∀ e ∈ x.1, 0 ≤ e.2 ∧ e.2 ≤ off) → ∀ e ∈ (fillZ off ys x).1, 0 ≤ e.2 ∧ e.2 ≤ off
  | [], _, _, h => h
  | y :: ys, x, hx, h => fillZ_mem h0 (ys := ys) (x := (putZ x.1 y (if x.2 < off then x.2 else off), x.2 - (if x.2 < off then x.2 else off))) (by dsimp only; split <;> omega) fun e he => by
    rcases putZ_mem he with he | rfl
    · exact h e he
    · dsimp only
      split <;> omega
theorem passZ_mem {off mine : Int} {z : Str} : ∀ {ys : Ct} {x : Ct × Int}, (∀ e ∈ x.1, 0 ≤ e.2 ∧ e.2 ≤ off) → ∀ e ∈ (passZ off mine z ys x).1, 0 ≤ e.2 ∧ e.2 ≤ off
  | [], _, h => h
  | y :: ys, x, h => passZ_mem (ys := ys) fun e he => by
    split at he
    · rename_i hb
      rcases putZ_mem he with he | rfl
      · exact h e he
      · unfold passB at hb
        rw [Bool.and_eq_true, decide_eq_true_eq] at hb
        have := mnI_le (off := off) (S := x.2)
        dsimp only
        refine ⟨?_, by omega⟩
        unfold needZ
        split <;> omega
    · exact h e he
theorem partedZ_ok {a sz : Int} (h0 : 0 ≤ a) (h1 : a < 2 ^ 100) (h2 : sz < 2 ^ 100) : ∀ e ∈ partedZ a sz, (0 < e.1 ∧ 0 < e.2) ∧ e.1.natAbs < 2 ^ 200 ∧ e.2.natAbs < 2 ^ 200 := fun e he => by
  unfold partedZ at he
  split at he
  · cases he
  · obtain ⟨hm, hk⟩ := List.mem_filter.mp he
    unfold okG at hk
    rw [Bool.and_eq_true, decide_eq_true_eq, decide_eq_true_eq] at hk
    refine ⟨hk, ?_⟩
    rcases List.mem_cons.mp hm with rfl | hm
    · dsimp only at hk ⊢
      have : a / sz ≤ a := Int.ediv_le_self sz h0
      omega
    · obtain rfl := List.mem_singleton.mp hm
      dsimp only at hk ⊢
      have : a % sz ≤ a := by
        have e := Int.emod_add_mul_ediv a sz
        by_cases hs : 0 ≤ sz
        · have : 0 ≤ sz * (a / sz) := Int.mul_nonneg hs (Int.ediv_nonneg h0 hs)
          omega
        · have e2 : a / sz ≤ 0 := by
            have := Int.ediv_nonneg h0 (show 0 ≤ -sz by omega)
            rw [Int.ediv_neg] at this
            omega
          have : 0 ≤ (-sz) * (-(a / sz)) := Int.mul_nonneg (by omega) (by omega)
          rw [Int.neg_mul_neg] at this
          omega
      omega
theorem planOk_of {r m off : Int} {kvs : Ct} (hg : SkG r m off kvs) {tk : Ct} {left sz : Int} (hl : tk.length ≤ 200) (ht : ∀ e ∈ tk, 0 ≤ e.2 ∧ e.2 ≤ off) (l0 : 0 ≤ left) (l1 : left ≤ m - sumC kvs) (hs : sz < 2 ^ 100) : PlanOk kvs (tk, partedZ left sz) := by
  obtain ⟨a1, a2, a3, a4⟩ := hg.lost
  have hb := hg.big
  have ho := hg.o0
  have h6 := sumC_pos hg.cts.pos
  have po := partedZ_ok l0 (by omega) hs
  refine ⟨hl, partedZ_len _ _, fun e he => (po e he).1, fun e he => (po e he).2, fun e he => ?_⟩
  have := namedZ_bd ho (B := m) (by omega) (fun e he => ⟨by have := hg.cts.pos e he; omega, by have := mem_le_sum hg.cts.pos e he; omega⟩) ht e he
  have h7 : (tk.length : Int) * off ≤ 200 * off := Int.mul_le_mul_of_nonneg_right (by omega) ho
  omega
theorem planZ_ok {r m off sz : Int} {kvs : Ct} {zs ys : List Str} (hg : SkG r m off kvs) (h1 : zs.length ≤ 40) (h2 : ys.length ≤ 100) (hs : sz < 2 ^ 100) : PlanOk kvs (planZ kvs m off sz zs ys) := by
  obtain ⟨a1, a2, a3, a4⟩ := hg.lost
  have hf := fillZ_left hg.o0 ys (nullZ zs [], m - sumC kvs) a1
  refine planOk_of hg ?_ (fillZ_mem hg.o0 a1 fun e he => ?_) hf.1 hf.2 hs
  · have := fillZ_len off ys (nullZ zs [], m - sumC kvs)
    have := nullZ_len zs []
    dsimp only [List.length_nil] at *
    omega
  · have := nullZ_mem (zs := zs) (d := []) (fun _ h => nomatch h) e he
    have := hg.o0
    omega
theorem planP_ok {r m off : Int} {kvs : Ct} {z : Str} (hg : SkG r m off kvs) : PlanOk kvs (planP kvs m off z) := by
  obtain ⟨a1, a2, a3, a4⟩ := hg.lost
  have hlen := hg.len
  have hr64 := hg.r64
  have hf := passZ_left (off := off) (mine := gd kvs z) z (fallBy (·.2) kvs) ([(z, 0)], m - sumC kvs) a1
  refine planOk_of hg ?_ (passZ_mem fun e he => ?_) hf.1 hf.2 (by have := mnI_le (off := gd kvs z + 1) (S := off); omega)
  · have := passZ_len off (gd kvs z) z (fallBy (·.2) kvs) ([(z, 0)], m - sumC kvs)
    rw [fallB_len] at this
    dsimp only [List.length_cons, List.length_nil] at *
    omega
  · rw [List.mem_singleton.mp he]
    exact ⟨Int.le_refl _, hg.o0⟩
theorem plansZ_ok {r m off : Int} {kvs : Ct} {x : Qn} (hg : SkG r m off kvs) (hx : QnOk x) : PlanOk kvs (plansZ kvs m off x).1 ∧ PlanOk kvs (plansZ kvs m off x).2 := by
  obtain ⟨a1, a2, a3, a4⟩ := hg.lost
  have hl := hx.len
  have hlen := hg.len
  have hr64 := hg.r64
  have fl : ((fallBy (·.2) kvs).map (·.1)).length ≤ 100 := by
    rw [List.length_map, fallB_len]
    omega
  have sp : PlanOk kvs (spread kvs m off) := planZ_ok hg (by decide) (by decide) (by decide)
  have lu : PlanOk kvs (lumped kvs m off) := planZ_ok hg (by decide) fl a4
  cases x with
  | count z => exact ⟨planZ_ok hg hl (by decide) a4, planZ_ok hg hl (Nat.le_trans hl (by decide)) a4⟩
  | lot zs => exact ⟨planZ_ok hg hl (Nat.zero_le _) a4, planZ_ok hg hl (Nat.le_trans hl (by decide)) a4⟩
  | apart y z => exact ⟨planZ_ok hg hl (by show 1 ≤ 100; decide) a4, planZ_ok hg hl (by show 1 ≤ 100; decide) a4⟩
  | place z => exact ⟨planZ_ok hg hl (by show 1 ≤ 100; decide) a4, planP_ok hg⟩
  | first j => exact ⟨sp, lu⟩
  | unlike => exact ⟨lu, sp⟩
  | squares => exact ⟨sp, lu⟩
/-- the ends of a question -/
def lowE (kvs : Ct) (m off : Int) (x : Qn) : Int := worthZ (namedZ kvs (plansZ kvs m off x).1.1) (plansZ kvs m off x).1.2 x
def highE (kvs : Ct) (m off : Int) (x : Qn) : Int := worthZ (namedZ kvs (plansZ kvs m off x).2.1) (plansZ kvs m off x).2.2 x
section
variable {P : Program} {w : World} {K : PySem.W.Frag} {mg : Str → Option Value} {base : Heap}
/-! _named -/
def spNamed (K : PySem.W.Frag) : Sp := fun vs H Q _ => ∃ (s dd : Addr) (r m off : Int) (kvs tk : Ct), vs = [.ref s, .ref dd] ∧ SkC K H s r m off kvs ∧ SkG r m off kvs ∧ H dd = some (.dK (tk.map entZ)) ∧ tk.length ≤ 500 ∧
  ∀ H' p, Same H H' → H p = none → H' p = some (.dK ((namedZ kvs tk).map entZ)) → Q (.ref p) H'
/-! _need_both -/
theorem SkG.yes {r m o : Int} {kvs : Ct} (g : SkG r m o kvs) : skB r m o kvs = true := by
  unfold skB
  rw [decide_eq_true g.r1, decide_eq_true g.r64, decide_eq_true g.m0, decide_eq_true g.o0, decide_eq_true g.len, decide_eq_true g.lo, decide_eq_true g.hi]
  rfl
def spNeedBoth (K : PySem.W.Frag) : Sp := fun vs H Q _ => ∃ (s q : Addr) (r m off : Int) (kvs : Ct) (x : Qn), vs = [.ref s, .ref q] ∧ SkC K H s r m off kvs ∧ SkG r m off kvs ∧ QnAt K H q x ∧ QnOk x ∧ ∀ H', Same H H' → Q .non H'
/-! ends -/
def spEnds (K : PySem.W.Frag) (Pt : Addr) : Sp := fun vs H Q _ => ∃ (s q : Addr) (r m off : Int) (kvs : Ct) (x : Qn), vs = [.ref s, .ref q] ∧ SkC K H s r m off kvs ∧ SkG r m off kvs ∧ QnAt K H q x ∧ QnOk x ∧ TabS H Pt qFall ∧
  ∀ H' p, ExT Pt qFall H H' → H p = none → H' p = some (.tup [.int (lowE kvs m off x), .int (highE kvs m off x)]) → Q (.ref p) H'
end
end Kb

namespace Kb
open PySem PySem.Spec PyProof.Rows L2 SrtZ SrtO FlX LamX RZ
/-! the counts of a plan, and of a truth, as a bag -/
def bagZ (d : Ct) (ps : List (Int × Int)) : List Int := exZ (groupsW d ps)
theorem exZ_app (a b : List (Int × Int)) : exZ (a ++ b) = exZ a ++ exZ b := by unfold exZ; exact List.flatMap_append
theorem exZ_ones : ∀ l : Ct, exZ (l.map fun e => (e.2, (1 : Int))) = l.map (·.2)
  | [] => rfl
  | e :: l => by
    show List.replicate 1 e.2 ++ exZ (l.map fun e => (e.2, (1 : Int))) = e.2 :: l.map (·.2)
    rw [exZ_ones l]
    rfl
theorem bagZ_pos {d : Ct} {ps : List (Int × Int)} (h : ∀ e ∈ d, 0 < e.2) : bagZ d ps = d.map (·.2) ++ exZ ps := by
  unfold bagZ groupsW
  rw [exZ_app, List.filter_eq_self.mpr fun e he => by simpa using h e he, exZ_ones]
theorem ex_len : ∀ {g : List (Int × Int)}, (∀ e ∈ g, 0 ≤ e.2) → (g.map (·.2)).sum = ((exZ g).length : Nat)
  | [], _ => rfl
  | e :: g, h => by
    have := h e List.mem_cons_self
    have ih := ex_len (g := g) fun x hx => h x (List.mem_cons_of_mem _ hx)
    show (e.2 :: g.map (·.2)).sum = ((List.replicate e.2.toNat e.1 ++ exZ g).length : Nat)
    rw [List.sum_cons, ih, List.length_append, List.length_replicate]
    push_cast
    omega
theorem sqs_app (a b : List Int) : sqs (a ++ b) = sqs a + sqs b := by unfold sqs; rw [List.map_append, List.sum_append]
theorem sqs_rep (n : Nat) (c : Int) : sqs (List.replicate n c) = c * c * n := by unfold sqs; rw [List.map_replicate, sum_rep]
theorem sqs_perm {a b : List Int} (p : a.Perm b) : sqs a = sqs b := by unfold sqs; exact perm_sum (p.map _)
theorem ex_sqs : ∀ {g : List (Int × Int)}, (∀ e ∈ g, 0 ≤ e.2) → (g.map fun e => e.1 * e.1 * e.2).sum = sqs (exZ g)
  | [], _ => rfl
  | e :: g, h => by
    have := h e List.mem_cons_self
    have ih := ex_sqs (g := g) fun x hx => h x (List.mem_cons_of_mem _ hx)
    show ((e.1 * e.1 * e.2) :: g.map fun e => e.1 * e.1 * e.2).sum = sqs (List.replicate e.2.toNat e.1 ++ exZ g)
    rw [List.sum_cons, ih, sqs_app, sqs_rep, Int.toNat_of_nonneg this]
theorem ex_cnt (c : Int) : ∀ {g : List (Int × Int)}, (∀ e ∈ g, 0 ≤ e.2) → ((g.filter fun e => decide (c < e.1)).map (·.2)).sum = cntG c (exZ g)
  | [], _ => rfl
  | e :: g, h => by
    have h0 := h e List.mem_cons_self
    have ih := ex_cnt c (g := g) fun x hx => h x (List.mem_cons_of_mem _ hx)
    show _ = cntG c (List.replicate e.2.toNat e.1 ++ exZ g)
    rw [cntG_app]
    unfold cntG at ih ⊢
    rw [List.filter_replicate]
    by_cases hc : c < e.1
    · rw [List.filter_cons_of_pos (by simpa using hc), List.map_cons, List.sum_cons, ih, if_pos (by simpa using hc), List.length_replicate]
      omega
    · rw [List.filter_cons_of_neg (by simpa using hc), ih, if_neg (by simpa using hc)]
      simp
/-- the counts that the questions of all names speak of: the greatest first -/
def srtB (d : Ct) (ps : List (Int × Int)) : List Int := exZ (dscZ (groupsW d ps))
theorem srtB_fall (d : Ct) (ps : List (Int × Int)) : Fall (srtB d ps) := exZ_fall (dscZ_desc _)
theorem srtB_perm (d : Ct) (ps : List (Int × Int)) : (srtB d ps).Perm (bagZ d ps) := exZ_perm (dscZ_perm _)
theorem groups_nn {d : Ct} {ps : List (Int × Int)} (h : ∀ e ∈ ps, 0 ≤ e.2) : ∀ e ∈ groupsW d ps, 0 ≤ e.2 := fun e he => by
  rcases List.mem_append.mp he with he | he
  · obtain ⟨f, _, rfl⟩ := List.mem_map.mp he
    show (0 : Int) ≤ 1
    decide
  · exact h e he
/-! a truth -/
structure TruZ (kvs : Ct) (m off : Int) (T : Ct) : Prop where
  nd : NdZ T
  pos : ∀ e ∈ T, 1 ≤ e.2
  lo : ∀ k, gd kvs k ≤ gd T k
  hi : ∀ k, gd T k - gd kvs k ≤ off
  sum : sumC T = m
theorem fallB_fall (kvs : Ct) : Fall ((fallBy (·.2) kvs).map (·.2)) := by
  unfold Fall
  rw [List.pairwise_map]
  have := List.pairwise_mergeSort (le := fun a b : Str × Int => decide (-(a.2) ≤ -(b.2))) (fun a b c h1 h2 => by simp at *; omega) (fun a b => by simp; omega) kvs
  exact this.imp fun h => by
    have := of_decide_eq_true h
    omega
theorem nd_list {l : Ct} (h : NdZ l) : l.Nodup := by
  unfold NdZ at h
  exact List.Pairwise.of_map (·.1) (fun a b hab e => hab (by rw [e])) h
theorem gd_in {l : Ct} (nd : NdZ l) {e : Str × Int} (h : e ∈ l) : gd l e.1 = e.2 := by
  unfold gd
  rw [getZ_mem nd h]
  rfl
theorem gd_notin {l : Ct} {n : Str} (h : n ∉ l.map (·.1)) : gd l n = 0 := by
  unfold gd
  rw [getZ_none.mpr h]
  rfl
theorem in_of_gd {l : Ct} {n : Str} (h : gd l n ≠ 0) : n ∈ l.map (·.1) ∧ (n, gd l n) ∈ l := by
  cases hg : getZ l n with
  | none =>
    unfold gd at h
    rw [hg] at h
    exact absurd rfl h
  | some v =>
    have hm := getZ_in hg
    have : gd l n = v := by unfold gd; rw [hg]; rfl
    rw [this]
    exact ⟨List.mem_map.mpr ⟨_, hm, rfl⟩, hm⟩
section
variable {r m off : Int} {kvs T : Ct}
abbrev Lf (kvs : Ct) : Ct := fallBy (·.2) kvs
abbrev Ls (kvs : Ct) : List Int := (fallBy (·.2) kvs).map (·.2)
def tsZ (kvs T : Ct) : List Int := (Lf kvs).map fun e => gd T e.1 - gd kvs e.1
def frZ (kvs T : Ct) : List Int := (T.filter fun e => !decide (e.1 ∈ kvs.map (·.1))).map (·.2)
theorem lf_mem {e : Str × Int} : e ∈ Lf kvs ↔ e ∈ kvs := (fallB_perm kvs).mem_iff
theorem lf_nd (nd : NdZ kvs) : NdZ (Lf kvs) := by
  unfold NdZ at nd ⊢
  exact ((fallB_perm kvs).map (·.1)).nodup_iff.mpr nd
theorem zip_ts (nd : NdZ kvs) : List.zipWith (· + ·) (Ls kvs) (tsZ kvs T) = (Lf kvs).map fun e => gd T e.1 := by
  unfold tsZ
  rw [List.zipWith_map]
  have : ∀ l : Ct, (∀ e ∈ l, e.2 = gd kvs e.1) → List.zipWith (fun (a b : Str × Int) => a.2 + (gd T b.1 - gd kvs b.1)) l l = l.map fun e => gd T e.1 := by
    intro l
    induction l with
    | nil => intro _; rfl
    | cons e l ih =>
      intro h
      rw [List.zipWith_cons_cons, List.map_cons, ih fun x hx => h x (List.mem_cons_of_mem _ hx)]
      have := h e List.mem_cons_self
      rw [show e.2 + (gd T e.1 - gd kvs e.1) = gd T e.1 by omega]
  exact this _ fun e he => (gd_in nd (lf_mem.mp he)).symm
theorem tru_kept (nd : NdZ kvs) (pos : ∀ e ∈ kvs, 1 ≤ e.2) (t : TruZ kvs m off T) : (T.filter fun e => decide (e.1 ∈ kvs.map (·.1))).Perm ((Lf kvs).map fun e => (e.1, gd T e.1)) := by
  refine (List.perm_ext_iff_of_nodup ((nd_list t.nd).filter _) ?_).mpr fun a => ?_
  · have h1 := lf_nd nd
    unfold NdZ at h1
    refine nd_list ?_
    unfold NdZ
    rw [List.map_map]
    exact h1
  · rw [List.mem_filter]
    constructor
    · rintro ⟨h1, h2⟩
      refine List.mem_map.mpr ?_
      have h2 := of_decide_eq_true h2
      obtain ⟨e, he, hk⟩ := List.mem_map.mp h2
      refine ⟨e, lf_mem.mpr he, ?_⟩
      rw [hk, gd_in t.nd h1]
    · intro hm
      obtain ⟨e, he, rfl⟩ := List.mem_map.mp hm
      have he' := lf_mem.mp he
      have h1 := t.lo e.1
      rw [gd_in nd he'] at h1
      have := pos e he'
      exact ⟨(in_of_gd (by omega)).2, decide_eq_true (List.mem_map.mpr ⟨e, he', rfl⟩)⟩
theorem bag_T (nd : NdZ kvs) (pos : ∀ e ∈ kvs, 1 ≤ e.2) (t : TruZ kvs m off T) : (bagZ T []).Perm (List.zipWith (· + ·) (Ls kvs) (tsZ kvs T) ++ frZ kvs T) := by
  rw [bagZ_pos fun e he => by have := t.pos e he; omega, zip_ts nd]
  show (List.map (fun e : Str × Int => e.2) T ++ []).Perm _
  rw [List.append_nil]
  have p1 := (List.filter_append_perm (fun e : Str × Int => decide (e.1 ∈ kvs.map (·.1))) T).symm.map (fun e : Str × Int => e.2)
  rw [List.map_append] at p1
  refine p1.trans (List.Perm.append ?_ ?_)
  · have := (tru_kept nd pos t).map (fun e : Str × Int => e.2)
    rw [List.map_map] at this
    exact this
  · exact List.Perm.refl _
theorem ts_ok (t : TruZ kvs m off T) : ∀ x ∈ tsZ kvs T, 0 ≤ x ∧ x ≤ off := fun x hx => by
  obtain ⟨e, _, rfl⟩ := List.mem_map.mp hx
  have := t.lo e.1
  have := t.hi e.1
  omega
theorem fr_ok (t : TruZ kvs m off T) : ∀ x ∈ frZ kvs T, 1 ≤ x ∧ x ≤ off := fun x hx => by
  obtain ⟨e, he, rfl⟩ := List.mem_map.mp hx
  obtain ⟨h1, h2⟩ := List.mem_filter.mp he
  have h3 : e.1 ∉ kvs.map (·.1) := by simpa using h2
  have := t.hi e.1
  rw [gd_notin h3, gd_in t.nd h1] at this
  have := t.pos e h1
  omega
theorem ts_len : (tsZ kvs T).length = (Ls kvs).length := by unfold tsZ; rw [List.length_map, List.length_map]
theorem zip_sum : ∀ {a b : List Int}, a.length = b.length → (List.zipWith (· + ·) a b).sum = a.sum + b.sum
  | [], [], _ => rfl
  | x :: a, y :: b, h => by
    rw [List.zipWith_cons_cons, List.sum_cons, List.sum_cons, List.sum_cons, zip_sum (by simpa using h)]
    omega
theorem tru_sum (nd : NdZ kvs) (pos : ∀ e ∈ kvs, 1 ≤ e.2) (t : TruZ kvs m off T) : (tsZ kvs T).sum + (frZ kvs T).sum = m - sumC kvs := by
  have h1 := perm_sum (bag_T nd pos t)
  rw [bagZ_pos fun e he => by have := t.pos e he; omega, List.sum_append, List.sum_append, zip_sum ts_len.symm] at h1
  have h2 : (T.map (·.2)).sum = m := t.sum
  have h4 : (exZ []).sum = 0 := rfl
  have h3 : (Ls kvs).sum = sumC kvs := perm_sum ((fallB_perm kvs).map (·.2))
  omega
/-! the plan where all is new, one by one -/
theorem parts_ones {S : Int} (h : 0 ≤ S) : exZ (partedZ S 1) = List.replicate S.toNat 1 := by
  unfold partedZ
  by_cases e : S = 0
  · rw [if_pos e, e]
    rfl
  · rw [if_neg e]
    unfold groupsZ
    rw [Int.ediv_one, Int.emod_one, List.filter_cons_of_pos (by unfold okG; simp; omega), List.filter_cons_of_neg (by unfold okG; simp)]
    show List.replicate S.toNat (1 : Int) ++ exZ [] = _
    exact List.append_nil _
theorem bag_spread (pos : ∀ e ∈ kvs, 1 ≤ e.2) (h : 0 ≤ m - sumC kvs) : (bagZ (namedZ kvs (spread kvs m off).1) (spread kvs m off).2).Perm (Ls kvs ++ List.replicate (m - sumC kvs).toNat 1) := by
  show (bagZ kvs (partedZ (m - sumC kvs) 1)).Perm _
  rw [bagZ_pos fun e he => by have := pos e he; omega, parts_ones h]
  exact List.Perm.append_right _ ((fallB_perm kvs).map (·.2)).symm
/-! the plan where the greatest get the most -/
theorem fill_lump {off : Int} : ∀ {L : Ct} {x : Ct × Int}, NdZ L → NdZ x.1 →
    (fillZ off (L.map (·.1)) x).2 = lumpR off (L.map (·.2)) x.2 ∧ L.map (fun e => e.2 + gd (fillZ off (L.map (·.1)) x).1 e.1) = lumpZ off (L.map (·.2)) x.2 ∧
    (∀ n, n ∉ L.map (·.1) → gd (fillZ off (L.map (·.1)) x).1 n = gd x.1 n) ∧ NdZ (fillZ off (L.map (·.1)) x).1 ∧ ∀ e ∈ (fillZ off (L.map (·.1)) x).1, e.1 ∈ x.1.map (·.1) ∨ e.1 ∈ L.map (·.1)
  | [], x, _, nx => ⟨rfl, rfl, fun _ _ => rfl, nx, fun e he => .inl (List.mem_map.mpr ⟨e, he, rfl⟩)⟩
  | f :: L, x, nl, nx => by
    unfold NdZ at nl
    rw [List.map_cons, List.nodup_cons] at nl
    obtain ⟨h1, h2, h3, h4, h5⟩ := fill_lump (off := off) (L := L) (x := (putZ x.1 f.1 (mnI off x.2), x.2 - mnI off x.2)) nl.2 (putZ_nd nx)
    have e1 : fillZ off ((f :: L).map (·.1)) x = fillZ off (L.map (·.1)) (putZ x.1 f.1 (mnI off x.2), x.2 - mnI off x.2) := rfl
    rw [e1]
    have gp : ∀ n, gd (putZ x.1 f.1 (mnI off x.2)) n = if n = f.1 then mnI off x.2 else gd x.1 n := fun n => by
      unfold gd
      rw [getZ_put]
      split <;> rfl
    refine ⟨h1, ?_, fun n hn => ?_, h4, fun e he => ?_⟩
    · rw [List.map_cons, h2, h3 f.1 nl.1]
      dsimp only
      rw [gp, if_pos rfl]
      rfl
    · rw [List.map_cons, List.mem_cons, not_or] at hn
      rw [h3 n hn.2]
      dsimp only
      rw [gp, if_neg hn.1]
    · rcases h5 e he with h | h
      · obtain ⟨y, hy, hk⟩ := List.mem_map.mp h
        rcases putZ_mem hy with hy | rfl
        · exact .inl (List.mem_map.mpr ⟨y, hy, hk⟩)
        · exact .inr (by rw [← hk]; exact List.mem_cons_self)
      · exact .inr (List.mem_cons_of_mem _ h)
theorem addZ_in {kvs : Ct} {n : Str} {c : Int} (h : n ∈ kvs.map (·.1)) : addZ kvs n c = kvs.map fun e => if e.1 = n then (e.1, gd kvs n + c) else e := by
  unfold addZ putZ
  rw [if_pos]
  · rfl
  · obtain ⟨e, he, hk⟩ := List.mem_map.mp h
    exact List.any_eq_true.mpr ⟨e, he, decide_eq_true hk⟩
theorem named_in : ∀ {tk kvs : Ct}, NdZ kvs → NdZ tk → (∀ e ∈ tk, e.1 ∈ kvs.map (·.1)) → namedZ kvs tk = kvs.map fun e => (e.1, e.2 + gd tk e.1)
  | [], kvs, _, _, _ => by
    show kvs = _
    have : ∀ e : Str × Int, (e.1, e.2 + gd [] e.1) = e := fun e => by
      show (e.1, e.2 + 0) = e
      rw [Int.add_zero]
    rw [List.map_congr_left fun e _ => this e, List.map_id']
  | f :: tk, kvs, nk, nt, h => by
    unfold NdZ at nt
    rw [List.map_cons, List.nodup_cons] at nt
    have hf := h f List.mem_cons_self
    show namedZ (addZ kvs f.1 f.2) tk = _
    have ek : (addZ kvs f.1 f.2).map (·.1) = kvs.map (·.1) := by
      rw [addZ_in hf, List.map_map]
      refine List.map_congr_left fun e _ => ?_
      show (if e.1 = f.1 then (e.1, gd kvs f.1 + f.2) else e).1 = e.1
      split <;> rfl
    rw [named_in (tk := tk) (kvs := addZ kvs f.1 f.2) (addZ_nd nk) nt.2 (fun e he => by rw [ek]; exact h e (List.mem_cons_of_mem _ he)), addZ_in hf, List.map_map]
    refine List.map_congr_left fun e he => ?_
    show ((if e.1 = f.1 then (e.1, gd kvs f.1 + f.2) else e).1, (if e.1 = f.1 then (e.1, gd kvs f.1 + f.2) else e).2 + gd tk (if e.1 = f.1 then (e.1, gd kvs f.1 + f.2) else e).1) = (e.1, e.2 + gd (f :: tk) e.1)
    have gc : gd (f :: tk) e.1 = if f.1 = e.1 then f.2 else gd tk e.1 := by
      unfold gd
      rw [getZ_cons]
      split <;> rfl
    by_cases hk : e.1 = f.1
    · rw [if_pos hk, gc, if_pos hk.symm, ← hk, gd_in nk he]
      dsimp only
      rw [hk, gd_notin nt.1]
      simp
    · rw [if_neg hk, gc, if_neg (fun z => hk z.symm)]
end
end Kb

/-! t[k::n] of a plain tuple -/
namespace L2
open PySem PySem.Spec PyProof.Rows HT
def plcN (len k n : Nat) : Nat := if k < len then (len - k - 1) / n + 1 else 0
def everyL {α : Type} (xs : List α) (k n : Nat) : List α := (List.range (plcN xs.length k n)).filterMap fun m => xs[k + m * n]?
theorem step_len {α : Type} (xs : List α) (k n : Nat) : (everyL xs k n).length ≤ xs.length + 1 := by
  refine Nat.le_trans (List.length_filterMap_le _ _) ?_
  rw [List.length_range]
  unfold plcN
  split
  · have := Nat.div_le_self (xs.length - k - 1) n
    omega
  · omega
theorem step_places {len k n : Nat} (hn : 1 ≤ n) : Builtin.Slice.slicePlaces (k : Int) (len : Int) (n : Int) = plcN len k n := by
  unfold Builtin.Slice.slicePlaces plcN
  rw [if_pos (show (n : Int) > 0 by omega)]
  by_cases h : k < len
  · rw [if_pos (show (k : Int) < (len : Int) by omega), if_pos h, show ((len : Int) - (k : Int) - 1) = ((len - k - 1 : Nat) : Int) by omega, ← Int.natCast_ediv]
    generalize (len - k - 1) / n = q
    omega
  · rw [if_neg (show ¬ (k : Int) < (len : Int) by omega), if_neg h]
    rfl
theorem step_adjust {len k n : Nat} (hn : 1 ≤ n) (hk : k ≤ len) : Builtin.Slice.sliceAdjust (some (k : Int)) none (n : Int) (len : Int) = ((k : Int), (len : Int)) := by
  unfold Builtin.Slice.sliceAdjust
  have h1 : ¬ ((n : Int) < 0) := by omega
  have h2 : ¬ ((k : Int) < 0) := by omega
  simp only [h1, h2, if_false]
  rw [Int.min_eq_left (by omega)]
section
variable {prog : Program} {w : World} {A : Around} {E : Value → Shared → Prop} {s : Shared}
theorem sliceApplied_step {sl : Addr} {vl vs : Value} {len k n : Nat} {Q : Int × Int × Nat → Shared → Prop} (hs : s.heap.IsSliceOf sl vl .none vs) (pl : IsPart vl (some (k : Int))) (ps : IsPart vs (some (n : Int))) (hn : 1 ≤ n) (hk : k ≤ len)
    (h : Q ((k : Int), (n : Int), plcN len k n) s) : wpAny (model prog w) A (Builtin.Slice.sliceApplied (.ref sl) (pure (len : Int))) Q E s := by
  obtain ⟨os, hos, hcs, hds⟩ := id hs
  unfold Builtin.Slice.sliceApplied Builtin.Slice.sliceFields
  refine wpAny_bind (wpAny_bind (wpAny_field hos hds (x := vl) rfl (wpAny_bind (wpAny_field hos hds (x := .none) rfl (wpAny_bind (wpAny_field hos hds (x := vs) rfl (wpAny_pure ?_)))))))
  refine wpAny_bind (slicePart_ ps ?_)
  show wpAny _ _ (if ((n : Int) == 0) = true then _ else _) _ _ s
  rw [if_neg (by simp; omega)]
  refine wpAny_bind (slicePart_ pl (wpAny_bind (slicePart_none (wpAny_bind (wpAny_pure ?_)))))
  show wpAny _ _ (match Builtin.Slice.sliceAdjust (some (k : Int)) none (n : Int) (len : Int) with | (lo, hi) => pure (lo, (n : Int), Builtin.Slice.slicePlaces lo hi (n : Int))) _ _ s
  rw [step_adjust hn hk]
  show wpAny _ _ (pure ((k : Int), (n : Int), Builtin.Slice.slicePlaces (k : Int) (len : Int) (n : Int))) _ _ s
  rw [step_places hn]
  exact wpAny_pure h
theorem step_pick (xs : Array Value) (k n p : Nat) : (List.range p).filterMap (fun (m : Nat) => xs[((k : Int) + (m : Int) * (n : Int)).toNat]?) = (List.range p).filterMap fun m => xs.toList[k + m * n]? := by
  refine fm_congr fun m _ => ?_
  rw [show ((k : Int) + (m : Int) * (n : Int)).toNat = k + m * n by rw [← Int.natCast_mul, ← Int.natCast_add, Int.toNat_natCast], Array.getElem?_toList]
theorem getItem_tuple_step {t sl : Addr} {its : Array Value} {vl vs : Value} {k n : Nat} {Q : Value → Shared → Prop} (isT : IsTup s.heap t its) (isSl : s.heap.IsSliceOf sl vl .none vs) (pl : IsPart vl (some (k : Int))) (ps : IsPart vs (some (n : Int))) (hn : 1 ≤ n) (hk : k ≤ its.size)
    (q1 : (k : Int) = 0 ∧ n = 1 → Q (.ref t) s)
    (q2 : Q (.ref s.heap.objs.size) { s with heap := s.heap.push { cls := .type "tuple", data := .seq (everyL its.toList k n).toArray } }) (small : (everyL its.toList k n).length ≤ sizeLine) : wpAny (model prog w) A (getItem (.ref t) (.ref sl)) Q E s := by
  have fits : sizeOk (.seq (everyL its.toList k n).toArray) := by
    show (everyL its.toList k n).toArray.size ≤ _
    rw [List.size_toArray]
    exact small
  have tySl : s.TypeIs (.ref sl) "slice" := let ⟨o, g, c, _⟩ := isSl; ⟨o, g, c⟩
  unfold getItem
  try with_reducible refine wpAny_holding ?_
  try refine wpAny_bind (wpAny_pure ?_)
  refine wpAny_bind (wpAny_sequenceKey isT.typeIs (by decide) (wpAny_bind (wpAny_callSpecial?_slot (name := Str.ofString "__getitem__") isT.typeIs PyProof.Rows.slot_tuple_getitem (wpAny_call_entry PyProof.Rows.slot_tuple_getitem isT.typeIs entry_tuple_getitem ?_ (args_tuple_getitem _ _)))))
  show wpAny _ _ (Builtin.Tuple.tupleItemsOf (.ref t) >>= _) _ _ s
  refine wpAny_bind (tupleItemsOf_ isT (wpAny_bind (wpAny_typeOf tySl ?_)))
  rw [if_pos (by decide)]
  refine wpAny_bind (sliceApplied_step isSl pl ps hn hk ?_)
  show wpAny _ _ (if ((k : Int) == 0 && (n : Int) == 1 && plcN its.size k n == its.size) = true then _ else _) _ _ s
  by_cases hw : ((k : Int) == 0 && (n : Int) == 1 && plcN its.size k n == its.size) = true
  · rw [if_pos hw]
    simp only [Bool.and_eq_true, beq_iff_eq] at hw
    refine wpAny_bind ?_
    show wpAny _ _ (typeOf (.ref t) >>= fun T => pure (T == .type "tuple")) _ _ s
    refine wpAny_bind (wpAny_typeOf isT.typeIs (wpAny_pure ?_))
    have h := q1 ⟨hw.1.1, by omega⟩
    first
      | rw [if_pos (by decide)]
      | simp only [beq_self_eq_true, if_true]
    first
      | exact wpAny_bind (wpAny_rule (wpAny_pure ⟨_, rfl, wpAny_pure h⟩))
      | exact wpAny_bind (wpAny_rule (wpAny_bind (wpAny_pure (wpAny_pure ⟨_, rfl, wpAny_pure h⟩))))
  · rw [if_neg hw, step_pick]
    have q := q2
    unfold everyL at q fits
    rw [Array.length_toList] at q fits
    first
      | exact wpAny_bind (m := Builtin.Tuple.tupleExact _) (wpAny_newObj_type (wpAny_pure ⟨_, rfl, wpAny_pure q⟩) fits)
      | exact wpAny_bind (wpAny_bind (m := Builtin.Tuple.tupleExact _) (wpAny_newObj_type (wpAny_pure (wpAny_pure ⟨_, rfl, wpAny_pure q⟩)) fits))
      | exact wpAny_bind (wpAny_bind (m := Builtin.Tuple.tupleExact _) (wpAny_newObj_type (wpAny_pure ⟨_, rfl, wpAny_pure q⟩) fits))
end
theorem vals_pick {xs : List V} {us : List Value} (r : Vals xs us) (f : Nat → Nat) : ∀ l : List Nat, Vals (l.filterMap fun m => xs[f m]?) (l.filterMap fun m => us[f m]?)
  | [] => .nil
  | m :: l => by
    have ih := vals_pick r f l
    cases h : xs[f m]? with
    | none => rw [List.filterMap_cons, List.filterMap_cons, h, r.none_of h]; exact ih
    | some x =>
      obtain ⟨u, hu, hr⟩ := r.get h
      rw [List.filterMap_cons, List.filterMap_cons, h, hu]
      exact .cons hr ih
theorem vals_step {xs : List V} {us : List Value} (r : Vals xs us) (k n : Nat) : Vals (everyL xs k n) (everyL us k n) := by
  unfold everyL
  rw [← r.length]
  exact vals_pick r _ _
theorem fm_all {α : Type} : ∀ xs : List α, (List.range xs.length).filterMap (fun m => xs[m]?) = xs
  | [] => rfl
  | x :: xs => by
    rw [List.length_cons, List.range_succ_eq_map, List.filterMap_cons]
    show x :: _ = _
    rw [List.filterMap_map]
    exact congrArg (x :: ·) (fm_all xs)
theorem step_whole {α : Type} (xs : List α) : everyL xs 0 1 = xs := by
  unfold everyL plcN
  have e : (if 0 < xs.length then (xs.length - 0 - 1) / 1 + 1 else 0) = xs.length := by
    rw [Nat.div_one]
    split <;> omega
  rw [e]
  refine Eq.trans (fm_congr fun m _ => ?_) (fm_all xs)
  rw [show 0 + m * 1 = m by omega]
section
variable {X : Cx}
/-- t[k::n], a plain tuple of a plain tuple -/
def tStepP (K : PySem.W.Frag) (te tl ts : TE) : TE := fun σ H Q => te σ H fun x H1 => tPart tl σ H1 fun lo H2 => tPart ts σ H2 fun st H3 => ∃ a xs k n, x = .ref a ∧ Ptp H3 a xs ∧ lo = some ((k : Nat) : Int) ∧ st = some ((n : Nat) : Int) ∧ 1 ≤ n ∧ k ≤ xs.length ∧ xs.length + 1 ≤ sizeLine ∧ ∀ p H', Same H3 H' → Ptp H' p (everyL xs k n) → Q (.ref p) H'
theorem pe_stepP {e el es : Expr} {te tl ts : TE} {p3 pos : Pos} (he : PE X e te) (hl : PE X el tl) (hs : PE X es ts) : PE X (.Subscript e (.Slice (some el) none (some es) p3) pos) (tStepP X.K te tl ts) := by
  refine ⟨fun pins s σ H Q I h => ?_⟩
  refine Subscript_ (thn (he.run pins s σ H _ I h) fun v s1 ⟨x, H1, I1, r1, q1⟩ => ?_)
  refine wpAny_Slice (thn ((po_some hl).run pins s1 σ H1 _ I1 q1) fun vl s2 ⟨l, H2, I2, pl, q2⟩ => ?_)
  refine thn (po_none.run pins s2 σ H2 (fun o H3 => o = none ∧ H3 = H2) I2 ⟨rfl, rfl⟩) fun vu s3 ⟨u, H3, I3, pu, eu, e3⟩ => ?_
  subst eu e3
  refine thn ((po_some hs).run pins s3 σ H3 _ I3 q2) fun vs s4 ⟨o, H4, I4, ps, q4⟩ => ?_
  obtain ⟨a, xs, k, n, ex, hx, el', eo, hn, hk, hsz, q⟩ := q4
  subst ex el' eo
  cases r1
  cases pu
  have I5 : Inv X pins σ H4 { s4 with heap := s4.heap.push { cls := .type "slice", data := .fields #[vl, .none, vs] } } := I4.kept (t' := s4.toks) fun b ob q => Heap.get?_push_of_some _ q
  obtain ⟨its, r, ht, hz⟩ := I5.tuple hx.seq
  have hlen : its.toArray.size = xs.length := by rw [List.size_toArray]; exact r.length.symm
  show wpAny (model X.prog X.w) X.A (subscriptTail e (.Slice (some el) none (some es) p3) (.ref a) (.ref s4.heap.objs.size)) (EP X pins σ Q) X.xe { s4 with heap := s4.heap.push { cls := .type "slice", data := .fields #[vl, .none, vs] } }
  refine tail_any (ops := [.ref a, .ref s4.heap.objs.size]) ht.typeIs (PyProof.Rows.slot_tuple_getitem.lookup) ?_ (by with_unfolding_all rfl)
  have hst := step_len xs k n
  refine getItem_tuple_step ht (Heap.IsSliceOf.new _ vl .none vs) pl ps hn (by rw [hlen]; exact hk) (fun hw => ?_) ?_ (by rw [← (vals_step r k n).length]; omega)
  · obtain ⟨h1, h2⟩ := hw
    have h1 : k = 0 := by omega
    subst h1 h2
    exact ⟨.ref a, H4, I5, rfl, q a H4 (Same.refl H4) (by rw [step_whole]; exact hx)⟩
  have hf := I5.hok.fresh (Nat.le_refl _)
  refine ⟨.ref _, _, I5.laid (t' := s4.toks) (o := .frz { cls := .type "tuple", data := .seq (everyL its k n).toArray } (.tup (everyL xs k n))) (fun b ob q => Heap.get?_push_of_some _ q) (Nat.le_refl _) ?_, rfl, q _ _ (same_fresh hf) ⟨_, upd_same, rfl⟩⟩
  exact ⟨Heap.get?_push_size _ rfl, by omega, _, vals_step r k n, ⟨_, Heap.get?_push_size _ rfl, rfl, _, rfl⟩⟩
theorem pe_stepPK {K : PySem.W.Frag} {e el es : Expr} {te tl ts : TE} {p3 pos : Pos} (hK : X.K = K) (he : PE X e te) (hl : PE X el tl) (hs : PE X es ts) : PE X (.Subscript e (.Slice (some el) none (some es) p3) pos) (tStepP K te tl ts) := by
  subst hK
  exact pe_stepP he hl hs
end
end L2
/-! two for -/
namespace L2
open PySem PySem.Spec PyProof.Rows
theorem lc2_rng {lo : Int} {n : Nat} {g1 : TG} {tt1 : TT} {te : TE} {vs1 : List Nat} {σ2 : St} {H4 : Hp} {D : Addr} {Nx : Hp → Prop} (Pv : Nat → Hp → Prop) (h0 : Pv 0 H4)
    (hs : ∀ j H, j < n → Pv j H → g1 (.int (lo + j)) (wipe σ2 vs1) H fun σ3 H5 => wipe σ3 vs1 = wipe σ2 vs1 ∧ tt1 σ3 H5 fun b H6 =>
      if b = true then te σ3 H6 fun y H7 => ∃ acc, H7 D = some (.lst acc) ∧ acc.length < sizeLine ∧ Pv (j + 1) (upd H7 D (.lst (acc ++ [y]))) else Pv (j + 1) H6) (hd : ∀ H, Pv n H → Nx H) :
    ∃ W1 : Nat → Nat → Hp → Prop, (∃ m, W1 0 m H4) ∧ ∀ j k H, W1 j k H →
      ((Itr lo n).stop j H ∧ Nx H) ∨ ((Itr lo n).go j H ∧ ∃ Nx1 : Hp → Prop, (∀ H', Nx1 H' → ∃ k', k' < k ∧ W1 (j + 1) k' H') ∧ ∀ x H', (Itr lo n).yld j H x H' → g1 x (wipe σ2 vs1) H' fun σ3 H5 => wipe σ3 vs1 = wipe σ2 vs1 ∧ tt1 σ3 H5 fun b H6 =>
        if b = true then te σ3 H6 fun y H7 => ∃ acc, H7 D = some (.lst acc) ∧ acc.length < sizeLine ∧ Nx1 (upd H7 D (.lst (acc ++ [y]))) else Nx1 H6) := by
  refine ⟨fun i m H => m = n - i ∧ i ≤ n ∧ Pv i H, ⟨n, by simp, Nat.zero_le _, h0⟩, ?_⟩
  rintro i m H ⟨rfl, hi, p⟩
  by_cases hlt : i < n
  · refine .inr ⟨hlt, Pv (i + 1), fun H' p' => ⟨n - (i + 1), by omega, rfl, hlt, p'⟩, fun x H' y => ?_⟩
    obtain ⟨e, y⟩ := y
    subst e y
    exact hs i _ hlt p
  · have e : i = n := by omega
    subst e
    exact .inl ⟨Nat.le_refl _, hd H p⟩
theorem lc2_tup {K : PySem.W.Frag} {a : Addr} {xs : List V} {g : TG} {tt : TT} {In : St → Hp → (Hp → Prop) → Prop} {vs : List Nat} {σ : St} {H1 : Hp} {D : Addr} {Qd : Hp → Prop} (Pv : Nat → Hp → Prop) (h0 : Pv 0 (upd H1 D (.lst []))) (hl : ∀ i H, i ≤ xs.length → Pv i H → SqT K H a xs)
    (hs : ∀ i x H, xs[i]? = some x → Pv i H → g x (wipe σ vs) H fun σ2 H2 => wipe σ2 vs = wipe σ vs ∧ tt σ2 H2 fun b H3 =>
      if b = true then In σ2 H3 (Pv (i + 1)) else Pv (i + 1) H3) (hd : ∀ H, Pv xs.length H → Qd H) :
    ∃ W : Nat → Nat → Hp → Prop, (∃ m, W 0 m (upd H1 D (.lst []))) ∧ ∀ i m H, W i m H →
      ((Itt K a).stop i H ∧ Qd H) ∨ ((Itt K a).go i H ∧ ∃ Nx : Hp → Prop, (∀ H', Nx H' → ∃ m', m' < m ∧ W (i + 1) m' H') ∧ ∀ x H', (Itt K a).yld i H x H' → g x (wipe σ vs) H' fun σ2 H2 => wipe σ2 vs = wipe σ vs ∧ tt σ2 H2 fun b H3 =>
        if b = true then In σ2 H3 Nx else Nx H3) := by
  refine ⟨fun i m H => m = xs.length - i ∧ i ≤ xs.length ∧ Pv i H, ⟨xs.length, by simp, Nat.zero_le _, h0⟩, ?_⟩
  rintro i m H ⟨rfl, hi, p⟩
  have q := hl i H hi p
  by_cases hlt : i < xs.length
  · refine .inr ⟨⟨xs, xs[i], q, by simp [hlt]⟩, Pv (i + 1), fun H' p' => ⟨xs.length - (i + 1), by omega, rfl, hlt, p'⟩, fun x H' y => ?_⟩
    obtain ⟨e, y⟩ := y
    subst e
    exact hs i x _ (y xs q) p
  · have e : i = xs.length := by omega
    subst e
    exact .inl ⟨⟨xs, q, Nat.le_refl _⟩, hd H p⟩
theorem lc2_list {K : PySem.W.Frag} {a : Addr} {xs : List V} {g : TG} {tt : TT} {In : St → Hp → (Hp → Prop) → Prop} {vs : List Nat} {σ : St} {H1 : Hp} {D : Addr} {Qd : Hp → Prop} (Pv : Nat → Hp → Prop) (h0 : Pv 0 (upd H1 D (.lst []))) (hl : ∀ i H, i ≤ xs.length → Pv i H → SqL K H a xs)
    (hs : ∀ i x H, xs[i]? = some x → Pv i H → g x (wipe σ vs) H fun σ2 H2 => wipe σ2 vs = wipe σ vs ∧ tt σ2 H2 fun b H3 =>
      if b = true then In σ2 H3 (Pv (i + 1)) else Pv (i + 1) H3) (hd : ∀ H, Pv xs.length H → Qd H) :
    ∃ W : Nat → Nat → Hp → Prop, (∃ m, W 0 m (upd H1 D (.lst []))) ∧ ∀ i m H, W i m H →
      ((Itl K a).stop i H ∧ Qd H) ∨ ((Itl K a).go i H ∧ ∃ Nx : Hp → Prop, (∀ H', Nx H' → ∃ m', m' < m ∧ W (i + 1) m' H') ∧ ∀ x H', (Itl K a).yld i H x H' → g x (wipe σ vs) H' fun σ2 H2 => wipe σ2 vs = wipe σ vs ∧ tt σ2 H2 fun b H3 =>
        if b = true then In σ2 H3 Nx else Nx H3) := by
  refine ⟨fun i m H => m = xs.length - i ∧ i ≤ xs.length ∧ Pv i H, ⟨xs.length, by simp, Nat.zero_le _, h0⟩, ?_⟩
  rintro i m H ⟨rfl, hi, p⟩
  have q := hl i H hi p
  by_cases hlt : i < xs.length
  · refine .inr ⟨⟨xs, xs[i], q, by simp [hlt]⟩, Pv (i + 1), fun H' p' => ⟨xs.length - (i + 1), by omega, rfl, hlt, p'⟩, fun x H' y => ?_⟩
    obtain ⟨e, y⟩ := y
    subst e
    exact hs i x _ (y xs q) p
  · have e : i = xs.length := by omega
    subst e
    exact .inl ⟨⟨xs, q, Nat.le_refl _⟩, hd H p⟩
/-! dicts -/
section
variable {X : Cx}
def valsIn {κ : Type} [DecidableEq κ] (A B : List (κ × V)) : Prop := A.length = B.length ∧ ∀ e ∈ A, ∃ i : Int, e.2 = .int i ∧ valV B e.1 = some (.int i)
/-- d != e where they are alike, of whole numbers -/
def rNeDk : R2 := fun x y H Q => ∃ a b A B, x = .ref a ∧ y = .ref b ∧ H a = some (.dK A) ∧ H b = some (.dK B) ∧ valsIn A B ∧ Q (.bl false) H
theorem keq_hits {A : Around} {s : Shared} {kb : List (Key × Value)} {Bz : List (Key × V)} (rb : KV Bz kb) : ∀ {Az : List (Key × V)} {ka : List (Key × Value)}, KV Az ka → (∀ e ∈ Az, ∃ i : Int, e.2 = .int i ∧ valV Bz e.1 = some (.int i)) → PySem.W.KeqHits A s kb ka true
  | _, _, .nil, _ => .nil
  | _, _, .cons (a := p) (b := q) h t, hv => by
    obtain ⟨i, e1, e2⟩ := hv p List.mem_cons_self
    obtain ⟨h1, h2⟩ := h
    have ih := keq_hits (A := A) (s := s) rb t fun e he => hv e (List.mem_cons_of_mem _ he)
    have h3 := rb.val p.1
    rw [e2] at h3
    rw [e1] at h2
    obtain ⟨k, v⟩ := q
    obtain ⟨tk, hu⟩ : ∃ tk, v = .int i tk := h2
    cases hu
    cases hy : valueAt kb p.1 with
    | none => rw [hy] at h3; exact h3.elim
    | some y =>
      rw [hy] at h3
      obtain ⟨tk2, hy2⟩ : ∃ tk, y = .int i tk := h3
      cases hy2
      have hk : k = p.1 := h1.symm
      subst hk
      have hq := PySem.W.keq_flat (A := A) (s := s) (PyProof.V.Flat.int i tk) (PyProof.V.Flat.int i tk2)
      have ht : PyData.eqv (.int i) (.int i) = true := by simp [PyData.eqv]
      rw [ht] at hq
      exact .hit hy hq ih
theorem op_neDk (hu : X.A.units + 64 < cLine) : OpR X (compareOp .NotEq) rNeDk := by
  intro pins s σ H x y v u Q I rx ry h
  obtain ⟨a, b, A, B, rfl, rfl, ha, hb, ⟨hl, hv⟩, q⟩ := h
  cases rx
  cases ry
  obtain ⟨_, ma, va, ra, da⟩ := dk_of I.hok ha
  obtain ⟨_, mb, vb, rb, db⟩ := dk_of I.hok hb
  have la := Paired.length ra
  have lb := Paired.length rb
  refine PySem.W.keq_ne ma mb da db (by omega) (fun _ => keq_hits rb ra hv) ?_
  rw [show (va.length == vb.length && true) = true by simp; omega]
  exact ⟨.bl false, H, I, rfl, q⟩
end
end L2

namespace Kb
open PySem PySem.Spec PyProof.Rows L2 SrtZ SrtO
/-! every n-th of a list -/
theorem plc_rec {len k n : Nat} (hn : 1 ≤ n) (hk : k < n) : plcN len k n = (if k < len then 1 else 0) + plcN (len - n) k n := by
  unfold plcN
  by_cases h : k < len
  · rw [if_pos h, if_pos h]
    by_cases h2 : k < len - n
    · rw [if_pos h2, show len - k - 1 = (len - n - k - 1) + n by omega, Nat.add_div_right _ (by omega)]
      omega
    · rw [if_neg h2, Nat.div_eq_of_lt (by omega)]
  · rw [if_neg h, if_neg h, if_neg (by omega)]
theorem every_rec {α : Type} {k n : Nat} (hn : 1 ≤ n) (hk : k < n) (xs : List α) : everyL xs k n = (xs[k]?).toList ++ everyL (xs.drop n) k n := by
  unfold everyL
  rw [plc_rec hn hk, List.length_drop]
  by_cases h : k < xs.length
  · rw [if_pos h, Nat.add_comm 1, List.range_succ_eq_map, List.filterMap_cons, show k + 0 * n = k by omega, List.filterMap_map]
    obtain ⟨x, hx⟩ : ∃ x, xs[k]? = some x := ⟨xs[k], by simp [h]⟩
    rw [hx]
    show x :: _ = x :: _
    refine congrArg _ (fm_congr fun m _ => ?_)
    show xs[k + (m + 1) * n]? = _
    rw [List.getElem?_drop, Nat.succ_mul]
    congr 1
    omega
  · rw [if_neg h]
    have e : xs[k]? = none := List.getElem?_eq_none (by omega)
    rw [e, show plcN (xs.length - n) k n = 0 by unfold plcN; rw [if_neg (by omega)]]
    rfl
theorem fl_range {α : Type} (xs : List α) : ∀ n : Nat, ((List.range n).flatMap fun k => (xs[k]?).toList) = xs.take n
  | 0 => rfl
  | n + 1 => by rw [List.range_succ, List.flatMap_append, fl_range xs n, List.take_add_one, List.flatMap_cons, List.flatMap_nil, List.append_nil]
theorem fl_app {α β : Type} {f g : α → List β} : ∀ l : List α, (l.flatMap fun k => f k ++ g k).Perm (l.flatMap f ++ l.flatMap g)
  | [] => .nil
  | a :: l => by
    rw [List.flatMap_cons, List.flatMap_cons, List.flatMap_cons, List.append_assoc, List.append_assoc]
    refine List.Perm.append_left _ ?_
    refine (List.Perm.append_left _ (fl_app l)).trans ?_
    rw [← List.append_assoc, ← List.append_assoc]
    exact List.Perm.append_right _ List.perm_append_comm
theorem fl_congr {α β : Type} {f g : α → List β} : ∀ {l : List α}, (∀ a ∈ l, f a = g a) → l.flatMap f = l.flatMap g
  | [], _ => rfl
  | a :: l, h => by rw [List.flatMap_cons, List.flatMap_cons, h a List.mem_cons_self, fl_congr fun b hb => h b (List.mem_cons_of_mem _ hb)]
theorem fl_nil {α β : Type} : ∀ l : List α, (l.flatMap fun _ => ([] : List β)) = []
  | [] => rfl
  | _ :: l => by rw [List.flatMap_cons, fl_nil l]; rfl
theorem every_perm {α : Type} {n : Nat} (hn : 1 ≤ n) : ∀ (b : Nat) (xs : List α), xs.length ≤ b → ((List.range n).flatMap fun k => everyL xs k n).Perm xs
  | b, [], _ => by
    have e : ((List.range n).flatMap fun k => everyL ([] : List α) k n) = (List.range n).flatMap fun _ => [] := fl_congr fun k _ => rfl
    rw [e, fl_nil]
  | 0, _ :: _, h => by simp at h
  | b + 1, x :: xs, h => by
    have e : ((List.range n).flatMap fun k => everyL (x :: xs) k n) = (List.range n).flatMap fun k => ((x :: xs)[k]?).toList ++ everyL ((x :: xs).drop n) k n := fl_congr fun k hk => every_rec hn (List.mem_range.mp hk) _
    rw [e]
    refine (fl_app _).trans ?_
    rw [fl_range]
    refine (List.Perm.append_left _ (every_perm hn b ((x :: xs).drop n) (by rw [List.length_drop]; omega))).trans ?_
    rw [List.take_append_drop]
theorem every_len {α : Type} {k n : Nat} (hn : 1 ≤ n) (hk : k < n) : ∀ (b : Nat) (xs : List α), xs.length ≤ b → (everyL xs k n).length = plcN xs.length k n
  | b, [], _ => rfl
  | 0, _ :: _, h => by simp at h
  | b + 1, x :: xs, h => by
    rw [every_rec hn hk, List.length_append, every_len hn hk b _ (by rw [List.length_drop]; omega), plc_rec hn hk (len := (x :: xs).length), List.length_drop]
    by_cases h2 : k < (x :: xs).length
    · rw [if_pos h2, List.getElem?_eq_getElem h2]
      rfl
    · rw [if_neg h2, List.getElem?_eq_none (by omega)]
      rfl
theorem every_mem {α : Type} {xs : List α} {k n : Nat} {z : α} (h : z ∈ everyL xs k n) : ∃ m, xs[k + m * n]? = some z := by
  obtain ⟨m, _, h⟩ := List.mem_filterMap.mp h
  exact ⟨m, h⟩
def Gap (n : Nat) (xs : List Str) : Prop := ∀ i j z, i < j → xs[i]? = some z → xs[j]? = some z → j < i + n
theorem gap_drop {n m : Nat} {xs : List Str} (h : Gap n xs) : Gap n (xs.drop m) := fun i j z hij hi hj => by
  rw [List.getElem?_drop] at hi hj
  have := h _ _ _ (by omega) hi hj
  omega
theorem every_nd {k n : Nat} (hn : 1 ≤ n) (hk : k < n) : ∀ (b : Nat) (xs : List Str), xs.length ≤ b → Gap n xs → (everyL xs k n).Nodup
  | b, [], _, _ => List.nodup_nil
  | 0, _ :: _, h, _ => by simp at h
  | b + 1, x :: xs, h, g => by
    rw [every_rec hn hk]
    have ih := every_nd hn hk b ((x :: xs).drop n) (by rw [List.length_drop]; omega) (gap_drop g)
    cases hx : (x :: xs)[k]? with
    | none => exact ih
    | some y =>
      show (y :: _).Nodup
      refine List.nodup_cons.mpr ⟨fun hy => ?_, ih⟩
      obtain ⟨m, hm⟩ := every_mem hy
      rw [List.getElem?_drop] at hm
      have := g _ _ _ (by omega) hx hm
      omega
theorem gap_sprd {n : Nat} : ∀ {ys : Ct}, NdZ ys → (∀ e ∈ ys, e.2 ≤ n) → Gap n (sprd ys)
  | [], _, _ => fun i j z _ hi _ => by simp [sprd] at hi
  | e :: ys, nd, h => by
    have nd2 := List.nodup_cons.mp (show (e.1 :: ys.map (·.1)).Nodup from nd)
    have ih := gap_sprd (n := n) (ys := ys) nd2.2 fun x hx => h x (List.mem_cons_of_mem _ hx)
    have he := h e List.mem_cons_self
    intro i j z hij hi hj
    have es : sprd (e :: ys) = List.replicate e.2.toNat e.1 ++ sprd ys := by unfold sprd; rw [List.flatMap_cons]
    rw [es] at hi hj
    by_cases h1 : j < e.2.toNat
    · omega
    · rw [List.getElem?_append_right (by rw [List.length_replicate]; omega), List.length_replicate] at hj
      by_cases h2 : i < e.2.toNat
      · rw [List.getElem?_append_left (by rw [List.length_replicate]; exact h2)] at hi
        have hz := List.eq_of_mem_replicate (List.mem_of_getElem? hi)
        obtain ⟨f, hf, hfz⟩ := sprd_mem (List.mem_of_getElem? hj)
        exact absurd (List.mem_map.mpr ⟨f, hf, hfz.trans hz⟩) nd2.1
      · rw [List.getElem?_append_right (by rw [List.length_replicate]; omega), List.length_replicate] at hi
        have := ih _ _ _ (by omega) hi hj
        omega
/-! how often a name stands in a list -/
def cntL (zs : List Str) (z : Str) : Int := ((zs.filter fun y => decide (y = z)).length : Int)
theorem cntL_perm {a b : List Str} (p : a.Perm b) (z : Str) : cntL a z = cntL b z := by
  unfold cntL
  rw [(p.filter _).length_eq]
theorem cntL_app (a b : List Str) (z : Str) : cntL (a ++ b) z = cntL a z + cntL b z := by
  unfold cntL
  rw [List.filter_append, List.length_append]
  push_cast
  rfl
theorem cntL_rep (n : Nat) (y z : Str) : cntL (List.replicate n y) z = if y = z then (n : Int) else 0 := by
  unfold cntL
  by_cases h : y = z
  · rw [if_pos h, List.filter_replicate_of_pos (by exact decide_eq_true h), List.length_replicate]
  · rw [if_neg h, List.filter_replicate_of_neg (by simp [h])]
    rfl
theorem cntZ_gd : ∀ (zs : List Str) (kc : Ct) (z : Str), gd (cntZ zs kc) z = gd kc z + cntL zs z
  | [], kc, z => by show gd kc z = gd kc z + 0; omega
  | y :: zs, kc, z => by
    show gd (cntZ zs (addZ kc y 1)) z = _
    rw [cntZ_gd zs, gd_add]
    have e : cntL (y :: zs) z = (if z = y then 1 else 0) + cntL zs z := by
      unfold cntL
      by_cases h : y = z
      · rw [List.filter_cons_of_pos (by exact decide_eq_true h), if_pos h.symm, List.length_cons]
        push_cast
        omega
      · rw [List.filter_cons_of_neg (by simp [h]), if_neg fun x => h x.symm]
        omega
    rw [e]
    omega
theorem cntL_sprd : ∀ {ys : Ct}, NdZ ys → (∀ e ∈ ys, 0 ≤ e.2) → ∀ z, cntL (sprd ys) z = gd ys z
  | [], _, _, z => rfl
  | e :: ys, nd, h, z => by
    have nd2 := List.nodup_cons.mp (show (e.1 :: ys.map (·.1)).Nodup from nd)
    have es : sprd (e :: ys) = List.replicate e.2.toNat e.1 ++ sprd ys := by unfold sprd; rw [List.flatMap_cons]
    have h0 := h e List.mem_cons_self
    rw [es, cntL_app, cntL_rep, cntL_sprd nd2.2 (fun x hx => h x (List.mem_cons_of_mem _ hx))]
    by_cases hz : e.1 = z
    · rw [if_pos hz]
      have g1 : gd (e :: ys) z = e.2 := by
        unfold gd getZ
        rw [List.find?_cons_of_pos (by exact decide_eq_true hz)]
        rfl
      have g2 : gd ys z = 0 := by
        unfold gd
        cases hq : getZ ys z with
        | none => rfl
        | some v =>
          unfold getZ at hq
          cases hf : ys.find? (fun e => decide (e.1 = z)) with
          | none => rw [hf] at hq; cases hq
          | some f =>
            have := List.find?_some hf
            exact absurd (List.mem_map.mpr ⟨f, List.mem_of_find?_eq_some hf, (of_decide_eq_true this).trans hz.symm⟩) nd2.1
      rw [g1, g2]
      omega
    · rw [if_neg hz]
      have g1 : gd (e :: ys) z = gd ys z := by
        unfold gd getZ
        rw [List.find?_cons_of_neg (by simp [hz])]
      rw [g1]
      omega
/-! all items of a tree -/
def itemsZ : Stp → List Str
  | .put zs => zs
  | .pour => []
def allZ (l : List Stp) : List Str := l.flatMap itemsZ
theorem cntS_all : ∀ (l : List Stp) (kc : Ct) (z : Str), gd (l.foldl cntS kc) z = gd kc z + cntL (allZ l) z
  | [], kc, z => by show gd kc z = gd kc z + 0; omega
  | .put zs :: l, kc, z => by
    show gd (l.foldl cntS (cntZ zs kc)) z = gd kc z + cntL (zs ++ allZ l) z
    rw [cntS_all l, cntZ_gd, cntL_app]
    omega
  | .pour :: l, kc, z => cntS_all l kc z
theorem cS_all : ∀ (l : List Stp) (m : Int), l.foldl cS m = m + ((allZ l).length : Int)
  | [], m => by show m = m + 0; omega
  | .put zs :: l, m => by
    show l.foldl cS (m + (zs.length : Nat)) = m + ((zs ++ allZ l).length : Int)
    rw [cS_all l, List.length_append]
    push_cast
    omega
  | .pour :: l, m => cS_all l m
/-! the paper -/
def layS (rn : Nat) (l : List Str) : List Stp := [.put (l.take rn), .put (l.drop rn), .pour, .pour]
def paperL (rn : Nat) (kept : Ct) (ls : List (List Str)) : List Stp := .put (sprd kept) :: ls.flatMap (layS rn)
theorem run_layS {rn : Nat} {l : List Str} {m o : Int} {kvs : Ct} (nd : l.Nodup) (h1 : rn < l.length) (h2 : l.length ≤ 2 * rn) (hl : (kvs.length : Int) ≤ rn) :
    (layS rn l).foldl (stepT rn) [⟨m, o, kvs⟩] = [⟨m + (l.length : Int), o + 1, kvs⟩] := by
  show stepT rn (stepT rn (feedsT rn (l.drop rn) tl0 :: feedsT rn (l.take rn) tl0 :: [⟨m, o, kvs⟩]) .pour) .pour = _
  rw [feeds_ones (nd.sublist (List.drop_sublist _ _)) (by rw [List.length_drop]; omega), feeds_ones (nd.sublist (List.take_sublist _ _)) (by rw [List.length_take]; omega)]
  show stepT rn (pourT rn (skT _) _ :: [⟨m, o, kvs⟩]) .pour = _
  rw [layer_pour nd h1]
  show pourT rn (skT _) ⟨m, o, kvs⟩ :: [] = _
  rw [layer_base hl]
structure LayOk (rn : Nat) (ls : List (List Str)) : Prop where
  ok : ∀ l ∈ ls, l.Nodup ∧ rn < l.length ∧ l.length ≤ 2 * rn
theorem run_laysS {rn : Nat} {kvs : Ct} (hl : (kvs.length : Int) ≤ rn) : ∀ {ls : List (List Str)} {m o : Int}, LayOk rn ls → (ls.flatMap (layS rn)).foldl (stepT rn) [⟨m, o, kvs⟩] = [⟨m + (ls.flatten.length : Int), o + (ls.length : Int), kvs⟩]
  | [], m, o, _ => by simp
  | l :: ls, m, o, h => by
    obtain ⟨a, b, c⟩ := h.ok l List.mem_cons_self
    rw [List.flatMap_cons, List.foldl_append, run_layS a b c hl, run_laysS hl ⟨fun x hx => h.ok x (List.mem_cons_of_mem _ hx)⟩, List.flatten_cons, List.length_append, List.length_cons]
    push_cast
    rw [show m + (l.length : Int) + (ls.flatten.length : Int) = m + ((l.length : Int) + (ls.flatten.length : Int)) by omega, show o + 1 + (ls.length : Int) = o + ((ls.length : Int) + 1) by omega]
theorem vl_laysS (rn : Nat) : ∀ ls : List (List Str), Vl 1 (ls.flatMap (layS rn)) ∧ (ls.flatMap (layS rn)).foldl hS 1 = 1
  | [] => ⟨trivial, rfl⟩
  | l :: ls => by
    obtain ⟨a, b⟩ := vl_laysS rn ls
    rw [List.flatMap_cons]
    have hf : (layS rn l).foldl hS 1 = 1 := rfl
    refine ⟨vl_app (show Vl 1 (layS rn l) from ⟨by decide, by decide, trivial⟩) (by rw [hf]; exact a), ?_⟩
    rw [List.foldl_append, hf, b]
theorem all_laysS (rn : Nat) : ∀ ls : List (List Str), allZ (ls.flatMap (layS rn)) = ls.flatten
  | [] => rfl
  | l :: ls => by
    have ih := all_laysS rn ls
    unfold allZ at ih ⊢
    rw [List.flatMap_cons, List.flatMap_append, ih, List.flatten_cons]
    show (l.take rn ++ (l.drop rn ++ ([] ++ ([] ++ [])))) ++ _ = _
    rw [List.append_nil, List.append_nil, List.append_nil, List.take_append_drop]
theorem len_laysS (rn : Nat) : ∀ ls : List (List Str), (ls.flatMap (layS rn)).length = 4 * ls.length
  | [] => rfl
  | l :: ls => by
    rw [List.flatMap_cons, List.length_append, len_laysS rn ls, List.length_cons]
    show 4 + _ = _
    omega
theorem all_paper (rn : Nat) (kept : Ct) (ls : List (List Str)) : allZ (paperL rn kept ls) = sprd kept ++ ls.flatten := by
  show sprd kept ++ allZ _ = _
  rw [all_laysS]
/-! of a truth -/
def takenC (kept ys : Ct) : Ct := ys.map fun e => (e.1, e.2 - gd kept e.1)
def laysZ (kept ys : Ct) (on : Nat) : List (List Str) := (List.range on).map fun k => everyL (sprd (takenC kept ys)) k on
theorem taken_keys (kept ys : Ct) : (takenC kept ys).map (·.1) = ys.map (·.1) := by
  unfold takenC
  rw [List.map_map]
  rfl
theorem laysZ_flat {kept ys : Ct} {on : Nat} (hon : 1 ≤ on) : (laysZ kept ys on).flatten.Perm (sprd (takenC kept ys)) := by
  have := every_perm hon _ (sprd (takenC kept ys)) (Nat.le_refl _)
  unfold laysZ
  rw [← List.flatMap_def]
  exact this
theorem gd_taken {kept ys : Ct} (nd : NdZ ys) (k : Str) : gd (takenC kept ys) k = if k ∈ ys.map (·.1) then gd ys k - gd kept k else 0 := by
  induction ys with
  | nil => rfl
  | cons e ys ih =>
    have nd2 := List.nodup_cons.mp (show (e.1 :: ys.map (·.1)).Nodup from nd)
    have ih := ih nd2.2
    by_cases h : e.1 = k
    · have g1 : gd (takenC kept (e :: ys)) k = e.2 - gd kept e.1 := by
        unfold gd getZ takenC
        rw [List.map_cons, List.find?_cons_of_pos (by exact decide_eq_true h)]
        rfl
      have g2 : gd (e :: ys) k = e.2 := by
        unfold gd getZ
        rw [List.find?_cons_of_pos (by exact decide_eq_true h)]
        rfl
      rw [g1, g2, if_pos (by rw [List.map_cons]; exact List.mem_cons.mpr (.inl h.symm)), h]
    · have g1 : gd (takenC kept (e :: ys)) k = gd (takenC kept ys) k := by
        unfold gd getZ takenC
        rw [List.map_cons, List.find?_cons_of_neg (by simp [h])]
      have g2 : gd (e :: ys) k = gd ys k := by
        unfold gd getZ
        rw [List.find?_cons_of_neg (by simp [h])]
      rw [g1, g2, ih]
      by_cases h2 : k ∈ ys.map (·.1)
      · rw [if_pos h2, if_pos (by rw [List.map_cons]; exact List.mem_cons_of_mem _ h2)]
      · rw [if_neg h2, if_neg (by rw [List.map_cons]; exact fun z => (List.mem_cons.mp z).elim (fun z => h z.symm) h2)]
theorem gd_no {ys : Ct} {k : Str} (h : k ∉ ys.map (·.1)) : gd ys k = 0 := by
  unfold gd
  cases hq : getZ ys k with
  | none => rfl
  | some v =>
    unfold getZ at hq
    cases hf : ys.find? (fun e => decide (e.1 = k)) with
    | none => rw [hf] at hq; cases hq
    | some f =>
      have := List.find?_some hf
      exact absurd (List.mem_map.mpr ⟨f, List.mem_of_find?_eq_some hf, of_decide_eq_true this⟩) h
theorem gd_mem' {ys : Ct} (nd : NdZ ys) {e : Str × Int} (h : e ∈ ys) : gd ys e.1 = e.2 := by
  obtain ⟨i, hi⟩ := List.mem_iff_getElem?.mp h
  unfold gd
  rw [getZ_self nd hi]
  rfl
end Kb

namespace Kb
open PySem PySem.Spec PyProof.Rows L2 SrtZ SrtO FlX LamX RZ
abbrev sP_repeated : Stmt := topS 36
abbrev NP_repeated : List Str := ["counts", "name", "count", "_"]
theorem scP_repeated : FnScope ["counts", "name", "count", "_"] ["counts"] (defScope sP_repeated) := ⟨rfl, rfl, rfl, by decide +kernel, rfl, by decide +kernel, by decide +kernel⟩
abbrev DnRepeated (K : PySem.W.Frag) (mg : Str → Option Value) := Dn K mg "_repeated" sP_repeated ["counts"]
theorem sprd_snoc {ys : Ct} {i : Nat} {e : Str × Int} (h : ys[i]? = some e) : sprd (ys.take (i + 1)) = sprd (ys.take i) ++ List.replicate e.2.toNat e.1 := by
  unfold sprd
  rw [List.take_add_one, h, List.flatMap_append]
  show _ ++ (List.replicate _ _ ++ []) = _
  rw [List.append_nil]
theorem sprd_take_le {ys : Ct} (i : Nat) : (sprd (ys.take i)).length ≤ (sprd ys).length := by
  have e : sprd ys = sprd (ys.take i) ++ sprd (ys.drop i) := by
    unfold sprd
    rw [← List.flatMap_append, List.take_append_drop]
  rw [e, List.length_append]
  omega
section
variable {P : Program} {w : World} {K : PySem.W.Frag} {mg : Str → Option Value} {base : Heap}
def spRepeated (K : PySem.W.Frag) : Sp := fun vs H Q _ => ∃ (a : Addr) (ts : List Addr) (ys : Ct), vs = [.ref a] ∧ (SqT K H a (ts.map V.ref) ∨ H a = some (.lst (ts.map V.ref))) ∧ Paired (PrT H) ts ys ∧ (∀ e ∈ ys, 0 ≤ e.2 ∧ e.2 ≤ 50000) ∧ (sprd ys).length ≤ 50000 ∧
  ∀ H' p, Same H H' → Ptp H' p ((sprd ys).map V.str) → Q (.ref p) H'
theorem ok_repeated (T : Blt mg) (d : DnRepeated K mg) : FnOk P w K mg base CX0 1 d.f d.fd ["counts"] (spRepeated K) := by
  refine d.F.ok scP_repeated (fun vs H Q E h => ?_) (fun cdv A outer s H vs Q E hr h => ?_)
  · obtain ⟨a, ts, ys, rfl, _⟩ := h
    rfl
  · obtain ⟨a, ts, ys, rfl, hS, hp, hb, hl, q⟩ := h
    rcases hS with hS | hS
    · refine ⟨_, (pss_one (ps_ret (pe_callTy call_tupleF (by rfl) T.n_tuple (by decide +kernel) (pa_cons (pe_lc2 (own := [("name", 1), ("count", 2), ("_", 3)]) (vs1 := [3]) (g := gTup K 2 (gCons (gName 1) (gCons (gName 2) gNil))) (g1 := gName 3) (tt := tYes) (tt1 := tYes) rfl scP_repeated.nd (pi_tup (pv 0)) (blkOk_by (N := NP_repeated) (sc := defScope sP_repeated) (by decide +kernel)) (by decide) (fun _ _ _ _ _ => pg_tup (by rfl) (pgs_cons (pg_name (i := 1) scP_repeated.nd rfl (Or.inl rfl)) (pgs_cons (pg_name (i := 2) scP_repeated.nd rfl (Or.inl rfl)) pgs_nil))) (fun _ _ _ _ _ => pts_nil) (fun _ _ _ _ _ => (pi_range1 (by rfl) T.n_range (pa_cons (pv 2) pa_nil))) (fun _ _ _ _ _ => pg_name (i := 3) scP_repeated.nd rfl (Or.inl rfl)) (fun _ _ _ _ _ => pts_nil) (fun _ _ _ _ _ => (pv 1))) pa_nil)))), ?_⟩
      refine ⟨.ref a, rfl, a, rfl, ⟨_, hS⟩, fun D nD => ?_⟩
      refine lc2_tup (K := K) (a := a) (xs := ts.map V.ref) (fun i H3 => Same H H3 ∧ H3 D = some (.lst ((sprd (ys.take i)).map V.str))) ⟨same_upd nD, upd_same⟩ (fun i H3 _ h3 => seqT hS h3.1) (fun i u H3 hi h3 => ?_) (fun H3 h3 => ?_)
      · obtain ⟨t, ht, rfl⟩ := map_at hi
        obtain ⟨e, he, hat⟩ := paired_at hp ht
        obtain ⟨s3, hD3⟩ := h3
        have hb' := hb e (List.mem_of_getElem? he)
        have hle := sprd_take_le (ys := ys) (i + 1)
        rw [sprd_snoc he, List.length_append, List.length_replicate] at hle
        obtain ⟨n, hn⟩ : ∃ n : Nat, e.2 = (n : Int) := ⟨e.2.toNat, by omega⟩
        rw [hn, Int.toNat_natCast] at hle
        refine ⟨t, _, rfl, .inl (.inl (s3 _ _ hat)), rfl, _, _, rfl, _, _, rfl, rfl, rfl, ?_⟩
        refine ⟨.int e.2, rfl, e.2, rfl, by omega, by omega, ?_⟩
        rw [hn, Int.toNat_natCast]
        refine lc2_rng (lo := 0) (n := n) (fun j H4 => Same H H4 ∧ H4 D = some (.lst ((sprd (ys.take i) ++ List.replicate j e.1).map V.str))) ⟨s3, by rw [List.replicate_zero, List.append_nil]; exact hD3⟩ (fun j H4 hj h4 => ?_) (fun H4 h4 => ?_)
        · obtain ⟨s4, hD4⟩ := h4
          refine ⟨rfl, .str e.1, rfl, _, hD4, by rw [List.length_map, List.length_append, List.length_replicate, sizeLine_eq]; omega, Same.put s4 nD, ?_⟩
          rw [upd_same, List.replicate_succ', ← List.append_assoc, List.map_append (l₁ := sprd (ys.take i) ++ List.replicate j e.1)]
          rfl
        · refine ⟨h4.1, ?_⟩
          rw [sprd_snoc he, hn, Int.toNat_natCast]
          exact h4.2
      · obtain ⟨s3, hD3⟩ := h3
        have tl := Paired.length hp
        rw [List.length_map, tl, List.take_length] at hD3
        exact ⟨D, _, rfl, sql hD3, fun p o np ho => q _ p (s3.trans (same_upd np)) ⟨o, upd_same, ho⟩⟩
    · refine ⟨_, (pss_one (ps_ret (pe_callTy call_tupleF (by rfl) T.n_tuple (by decide +kernel) (pa_cons (pe_lc2 (own := [("name", 1), ("count", 2), ("_", 3)]) (vs1 := [3]) (g := gTup K 2 (gCons (gName 1) (gCons (gName 2) gNil))) (g1 := gName 3) (tt := tYes) (tt1 := tYes) rfl scP_repeated.nd (pi_list (pv 0)) (blkOk_by (N := NP_repeated) (sc := defScope sP_repeated) (by decide +kernel)) (by decide) (fun _ _ _ _ _ => pg_tup (by rfl) (pgs_cons (pg_name (i := 1) scP_repeated.nd rfl (Or.inl rfl)) (pgs_cons (pg_name (i := 2) scP_repeated.nd rfl (Or.inl rfl)) pgs_nil))) (fun _ _ _ _ _ => pts_nil) (fun _ _ _ _ _ => (pi_range1 (by rfl) T.n_range (pa_cons (pv 2) pa_nil))) (fun _ _ _ _ _ => pg_name (i := 3) scP_repeated.nd rfl (Or.inl rfl)) (fun _ _ _ _ _ => pts_nil) (fun _ _ _ _ _ => (pv 1))) pa_nil)))), ?_⟩
      refine ⟨.ref a, rfl, a, rfl, ⟨_, sql hS⟩, fun D nD => ?_⟩
      refine lc2_list (K := K) (a := a) (xs := ts.map V.ref) (fun i H3 => Same H H3 ∧ H3 D = some (.lst ((sprd (ys.take i)).map V.str))) ⟨same_upd nD, upd_same⟩ (fun i H3 _ h3 => sql (h3.1 _ _ hS)) (fun i u H3 hi h3 => ?_) (fun H3 h3 => ?_)
      · obtain ⟨t, ht, rfl⟩ := map_at hi
        obtain ⟨e, he, hat⟩ := paired_at hp ht
        obtain ⟨s3, hD3⟩ := h3
        have hb' := hb e (List.mem_of_getElem? he)
        have hle := sprd_take_le (ys := ys) (i + 1)
        rw [sprd_snoc he, List.length_append, List.length_replicate] at hle
        obtain ⟨n, hn⟩ : ∃ n : Nat, e.2 = (n : Int) := ⟨e.2.toNat, by omega⟩
        rw [hn, Int.toNat_natCast] at hle
        refine ⟨t, _, rfl, .inl (.inl (s3 _ _ hat)), rfl, _, _, rfl, _, _, rfl, rfl, rfl, ?_⟩
        refine ⟨.int e.2, rfl, e.2, rfl, by omega, by omega, ?_⟩
        rw [hn, Int.toNat_natCast]
        refine lc2_rng (lo := 0) (n := n) (fun j H4 => Same H H4 ∧ H4 D = some (.lst ((sprd (ys.take i) ++ List.replicate j e.1).map V.str))) ⟨s3, by rw [List.replicate_zero, List.append_nil]; exact hD3⟩ (fun j H4 hj h4 => ?_) (fun H4 h4 => ?_)
        · obtain ⟨s4, hD4⟩ := h4
          refine ⟨rfl, .str e.1, rfl, _, hD4, by rw [List.length_map, List.length_append, List.length_replicate, sizeLine_eq]; omega, Same.put s4 nD, ?_⟩
          rw [upd_same, List.replicate_succ', ← List.append_assoc, List.map_append (l₁ := sprd (ys.take i) ++ List.replicate j e.1)]
          rfl
        · refine ⟨h4.1, ?_⟩
          rw [sprd_snoc he, hn, Int.toNat_natCast]
          exact h4.2
      · obtain ⟨s3, hD3⟩ := h3
        have tl := Paired.length hp
        rw [List.length_map, tl, List.take_length] at hD3
        exact ⟨D, _, rfl, sql hD3, fun p o np ho => q _ p (s3.trans (same_upd np)) ⟨o, upd_same, ho⟩⟩
end
end Kb

namespace Kb
open PySem PySem.Spec PyProof.Rows L2 SrtZ SrtO FlX LamX RZ
abbrev sP_layers : Stmt := topS 37
abbrev NP_layers : List Str := ["sketch", "truth", "_", "off", "kept", "counts", "taken", "k", "name", "count"]
theorem scP_layers : FnScope ["sketch", "truth", "_", "off", "kept", "counts", "taken", "k", "name", "count"] ["sketch", "truth"] (defScope sP_layers) := ⟨rfl, rfl, rfl, by decide +kernel, rfl, by decide +kernel, by decide +kernel⟩
abbrev DnLayers (K : PySem.W.Frag) (mg : Str → Option Value) := Dn K mg "_layers" sP_layers ["sketch", "truth"]
/-- layers on the heap -/
abbrev LyAt (H : Hp) (k : Addr) (zs : List Str) : Prop := Ptp H k (zs.map V.str)
theorem laysZ_snoc (kept ys : Ct) (on k : Nat) (h : k < on) : (laysZ kept ys on).take (k + 1) = (laysZ kept ys on).take k ++ [everyL (sprd (takenC kept ys)) k on] := by
  rw [List.take_add_one]
  congr 1
  unfold laysZ
  rw [List.getElem?_map, List.getElem?_range h]
  rfl
theorem every_map {α β : Type} (f : α → β) (xs : List α) (k n : Nat) : everyL (xs.map f) k n = (everyL xs k n).map f := by
  unfold everyL
  rw [List.length_map, List.map_filterMap]
  exact fm_congr fun m _ => List.getElem?_map
section
variable {P : Program} {w : World} {K : PySem.W.Frag} {mg : Str → Option Value} {base : Heap}
def spLayersP (K : PySem.W.Frag) : Sp := fun vs H Q _ => ∃ (s t : Addr) (r : Int) (x : Tl) (ys : Ct) (on : Nat), vs = [.ref s, .ref t] ∧ SkAt H s r x ∧ TlOk r x ∧ r ≤ 64 ∧ x.o = (on : Int) ∧ on ≤ 50000 ∧ TupC H t ys ∧ ys.length ≤ 50000 ∧ (∀ e ∈ takenC (srtZ x.c) ys, 0 ≤ e.2 ∧ e.2 ≤ 50000) ∧ (sprd (takenC (srtZ x.c) ys)).length ≤ 50000 ∧ on ≤ (sprd (takenC (srtZ x.c) ys)).length ∧
  ∀ H' l (ks : List Addr), Same H H' → H l = none → H' l = some (.lst (ks.map V.ref)) → Paired (LyAt H') ks (laysZ (srtZ x.c) ys on) → Q (.ref l) H'
theorem ok_layersP (T : Blt mg) (dP_repeated : DnRepeated K mg) (d : DnLayers K mg) : FnOk P w K mg base CX0 2 d.f d.fd ["sketch", "truth"] (spLayersP K) := by
  have GP_repeated : FnOk P w K mg base CX0 1 dP_repeated.f dP_repeated.fd ["counts"] (spRepeated K) := ok_repeated T dP_repeated
  refine d.F.ok scP_layers (fun vs H Q E h => ?_) (fun cdv A outer s H vs Q E hr h => ?_)
  · obtain ⟨s, t, r, x, ys, on, rfl, _⟩ := h
    rfl
  · obtain ⟨sk, t, r, ⟨m, o, kvs0⟩, ys, on, rfl, ⟨k, ts, hs0, hk, hp⟩, ok, hr2, ho, hon, ⟨us, ht, hpu⟩, hyl, htk, hsl, hos, q⟩ := h
    dsimp only at ho
    subst ho
    dsimp only at hs0 hp htk hsl hos
    have hu := hu_of hr
    have ndk : NdZ (srtZ kvs0) := srtZ_nd ok.nd
    refine ⟨_, (pss_cons (ps_asg (pv 0) (pg_tup (by rfl) (pgs_cons (pg_name (i := 2) scP_layers.nd rfl (Or.inl rfl)) (pgs_cons (pg_name (i := 2) scP_layers.nd rfl (Or.inl rfl)) (pgs_cons (pg_name (i := 3) scP_layers.nd rfl (Or.inr rfl)) (pgs_cons (pg_name (i := 4) scP_layers.nd rfl (Or.inl rfl)) pgs_nil))))))
    (pss_cons (ps_asg (pe_callTy (call_dictPT rfl) (by rfl) T.n_dict (by decide +kernel) (pa_cons (pv 4) pa_nil)) (pg_name (i := 5) scP_layers.nd rfl (Or.inr rfl)))
    (pss_cons (ps_asg (pe_call GP_repeated (hr.mono (by omega)) (by rfl) dP_repeated.g dP_repeated.F.kp dP_repeated.b .nil pass0 (pa_cons (pe_lc (own := [("name", 8), ("count", 9)]) (g := gTup K 2 (gCons (gName 8) (gCons (gName 9) gNil))) (tt := tYes) rfl scP_layers.nd (pi_tup (pv 1)) (blkOk_by (N := NP_layers) (sc := defScope sP_layers) (by decide +kernel)) (fun _ _ _ _ _ => pg_tup (by rfl) (pgs_cons (pg_name (i := 8) scP_layers.nd rfl (Or.inl rfl)) (pgs_cons (pg_name (i := 9) scP_layers.nd rfl (Or.inl rfl)) pgs_nil))) (fun _ _ _ _ _ => pts_nil) (fun _ _ _ _ _ => (pe_tup (pa_cons (pv 8) (pa_cons (pe_op op_sub (pv 9) (pe_dget2 hu (pv 5) (pv 8) pe_int ⟨rfl, rfl, rfl, rfl⟩)) pa_nil))))) pa_nil)) (pg_name (i := 6) scP_layers.nd rfl (Or.inr rfl)))
    (pss_one (ps_ret (pe_lc (own := [("k", 7)]) (g := gName 7) (tt := tYes) rfl scP_layers.nd (pi_range1 (by rfl) T.n_range (pa_cons (pv 3) pa_nil)) (blkOk_by (N := NP_layers) (sc := defScope sP_layers) (by decide +kernel)) (fun _ _ _ _ _ => pg_name (i := 7) scP_layers.nd rfl (Or.inl rfl)) (fun _ _ _ _ _ => pts_nil) (fun _ _ _ _ _ => (pe_stepPK (K := K) rfl (pv 6) (pv 7) (pv 3))))))))), ?_⟩
    refine ⟨.ref sk, rfl, sk, _, rfl, .inl (.inl hs0), rfl, _, _, rfl, _, _, rfl, _, _, rfl, _, _, rfl, rfl, ?_⟩
    refine ⟨.ref k, rfl, k, ts, (srtZ kvs0).map entZ, rfl, hk, ents_paired (paired_imp (fun t e h => .inl (.inl h)) hp), fun dd nd => ?_⟩
    rw [show mergeK [] ((srtZ kvs0).map entZ) = (srtZ kvs0).map entZ from mergeZ (srtZ kvs0) [] (by rw [List.nil_append]; exact ndk)]
    have s1 : Same H (upd H dd (.dK ((srtZ kvs0).map entZ))) := same_upd nd
    have hd1 : (upd H dd (.dK ((srtZ kvs0).map entZ))) dd = some (.dK ((srtZ kvs0).map entZ)) := upd_same
    generalize upd H dd (.dK ((srtZ kvs0).map entZ)) = H1 at s1 hd1 ⊢
    refine ⟨.ref t, rfl, t, rfl, ⟨_, (ht.same s1).seq⟩, fun D nD => ?_⟩
    refine lc_tup (K := K) (a := t) (xs := us.map V.ref) (fun i H3 => Same H1 H3 ∧ ∃ ps : List Addr, H3 D = some (.lst (ps.map V.ref)) ∧ Paired (PrT H3) ps ((takenC (srtZ kvs0) ys).take i)) ⟨same_upd nD, [], upd_same, .nil⟩ (fun i H3 _ h3 => (ht.same (s1.trans h3.1)).seq) (fun i u H3 hi h3 => ?_) (fun H3 h3 => ?_)
    · obtain ⟨tt, htt, rfl⟩ := map_at hi
      obtain ⟨e, he, hat⟩ := paired_at hpu htt
      obtain ⟨s3, ps, hD3, hps⟩ := h3
      have hlen := Paired.length hps
      refine ⟨tt, _, rfl, .inl (.inl (s3 _ _ (s1 _ _ hat))), rfl, _, _, rfl, _, _, rfl, rfl, rfl, ?_⟩
      refine ⟨.str e.1, rfl, .int e.2, rfl, .ref dd, rfl, dd, rfl, .inl ⟨_, .inl (s3 _ _ hd1)⟩, .str e.1, rfl, _, DGet.k (k := Sum.inr e.1) (s3 _ _ hd1), ?_⟩
      rw [getZ_val]
      refine ⟨e.2, gd (srtZ kvs0) e.1, rfl, ?_, (by show 2 ≤ sizeLine; decide), fun p np => ?_⟩
      · unfold gd
        cases getZ (srtZ kvs0) e.1 <;> rfl
      · have s4 : Same H3 (upd H3 p (.tup [.str e.1, .int (e.2 - gd (srtZ kvs0) e.1)])) := same_upd np
        have hD4 := s4 _ _ hD3
        have hp4 : (upd H3 p (.tup [.str e.1, .int (e.2 - gd (srtZ kvs0) e.1)])) p = some (.tup [.str e.1, .int (e.2 - gd (srtZ kvs0) e.1)]) := upd_same
        have hps4 := prt_same hps s4
        generalize upd H3 p (.tup [.str e.1, .int (e.2 - gd (srtZ kvs0) e.1)]) = H4 at s4 hD4 hp4 hps4 ⊢
        have hil := (List.getElem?_eq_some_iff.mp he).1
        have keep : ∀ {b : Addr} {f : Str × Int}, PrT H4 b f → PrT (upd H4 D (.lst (ps.map V.ref ++ [.ref p]))) b f := fun {b f} h => by
          show _ = _
          rw [upd_ne (ne_of h hD4 (by intro z; cases z))]
          exact h
        refine ⟨_, hD4, by rw [List.length_map, hlen, List.length_take, sizeLine_eq]; omega, Same.put (fun b u e => s4 _ _ (s3 _ _ e)) nD, ps ++ [p], by rw [upd_same, List.map_append]; rfl, ?_⟩
        have hsn : (takenC (srtZ kvs0) ys).take (i + 1) = (takenC (srtZ kvs0) ys).take i ++ [(e.1, e.2 - gd (srtZ kvs0) e.1)] := by
          rw [List.take_add_one]
          congr 1
          unfold takenC
          rw [List.getElem?_map, he]
          rfl
        rw [hsn]
        exact paired_snoc (paired_imp (fun _ _ h => keep h) hps4) (keep hp4)
    · obtain ⟨s3, ps, hD3, hps⟩ := h3
      have hul := Paired.length hpu
      have htl : (takenC (srtZ kvs0) ys).length = ys.length := List.length_map _
      rw [List.length_map, hul, ← htl, List.take_length] at hps
      refine ⟨D, ps, takenC (srtZ kvs0) ys, rfl, .inr hD3, hps, htk, hsl, fun H4 tk s4 htk4 => ?_⟩
      refine ⟨.int (on : Int), rfl, (on : Int), rfl, by omega, by omega, fun L nL => ?_⟩
      rw [Int.toNat_natCast]
      have s04 : Same H H4 := fun b u e => s4 _ _ (s3 _ _ (s1 _ _ e))
      refine lc_range (lo := 0) (n := on) (fun i H5 => Same H4 H5 ∧ ∃ ks : List Addr, H5 L = some (.lst (ks.map V.ref)) ∧ Paired (LyAt H5) ks ((laysZ (srtZ kvs0) ys on).take i)) ⟨same_upd nL, [], upd_same, .nil⟩ (fun i H5 hi h5 => ?_) (fun H5 h5 => ?_)
      · obtain ⟨s5, ks, hL5, hks⟩ := h5
        have hlen := Paired.length hks
        have hll : (laysZ (srtZ kvs0) ys on).length = on := by unfold laysZ; rw [List.length_map, List.length_range]
        refine ⟨rfl, .ref tk, rfl, .int (0 + (i : Int)), rfl, _, rfl, .int (on : Int), rfl, _, rfl, tk, _, i, on, rfl, htk4.same s5, by rw [Int.zero_add], rfl, by omega, by rw [List.length_map]; omega, by rw [List.length_map, sizeLine_eq]; omega, fun p H6 s6 hp6 => ?_⟩
        have hL6 := s6 _ _ hL5
        have keep : ∀ {b : Addr} {zs : List Str}, LyAt H6 b zs → LyAt (upd H6 L (.lst (ks.map V.ref ++ [.ref p]))) b zs := fun {b zs} h => by
          obtain ⟨ob, h1, h2⟩ := h
          exact ⟨ob, by rw [upd_ne (ne_of h1 hL6 (by intro z; cases z))]; exact h1, h2⟩
        refine ⟨_, hL6, by rw [List.length_map, hlen, List.length_take, sizeLine_eq]; omega, Same.put (fun b u e => s6 _ _ (s5 _ _ e)) nL, ks ++ [p], by rw [upd_same, List.map_append]; rfl, ?_⟩
        rw [laysZ_snoc _ _ _ _ hi]
        refine paired_snoc (paired_imp (fun _ _ h => keep (Ptp.same h s6)) hks) (keep ?_)
        rw [every_map] at hp6
        exact hp6
      · obtain ⟨s5, ks, hL5, hks⟩ := h5
        have hll : (laysZ (srtZ kvs0) ys on).length = on := by unfold laysZ; rw [List.length_map, List.length_range]
        rw [List.take_of_length_le (by omega)] at hks
        exact q H5 L ks (fun b u e => s5 _ _ (s04 _ _ e)) (Same.gone s04 nL) hL5 hks
end
end Kb

namespace Kb
open PySem PySem.Spec PyProof.Rows L2 SrtZ SrtO
theorem cntZ_inP {Pn : Str → Prop} : ∀ {zs : List Str} {kc : Ct}, (∀ z ∈ zs, Pn z) → (∀ e ∈ kc, 1 ≤ e.2 ∧ Pn e.1) → ∀ e ∈ cntZ zs kc, 1 ≤ e.2 ∧ Pn e.1
  | [], _, _, h => h
  | z :: zs, kc, hz, h => cntZ_inP (zs := zs) (kc := addZ kc z 1) (fun y hy => hz y (List.mem_cons_of_mem _ hy)) fun e he => by
    refine ⟨addZ_pos (fun e he => (h e he).1) (by decide) e he, ?_⟩
    rcases putZ_mem he with he | rfl
    · exact (h e he).2
    · exact hz z List.mem_cons_self
theorem cntT_inP {Pn : Str → Prop} : ∀ {l : List Stp} {kc : Ct}, (∀ zs, .put zs ∈ l → ∀ z ∈ zs, Pn z) → (∀ e ∈ kc, 1 ≤ e.2 ∧ Pn e.1) → ∀ e ∈ l.foldl cntS kc, 1 ≤ e.2 ∧ Pn e.1
  | [], _, _, h => h
  | .put zs :: l, kc, hn, h => cntT_inP (l := l) (kc := cntZ zs kc) (fun zs hz => hn zs (List.mem_cons_of_mem _ hz)) (cntZ_inP (hn zs List.mem_cons_self) h)
  | .pour :: l, kc, hn, h => cntT_inP (l := l) (kc := kc) (fun zs hz => hn zs (List.mem_cons_of_mem _ hz)) h
theorem getZ_inE {a : Ct} {k : Str} {v : Int} (h : getZ a k = some v) : ∃ e ∈ a, e.2 = v := by
  unfold getZ at h
  cases hf : a.find? (fun e => decide (e.1 = k)) with
  | none => rw [hf] at h; cases h
  | some f => rw [hf] at h; exact ⟨f, List.mem_of_find?_eq_some hf, Option.some.inj h⟩
theorem getZ_of_gd {a b : Ct} {k : Str} (pa : ∀ e ∈ a, 1 ≤ e.2) (pb : ∀ e ∈ b, 1 ≤ e.2) (h : gd a k = gd b k) : getZ a k = getZ b k := by
  unfold gd at h
  cases ha : getZ a k with
  | none =>
    cases hb : getZ b k with
    | none => rfl
    | some v =>
      obtain ⟨e, he, rfl⟩ := getZ_inE hb
      have := pb e he
      rw [ha, hb] at h
      have : (0 : Int) = e.2 := h
      omega
  | some u =>
    obtain ⟨f, hf, rfl⟩ := getZ_inE ha
    have := pa f hf
    cases hb : getZ b k with
    | none =>
      rw [ha, hb] at h
      have : f.2 = (0 : Int) := h
      omega
    | some v =>
      rw [ha, hb] at h
      exact congrArg some h
theorem taken_sumP : ∀ {ys kept : Ct}, NdZ ys → NdZ kept → (∀ e ∈ kept, e.1 ∈ ys.map (·.1)) → sumC (takenC kept ys) = sumC ys - sumC kept
  | [], kept, _, _, h => by
    cases kept with
    | nil => rfl
    | cons e kept => exact absurd (h e List.mem_cons_self) (by simp)
  | e :: ys, kept, nd, nk, h => by
    have nd2 := List.nodup_cons.mp (show (e.1 :: ys.map (·.1)).Nodup from nd)
    have ih := taken_sumP (ys := ys) (kept := wo e.1 kept) nd2.2 (wo_nd nk) fun f hf => by
      have hm := (List.mem_filter.mp hf)
      have h1 := h f hm.1
      have h2 : ¬ f.1 = e.1 := by simpa using hm.2
      rw [List.map_cons] at h1
      exact (List.mem_cons.mp h1).resolve_left h2
    have ec : takenC (wo e.1 kept) ys = takenC kept ys := by
      unfold takenC
      refine List.map_congr_left fun f hf => ?_
      have : ¬ f.1 = e.1 := fun z => nd2.1 (z ▸ List.mem_map.mpr ⟨f, hf, rfl⟩)
      rw [wo_gd this]
    rw [ec, wo_sum nk] at ih
    have e1 : sumC (takenC kept (e :: ys)) = (e.2 - gd kept e.1) + sumC (takenC kept ys) := sumC_cons _ _
    have e2 : sumC (e :: ys) = e.2 + sumC ys := sumC_cons _ _
    omega
theorem sprd_len0 : ∀ {ys : Ct}, (∀ e ∈ ys, 0 ≤ e.2) → ((sprd ys).length : Int) = sumC ys
  | [], _ => rfl
  | e :: ys, h => by
    have ih := sprd_len0 (ys := ys) fun f hf => h f (List.mem_cons_of_mem _ hf)
    have h0 := h e List.mem_cons_self
    have es : sprd (e :: ys) = List.replicate e.2.toNat e.1 ++ sprd ys := by unfold sprd; rw [List.flatMap_cons]
    rw [es, List.length_append, List.length_replicate, sumC_cons]
    push_cast
    omega
theorem plc_bounds {len k n rn : Nat} (hn : 1 ≤ n) (hk : k < n) (h1 : (rn + 1) * n ≤ len) (h2 : len ≤ 2 * rn * n) : rn < plcN len k n ∧ plcN len k n ≤ 2 * rn := by
  have hkl : k < len := by
    have : n ≤ (rn + 1) * n := Nat.le_mul_of_pos_left n (by omega)
    omega
  unfold plcN
  rw [if_pos hkl]
  have e1 : rn ≤ (len - k - 1) / n := by
    refine (Nat.le_div_iff_mul_le (by omega)).mpr ?_
    rw [Nat.succ_mul] at h1
    omega
  have e2 : (len - k - 1) / n < 2 * rn := by
    refine (Nat.div_lt_iff_lt_mul (by omega)).mpr ?_
    omega
  omega
/-- a truth and its paper -/
structure PapOk (rn on : Nat) (m : Int) (kept ys : Ct) : Prop where
  lay : LayOk rn (laysZ kept ys on)
  tak : ∀ e ∈ takenC kept ys, 0 ≤ e.2 ∧ e.2 ≤ on
  len : ((sprd (takenC kept ys)).length : Int) = m - sumC kept
  ge : on ≤ (sprd (takenC kept ys)).length
  run : runT rn (paperL rn kept (laysZ kept ys on)) = [⟨m, on, kept⟩]
  vl : Vl 0 (paperL rn kept (laysZ kept ys on))
  ht : hgt (paperL rn kept (laysZ kept ys on)) = 1
  many : mny (paperL rn kept (laysZ kept ys on)) = m
  steps : (paperL rn kept (laysZ kept ys on)).length = 1 + 4 * on
  nm : ∀ zs, .put zs ∈ paperL rn kept (laysZ kept ys on) → ∀ z ∈ zs, Nm z
  cnt : srtZ (cntT (paperL rn kept (laysZ kept ys on))) = ys
theorem lay_mem {kept ys : Ct} {on : Nat} {l : List Str} (h : l ∈ laysZ kept ys on) : ∃ k, k < on ∧ l = everyL (sprd (takenC kept ys)) k on := by
  obtain ⟨k, hk, rfl⟩ := List.mem_map.mp h
  exact ⟨k, List.mem_range.mp hk, rfl⟩
theorem pap_ok {rn on : Nat} {m : Int} {kept ys : Ct} (h1 : 1 ≤ rn) (c : Cts kept) (hl : (kept.length : Int) ≤ rn) (lo : ((rn : Int) + 1) * on ≤ m - sumC kept) (hi : m - sumC kept ≤ 2 * (rn : Int) * on)
    (asc : Asc ys) (nd : NdZ ys) (pos : ∀ e ∈ ys, 1 ≤ e.2) (nmy : ∀ e ∈ ys, Nm e.1) (tl : ∀ k, gd kept k ≤ gd ys k) (th : ∀ k, gd ys k - gd kept k ≤ on) (sm : sumC ys = m) : PapOk rn on m kept ys := by
  have nk : NdZ kept := asc_nd c.asc
  have tak : ∀ e ∈ takenC kept ys, 0 ≤ e.2 ∧ e.2 ≤ on := fun e he => by
    obtain ⟨f, hf, rfl⟩ := List.mem_map.mp he
    have a := tl f.1
    have b := th f.1
    rw [gd_mem' nd hf] at a b
    exact ⟨by show 0 ≤ f.2 - gd kept f.1; omega, b⟩
  have ins : ∀ e ∈ kept, e.1 ∈ ys.map (·.1) := fun e he => by
    rcases Classical.em (e.1 ∈ ys.map (·.1)) with h | h
    · exact h
    · have a := tl e.1
      rw [gd_no h, gd_mem' nk he] at a
      have := c.pos e he
      omega
  have len : ((sprd (takenC kept ys)).length : Int) = m - sumC kept := by
    rw [sprd_len0 fun e he => (tak e he).1, taken_sumP nd nk ins, sm]
  have ndt : NdZ (takenC kept ys) := by
    show ((takenC kept ys).map (·.1)).Nodup
    rw [taken_keys]
    exact nd
  have b1 : (rn + 1) * on ≤ (sprd (takenC kept ys)).length := by
    have : (((rn + 1) * on : Nat) : Int) ≤ ((sprd (takenC kept ys)).length : Int) := by
      rw [len]
      push_cast
      exact lo
    omega
  have b2 : (sprd (takenC kept ys)).length ≤ 2 * rn * on := by
    have : ((sprd (takenC kept ys)).length : Int) ≤ ((2 * rn * on : Nat) : Int) := by
      rw [len]
      push_cast
      exact hi
    omega
  have hle : on ≤ (sprd (takenC kept ys)).length := Nat.le_trans (Nat.le_mul_of_pos_left on (by omega)) b1
  have nmt : ∀ z ∈ sprd (takenC kept ys), Nm z := fun z hz => by
    obtain ⟨e, he, rfl⟩ := sprd_mem hz
    obtain ⟨f, hf, rfl⟩ := List.mem_map.mp he
    exact nmy f hf
  have lay : LayOk rn (laysZ kept ys on) := ⟨fun l hl => by
    obtain ⟨k, hk, rfl⟩ := lay_mem hl
    have hn : 1 ≤ on := by omega
    have e := every_len hn hk _ (sprd (takenC kept ys)) (Nat.le_refl _)
    have b := plc_bounds (len := (sprd (takenC kept ys)).length) hn hk b1 b2
    refine ⟨every_nd hn hk _ _ (Nat.le_refl _) (gap_sprd ndt fun e he => (tak e he).2), by omega, by omega⟩⟩
  have lyl : (laysZ kept ys on).length = on := by unfold laysZ; rw [List.length_map, List.length_range]
  have flat : (laysZ kept ys on).flatten.Perm (sprd (takenC kept ys)) := by
    by_cases h0 : on = 0
    · subst h0
      have : (sprd (takenC kept ys)).length = 0 := by
        rw [Nat.mul_zero] at b2
        omega
      rw [List.eq_nil_of_length_eq_zero this]
      exact .nil
    · exact laysZ_flat (by omega)
  have all := all_paper rn kept (laysZ kept ys on)
  have slen : ((sprd kept).length : Int) = sumC kept := sprd_len0 fun e he => by have := c.pos e he; omega
  have hm : mny (paperL rn kept (laysZ kept ys on)) = m := by
    unfold mny
    rw [cS_all, all, List.length_append, flat.length_eq]
    push_cast
    omega
  have run : runT rn (paperL rn kept (laysZ kept ys on)) = [⟨m, on, kept⟩] := by
    show ((laysZ kept ys on).flatMap (layS rn)).foldl (stepT rn) [feedsT rn (sprd kept) tl0] = _
    have e := feeds_sprd (r := (rn : Int)) (o := 0) kept [] 0 nk (fun e he => c.pos e he) hl
    have e2 : feedsT (rn : Int) (sprd kept) tl0 = ⟨0 + sumC kept, 0, [] ++ kept⟩ := e
    rw [e2, List.nil_append, run_laysS hl lay, lyl, flat.length_eq]
    have : 0 + sumC kept + ((sprd (takenC kept ys)).length : Int) = m := by omega
    rw [this, Int.zero_add]
  have vv := vl_laysS rn (laysZ kept ys on)
  have nmA : ∀ zs, .put zs ∈ paperL rn kept (laysZ kept ys on) → ∀ z ∈ zs, Nm z := fun zs hz z hzz => by
    have : z ∈ allZ (paperL rn kept (laysZ kept ys on)) := List.mem_flatMap.mpr ⟨_, hz, hzz⟩
    rw [all] at this
    rcases List.mem_append.mp this with h | h
    · obtain ⟨e, he, rfl⟩ := sprd_mem h
      exact c.nm e he
    · exact nmt z (flat.mem_iff.mp h)
  refine ⟨lay, tak, len, hle, run, ?_, ?_, hm, ?_, nmA, ?_⟩
  · exact vv.1
  · exact vv.2
  · show _ + 1 = _
    rw [len_laysS, lyl]
    omega
  · have ndc := cntT_nd (paperL rn kept (laysZ kept ys on))
    have kp : ∀ f ∈ kept, 0 ≤ f.2 := fun f hf => by
      have := c.pos f hf
      omega
    have key : ∀ z, gd (cntT (paperL rn kept (laysZ kept ys on))) z = gd ys z := fun z => by
      have e0 := cntS_all (paperL rn kept (laysZ kept ys on)) [] z
      have h0 : gd [] z = 0 := rfl
      unfold cntT
      rw [e0, all, cntL_app, cntL_perm flat, cntL_sprd nk kp, cntL_sprd ndt (fun f hf => (tak f hf).1), gd_taken nd, h0]
      by_cases hz : z ∈ ys.map (·.1)
      · rw [if_pos hz]
        omega
      · rw [if_neg hz, gd_no hz]
        have a := tl z
        rw [gd_no hz] at a
        have : 0 ≤ gd kept z := by
          by_cases hk : z ∈ kept.map (·.1)
          · obtain ⟨e, he, rfl⟩ := List.mem_map.mp hk
            rw [gd_mem' nk he]
            have := c.pos e he
            omega
          · rw [gd_no hk]
            exact Int.le_refl _
        omega
    have cpos : ∀ e ∈ cntT (paperL rn kept (laysZ kept ys on)), 1 ≤ e.2 := fun e he => (cntT_inP (Pn := Nm) (l := paperL rn kept (laysZ kept ys on)) (kc := []) nmA (fun _ h => nomatch h) e he).1
    have p : (cntT (paperL rn kept (laysZ kept ys on))).Perm ys := perm_of_getZ ndc nd fun k => getZ_of_gd cpos pos (key k)
    exact (srtZ_of asc p.symm ndc).symm
end Kb

namespace Kb
open PySem PySem.Spec PyProof.Rows L2 SrtZ SrtO FlX LamX RZ
theorem TrOf.trP {x : Tl} {ys : Ct} {r : Int} (ok : TlOk r x) (t : TrOf x ys) : Tr x (some (ys.map prE)) := by
  have hg : ∀ e ∈ ys, gd ys e.1 = e.2 := fun e he => by
    unfold gd
    rw [getZ_mem t.nd he]
    rfl
  refine ⟨_, ys, rfl, ⟨rfl, t.pos, t.asc⟩, ⟨fun e he => ?_, fun e he => ?_, fun e he => ?_, t.sum⟩⟩
  · have := t.lo e.1
    rw [hg e he] at this
    omega
  · have := t.hi e.1
    rw [hg e he] at this
    exact this
  · have h1 := t.lo e.1
    have h2 : gd x.c e.1 = e.2 := by
      unfold gd
      rw [getZ_mem ok.nd he]
      rfl
    have h3 := ok.pos e he
    by_cases hz : e.1 ∈ ys.map (·.1)
    · exact hz
    · rw [gd_out hz] at h1
      omega
def rDictK (K : PySem.W.Frag) : List V → Hp → VK → Prop := fun xs H Q => ∃ (a : Addr) (ps : List Addr) (kvs : List (Key × V)), xs = [.ref a] ∧ Ptp H a (ps.map V.ref) ∧ Paired (fun p kv => SqT K H p [kV kv.1, kv.2]) ps kvs ∧
    ∀ p, H p = none → Q (.ref p) (upd H p (.dK (mergeK [] kvs)))
theorem call_dictK {X : Cx} {K : PySem.W.Frag} (hK : X.K = K) (hc : X.calm = true) : CallR X (.type "dict") (rDictK K) := by
  subst hK
  exact call_dictPT hc
theorem thP {K : PySem.W.Frag} {H : Hp} {k : Addr} {ts : List Addr} {ys : Ct} (p : Ptp H k (ts.map V.ref)) (h : Paired (PrT H) ts ys) (nm : ∀ e ∈ ys, Nm e.1) (hl : ys.length ≤ 1000) : ThAt K H (.ref k) (some (ys.map prE)) := by
  have gen : ∀ {ts : List Addr} {ys : Ct}, Paired (PrT H) ts ys → (∀ e ∈ ys, Nm e.1) → Paired (ElAt K H) (ts.map V.ref) (ys.map prE) := by
    intro ts ys p
    induction p with
    | nil => exact fun _ => .nil
    | cons h _ ih => exact fun hn => .cons ⟨_, rfl, h, hn _ List.mem_cons_self⟩ (ih fun e he => hn e (List.mem_cons_of_mem _ he))
  exact ⟨k, _, rfl, p, gen h nm, by rw [List.length_map, Paired.length h]; exact hl⟩
abbrev sP_paper : Stmt := topS 35
abbrev NP_paper : List Str := ["sketch", "truth", "room", "many", "_", "kept", "steps", "layer"]
theorem scP_paper : FnScope ["sketch", "truth", "room", "many", "_", "kept", "steps", "layer"] ["sketch", "truth"] (defScope sP_paper) := ⟨rfl, rfl, rfl, by decide +kernel, rfl, by decide +kernel, by decide +kernel⟩
abbrev DnPaper (K : PySem.W.Frag) (mg : Str → Option Value) := Dn K mg "paper" sP_paper ["sketch", "truth"]
theorem mem_le_sumC' : ∀ {k : Ct}, (∀ e ∈ k, 1 ≤ e.2) → ∀ e ∈ k, e.2 ≤ sumC k
  | [], _, _, h => nomatch h
  | f :: k, pos, e, h => by
    have h0 := pos f List.mem_cons_self
    have nn : 0 ≤ sumC k := sumC_nn fun x hx => by have := pos x (List.mem_cons_of_mem _ hx); omega
    rw [sumC_cons]
    rcases List.mem_cons.mp h with rfl | h
    · omega
    · have := mem_le_sumC' (k := k) (fun x hx => pos x (List.mem_cons_of_mem _ hx)) e h
      omega
theorem TrOf.len {x : Tl} {ys : Ct} (t : TrOf x ys) : (ys.length : Int) ≤ x.m := by
  have gen : ∀ l : Ct, (∀ e ∈ l, 1 ≤ e.2) → (l.length : Int) ≤ sumC l := by
    intro l
    induction l with
    | nil => exact fun _ => Int.le_refl _
    | cons e l ih =>
      intro h
      have := h e List.mem_cons_self
      have := ih fun f hf => h f (List.mem_cons_of_mem _ hf)
      rw [sumC_cons, List.length_cons]
      push_cast
      omega
  have := gen ys t.pos
  rw [t.sum] at this
  exact this
/-- the paper of a truth, as mathematics -/
def papZ (r : Int) (x : Tl) (ys : Ct) : List Stp := paperL r.toNat (srtZ x.c) (laysZ (srtZ x.c) ys x.o.toNat)
theorem papZ_ok {r : Int} {x : Tl} {ys : Ct} (g : SkG r x.m x.o (srtZ x.c)) (ok : TlOk r x) (t : TrOf x ys) : PapOk r.toNat x.o.toNat x.m (srtZ x.c) ys := by
  have h1 := g.r1
  have h0 := g.o0
  have er : (r.toNat : Int) = r := by omega
  have eo : (x.o.toNat : Int) = x.o := by omega
  refine pap_ok (by omega) g.cts (by rw [er]; exact g.len) (by rw [er, eo]; exact g.lo) (by rw [er, eo]; exact g.hi) t.asc t.nd t.pos t.nm (fun k => ?_) (fun k => ?_) t.sum
  · rw [gd_srt ok.nd]
    exact t.lo k
  · rw [gd_srt ok.nd, eo]
    exact t.hi k
theorem papZ_tree {r : Int} {x : Tl} {ys : Ct} (g : SkG r x.m x.o (srtZ x.c)) (p : PapOk r.toNat x.o.toNat x.m (srtZ x.c) ys) (hm : x.m ≤ 1500) : Tree (papZ r x ys) := by
  have h1 := p.many
  have h2 := p.steps
  have h6 : 2 * x.o ≤ (r + 1) * x.o := Int.mul_le_mul_of_nonneg_right (by have := g.r1; omega) g.o0
  have h7 := g.lo
  have h5 : 0 ≤ sumC (srtZ x.c) := sumC_nn fun e he => by
    have := g.cts.pos e he
    omega
  refine ⟨fun j e => vl_at p.vl e, p.ht, ?_, ?_⟩
  · show mny (paperL _ _ _) ≤ 50000
    rw [p.many]
    omega
  · show (paperL _ _ _).length ≤ 5000
    omega
theorem laysZ_at {kept ys : Ct} {on i : Nat} {l : List Str} (h : (laysZ kept ys on)[i]? = some l) : (laysZ kept ys on).take (i + 1) = (laysZ kept ys on).take i ++ [l] := by
  rw [List.take_add_one, h]
  rfl
section
variable {P : Program} {w : World} {K : PySem.W.Frag} {mg : Str → Option Value} {base : Heap}
/-- what a sketch that is asked tells -/
structure SkA (H : Hp) (s : Addr) (r : Int) (x : Tl) : Prop where
  at_ : SkAt H s r x
  ok : TlOk r x
  g : SkG r x.m x.o (srtZ x.c)
theorem SkA.same {H H' : Hp} {s : Addr} {r : Int} {x : Tl} (h : SkA H s r x) (y : Same H H') : SkA H' s r x := ⟨h.at_.same y, h.ok, h.g⟩
theorem TupC.th {H : Hp} {k : Addr} {ys : Ct} (h : TupC H k ys) (nm : ∀ e ∈ ys, Nm e.1) (hl : ys.length ≤ 1000) : ThAt K H (.ref k) (some (ys.map prE)) := by
  obtain ⟨us, a, b⟩ := h
  exact thP a b nm hl
def spPaper (K : PySem.W.Frag) : Sp := fun vs H Q _ => ∃ (s t : Addr) (r : Int) (x : Tl) (ys : Ct), vs = [.ref s, .ref t] ∧ SkA H s r x ∧ x.m ≤ 1000 ∧ TupC H t ys ∧ TrOf x ys ∧
  ∀ H' p, Same H H' → TreeAt K H' p (papZ r x ys) → Q (.ref p) H'
theorem ok_paper (T : Blt mg) (cM : Cst mg "MOST_ROOM" (.int 64)) (cL : Cst mg "LONGEST_NAME" (.int 8)) (cI : Cst mg "MOST_ITEMS_truths" (.int 1500)) (dP_is_int : DnIsInt K mg) (dP_is_number : DnIsNumber K mg) (dP_is_room : DnIsRoom K mg) (dP_is_name : DnIsName K mg) (dP_is_counted : DnIsCounted K mg) (dP_are_counts : DnAreCounts K mg)
    (dP_lost_of : DnLostOf K mg) (dP_is_sketch : DnIsSketch K mg) (dP_is_truth : DnIsTruth K mg) (dP_repeated : DnRepeated K mg) (dP_layers : DnLayers K mg) (d : DnPaper K mg) : FnOk P w K mg base CX0 6 d.f d.fd ["sketch", "truth"] (spPaper K) := by
  have GP_is_truth : FnOk P w K mg base CX0 5 dP_is_truth.f dP_is_truth.fd ["sketch", "thing"] (spIsTruth K) := ok_is_truth T cM cL dP_is_int dP_is_number dP_is_room dP_is_name dP_is_counted dP_are_counts dP_lost_of dP_is_sketch dP_is_truth
  have GP_repeated : FnOk P w K mg base CX0 1 dP_repeated.f dP_repeated.fd ["counts"] (spRepeated K) := ok_repeated T dP_repeated
  have GP_layers : FnOk P w K mg base CX0 2 dP_layers.f dP_layers.fd ["sketch", "truth"] (spLayersP K) := ok_layersP T dP_repeated dP_layers
  refine d.F.ok scP_paper (fun vs H Q E h => ?_) (fun cdv A outer s H vs Q E hr h => ?_)
  · obtain ⟨s, t, r, x, ys, rfl, _⟩ := h
    rfl
  · obtain ⟨sk, t, r, x, ys, rfl, ⟨hs, ok, g⟩, hm, ht, tr, q⟩ := h
    have hr64 := g.r64
    have pk := papZ_ok g ok tr
    have hyl := tr.len
    refine ⟨_, (pss_cons (ps_if (pt_not (pt_val (pe_call GP_is_truth (hr.mono (by omega)) (by rfl) dP_is_truth.g dP_is_truth.F.kp dP_is_truth.b .nil pass0 (pa_cons (pv 0) (pa_cons (pv 1) pa_nil)))))
      (pss_one ps_never)
      pss_nil)
    (pss_cons (ps_asg (pv 0) (pg_tup (by rfl) (pgs_cons (pg_name (i := 2) scP_paper.nd rfl (Or.inl rfl)) (pgs_cons (pg_name (i := 3) scP_paper.nd rfl (Or.inl rfl)) (pgs_cons (pg_name (i := 4) scP_paper.nd rfl (Or.inl rfl)) (pgs_cons (pg_name (i := 5) scP_paper.nd rfl (Or.inl rfl)) pgs_nil))))))
    (pss_cons (ps_if (pt_cmpR op_gt (pv 3) (pe_glob rfl cI.g cI.r) (nomark _))
      (pss_one ps_never)
      pss_nil)
    (pss_cons (ps_set (i := 6) scP_paper.nd rfl (Or.inl rfl) (pe_lst (pa_cons (pe_tup (pa_cons pe_str (pa_cons (pe_call GP_repeated (hr.mono (by omega)) (by rfl) dP_repeated.g dP_repeated.F.kp dP_repeated.b .nil pass0 (pa_cons (pv 5) pa_nil)) pa_nil))) pa_nil)))
    (pss_cons (ps_for PassesOwn.never rfl (pi_list (pe_call GP_layers (hr.mono (by omega)) (by rfl) dP_layers.g dP_layers.F.kp dP_layers.b .nil pass0 (pa_cons (pv 0) (pa_cons (pv 1) pa_nil)))) (pg_name (i := 7) scP_paper.nd rfl (Or.inl rfl))
      (pss_one (ps_aug (i := 6) scP_paper.nd rfl (Or.inl rfl) (pe_lst (pa_cons (pe_tup (pa_cons pe_str (pa_cons (pe_slice sl_tupP (pv 7) po_none (po_some (pv 2))) pa_nil))) (pa_cons (pe_tup (pa_cons pe_str (pa_cons (pe_slice sl_tupP (pv 7) (po_some (pv 2)) po_none) pa_nil))) (pa_cons (pe_tup (pa_cons pe_str pa_nil)) (pa_cons (pe_tup (pa_cons pe_str pa_nil)) pa_nil))))) (ti := rExt2) iop_ext)))
    (pss_one (ps_ret (pe_callTy call_tuple_of (by rfl) T.n_tuple (by decide +kernel) (pa_cons (pv 6) pa_nil))))))))), ?_⟩
    refine ⟨.ref sk, rfl, .ref t, rfl, sk, .ref t, r, x, _, rfl, hs, ok, hr64, g.yes, ht.th tr.nm (by omega), fun H1 b s1 hb => ?_⟩
    cases (hb.mpr (tr.trP ok))
    obtain ⟨k, ts, hs1, hk1, hp1⟩ := hs.same s1
    refine ⟨true, rfl, iteF ⟨.ref sk, rfl, sk, _, rfl, .inl (.inl hs1), rfl, _, _, rfl, _, _, rfl, _, _, rfl, _, _, rfl, rfl, ?_⟩⟩
    refine ⟨.int x.m, rfl, _, _, rfl, rfl, false, congrArg V.bl (decide_eq_false (by omega)), iteF ?_⟩
    have pt := papZ_tree g pk (by omega)
    have hnm := pk.nm
    have hlay := pk.lay
    have htak := pk.tak
    have hlen := pk.len
    have hge := pk.ge
    have h0 := g.o0
    have hkp : ∀ e ∈ srtZ x.c, 1 ≤ e.2 := g.cts.pos
    have hks : sumC (srtZ x.c) ≤ x.m := by
      have h1 := g.lo
      have h2 : 0 ≤ (r + 1) * x.o := Int.mul_nonneg (by have := g.r1; omega) h0
      omega
    have hkn : 0 ≤ sumC (srtZ x.c) := sumC_nn fun e he => by
      have := hkp e he
      omega
    have hsl : ((sprd (srtZ x.c)).length : Int) = sumC (srtZ x.c) := sprd_len0 fun e he => by
      have := hkp e he
      omega
    obtain ⟨on, hon⟩ := Int.eq_ofNat_of_zero_le h0
    obtain ⟨rn, rfl⟩ := Int.eq_ofNat_of_zero_le (show 0 ≤ r by have := g.r1; omega)
    have hm2 : x.m ≤ 1000 := hm
    rw [hon, Int.toNat_natCast, Int.toNat_natCast] at hnm
    rw [hon, Int.toNat_natCast] at htak hge
    rw [hon, Int.toNat_natCast, Int.toNat_natCast] at hlay
    have hpap : papZ (rn : Int) x ys = paperL rn (srtZ x.c) (laysZ (srtZ x.c) ys on) := by
      unfold papZ
      rw [hon, Int.toNat_natCast, Int.toNat_natCast]
    rw [hpap] at q
    have onl : on ≤ 1000 := by omega
    -- the kept ones
    refine ⟨.ref k, rfl, k, ts, srtZ x.c, rfl, .inl hk1.seq, hp1, (fun e he => ?_), by omega, fun H2 p2 s2 hp2 => ⟨(by show 2 ≤ sizeLine; decide), fun b nb => ⟨(by show 1 ≤ sizeLine; decide), fun D nD => ?_⟩⟩⟩
    · have h1 := hkp e he
      have h2 := mem_le_sumC' hkp e he
      omega
    have s02 : Same H H2 := s1.trans s2
    have s3 := same_upd (o := .tup [.str (Str.ofString "stream"), .ref p2]) nb
    have hb3 : (upd H2 b (.tup [.str (Str.ofString "stream"), .ref p2])) b = some (.tup [.str (Str.ofString "stream"), .ref p2]) := upd_same
    generalize upd H2 b (.tup [.str (Str.ofString "stream"), .ref p2]) = H3 at s3 hb3 nD ⊢
    have s4 := same_upd (o := .lst [.ref b]) nD
    have hD4 : (upd H3 D (.lst [.ref b])) D = some (.lst [.ref b]) := upd_same
    generalize upd H3 D (.lst [.ref b]) = H4 at s4 hD4 ⊢
    have s14 : Same H1 H4 := fun b u e => s4 _ _ (s3 _ _ (s2 _ _ e))
    have s04 : Same H H4 := fun b u e => s14 _ _ (s1 _ _ e)
    have st0 : StpAt K H4 (.ref b) (.put (sprd (srtZ x.c))) := ⟨b, p2, rfl, .inl (.inl (s4 _ _ hb3)), (hp2.same fun b u e => s4 _ _ (s3 _ _ e)).seq, fun z hz => by
      obtain ⟨e, he, rfl⟩ := sprd_mem hz
      exact g.cts.nm e he, by omega⟩
    -- the layers
    have hlys : ys.length ≤ 50000 := by omega
    refine ⟨.ref sk, rfl, .ref t, rfl, sk, t, (rn : Int), x, ys, on, rfl, hs.same s04, ok, hr64, hon, by omega, ht.same s04, hlys, (fun e he => ?_), by omega, hge, fun H5 l ks s5 nl hl hks => ?_⟩
    · have := htak e he
      omega
    have lD : l ≠ D := (ne_of_none hD4 nl).symm
    have lks := Paired.length hks
    have lll : (laysZ (srtZ x.c) ys on).length = on := by unfold laysZ; rw [List.length_map, List.length_range]
    refine ⟨l, rfl, ⟨_, sql hl⟩, for_list (xs := ks.map V.ref) (fun i σ H6 => ∃ y7 : Option V, σ = [some (.ref sk), some (.ref t), some (.int (rn : Int)), some (.int x.m), some (.int x.o), some (.ref k), some (.ref D), y7] ∧ (∀ b u, b ≠ D → H5 b = some u → H6 b = some u) ∧ ∃ vs : List V, H6 D = some (.lst vs) ∧ Paired (StpAt K H6) vs (.put (sprd (srtZ x.c)) :: ((laysZ (srtZ x.c) ys on).take i).flatMap (layS rn)))
      ⟨none, rfl, fun _ _ _ e => e, [.ref b], s5 _ _ hD4, .cons (st0.same s5) .nil⟩ (fun i σ H6 _ ⟨_, _, k6, _⟩ => sql (k6 _ _ lD hl)) ?_ ?_⟩
    · rintro i v σ H6 hi ⟨y7, rfl, k6, vs, hD6, hvs⟩
      obtain ⟨ly, hly, rfl⟩ := map_at hi
      obtain ⟨zs, hzs, hat⟩ := paired_at hks hly
      have hil := (List.getElem?_eq_some_iff.mp hzs).1
      obtain ⟨ob, ha1, ha2⟩ := hat
      have lyD : ly ≠ D := ne_of ha1 (s5 _ _ hD4) (by intro z; cases z)
      have hly6 : Ptp H6 ly (zs.map V.str) := ⟨ob, k6 _ _ lyD ha1, ha2⟩
      have zok := hlay.ok zs (List.mem_of_getElem? hzs)
      have zl : zs.length ≤ 1000 := by
        have hz := lay_mem (List.mem_of_getElem? hzs)
        obtain ⟨kk, hk1, rfl⟩ := hz
        rw [every_len (by omega) hk1 _ _ (Nat.le_refl _)]
        unfold plcN
        split
        · have := Nat.div_le_self ((sprd (takenC (srtZ x.c) ys)).length - kk - 1) on
          omega
        · omega
      have znm : ∀ z ∈ zs, Nm z := fun z hz => by
        by_cases hzt : z ∈ zs.take rn
        · exact hnm (zs.take rn) (List.mem_cons_of_mem _ (List.mem_flatMap.mpr ⟨zs, List.mem_of_getElem? hzs, List.mem_cons_self⟩)) z hzt
        · have hzd : z ∈ zs.drop rn := by
            rw [← List.take_append_drop rn zs] at hz
            exact (List.mem_append.mp hz).resolve_left hzt
          exact hnm (zs.drop rn) (List.mem_cons_of_mem _ (List.mem_flatMap.mpr ⟨zs, List.mem_of_getElem? hzs, List.mem_cons_of_mem _ List.mem_cons_self⟩)) z hzd
      have lvs := Paired.length hvs
      rw [List.length_cons, len_laysS, List.length_take] at lvs
      refine ⟨.ref D, rfl, .ref ly, rfl, .int (rn : Int), rfl, (rn : Int), rfl, ly, _, rfl, hly6, fun p1 H7 s7 hp1 => ⟨(by show 2 ≤ sizeLine; decide), fun b1 nb1 => ?_⟩⟩
      rw [cut_to, ← List.map_take] at hp1
      have t7 := same_upd (o := .tup [.str (Str.ofString "stream"), .ref p1]) nb1
      have hb1 : (upd H7 b1 (.tup [.str (Str.ofString "stream"), .ref p1])) b1 = some (.tup [.str (Str.ofString "stream"), .ref p1]) := upd_same
      have hp1' := hp1.same t7
      have s68 : Same H6 (upd H7 b1 (.tup [.str (Str.ofString "stream"), .ref p1])) := s7.trans t7
      generalize upd H7 b1 (.tup [.str (Str.ofString "stream"), .ref p1]) = H8 at hb1 hp1' s68 ⊢
      refine ⟨.ref ly, rfl, .int (rn : Int), rfl, (rn : Int), rfl, ly, _, rfl, hly6.same s68, fun p2 H9 s9 hp2 => ⟨(by show 2 ≤ sizeLine; decide), fun b2 nb2 => ?_⟩⟩
      rw [cut_from, ← List.map_drop] at hp2
      have t9 := same_upd (o := .tup [.str (Str.ofString "stream"), .ref p2]) nb2
      have hb2 : (upd H9 b2 (.tup [.str (Str.ofString "stream"), .ref p2])) b2 = some (.tup [.str (Str.ofString "stream"), .ref p2]) := upd_same
      have hp2' := hp2.same t9
      have s810 : Same H8 (upd H9 b2 (.tup [.str (Str.ofString "stream"), .ref p2])) := s9.trans t9
      generalize upd H9 b2 (.tup [.str (Str.ofString "stream"), .ref p2]) = H10 at hb2 hp2' s810 ⊢
      refine ⟨(by show 1 ≤ sizeLine; decide), fun b3 nb3 => ⟨(by show 1 ≤ sizeLine; decide), fun b4 nb4 => ⟨(by show 4 ≤ sizeLine; decide), fun L nL => ?_⟩⟩⟩
      have t3 := same_upd (o := .tup [.str (Str.ofString "pour")]) nb3
      have t4 := same_upd (o := .tup [.str (Str.ofString "pour")]) nb4
      have t5 := same_upd (o := .lst [.ref b1, .ref b2, .ref b3, .ref b4]) nL
      have hb3 : (upd H10 b3 (.tup [.str (Str.ofString "pour")])) b3 = some (.tup [.str (Str.ofString "pour")]) := upd_same
      have hb4 : (upd (upd H10 b3 (.tup [.str (Str.ofString "pour")])) b4 (.tup [.str (Str.ofString "pour")])) b4 = some (.tup [.str (Str.ofString "pour")]) := upd_same
      have hL : (upd (upd (upd H10 b3 (.tup [.str (Str.ofString "pour")])) b4 (.tup [.str (Str.ofString "pour")])) L (.lst [.ref b1, .ref b2, .ref b3, .ref b4])) L = some (.lst [.ref b1, .ref b2, .ref b3, .ref b4]) := upd_same
      have s1011 : Same H10 (upd (upd (upd H10 b3 (.tup [.str (Str.ofString "pour")])) b4 (.tup [.str (Str.ofString "pour")])) L (.lst [.ref b1, .ref b2, .ref b3, .ref b4])) := (t3.trans t4).trans t5
      have hb3' := t5 _ _ (t4 _ _ hb3)
      have hb4' := t5 _ _ hb4
      generalize upd (upd (upd H10 b3 (.tup [.str (Str.ofString "pour")])) b4 (.tup [.str (Str.ofString "pour")])) L (.lst [.ref b1, .ref b2, .ref b3, .ref b4]) = H11 at hL s1011 hb3' hb4' ⊢
      have s811 : Same H8 H11 := s810.trans s1011
      have s611 : Same H6 H11 := s68.trans s811
      have hD11 := s611 _ _ hD6
      refine ⟨D, L, vs, _, rfl, rfl, hD11, hL, (by rw [sizeLine_eq]; show vs.length + 4 ≤ _; omega), ?_⟩
      have stp : Paired (StpAt K H11) (vs ++ [.ref b1, .ref b2, .ref b3, .ref b4]) (.put (sprd (srtZ x.c)) :: ((laysZ (srtZ x.c) ys on).take (i + 1)).flatMap (layS rn)) := by
        rw [laysZ_at hzs, List.flatMap_append, List.flatMap_cons, List.flatMap_nil, List.append_nil, ← List.cons_append]
        refine paired_app (paired_imp (fun _ _ h => h.same s611) hvs) ?_
        refine .cons ⟨b1, p1, rfl, .inl (.inl (s811 _ _ hb1)), (hp1'.same s811).seq, fun z hz => znm z (List.mem_of_mem_take hz), by rw [List.length_take]; omega⟩ (.cons ⟨b2, p2, rfl, .inl (.inl (s1011 _ _ hb2)), (hp2'.same s1011).seq, fun z hz => znm z (List.mem_of_mem_drop hz), by rw [List.length_drop]; omega⟩ (.cons ⟨b3, rfl, .inl (.inl hb3')⟩ (.cons ⟨b4, rfl, .inl (.inl hb4')⟩ .nil)))
      refine ⟨_, rfl, fun b u nb z => ?_, _, upd_same, paired_imp (fun _ _ h => h.put hD11) stp⟩
      rw [upd_ne nb]
      exact s611 _ _ (k6 b u nb z)
    · rintro σ H6 ⟨y7, rfl, k6, vs, hD6, hvs⟩
      rw [List.length_map, lks, List.take_length] at hvs
      have nD0 : H D = none := Same.gone (fun b u e => s3 _ _ (s2 _ _ (s1 _ _ e))) nD
      have s06 : Same H H6 := fun b u e => k6 _ _ (ne_of_none e nD0) (s5 _ _ (s04 _ _ e))
      refine ⟨.ref D, rfl, D, _, rfl, .inl ⟨sql hD6, fun tt ntt => ?_⟩⟩
      exact q _ tt (Same.new s06 ntt) ⟨vs, .inl (.inl upd_same), paired_imp (fun _ _ h => h.same (same_upd ntt)) hvs⟩
end
end Kb

namespace Kb
open PySem PySem.Spec PyProof.Rows L2 SrtZ SrtO
abbrev sdrawn : Stmt := topS 58
abbrev Ndrawn : List Str := ["_law_hand_here", "_law_room", "_law_off", "_law_lost_here", "_law_names", "_law_kept", "_law_name", "_law_count"]
theorem scdrawn : FnScope ["_law_hand_here", "_law_room", "_law_off", "_law_lost_here", "_law_names", "_law_kept", "_law_name", "_law_count"] ["_law_hand_here"] (defScope sdrawn) := ⟨rfl, rfl, rfl, by decide +kernel, rfl, by decide +kernel, by decide +kernel⟩
abbrev Dndrawn (K : PySem.W.Frag) (mg : Str → Option Value) := Dn K mg "_law_drawn" sdrawn ["_law_hand_here"]
theorem asc_strs : ∀ {ys : List Str}, Srtd ltZ ys → ys.Nodup → ys.Pairwise fun a b => ltZ a b = true
  | [], _, _ => .nil
  | y :: ys, h, nd => by
    have h' := List.pairwise_cons.mp h
    rw [List.nodup_cons] at nd
    refine .cons (fun b hb => ?_) (asc_strs h'.2 nd.2)
    cases hx : ltZ y b with
    | true => rfl
    | false => exact absurd (ltZ_tri hx (h'.1 b hb)) fun e => nd.1 (by rw [e]; exact hb)
section
variable {P : Program} {w : World} {K : PySem.W.Frag} {mg : Str → Option Value} {base : Heap}
/-! _law_drawn -/
def spDrawn (K : PySem.W.Frag) : Sp := fun vs H Q _ => ∃ (a c : Addr), vs = [.ref a] ∧ Wl a c H ∧ ∀ H' s r x PP (n : Nat), Exw a H H' → Wl a c H' → SkA H' s r x → x.m ≤ 1000 → x.m - sumC x.c ≤ 600 → Pre PP → n ≤ 64 → (∀ e ∈ x.c, e.1 ∈ poolL PP n) → Q (.ref s) H'
theorem ok_drawn (T : Blt mg) (ddraw : Dndraw K mg) (dany : Dnany K mg) (dpool : Dnpool K mg) (d : Dndrawn K mg) : FnOk P w K mg base CX0 4 d.f d.fd ["_law_hand_here"] (spDrawn K) := by
  have Gdraw : FnOk P w K mg base CX0 1 ddraw.f ddraw.fd ["_law_hand_here", "_law_many"] spDraw := ok_draw T ddraw
  have Gpool : FnOk P w K mg base CX0 3 dpool.f dpool.fd ["_law_hand_here", "_law_many"] spPool := ok_pool T ddraw dany dpool
  refine d.F.ok scdrawn (fun vs H Q E h => ?_) (fun cdv A outer s H vs Q E hr h => ?_)
  · obtain ⟨a, c, rfl, _⟩ := h
    rfl
  · obtain ⟨a, c, rfl, w0, q⟩ := h
    refine ⟨_, (pss_cons (ps_set (i := 1) scdrawn.nd rfl (Or.inl rfl) (pe_op op_add pe_int (pe_call Gdraw (hr.mono (by omega)) (by rfl) ddraw.g ddraw.F.kp ddraw.b .nil pass0 (pa_cons (pv 0) (pa_cons (pe_ifExp (pt_cmpR op_eq (pe_call Gdraw (hr.mono (by omega)) (by rfl) ddraw.g ddraw.F.kp ddraw.b .nil pass0 (pa_cons (pv 0) (pa_cons pe_int pa_nil))) pe_int (nomark _)) pe_int pe_int) pa_nil)))))
    (pss_cons (ps_set (i := 2) scdrawn.nd rfl (Or.inl rfl) (pe_call Gdraw (hr.mono (by omega)) (by rfl) ddraw.g ddraw.F.kp ddraw.b .nil pass0 (pa_cons (pv 0) (pa_cons pe_int pa_nil))))
    (pss_cons (ps_set (i := 3) scdrawn.nd rfl (Or.inl rfl) (pe_op op_add (pe_op op_mul (pe_op op_add (pv 1) pe_int) (pv 2)) (pe_call Gdraw (hr.mono (by omega)) (by rfl) ddraw.g ddraw.F.kp ddraw.b .nil pass0 (pa_cons (pv 0) (pa_cons (pe_op op_add (pe_op op_mul (pe_op op_sub (pv 1) pe_int) (pv 2)) pe_int) pa_nil)))))
    (pss_cons (ps_set (i := 4) scdrawn.nd rfl (Or.inl rfl) (pe_call Gpool (hr.mono (by omega)) (by rfl) dpool.g dpool.F.kp dpool.b .nil pass0 (pa_cons (pv 0) (pa_cons (pe_op op_add pe_int (pe_call Gdraw (hr.mono (by omega)) (by rfl) ddraw.g ddraw.F.kp ddraw.b .nil pass0 (pa_cons (pv 0) (pa_cons (pv 1) pa_nil)))) pa_nil))))
    (pss_cons (ps_set (i := 5) scdrawn.nd rfl (Or.inl rfl) (pe_callTy call_tupleF (by rfl) T.n_tuple (by decide +kernel) (pa_cons (pe_lc (own := [("_law_name", 6)]) (g := gName 6) rfl scdrawn.nd (pi_list (pe_callB cr_sortedSL (by rfl) T.n_sorted (by decide +kernel) (pa_cons (pv 4) pa_nil))) (blkOk_by (N := Ndrawn) (sc := defScope sdrawn) (by decide +kernel)) (fun _ _ _ _ _ => pg_name (i := 6) scdrawn.nd rfl (Or.inl rfl)) (fun _ _ _ _ _ => pts_one (pt_cmpR op_gt (pe_call Gdraw (hr.mono (by omega)) (by rfl) ddraw.g ddraw.F.kp ddraw.b .nil pass0 (pa_cons (pv 0) (pa_cons pe_int pa_nil))) pe_int (nomark _))) (fun _ _ _ _ _ => (pe_tup (pa_cons (pv 6) (pa_cons (pe_op op_add pe_int (pe_call Gdraw (hr.mono (by omega)) (by rfl) ddraw.g ddraw.F.kp ddraw.b .nil pass0 (pa_cons (pv 0) (pa_cons pe_int pa_nil)))) pa_nil))))) pa_nil)))
    (pss_one (ps_ret (pe_tup (pa_cons (pv 1) (pa_cons (pe_op op_add (pv 3) (pe_callB (cr_sum rfl) (by rfl) T.n_sum (by decide +kernel) (pa_cons (pe_lc (own := [("_law_name", 6), ("_law_count", 7)]) (g := gTup K 2 (gCons (gName 6) (gCons (gName 7) gNil))) (tt := tYes) rfl scdrawn.nd (pi_tup (pv 5)) (blkOk_by (N := Ndrawn) (sc := defScope sdrawn) (by decide +kernel)) (fun _ _ _ _ _ => pg_tup (by rfl) (pgs_cons (pg_name (i := 6) scdrawn.nd rfl (Or.inl rfl)) (pgs_cons (pg_name (i := 7) scdrawn.nd rfl (Or.inl rfl)) pgs_nil))) (fun _ _ _ _ _ => pts_nil) (fun _ _ _ _ _ => (pv 7))) pa_nil))) (pa_cons (pv 2) (pa_cons (pv 5) pa_nil)))))))))))), ?_⟩
    refine ⟨.ref a, rfl, .ref a, rfl, a, c, 8, rfl, w0, (by decide), (by decide), fun H0 v00 x0 w0' _ _ => ⟨rfl, decide (V.int v00 = V.int 0), rfl, ?_⟩⟩
    obtain ⟨n, hn, e⟩ : ∃ n : Int, (n = 64 ∨ n = 8) ∧ ∀ (σ : L2.St) (Q : VK), Q (.int n) H0 → (if decide (V.int v00 = V.int 0) = true then tC (.int 64) σ H0 Q else tC (.int 8) σ H0 Q) := by
      by_cases h : decide (V.int v00 = V.int 0) = true
      · exact ⟨64, .inl rfl, fun σ Q h2 => by rw [if_pos h]; exact h2⟩
      · exact ⟨8, .inr rfl, fun σ Q h2 => by rw [if_neg h]; exact h2⟩
    refine e _ _ ?_
    clear e
    have hn8 : 8 ≤ n ∧ n ≤ 64 := by omega
    clear hn
    refine ⟨a, c, n, rfl, w0', (by omega), (by omega), fun H1 r x1' w1 r0 r1 => ⟨_, _, rfl, rfl, ?_⟩⟩
    have x1 := x0.trans x1'
    -- off
    refine ⟨.ref a, rfl, a, c, 5, rfl, w1, (by decide), (by decide), fun H4 o x4' w4 o0 o1 => ?_⟩
    have x04 := x1.trans x4'
    -- what was lost
    have hr0 : 0 ≤ (1 + r - 1) * o := Int.mul_nonneg (by omega) o0
    have hr1 : (1 + r - 1) * o ≤ 63 * 4 := Int.mul_le_mul (by omega) (by omega) o0 (by decide)
    have hr2 : (1 + r + 1) * o ≤ 65 * 4 := Int.mul_le_mul (by omega) (by omega) o0 (by decide)
    have hr3 : 0 ≤ (1 + r + 1) * o := Int.mul_nonneg (by omega) o0
    refine ⟨.int (1 + r), rfl, _, _, rfl, rfl, .int o, rfl, _, _, rfl, rfl, cmulR o0 (by omega), .ref a, rfl, .int (1 + r), rfl, _, _, rfl, rfl, .int o, rfl, _, _, rfl, rfl, cmulR o0 (by omega), _, _, rfl, rfl, a, c, _, rfl, w4, (by omega), (by omega), fun H5 b x5 w5 b0 b1 => ⟨_, _, rfl, rfl, ?_⟩⟩
    have x05 := x04.trans x5
    -- the names
    obtain ⟨rN, rfl⟩ := Int.eq_ofNat_of_zero_le r0
    refine ⟨.ref a, rfl, .ref a, rfl, .int (1 + (rN : Int)), rfl, a, c, _, rfl, w5, (by omega), (by omega), fun H5' j0 x5' w5' j00 j01 => ⟨_, _, rfl, rfl, ?_⟩⟩
    obtain ⟨j0, rfl⟩ := Int.eq_ofNat_of_zero_le j00
    refine ⟨a, c, 1 + j0, (by push_cast; rfl), w5', by omega, fun H6 p PP x6 w6 np pa pc hp hP => ?_⟩
    have x06 := (x05.trans x5').trans x6
    refine ⟨.ref p, rfl, p, _, rfl, sql hp, fun ys l perm srtd nl => ⟨l, rfl, ⟨_, sql upd_same⟩, fun D nD => ?_⟩⟩
    have s7 : Same H6 (upd H6 l (.lst (ys.map V.str))) := same_upd nl
    have hl7 : (upd H6 l (.lst (ys.map V.str))) l = some (.lst (ys.map V.str)) := upd_same
    have la := w6.ne2 nl
    generalize upd H6 l (.lst (ys.map V.str)) = H7 at s7 hl7 nD ⊢
    have w7 := w6.same s7
    have x07 := x06.same s7
    have Da := w7.ne2 nD
    have yl : ys.length = 1 + j0 := by rw [perm.length_eq]; unfold poolL; rw [List.length_map, List.length_range]
    have yasc := asc_strs srtd (perm.nodup_iff.mpr (poolL_nd PP (1 + j0)))
    have ynm : ∀ z ∈ ys, Nm z := fun z hz => poolL_nm hP (by omega) (perm.mem_iff.mp hz)
    refine lc_list (xs := ys.map V.str) (fun j H8 => Exw a H7 H8 ∧ Wl a c H8 ∧ ∃ (us : List Addr) (kv : Ct), H8 D = some (.lst (us.map V.ref)) ∧ Paired (PrT H8) us kv ∧ (kv.map (·.1)).Sublist (ys.take j) ∧ ∀ e ∈ kv, 1 ≤ e.2 ∧ e.2 ≤ 4) ⟨Same.exw (same_upd nD), w7.same (same_upd nD), [], [], upd_same, .nil, List.nil_sublist _, fun _ h => nomatch h⟩ (fun j H8 _ h => sql (h.1 _ _ la.1 hl7)) (fun j v H8 hv h => ?_) (fun H8 h => ?_)
    · obtain ⟨z, hz, rfl⟩ := map_at hv
      obtain ⟨x8, w8, us, kv, hD8, hus, hsub, hv8⟩ := h
      have hj := (List.getElem?_eq_some_iff.mp hz).1
      have tk : ys.take (j + 1) = ys.take j ++ [z] := by rw [List.take_add_one, hz]; rfl
      have lus := Paired.length hus
      have zl := hsub.length_le
      rw [List.length_take, List.length_map] at zl
      refine ⟨rfl, .ref a, rfl, a, c, 4, rfl, w8, (by decide), (by decide), fun H9 v x9 w9 _ _ => ⟨_, _, rfl, rfl, _, rfl, ite2 (fun _ => ?_) fun _ => ?_⟩⟩
      · refine ⟨.str z, rfl, .ref a, rfl, a, c, 4, rfl, w9, (by decide), (by decide), fun H10 v x10 w10 v0 v1 => ⟨_, _, rfl, rfl, (by show 2 ≤ sizeLine; decide), fun u nu => ?_⟩⟩
        have hD10 := x10 _ _ Da.1 (x9 _ _ Da.1 hD8)
        have uD : D ≠ u := ne_of_none hD10 nu
        have hus10 : Paired (PrT H10) us kv := paired_imp (fun t e h => (x9.trans x10).at w8 h (by intro _ z; cases z)) hus
        refine ⟨_, by rw [upd_ne uD]; exact hD10, by rw [List.length_map, lus, sizeLine_eq]; omega, (((x8.trans x9).trans x10).new nu).put nD, (w10.same (same_upd nu)).put Da, us ++ [u], kv ++ [(z, 1 + v)], by rw [upd_same, List.map_append]; rfl, ?_, ?_, fun e he => ?_⟩
        · refine paired_snoc (paired_imp (fun t' e' h => ?_) hus10) ?_
          · show _ = _
            rw [upd_ne (ne_of h hD10 (by intro z; cases z)), upd_ne (ne_of_none h nu)]
            exact h
          · show _ = _
            rw [upd_ne uD.symm]
            exact upd_same
        · rw [List.map_append, tk]
          exact hsub.append (List.Sublist.refl _)
        · rcases List.mem_append.mp he with he | he
          · exact hv8 e he
          · rw [List.mem_singleton.mp he]
            dsimp only
            omega
      · refine ⟨x8.trans x9, w9, us, kv, x9 _ _ Da.1 hD8, paired_imp (fun t e h => x9.at w8 h (by intro _ z; cases z)) hus, ?_, hv8⟩
        rw [tk]
        exact hsub.trans (List.sublist_append_left _ _)
    obtain ⟨x8, w8, us, kv, hD8, hus, hsub, hv8⟩ := h
    rw [List.length_map, List.take_length] at hsub
    have zlen := hsub.length_le
    rw [List.length_map] at zlen
    have kasc0 := yasc.sublist hsub
    have x08 := x07.trans x8
    have lus := Paired.length hus
    refine ⟨D, _, rfl, sql hD8, fun k ob nk ho => ?_⟩
    have s10 : Same H8 (upd H8 k (.frz ob (.tup (us.map V.ref)))) := same_upd nk
    have hk10 : Ptp (upd H8 k (.frz ob (.tup (us.map V.ref)))) k (us.map V.ref) := ⟨ob, upd_same, ho⟩
    generalize upd H8 k (.frz ob (.tup (us.map V.ref))) = H10 at s10 hk10 ⊢
    have hus10 := prt_same hus s10
    -- the sketch
    refine ⟨.int (1 + (rN : Int)), rfl, .int _, rfl, .ref k, rfl, k, rfl, ⟨_, hk10.seq⟩, fun M nM => ?_⟩
    refine lc_tup (xs := us.map V.ref) (fun j H11 => Same H10 H11 ∧ H11 M = some (.lst (((kv.take j).map (·.2)).map V.int))) ⟨same_upd nM, upd_same⟩ (fun j H11 _ h => (hk10.same h.1).seq) (fun j v H11 hv h => ?_) (fun H11 h => ?_)
    · obtain ⟨t, ht, rfl⟩ := map_at hv
      obtain ⟨e, he, hat⟩ := paired_at hus10 ht
      obtain ⟨s11, hM⟩ := h
      have hj := (List.getElem?_eq_some_iff.mp he).1
      refine ⟨t, _, rfl, .inl (.inl (s11 _ _ hat)), rfl, _, _, rfl, _, _, rfl, rfl, rfl, .int e.2, rfl, _, hM, by rw [List.length_map, List.length_map, List.length_take, sizeLine_eq]; omega, Same.put s11 nM, ?_⟩
      rw [upd_same, List.take_add_one, he, List.map_append, List.map_append]
      rfl
    obtain ⟨s11, hM⟩ := h
    rw [List.length_map, lus, List.take_length] at hM
    refine ⟨M, _, rfl, sql hM, _, _, rfl, rfl, .int o, rfl, .ref k, rfl, (by show 4 ≤ sizeLine; decide), fun s ns => ?_⟩
    have hsum : (kv.map (·.2)).sum = sumC kv := rfl
    rw [hsum]
    have s12 := same_upd (o := .tup [.int (1 + (rN : Int)), .int ((1 + (rN : Int) + 1) * o + b + sumC kv), .int o, .ref k]) ns
    have s92 : Same H8 (upd H11 s (.tup [.int (1 + (rN : Int)), .int ((1 + (rN : Int) + 1) * o + b + sumC kv), .int o, .ref k])) := fun b u e => s12 _ _ (s11 _ _ (s10 _ _ e))
    have kn : ∀ e ∈ kv, Nm e.1 := fun e he => ynm e.1 (hsub.subset (List.mem_map.mpr ⟨e, he, rfl⟩))
    have kasc : kv.Pairwise fun a b => ltZ a.1 b.1 = true := by
      rw [List.pairwise_map] at kasc0
      exact kasc0
    have kcts : Cts kv := ⟨kn, fun e he => (hv8 e he).1, kasc⟩
    have ndk : NdZ kv := hsub.nodup (perm.nodup_iff.mpr (poolL_nd PP (1 + j0)))
    have sm0 : 0 ≤ sumC kv := sumC_nn fun e he => by have := (hv8 e he).1; omega
    have sm1 : sumC kv ≤ 4 * (kv.length : Int) := by
      have gen : ∀ l : Ct, (∀ e ∈ l, 1 ≤ e.2 ∧ e.2 ≤ 4) → sumC l ≤ 4 * (l.length : Int) := by
        intro l
        induction l with
        | nil => exact fun _ => Int.le_refl _
        | cons e l ih =>
          intro h
          have := (h e List.mem_cons_self).2
          have := ih fun x hx => h x (List.mem_cons_of_mem _ hx)
          rw [sumC_cons', List.length_cons]
          push_cast
          omega
      exact gen kv hv8
    have hself : srtZ kv = kv := srtZ_self kasc ndk
    have g : SkG (1 + (rN : Int)) ((1 + (rN : Int) + 1) * o + b + sumC kv) o kv := ⟨by omega, by omega, by omega, o0, kcts, by omega, by omega, by
      have e1 : 2 * (1 + (rN : Int)) * o = (1 + (rN : Int) + 1) * o + (1 + (rN : Int) - 1) * o := by
        rw [← Int.add_mul]
        congr 1
        omega
      rw [e1]
      omega, by
      have : (1000 : Int) < 2 ^ 100 := by decide
      omega⟩
    refine q _ s (1 + (rN : Int)) ⟨(1 + (rN : Int) + 1) * o + b + sumC kv, o, kv⟩ PP (1 + j0) (x08.same s92) (w8.same s92) ⟨⟨k, us, upd_same, (hk10.same s11).same s12, ?_⟩, ⟨ndk, by show (kv.length : Int) ≤ _; omega, fun e he => (hv8 e he).1, kn⟩, ?_⟩ ?_ ?_ hP (by omega) fun e he => perm.mem_iff.mp (hsub.subset (List.mem_map.mpr ⟨e, he, rfl⟩))
    · show Paired _ us (srtZ kv)
      rw [hself]
      exact paired_imp (fun t e h => s12 _ _ (s11 _ _ h)) hus10
    · show SkG _ _ o (srtZ kv)
      rw [hself]
      exact g
    · show (1 + (rN : Int) + 1) * o + b + sumC kv ≤ 1000
      omega
    · show (1 + (rN : Int) + 1) * o + b + sumC kv - sumC kv ≤ 600
      omega
end
end Kb

namespace Kb
open PySem PySem.Spec PyProof.Rows L2 SrtZ SrtO
/-- each tally of the pile within its bounds, beside its true counts; together they are those of the tree -/
theorem runL_true {r : Int} (hr : 1 ≤ r) : ∀ {l : List Stp} {st : List Tl} {fs : List (Str → Int)} {kc : Ct} {m : Int}, (∀ zs, .put zs ∈ l → ∀ z ∈ zs, Nm z) → (∀ x ∈ st, TlOk r x ∧ Bd r x) → Paired TruF fs st → (∀ k, (fs.map fun f => f k).sum = gd kc k) → (st.map (·.m)).sum = m →
    ∃ gs, Paired TruF gs (l.foldl (stepL r) st) ∧ (∀ x ∈ l.foldl (stepL r) st, Bd r x) ∧ (∀ k, (gs.map fun f => f k).sum = gd (l.foldl cntS kc) k) ∧ ((l.foldl (stepL r) st).map (·.m)).sum = l.foldl cS m
  | [], st, fs, kc, m, _, h, p, s, e => ⟨fs, p, fun x hx => (h x hx).2, s, e⟩
  | t :: l, st, fs, kc, m, hn, h, p, s, e => by
    have hn' : ∀ zs, .put zs ∈ l → ∀ z ∈ zs, Nm z := fun zs hz => hn zs (List.mem_cons_of_mem _ hz)
    cases t with
    | put zs =>
      have hz := hn zs List.mem_cons_self
      have ok := feedsT_ok hr (tl0_ok hr) hz
      obtain ⟨b1, b2⟩ := bd_stream hr hz
      refine runL_true hr (l := l) (st := feedsT r zs tl0 :: st) (fs := (fun k => gd (cntZ zs []) k) :: fs) (kc := cntZ zs kc) (m := m + (zs.length : Nat)) hn' (fun x hx => ?_) (.cons (tru_stream hr (tl0_ok hr) tru0 hz) p) (fun k => ?_) ?_
      · rcases List.mem_cons.mp hx with rfl | hx
        · exact ⟨ok, b1⟩
        · exact h x hx
      · rw [List.map_cons, List.sum_cons, s k, gd_cntZ zs kc k]
        exact Int.add_comm _ _
      · rw [List.map_cons, List.sum_cons, e, b2]
        omega
    | pour =>
      match st, fs, p, h, s, e with
      | [], fs, p, h, s, e => exact runL_true hr (l := l) hn' h p s e
      | [_], fs, p, h, s, e => exact runL_true hr (l := l) hn' h p s e
      | a :: b :: st, _, .cons pa (.cons pb p), h, s, e =>
        rename_i fa fb fs
        obtain ⟨oa, ba⟩ := h a List.mem_cons_self
        obtain ⟨ob, bb⟩ := h b (List.mem_cons_of_mem _ List.mem_cons_self)
        have em : (pourT r a b).m = b.m + a.m := by
          unfold pourT
          dsimp only
          split <;> rfl
        refine runL_true hr (l := l) (st := pourT r a b :: st) (fs := (fun k => fb k + fa k) :: fs) (kc := kc) (m := m) hn' (fun x hx => ?_) (.cons (tru_pour hr ob oa pb pa) p) (fun k => ?_) ?_
        · rcases List.mem_cons.mp hx with rfl | hx
          · exact ⟨pourT_ok ob oa (by omega), bd_pour hr ob oa bb ba⟩
          · exact h x (List.mem_cons_of_mem _ (List.mem_cons_of_mem _ hx))
        · have := s k
          rw [List.map_cons, List.map_cons, List.sum_cons, List.sum_cons] at this
          rw [List.map_cons, List.sum_cons]
          show fb k + fa k + (fs.map fun f => f k).sum = gd kc k
          omega
        · rw [List.map_cons, List.map_cons, List.sum_cons, List.sum_cons] at e
          rw [List.map_cons, List.sum_cons, em]
          omega
theorem cntZ_in {Pn : Str → Prop} : ∀ {zs : List Str} {kc : Ct}, (∀ z ∈ zs, Pn z) → (∀ e ∈ kc, 1 ≤ e.2 ∧ Pn e.1) → ∀ e ∈ cntZ zs kc, 1 ≤ e.2 ∧ Pn e.1
  | [], _, _, h => h
  | z :: zs, kc, hz, h => cntZ_in (zs := zs) (kc := addZ kc z 1) (fun y hy => hz y (List.mem_cons_of_mem _ hy)) fun e he => by
    refine ⟨addZ_pos (fun e he => (h e he).1) (by decide) e he, ?_⟩
    rcases putZ_mem he with he | rfl
    · exact (h e he).2
    · exact hz z List.mem_cons_self
theorem cntT_in {Pn : Str → Prop} : ∀ {l : List Stp} {kc : Ct}, (∀ zs, .put zs ∈ l → ∀ z ∈ zs, Pn z) → (∀ e ∈ kc, 1 ≤ e.2 ∧ Pn e.1) → ∀ e ∈ l.foldl cntS kc, 1 ≤ e.2 ∧ Pn e.1
  | [], _, _, h => h
  | .put zs :: l, kc, hn, h => cntT_in (l := l) (kc := cntZ zs kc) (fun zs hz => hn zs (List.mem_cons_of_mem _ hz)) (cntZ_in (hn zs List.mem_cons_self) h)
  | .pour :: l, kc, hn, h => cntT_in (l := l) (kc := kc) (fun zs hz => hn zs (List.mem_cons_of_mem _ hz)) h
/-- what a drawn tree leads to -/
structure Out (r : Int) (ns : List Str) (st : List Stp) (x x' : Tl) : Prop where
  rt : runT r st = [x]
  rl : runL r st = [x']
  sk : skT x = skT x'
  ok : TlOk r x'
  bd : Bd r x'
  tr : TrOf x' (srtZ (cntT st))
  inn : ∀ e ∈ x'.c, e.1 ∈ ns
  few : x'.m ≤ 40 * 9
theorem tree_out {r : Int} {ns : List Str} {st : List Stp} {i : Nat} (hr : 1 ≤ r) (hns : ∀ z ∈ ns, Nm z) (g : Gr (· ∈ ns) i 1 st) (hi : i ≤ 9) : ∃ x x', Out r ns st x x' := by
  have tr := gr_tree g (by omega)
  have hN : ∀ zs, .put zs ∈ st → ∀ z ∈ zs, Nm z := fun zs hz z hzz => hns z (g.nm zs hz z hzz)
  have hl := run_len (r := r) tr.two st.length (Nat.le_refl _)
  rw [List.take_length, tr.one] at hl
  have hlL := runL_lenT hr hN
  obtain ⟨x, hx⟩ : ∃ x, runT r st = [x] := by
    match h : runT r st, hl with
    | [x], _ => exact ⟨x, rfl⟩
    | [], hl => exact absurd hl (by decide)
    | _ :: _ :: _, hl => exact absurd hl (by simp only [List.length_cons]; omega)
  obtain ⟨x', hx'⟩ : ∃ x, runL r st = [x] := by
    rw [hx] at hlL
    match h : runL r st, hlL with
    | [x], _ => exact ⟨x, rfl⟩
    | [], hl => exact absurd hl (by simp)
    | _ :: _ :: _, hl => exact absurd hl (by simp)
  have hs := runTL (r := r) hr (l := st) (st := []) (st' := []) hN (fun _ h => nomatch h) (fun _ h => nomatch h) rfl
  have hs2 : (runT r st).map skT = (runL r st).map skT := hs
  rw [hx, hx'] at hs2
  injection hs2 with hs2 _
  have ok : TlOk r x' := runL_ok (l := st) (st := []) hr hN (fun _ h => nomatch h) x' (by show x' ∈ runL r st; rw [hx']; exact List.mem_cons_self)
  obtain ⟨gs, p, bd, sm, mm⟩ := runL_true hr (l := st) (st := []) (fs := []) (kc := []) (m := 0) hN (fun _ h => nomatch h) .nil (fun k => rfl) rfl
  have hfl : st.foldl (stepL r) [] = [x'] := hx'
  rw [hfl] at p bd mm
  have cin := cntT_in (Pn := (· ∈ ns)) (l := st) (kc := []) g.nm (fun _ h => nomatch h)
  have ndc := cntT_nd st
  have mx : x'.m = mny st := by
    have : x'.m + 0 = st.foldl cS 0 := mm
    show x'.m = st.foldl cS 0
    omega
  cases p with
  | cons pf pt =>
    rename_i f _
    cases pt
    have hf : ∀ k, f k = gd (cntT st) k := fun k => by
      have : f k + 0 = gd (st.foldl cntS []) k := sm k
      show f k = gd (st.foldl cntS []) k
      omega
    have gS : ∀ k, gd (srtZ (cntT st)) k = gd (cntT st) k := gd_srt ndc
    refine ⟨x, x', hx, hx', hs2, ok, bd x' List.mem_cons_self, ⟨srtZ_asc ndc, srtZ_nd ndc, fun e he => (cin e ((srtZ_perm _).mem_iff.mp he)).1, fun e he => hns _ (cin e ((srtZ_perm _).mem_iff.mp he)).2, fun k => ?_, fun k => ?_, ?_⟩, fun e he => ?_, ?_⟩
    · have := (pf k).1
      rw [hf] at this
      rw [gS]
      omega
    · have := (pf k).2
      rw [hf] at this
      rw [gS]
      exact this
    · rw [sumC_perm' (srtZ_perm _), mx]
      exact sum_cnt st [] 0 List.nodup_nil rfl
    · have h1 := (pf e.1).1
      rw [hf] at h1
      have hg : gd x'.c e.1 = e.2 := by
        unfold gd
        rw [getZ_mem ok.nd he]
        rfl
      have h2 := ok.pos e he
      have h3 : 1 ≤ gd (cntT st) e.1 := by omega
      unfold gd at h3
      cases hz : getZ (cntT st) e.1 with
      | none =>
        rw [hz] at h3
        exact absurd h3 (by decide)
      | some v => exact (cin _ (getZ_in hz)).2
    · rw [mx]
      have := g.few
      omega
theorem Bd.yes {r : Int} {x : Tl} (b : Bd r x) (ok : TlOk r x) (h1 : 1 ≤ r) (h2 : r ≤ 64) : skB r x.m x.o (srtZ x.c) = true := by
  unfold skB
  have hl : (((srtZ x.c).length : Nat) : Int) ≤ r := by
    have := ok.len
    have := (srtZ_perm x.c).length_eq
    omega
  rw [sumC_perm' (srtZ_perm x.c), decide_eq_true h1, decide_eq_true h2, decide_eq_true b.many, decide_eq_true b.off, decide_eq_true hl, decide_eq_true b.low, decide_eq_true b.high]
  rfl
theorem TrOf.tr {x : Tl} {ys : Ct} {r : Int} (ok : TlOk r x) (t : TrOf x ys) : Tr x (some (ys.map prE)) := by
  have hg : ∀ e ∈ ys, gd ys e.1 = e.2 := fun e he => by
    unfold gd
    rw [getZ_mem t.nd he]
    rfl
  refine ⟨_, ys, rfl, ⟨rfl, t.pos, t.asc⟩, ⟨fun e he => ?_, fun e he => ?_, fun e he => ?_, t.sum⟩⟩
  · have := t.lo e.1
    rw [hg e he] at this
    omega
  · have := t.hi e.1
    rw [hg e he] at this
    exact this
  · have h1 := t.lo e.1
    have h2 : gd x.c e.1 = e.2 := by
      unfold gd
      rw [getZ_mem ok.nd he]
      rfl
    have h3 := ok.pos e he
    by_cases hz : e.1 ∈ ys.map (·.1)
    · exact hz
    · rw [gd_out hz] at h1
      omega
/-! names that are fresh -/
def frL (P P2 : List Nat) (n : Nat) : List Str := S (cs (pnm P 0) ++ [120]) :: (List.range n).map fun k => S ([122, 122] ++ cs (pnm P2 k))
theorem frL_len (P P2 : List Nat) (n : Nat) : (frL P P2 n).length = n + 1 := by
  unfold frL
  rw [List.length_cons, List.length_map, List.length_range]
theorem frL_nm {P P2 : List Nat} {n : Nat} (hP : Pre P) (hP2 : Pre P2) (hn : n ≤ 702) : ∀ z ∈ frL P P2 n, Nm z := fun z hz => by
  rcases List.mem_cons.mp hz with rfl | hz
  · have l0 := pnm_len (k := 0) hP
    refine nm_of (cs_S _) (by rw [List.length_append]; omega) (by rw [List.length_append]; show _ + 1 ≤ 8; omega) fun c hc => ?_
    rcases List.mem_append.mp hc with hc | hc
    · exact pnm_abc hP (by decide) c hc
    · rw [List.mem_singleton.mp hc]
      decide
  · obtain ⟨k, hk, rfl⟩ := List.mem_map.mp hz
    have hk := List.mem_range.mp hk
    have l0 := pnm_len (k := k) hP2
    refine nm_of (cs_S _) (by rw [List.length_append]; show 1 ≤ 2 + _; omega) (by rw [List.length_append]; show 2 + _ ≤ 8; omega) fun c hc => ?_
    rcases List.mem_append.mp hc with hc | hc
    · rcases List.mem_cons.mp hc with rfl | hc
      · decide
      · rw [List.mem_singleton.mp hc]
        decide
    · exact pnm_abc hP2 (by omega) c hc
theorem fr_zz {P : List Nat} (hP : Pre P) {j : Nat} {t : List Nat} : cs (pnm P j) ≠ [122, 122] ++ t ∨ t.length = 0 := by
  rw [pnm_cs]
  by_cases h : t.length = 0
  · exact .inr h
  refine .inl fun e => ?_
  have hl := congrArg List.length e
  rcases hP.is with rfl | rfl | rfl
  · rw [List.length_append, List.length_append, List.length_append] at hl
    split at hl <;> simp only [List.length_append, List.length_cons, List.length_nil] at hl <;> omega
  · simp at e
  · simp at e
theorem frL_nd {P P2 : List Nat} {n : Nat} (hP : Pre P) : (frL P P2 n).Nodup := by
  unfold frL
  rw [List.nodup_cons]
  constructor
  · intro hz
    obtain ⟨k, _, e⟩ := List.mem_map.mp hz
    have e2 := congrArg cs e
    rw [cs_S, cs_S, pnm_cs P 0] at e2
    rcases hP.is with rfl | rfl | rfl
    · simp at e2
    · simp at e2
    · simp at e2
  · rw [List.Nodup, List.pairwise_map]
    refine (List.nodup_range (n := n)).imp fun {a b} h e => h ?_
    have e2 := congrArg cs e
    rw [cs_S, cs_S] at e2
    have e3 := List.append_cancel_left e2
    exact pnm_inj (cs_inj e3)
theorem fr_out {P P2 : List Nat} {n m : Nat} (hP : Pre P) (hP2 : Pre P2) (hm : m ≤ 600) {z : Str} (h1 : z ∈ poolL P m) : z ∉ frL P P2 n := fun h2 => by
  obtain ⟨j, hj, rfl⟩ := List.mem_map.mp h1
  have hj := List.mem_range.mp hj
  rcases List.mem_cons.mp h2 with e | h2
  · have e2 := congrArg cs e
    rw [cs_S, pnm_cs, pnm_cs, show (if 25 < 0 then [97 + (0 / 26 - 1)] else []) = ([] : List Nat) from rfl, List.append_nil, List.append_assoc, List.append_assoc] at e2
    have e3 := List.append_cancel_left e2
    by_cases h25 : 25 < j
    · rw [if_pos h25] at e3
      injection e3 with e4 e5
      injection e5 with e6 _
      omega
    · rw [if_neg h25] at e3
      injection e3 with e4 e5
      cases e5
  · obtain ⟨k, _, e⟩ := List.mem_map.mp h2
    have e2 := congrArg cs e
    rw [cs_S] at e2
    have l2 := pnm_len (k := k) hP2
    rcases fr_zz hP (j := j) (t := cs (pnm P2 k)) with h | h
    · exact h e2.symm
    · omega
end Kb

namespace Kb
open PySem PySem.Spec PyProof.Rows L2 SrtZ SrtO
/-! the paper, its streams plain tuples -/
/-- what a heap keeps of what it held -/
structure Kp (K : PySem.W.Frag) (H H' : Hp) : Prop where
  t : ∀ a xs, SqT K H a xs → SqT K H' a xs
  p : ∀ a xs, Ptp H a xs → Ptp H' a xs
  l : ∀ a xs, SqL K H a xs → ∃ xs, SqL K H' a xs
  d : ∀ a k, H a = some (.dK k) → H' a = some (.dK k)
theorem Kp.trans {K : PySem.W.Frag} {H H' H2 : Hp} (x : Kp K H H') (y : Kp K H' H2) : Kp K H H2 := ⟨fun a xs h => y.t a xs (x.t a xs h), fun a xs h => y.p a xs (x.p a xs h), fun a xs h => let ⟨ys, h2⟩ := x.l a xs h; y.l a ys h2, fun a k h => y.d a k (x.d a k h)⟩
theorem Kp.refl {K : PySem.W.Frag} {H : Hp} : Kp K H H := ⟨fun _ _ h => h, fun _ _ h => h, fun _ xs h => ⟨xs, h⟩, fun _ _ h => h⟩
theorem Same.kp {K : PySem.W.Frag} {H H' : Hp} (s : Same H H') : Kp K H H' := ⟨fun _ _ h => seqT h s, fun _ _ h => h.same s, fun _ xs h => ⟨xs, sqL_same h s⟩, fun _ _ h => s _ _ h⟩
theorem Exw.kp {K : PySem.W.Frag} {a c : Addr} {H H' : Hp} (x : Exw a H H') (w0 : Wl a c H) (w1 : Wl a c H') : Kp K H H' := ⟨fun _ _ h => sqT_exw h x w0, fun _ _ ⟨o, e, d⟩ => ⟨o, x.at w0 e (by intro _ z; cases z), d⟩, fun _ _ h => sqL_exw h x w0 w1, fun _ _ h => x.at w0 h (by intro _ z; cases z)⟩
theorem kp_putL {K : PySem.W.Frag} {H : Hp} {D : Addr} {xs ys : List V} (hD : H D = some (.lst xs)) : Kp K H (upd H D (.lst ys)) := ⟨fun _ _ h => sqT_putL h hD, fun _ _ ⟨o, e, d⟩ => ⟨o, by rw [upd_ne (ne_of e hD (by intro z; cases z))]; exact e, d⟩, fun _ _ h => sqL_putL h hD, fun _ _ h => by rw [upd_ne (ne_of h hD (by intro z; cases z))]; exact h⟩
theorem SxAt.kp {K : PySem.W.Frag} {H H' : Hp} {v : V} {t : Option Stp} (h : SxAt K H v t) (k : Kp K H H') : SxAt K H' v t := h.map k.t k.l k.d
theorem TrAt.kp {K : PySem.W.Frag} {H H' : Hp} {v : V} {t : Option (List (Option Stp))} (h : TrAt K H v t) (k : Kp K H H') : TrAt K H' v t := h.map k.t k.l k.d
/-- a step, its names a plain tuple -/
def StpP (K : PySem.W.Frag) (H : Hp) (v : V) : Stp → Prop
  | .put zs => ∃ a b, v = .ref a ∧ SqT K H a [.str (Str.ofString "stream"), .ref b] ∧ Ptp H b (zs.map V.str) ∧ (∀ z ∈ zs, Nm z) ∧ zs.length ≤ 2000
  | .pour => ∃ a, v = .ref a ∧ SqT K H a [.str (Str.ofString "pour")]
theorem StpP.kp {K : PySem.W.Frag} {H H' : Hp} {v : V} {t : Stp} (h : StpP K H v t) (k : Kp K H H') : StpP K H' v t := by
  cases t with
  | put zs =>
    obtain ⟨a, b, e, h1, h2, h3⟩ := h
    exact ⟨a, b, e, k.t _ _ h1, k.p _ _ h2, h3⟩
  | pour =>
    obtain ⟨a, e, h1⟩ := h
    exact ⟨a, e, k.t _ _ h1⟩
theorem StpP.same {K : PySem.W.Frag} {H H' : Hp} {v : V} {t : Stp} (h : StpP K H v t) (s : Same H H') : StpP K H' v t := h.kp (Same.kp s)
theorem StpP.put {K : PySem.W.Frag} {H : Hp} {t : Addr} {ys zs : List V} {v : V} {st : Stp} (h : StpP K H v st) (ht : H t = some (.lst ys)) : StpP K (upd H t (.lst zs)) v st := h.kp (kp_putL ht)
theorem StpP.at {K : PySem.W.Frag} {H : Hp} {v : V} {t : Stp} (h : StpP K H v t) : StpAt K H v t := by
  cases t with
  | put zs =>
    obtain ⟨a, b, e, h1, h2, h3, h4⟩ := h
    exact ⟨a, b, e, h1, h2.seq, h3, by omega⟩
  | pour => exact h
section
variable {P : Program} {w : World} {K : PySem.W.Frag} {mg : Str → Option Value} {base : Heap}
def spPaperP (K : PySem.W.Frag) : Sp := fun vs H Q _ => ∃ (s t : Addr) (r : Int) (x : Tl) (ys : Ct), vs = [.ref s, .ref t] ∧ SkA H s r x ∧ x.m ≤ 1000 ∧ TupC H t ys ∧ TrOf x ys ∧
  ∀ H' p vs, Same H H' → Ptp H' p vs → Paired (StpP K H') vs (papZ r x ys) → Q (.ref p) H'
theorem ok_paperP (T : Blt mg) (cM : Cst mg "MOST_ROOM" (.int 64)) (cL : Cst mg "LONGEST_NAME" (.int 8)) (cI : Cst mg "MOST_ITEMS_truths" (.int 1500)) (dP_is_int : DnIsInt K mg) (dP_is_number : DnIsNumber K mg) (dP_is_room : DnIsRoom K mg) (dP_is_name : DnIsName K mg) (dP_is_counted : DnIsCounted K mg) (dP_are_counts : DnAreCounts K mg)
    (dP_lost_of : DnLostOf K mg) (dP_is_sketch : DnIsSketch K mg) (dP_is_truth : DnIsTruth K mg) (dP_repeated : DnRepeated K mg) (dP_layers : DnLayers K mg) (d : DnPaper K mg) : FnOk P w K mg base CX0 6 d.f d.fd ["sketch", "truth"] (spPaperP K) := by
  have GP_is_truth : FnOk P w K mg base CX0 5 dP_is_truth.f dP_is_truth.fd ["sketch", "thing"] (spIsTruth K) := ok_is_truth T cM cL dP_is_int dP_is_number dP_is_room dP_is_name dP_is_counted dP_are_counts dP_lost_of dP_is_sketch dP_is_truth
  have GP_repeated : FnOk P w K mg base CX0 1 dP_repeated.f dP_repeated.fd ["counts"] (spRepeated K) := ok_repeated T dP_repeated
  have GP_layers : FnOk P w K mg base CX0 2 dP_layers.f dP_layers.fd ["sketch", "truth"] (spLayersP K) := ok_layersP T dP_repeated dP_layers
  refine d.F.ok scP_paper (fun vs H Q E h => ?_) (fun cdv A outer s H vs Q E hr h => ?_)
  · obtain ⟨s, t, r, x, ys, rfl, _⟩ := h
    rfl
  · obtain ⟨sk, t, r, x, ys, rfl, ⟨hs, ok, g⟩, hm, ht, tr, q⟩ := h
    have hr64 := g.r64
    have pk := papZ_ok g ok tr
    have hyl := tr.len
    refine ⟨_, (pss_cons (ps_if (pt_not (pt_val (pe_call GP_is_truth (hr.mono (by omega)) (by rfl) dP_is_truth.g dP_is_truth.F.kp dP_is_truth.b .nil pass0 (pa_cons (pv 0) (pa_cons (pv 1) pa_nil)))))
      (pss_one ps_never)
      pss_nil)
    (pss_cons (ps_asg (pv 0) (pg_tup (by rfl) (pgs_cons (pg_name (i := 2) scP_paper.nd rfl (Or.inl rfl)) (pgs_cons (pg_name (i := 3) scP_paper.nd rfl (Or.inl rfl)) (pgs_cons (pg_name (i := 4) scP_paper.nd rfl (Or.inl rfl)) (pgs_cons (pg_name (i := 5) scP_paper.nd rfl (Or.inl rfl)) pgs_nil))))))
    (pss_cons (ps_if (pt_cmpR op_gt (pv 3) (pe_glob rfl cI.g cI.r) (nomark _))
      (pss_one ps_never)
      pss_nil)
    (pss_cons (ps_set (i := 6) scP_paper.nd rfl (Or.inl rfl) (pe_lst (pa_cons (pe_tup (pa_cons pe_str (pa_cons (pe_call GP_repeated (hr.mono (by omega)) (by rfl) dP_repeated.g dP_repeated.F.kp dP_repeated.b .nil pass0 (pa_cons (pv 5) pa_nil)) pa_nil))) pa_nil)))
    (pss_cons (ps_for PassesOwn.never rfl (pi_list (pe_call GP_layers (hr.mono (by omega)) (by rfl) dP_layers.g dP_layers.F.kp dP_layers.b .nil pass0 (pa_cons (pv 0) (pa_cons (pv 1) pa_nil)))) (pg_name (i := 7) scP_paper.nd rfl (Or.inl rfl))
      (pss_one (ps_aug (i := 6) scP_paper.nd rfl (Or.inl rfl) (pe_lst (pa_cons (pe_tup (pa_cons pe_str (pa_cons (pe_slice sl_tupP (pv 7) po_none (po_some (pv 2))) pa_nil))) (pa_cons (pe_tup (pa_cons pe_str (pa_cons (pe_slice sl_tupP (pv 7) (po_some (pv 2)) po_none) pa_nil))) (pa_cons (pe_tup (pa_cons pe_str pa_nil)) (pa_cons (pe_tup (pa_cons pe_str pa_nil)) pa_nil))))) (ti := rExt2) iop_ext)))
    (pss_one (ps_ret (pe_callTy call_tupleF (by rfl) T.n_tuple (by decide +kernel) (pa_cons (pv 6) pa_nil))))))))), ?_⟩
    refine ⟨.ref sk, rfl, .ref t, rfl, sk, .ref t, r, x, _, rfl, hs, ok, hr64, g.yes, ht.th tr.nm (by omega), fun H1 b s1 hb => ?_⟩
    cases (hb.mpr (tr.trP ok))
    obtain ⟨k, ts, hs1, hk1, hp1⟩ := hs.same s1
    refine ⟨true, rfl, iteF ⟨.ref sk, rfl, sk, _, rfl, .inl (.inl hs1), rfl, _, _, rfl, _, _, rfl, _, _, rfl, _, _, rfl, rfl, ?_⟩⟩
    refine ⟨.int x.m, rfl, _, _, rfl, rfl, false, congrArg V.bl (decide_eq_false (by omega)), iteF ?_⟩
    have pt := papZ_tree g pk (by omega)
    have hnm := pk.nm
    have hlay := pk.lay
    have htak := pk.tak
    have hlen := pk.len
    have hge := pk.ge
    have h0 := g.o0
    have hkp : ∀ e ∈ srtZ x.c, 1 ≤ e.2 := g.cts.pos
    have hks : sumC (srtZ x.c) ≤ x.m := by
      have h1 := g.lo
      have h2 : 0 ≤ (r + 1) * x.o := Int.mul_nonneg (by have := g.r1; omega) h0
      omega
    have hkn : 0 ≤ sumC (srtZ x.c) := sumC_nn fun e he => by
      have := hkp e he
      omega
    have hsl : ((sprd (srtZ x.c)).length : Int) = sumC (srtZ x.c) := sprd_len0 fun e he => by
      have := hkp e he
      omega
    obtain ⟨on, hon⟩ := Int.eq_ofNat_of_zero_le h0
    obtain ⟨rn, rfl⟩ := Int.eq_ofNat_of_zero_le (show 0 ≤ r by have := g.r1; omega)
    have hm2 : x.m ≤ 1000 := hm
    rw [hon, Int.toNat_natCast, Int.toNat_natCast] at hnm
    rw [hon, Int.toNat_natCast] at htak hge
    rw [hon, Int.toNat_natCast, Int.toNat_natCast] at hlay
    have hpap : papZ (rn : Int) x ys = paperL rn (srtZ x.c) (laysZ (srtZ x.c) ys on) := by
      unfold papZ
      rw [hon, Int.toNat_natCast, Int.toNat_natCast]
    rw [hpap] at q
    have onl : on ≤ 1000 := by omega
    -- the kept ones
    refine ⟨.ref k, rfl, k, ts, srtZ x.c, rfl, .inl hk1.seq, hp1, (fun e he => ?_), by omega, fun H2 p2 s2 hp2 => ⟨(by show 2 ≤ sizeLine; decide), fun b nb => ⟨(by show 1 ≤ sizeLine; decide), fun D nD => ?_⟩⟩⟩
    · have h1 := hkp e he
      have h2 := mem_le_sumC' hkp e he
      omega
    have s02 : Same H H2 := s1.trans s2
    have s3 := same_upd (o := .tup [.str (Str.ofString "stream"), .ref p2]) nb
    have hb3 : (upd H2 b (.tup [.str (Str.ofString "stream"), .ref p2])) b = some (.tup [.str (Str.ofString "stream"), .ref p2]) := upd_same
    generalize upd H2 b (.tup [.str (Str.ofString "stream"), .ref p2]) = H3 at s3 hb3 nD ⊢
    have s4 := same_upd (o := .lst [.ref b]) nD
    have hD4 : (upd H3 D (.lst [.ref b])) D = some (.lst [.ref b]) := upd_same
    generalize upd H3 D (.lst [.ref b]) = H4 at s4 hD4 ⊢
    have s14 : Same H1 H4 := fun b u e => s4 _ _ (s3 _ _ (s2 _ _ e))
    have s04 : Same H H4 := fun b u e => s14 _ _ (s1 _ _ e)
    have st0 : StpP K H4 (.ref b) (.put (sprd (srtZ x.c))) := ⟨b, p2, rfl, .inl (.inl (s4 _ _ hb3)), (hp2.same fun b u e => s4 _ _ (s3 _ _ e)), fun z hz => by
      obtain ⟨e, he, rfl⟩ := sprd_mem hz
      exact g.cts.nm e he, by omega⟩
    -- the layers
    have hlys : ys.length ≤ 50000 := by omega
    refine ⟨.ref sk, rfl, .ref t, rfl, sk, t, (rn : Int), x, ys, on, rfl, hs.same s04, ok, hr64, hon, by omega, ht.same s04, hlys, (fun e he => ?_), by omega, hge, fun H5 l ks s5 nl hl hks => ?_⟩
    · have := htak e he
      omega
    have lD : l ≠ D := (ne_of_none hD4 nl).symm
    have lks := Paired.length hks
    have lll : (laysZ (srtZ x.c) ys on).length = on := by unfold laysZ; rw [List.length_map, List.length_range]
    refine ⟨l, rfl, ⟨_, sql hl⟩, for_list (xs := ks.map V.ref) (fun i σ H6 => ∃ y7 : Option V, σ = [some (.ref sk), some (.ref t), some (.int (rn : Int)), some (.int x.m), some (.int x.o), some (.ref k), some (.ref D), y7] ∧ (∀ b u, b ≠ D → H5 b = some u → H6 b = some u) ∧ ∃ vs : List V, H6 D = some (.lst vs) ∧ Paired (StpP K H6) vs (.put (sprd (srtZ x.c)) :: ((laysZ (srtZ x.c) ys on).take i).flatMap (layS rn)))
      ⟨none, rfl, fun _ _ _ e => e, [.ref b], s5 _ _ hD4, .cons (st0.same s5) .nil⟩ (fun i σ H6 _ ⟨_, _, k6, _⟩ => sql (k6 _ _ lD hl)) ?_ ?_⟩
    · rintro i v σ H6 hi ⟨y7, rfl, k6, vs, hD6, hvs⟩
      obtain ⟨ly, hly, rfl⟩ := map_at hi
      obtain ⟨zs, hzs, hat⟩ := paired_at hks hly
      have hil := (List.getElem?_eq_some_iff.mp hzs).1
      obtain ⟨ob, ha1, ha2⟩ := hat
      have lyD : ly ≠ D := ne_of ha1 (s5 _ _ hD4) (by intro z; cases z)
      have hly6 : Ptp H6 ly (zs.map V.str) := ⟨ob, k6 _ _ lyD ha1, ha2⟩
      have zok := hlay.ok zs (List.mem_of_getElem? hzs)
      have zl : zs.length ≤ 1000 := by
        have hz := lay_mem (List.mem_of_getElem? hzs)
        obtain ⟨kk, hk1, rfl⟩ := hz
        rw [every_len (by omega) hk1 _ _ (Nat.le_refl _)]
        unfold plcN
        split
        · have := Nat.div_le_self ((sprd (takenC (srtZ x.c) ys)).length - kk - 1) on
          omega
        · omega
      have znm : ∀ z ∈ zs, Nm z := fun z hz => by
        by_cases hzt : z ∈ zs.take rn
        · exact hnm (zs.take rn) (List.mem_cons_of_mem _ (List.mem_flatMap.mpr ⟨zs, List.mem_of_getElem? hzs, List.mem_cons_self⟩)) z hzt
        · have hzd : z ∈ zs.drop rn := by
            rw [← List.take_append_drop rn zs] at hz
            exact (List.mem_append.mp hz).resolve_left hzt
          exact hnm (zs.drop rn) (List.mem_cons_of_mem _ (List.mem_flatMap.mpr ⟨zs, List.mem_of_getElem? hzs, List.mem_cons_of_mem _ List.mem_cons_self⟩)) z hzd
      have lvs := Paired.length hvs
      rw [List.length_cons, len_laysS, List.length_take] at lvs
      refine ⟨.ref D, rfl, .ref ly, rfl, .int (rn : Int), rfl, (rn : Int), rfl, ly, _, rfl, hly6, fun p1 H7 s7 hp1 => ⟨(by show 2 ≤ sizeLine; decide), fun b1 nb1 => ?_⟩⟩
      rw [cut_to, ← List.map_take] at hp1
      have t7 := same_upd (o := .tup [.str (Str.ofString "stream"), .ref p1]) nb1
      have hb1 : (upd H7 b1 (.tup [.str (Str.ofString "stream"), .ref p1])) b1 = some (.tup [.str (Str.ofString "stream"), .ref p1]) := upd_same
      have hp1' := hp1.same t7
      have s68 : Same H6 (upd H7 b1 (.tup [.str (Str.ofString "stream"), .ref p1])) := s7.trans t7
      generalize upd H7 b1 (.tup [.str (Str.ofString "stream"), .ref p1]) = H8 at hb1 hp1' s68 ⊢
      refine ⟨.ref ly, rfl, .int (rn : Int), rfl, (rn : Int), rfl, ly, _, rfl, hly6.same s68, fun p2 H9 s9 hp2 => ⟨(by show 2 ≤ sizeLine; decide), fun b2 nb2 => ?_⟩⟩
      rw [cut_from, ← List.map_drop] at hp2
      have t9 := same_upd (o := .tup [.str (Str.ofString "stream"), .ref p2]) nb2
      have hb2 : (upd H9 b2 (.tup [.str (Str.ofString "stream"), .ref p2])) b2 = some (.tup [.str (Str.ofString "stream"), .ref p2]) := upd_same
      have hp2' := hp2.same t9
      have s810 : Same H8 (upd H9 b2 (.tup [.str (Str.ofString "stream"), .ref p2])) := s9.trans t9
      generalize upd H9 b2 (.tup [.str (Str.ofString "stream"), .ref p2]) = H10 at hb2 hp2' s810 ⊢
      refine ⟨(by show 1 ≤ sizeLine; decide), fun b3 nb3 => ⟨(by show 1 ≤ sizeLine; decide), fun b4 nb4 => ⟨(by show 4 ≤ sizeLine; decide), fun L nL => ?_⟩⟩⟩
      have t3 := same_upd (o := .tup [.str (Str.ofString "pour")]) nb3
      have t4 := same_upd (o := .tup [.str (Str.ofString "pour")]) nb4
      have t5 := same_upd (o := .lst [.ref b1, .ref b2, .ref b3, .ref b4]) nL
      have hb3 : (upd H10 b3 (.tup [.str (Str.ofString "pour")])) b3 = some (.tup [.str (Str.ofString "pour")]) := upd_same
      have hb4 : (upd (upd H10 b3 (.tup [.str (Str.ofString "pour")])) b4 (.tup [.str (Str.ofString "pour")])) b4 = some (.tup [.str (Str.ofString "pour")]) := upd_same
      have hL : (upd (upd (upd H10 b3 (.tup [.str (Str.ofString "pour")])) b4 (.tup [.str (Str.ofString "pour")])) L (.lst [.ref b1, .ref b2, .ref b3, .ref b4])) L = some (.lst [.ref b1, .ref b2, .ref b3, .ref b4]) := upd_same
      have s1011 : Same H10 (upd (upd (upd H10 b3 (.tup [.str (Str.ofString "pour")])) b4 (.tup [.str (Str.ofString "pour")])) L (.lst [.ref b1, .ref b2, .ref b3, .ref b4])) := (t3.trans t4).trans t5
      have hb3' := t5 _ _ (t4 _ _ hb3)
      have hb4' := t5 _ _ hb4
      generalize upd (upd (upd H10 b3 (.tup [.str (Str.ofString "pour")])) b4 (.tup [.str (Str.ofString "pour")])) L (.lst [.ref b1, .ref b2, .ref b3, .ref b4]) = H11 at hL s1011 hb3' hb4' ⊢
      have s811 : Same H8 H11 := s810.trans s1011
      have s611 : Same H6 H11 := s68.trans s811
      have hD11 := s611 _ _ hD6
      refine ⟨D, L, vs, _, rfl, rfl, hD11, hL, (by rw [sizeLine_eq]; show vs.length + 4 ≤ _; omega), ?_⟩
      have stp : Paired (StpP K H11) (vs ++ [.ref b1, .ref b2, .ref b3, .ref b4]) (.put (sprd (srtZ x.c)) :: ((laysZ (srtZ x.c) ys on).take (i + 1)).flatMap (layS rn)) := by
        rw [laysZ_at hzs, List.flatMap_append, List.flatMap_cons, List.flatMap_nil, List.append_nil, ← List.cons_append]
        refine paired_app (paired_imp (fun _ _ h => h.same s611) hvs) ?_
        refine .cons ⟨b1, p1, rfl, .inl (.inl (s811 _ _ hb1)), (hp1'.same s811), fun z hz => znm z (List.mem_of_mem_take hz), by rw [List.length_take]; omega⟩ (.cons ⟨b2, p2, rfl, .inl (.inl (s1011 _ _ hb2)), (hp2'.same s1011), fun z hz => znm z (List.mem_of_mem_drop hz), by rw [List.length_drop]; omega⟩ (.cons ⟨b3, rfl, .inl (.inl hb3')⟩ (.cons ⟨b4, rfl, .inl (.inl hb4')⟩ .nil)))
      refine ⟨_, rfl, fun b u nb z => ?_, _, upd_same, paired_imp (fun _ _ h => h.put hD11) stp⟩
      rw [upd_ne nb]
      exact s611 _ _ (k6 b u nb z)
    · rintro σ H6 ⟨y7, rfl, k6, vs, hD6, hvs⟩
      rw [List.length_map, lks, List.take_length] at hvs
      have nD0 : H D = none := Same.gone (fun b u e => s3 _ _ (s2 _ _ (s1 _ _ e))) nD
      have s06 : Same H H6 := fun b u e => k6 _ _ (ne_of_none e nD0) (s5 _ _ (s04 _ _ e))
      refine ⟨.ref D, rfl, D, _, rfl, sql hD6, fun tt oo ntt dd => ?_⟩
      exact q _ tt vs (Same.new s06 ntt) ⟨oo, upd_same, dd⟩ (paired_imp (fun _ _ h => h.same (same_upd ntt)) hvs)
end
end Kb

namespace Kb
open PySem PySem.Spec PyProof.Rows L2 SrtZ SrtO
abbrev sbent : Stmt := topS 59
abbrev Nbent : List Str := ["_law_hand_here", "_law_told", "_law_truth_here", "_law_k", "_law_step", "_law_names", "_law_things", "_law_items", "_law_name", "_law_count", "_law_one"]
theorem scbent : FnScope ["_law_hand_here", "_law_told", "_law_truth_here", "_law_k", "_law_step", "_law_names", "_law_things", "_law_items", "_law_name", "_law_count", "_law_one"] ["_law_hand_here", "_law_told", "_law_truth_here"] (defScope sbent) := ⟨rfl, rfl, rfl, by decide +kernel, rfl, by decide +kernel, by decide +kernel⟩
abbrev Dnbent (K : PySem.W.Frag) (mg : Str → Option Value) := Dn K mg "_law_bent" sbent ["_law_hand_here", "_law_told", "_law_truth_here"]
/-! _law_bent -/
def Tv (K : PySem.W.Frag) (H : Hp) (v : V) : Prop := ∃ th, TrAt K H v th
theorem Tv.kp {K : PySem.W.Frag} {H H' : Hp} {v : V} (h : Tv K H v) (k : Kp K H H') : Tv K H' v := let ⟨th, h⟩ := h; ⟨th, h.kp k⟩
/-- a plain tuple of things that may be steps -/
def Wt (K : PySem.W.Frag) (H : Hp) (p : Addr) (n : Nat) : Prop := ∃ vs, Ptp H p vs ∧ vs.length ≤ n ∧ ∀ v ∈ vs, ∃ t, SxAt K H v t
theorem Wt.kp {K : PySem.W.Frag} {H H' : Hp} {p : Addr} {n : Nat} (h : Wt K H p n) (k : Kp K H H') : Wt K H' p n := by
  obtain ⟨vs, h1, h2, h3⟩ := h
  exact ⟨vs, k.p _ _ h1, h2, fun v hv => let ⟨t, h⟩ := h3 v hv; ⟨t, h.kp k⟩⟩
theorem sxs_of {K : PySem.W.Frag} {H : Hp} : ∀ {vs : List V}, (∀ v ∈ vs, ∃ t, SxAt K H v t) → ∃ l, Paired (SxAt K H) vs l
  | [], _ => ⟨[], .nil⟩
  | v :: vs, h => by
    obtain ⟨e, he⟩ := h v List.mem_cons_self
    obtain ⟨es, hs⟩ := sxs_of (vs := vs) fun y hy => h y (List.mem_cons_of_mem _ hy)
    exact ⟨e :: es, .cons he hs⟩
theorem Wt.tv {K : PySem.W.Frag} {H : Hp} {p : Addr} {n : Nat} (h : Wt K H p n) (hn : n ≤ 100000) : Tv K H (.ref p) := by
  obtain ⟨vs, h1, h2, h3⟩ := h
  obtain ⟨l, hl⟩ := sxs_of h3
  exact ⟨some l, p, vs, rfl, h1.seq, hl, by omega⟩
theorem cutV_mem {xs : List V} {lo hi : Option Int} {v : V} (h : v ∈ cutV xs lo hi) : v ∈ xs := by
  unfold cutV at h
  exact List.mem_of_mem_drop (List.mem_of_mem_take h)
theorem wt_sl {K : PySem.W.Frag} {H : Hp} {Q : VK} {t : Addr} {n : Nat} {lo hi : Option Int} (h : Wt K H t n) (q : ∀ p H', Same H H' → Wt K H' p n → Q (.ref p) H') : rSlP K (.ref t) lo hi H Q := by
  obtain ⟨vs, h1, h2, h3⟩ := h
  refine ⟨t, vs, rfl, h1, fun p H' s hp => q p H' s ⟨_, hp, Nat.le_trans (cutV_length _ _ _) h2, fun v hv => ?_⟩⟩
  obtain ⟨t, h⟩ := h3 v (cutV_mem hv)
  exact ⟨t, h.same s⟩
theorem wt_sln {K : PySem.W.Frag} {σ : L2.St} {H : Hp} {Q : VK} {t : Addr} {n : Nat} {lo : Option Int} (h : Wt K H t n) (q : ∀ p H', Same H H' → Wt K H' p n → Q (.ref p) H') : tNoPart σ H fun u H3 => rSlP K (.ref t) lo u H3 Q := wt_sl h q
theorem wt_ca {K : PySem.W.Frag} {H : Hp} {Q : VK} {a b : Addr} {n m : Nat} (h : Wt K H a n) (g : Wt K H b m) (hn : n + m ≤ 100000) (q : ∀ p H', Same H H' → Wt K H' p (n + m) → Q (.ref p) H') : rCatP K (.ref a) (.ref b) H Q := by
  obtain ⟨vs, h1, h2, h3⟩ := h
  obtain ⟨us, g1, g2, g3⟩ := g
  refine ⟨a, b, vs, us, rfl, rfl, h1, g1, by rw [sizeLine_eq]; omega, fun p H' s hp => q p H' s ⟨_, hp, by rw [List.length_append]; omega, fun v hv => ?_⟩⟩
  rcases List.mem_append.mp hv with hv | hv
  · obtain ⟨t, h⟩ := h3 v hv
    exact ⟨t, h.same s⟩
  · obtain ⟨t, h⟩ := g3 v hv
    exact ⟨t, h.same s⟩
theorem wt_rv {K : PySem.W.Frag} {H H' : Hp} {p : Addr} {n : Nat} {vs : List V} (h2 : vs.length ≤ n) (h3 : ∀ v ∈ vs, ∃ t, SxAt K H v t) (s : Same H H') (hp : Ptp H' p vs.reverse) : Wt K H' p n :=
  ⟨_, hp, by rw [List.length_reverse]; exact h2, fun v hv => let ⟨t, h⟩ := h3 v (List.mem_reverse.mp hv); ⟨t, h.same s⟩⟩
/-- what may stand behind the word -/
def OneAt (K : PySem.W.Frag) (H : Hp) (v : V) : Prop := ∃ b, v = .ref b ∧ ((∃ zs : List Str, SqT K H b (zs.map V.str) ∧ (∀ z ∈ zs, Nm z) ∧ zs.length ≤ 100000) ∨ ∃ ys, SqL K H b ys)
theorem OneAt.kp {K : PySem.W.Frag} {H H' : Hp} {v : V} (h : OneAt K H v) (k : Kp K H H') : OneAt K H' v := by
  obtain ⟨b, e, h⟩ := h
  refine ⟨b, e, ?_⟩
  rcases h with ⟨zs, h, r⟩ | ⟨ys, h⟩
  · exact .inl ⟨zs, k.t _ _ h, r⟩
  · exact .inr (k.l _ _ h)
theorem sx_one {K : PySem.W.Frag} {H : Hp} {u : Addr} {v : V} (h : SqT K H u [.str strmS, v]) (o : OneAt K H v) : ∃ t, SxAt K H (.ref u) t := by
  obtain ⟨b, rfl, ⟨zs, o1, o2, o3⟩ | ⟨ys, o⟩⟩ := o
  · exact ⟨some (.put zs), u, b, rfl, h, o1, o2, o3⟩
  · exact ⟨none, .inr (.inr ⟨u, rfl, .inr (.inr (.inr ⟨b, ys, h, o⟩))⟩)⟩
theorem sx_pour {K : PySem.W.Frag} {H : Hp} {u : Addr} (h : SqT K H u [.str pourS]) : ∃ t, SxAt K H (.ref u) t := ⟨some .pour, u, rfl, h⟩
theorem sx_list {K : PySem.W.Frag} {H : Hp} {u : Addr} {ys : List V} (h : SqL K H u ys) : ∃ t, SxAt K H (.ref u) t := ⟨none, .inr (.inr ⟨u, rfl, .inl ⟨ys, h⟩⟩)⟩
theorem wt_1 {K : PySem.W.Frag} {H : Hp} {p u : Addr} {ob : Obj} (np : H p = none) (ho : ob.dict = none) (h : ∃ t, SxAt K H (.ref u) t) : Wt K (upd H p (.frz ob (.tup [.ref u]))) p 1 :=
  ⟨_, ⟨ob, upd_same, ho⟩, Nat.le_refl _, fun v hv => by
    rw [List.mem_singleton.mp hv]
    obtain ⟨t, h⟩ := h
    exact ⟨t, h.same (same_upd np)⟩⟩
theorem wt_2 {K : PySem.W.Frag} {H : Hp} {p u u2 : Addr} {ob : Obj} (np : H p = none) (ho : ob.dict = none) (h : ∃ t, SxAt K H (.ref u) t) (h2 : ∃ t, SxAt K H (.ref u2) t) : Wt K (upd H p (.frz ob (.tup [.ref u, .ref u2]))) p 2 :=
  ⟨_, ⟨ob, upd_same, ho⟩, Nat.le_refl _, fun v hv => by
    rcases List.mem_cons.mp hv with rfl | hv
    · obtain ⟨t, h⟩ := h
      exact ⟨t, h.same (same_upd np)⟩
    · rw [List.mem_singleton.mp hv]
      obtain ⟨t, h⟩ := h2
      exact ⟨t, h.same (same_upd np)⟩⟩
theorem nmA : Nm (Str.ofString "a") := nm_of (l := [97]) (by decide +kernel) (by decide) (by decide) fun c hc => by
  simp only [List.mem_cons, List.not_mem_nil, or_false] at hc
  omega
theorem tv_snoc {K : PySem.W.Frag} {H H' : Hp} {xs : List V} {y : V} (A : ∀ v ∈ xs, Tv K H v) (s : Same H H') (h : Tv K H' y) : ∀ v ∈ xs ++ [y], Tv K H' v := fun v hv => by
  rcases List.mem_append.mp hv with hv | hv
  · exact (A v hv).kp (Same.kp s)
  · rw [List.mem_singleton.mp hv]
    exact h
/-- the things so far -/
def DAt (K : PySem.W.Frag) (H : Hp) (D : Addr) (n : Nat) : Prop := ∃ xs, H D = some (.lst xs) ∧ xs.length = n ∧ ∀ v ∈ xs, Tv K H v
theorem DAt.same {K : PySem.W.Frag} {H H' : Hp} {D : Addr} {n : Nat} (h : DAt K H D n) (s : Same H H') : DAt K H' D n := by
  obtain ⟨xs, h1, h2, h3⟩ := h
  exact ⟨xs, s _ _ h1, h2, fun v hv => (h3 v hv).kp (Same.kp s)⟩
theorem DAt.exw {K : PySem.W.Frag} {a c : Addr} {H H' : Hp} {D : Addr} {n : Nat} (h : DAt K H D n) (x : Exw a H H') (w0 : Wl a c H) (w1 : Wl a c H') (ne : D ≠ a) : DAt K H' D n := by
  obtain ⟨xs, h1, h2, h3⟩ := h
  exact ⟨xs, x _ _ ne h1, h2, fun v hv => (h3 v hv).kp (Exw.kp x w0 w1)⟩
theorem DAt.put {K : PySem.W.Frag} {H : Hp} {D I : Addr} {n : Nat} {xs ys : List V} (h : DAt K H D n) (hI : H I = some (.lst xs)) (ne : D ≠ I) : DAt K (upd H I (.lst ys)) D n := by
  obtain ⟨xs, h1, h2, h3⟩ := h
  exact ⟨xs, by rw [upd_ne ne]; exact h1, h2, fun v hv => (h3 v hv).kp (kp_putL hI)⟩
theorem da_ext {K : PySem.W.Frag} {H : Hp} {D : Addr} {n : Nat} {xs ys : List V} (hD : H D = some (.lst xs)) (hl : (xs ++ ys).length = n) (h : ∀ v ∈ xs, Tv K H v) (g : ∀ v ∈ ys, Tv K H v) : DAt K (upd H D (.lst (xs ++ ys))) D n :=
  ⟨_, upd_same, hl, fun v hv => by
    rcases List.mem_append.mp hv with hv | hv
    · exact (h v hv).kp (kp_putL hD)
    · exact (g v hv).kp (kp_putL hD)⟩
/-- what stays while the things are made -/
structure BtE (K : PySem.W.Frag) (a c t tr : Addr) (ys : Ct) (sv : V) (st : Stp) (b : Addr) (zs : List Str) (H0 H : Hp) : Prop where
  x : Exw a H0 H
  w : Wl a c H
  t : Wt K H t 5000
  tc : TupC H tr ys
  s : StpP K H sv st
  nm : Ptp H b (zs.map V.str)
theorem BtE.exw {K : PySem.W.Frag} {a c t tr : Addr} {ys : Ct} {sv : V} {st : Stp} {b : Addr} {zs : List Str} {H0 H H' : Hp} (E : BtE K a c t tr ys sv st b zs H0 H) (x : Exw a H H') (w1 : Wl a c H') : BtE K a c t tr ys sv st b zs H0 H' := by
  obtain ⟨us, h1, h2⟩ := E.tc.ob
  have k := Exw.kp (K := K) x E.w w1
  exact ⟨E.x.trans x, w1, E.t.kp k, ⟨us, k.p _ _ h1, paired_imp (fun _ _ h => x.at E.w h (by intro _ z; cases z)) h2⟩, E.s.kp k, k.p _ _ E.nm⟩
theorem BtE.same {K : PySem.W.Frag} {a c t tr : Addr} {ys : Ct} {sv : V} {st : Stp} {b : Addr} {zs : List Str} {H0 H H' : Hp} (E : BtE K a c t tr ys sv st b zs H0 H) (s : Same H H') : BtE K a c t tr ys sv st b zs H0 H' := E.exw (Same.exw s) (E.w.same s)
theorem BtE.put {K : PySem.W.Frag} {a c t tr : Addr} {ys : Ct} {sv : V} {st : Stp} {b D : Addr} {zs : List Str} {xs xs' : List V} {H0 H : Hp} (E : BtE K a c t tr ys sv st b zs H0 H) (hD : H D = some (.lst xs)) (n0 : H0 D = none) (ne : D ≠ a ∧ D ≠ c) : BtE K a c t tr ys sv st b zs H0 (upd H D (.lst xs')) := by
  obtain ⟨us, h1, h2⟩ := E.tc.ob
  have k := kp_putL (K := K) (ys := xs') hD
  exact ⟨E.x.put n0, E.w.put ne, E.t.kp k, ⟨us, k.p _ _ h1, paired_imp (fun _ _ h => by show _ = _; rw [upd_ne (ne_of h hD (by intro z; cases z))]; exact h) h2⟩, E.s.kp k, k.p _ _ E.nm⟩
section
variable {P : Program} {w : World} {K : PySem.W.Frag} {mg : Str → Option Value} {base : Heap}
def spBent (K : PySem.W.Frag) : Sp := fun vs H Q _ => ∃ (a c t tr : Addr) (us : List V) (l : List Stp) (ys : Ct), vs = [.ref a, .ref t, .ref tr] ∧ Wl a c H ∧ Ptp H t us ∧ Paired (StpP K H) us l ∧ 0 < l.length ∧ l.length ≤ 5000 ∧ TupC H tr ys ∧ (∀ e ∈ ys, 0 ≤ e.2 ∧ Nm e.1) ∧ sumC ys ≤ 1000 ∧ ys.length ≤ 1000 ∧
  ∀ H' v th, Exw a H H' → Wl a c H' → TrAt K H' v th → Q v H'
theorem ok_bent (T : Blt mg) (ddraw : Dndraw K mg) (ddeep : Dndeep K mg) (d : Dnbent K mg) : FnOk P w K mg base CX0 3 d.f d.fd ["_law_hand_here", "_law_told", "_law_truth_here"] (spBent K) := by
  have Gdraw : FnOk P w K mg base CX0 1 ddraw.f ddraw.fd ["_law_hand_here", "_law_many"] spDraw := ok_draw T ddraw
  have Gdeep : FnOk P w K mg base CX0 2 ddeep.f ddeep.fd ["_law_hand_here"] (spDeepT K) := ok_deepT T ddraw ddeep
  refine d.F.ok scbent (fun vs H Q E h => ?_) (fun cdv A outer s H vs Q E hr h => ?_)
  · obtain ⟨a, c, t, tr, us, l, ys, rfl, _⟩ := h
    rfl
  · obtain ⟨a, c, t, tr, us, l, ys, rfl, w0, ht, hus, l0, l1, htc, hys, hsum, hyl, q⟩ := h
    have lus := Paired.length hus
    refine ⟨_, (pss_cons (ps_asg (pe_call Gdraw (hr.mono (by omega)) (by rfl) ddraw.g ddraw.F.kp ddraw.b .nil pass0 (pa_cons (pv 0) (pa_cons (pe_callB call_len_seq (by rfl) T.n_len (by decide +kernel) (pa_cons (pv 1) pa_nil)) pa_nil))) (pg_name (i := 3) scbent.nd rfl (Or.inr rfl)))
    (pss_cons (ps_set (i := 4) scbent.nd rfl (Or.inl rfl) (pe_ix ix_tup (pv 1) (pv 3) (fun _ _ => rfl)))
    (C8.pss_cut (ps_set (i := 5) scbent.nd rfl (Or.inl rfl) (pe_ifExp (pt_cmpR op_eq (pe_callB call_len_seq (by rfl) T.n_len (by decide +kernel) (pa_cons (pv 4) pa_nil)) pe_int (nomark _)) (pe_ix ix_tup (pv 4) pe_int (fun _ _ => rfl)) (pe_tupF pa_nil)))
    (pss_cons (ps_set (i := 6) scbent.nd rfl (Or.inl rfl) (pe_lst (pa_cons (pv 1) (pa_cons (pe_op (r := rCatP K) op_catP (pe_slice (r := rSlP K) sl_tupP (pv 1) po_none (po_some (pv 3))) (pe_slice (r := rSlP K) sl_tupP (pv 1) (po_some (pe_op op_add (pv 3) pe_int)) po_none)) (pa_cons (pe_op (r := rCatP K) op_catP (pv 1) (pe_slice (r := rSlP K) sl_tupP (pv 1) (po_some (pv 3)) (po_some (pe_op op_add (pv 3) pe_int)))) (pa_cons (pe_revP (pv 1)) (pa_cons (pe_callTy call_list_of (by rfl) T.n_list (by decide +kernel) (pa_cons (pv 1) pa_nil)) (pa_cons pe_non (pa_cons (pe_slice (r := rSlP K) sl_tupP (pv 1) po_none (po_some (pe_un un_neg pe_int))) (pa_cons (pe_tup pa_nil) (pa_cons pe_str pa_nil)))))))))))
    (pss_cons (ps_expr (pe_bm PySem.F.plainAttrs_list PySem.F.slot_list_extend PySem.F.type_list_extend mt_extend (pv 6) (pa_cons (pe_lc (own := [("_law_one", 10)]) (g := gName 10) (tt := tYes) rfl scbent.nd (pi_tup (pe_tup (pa_cons (pe_slice (r := rSlP K) sl_tupP (pv 5) (po_some pe_int) po_none) (pa_cons (pe_op (r := rCatP K) op_catP (pv 5) (pe_tupF (pa_cons pe_str pa_nil))) (pa_cons (pe_callTy call_list_of (by rfl) T.n_list (by decide +kernel) (pa_cons (pv 5) pa_nil)) pa_nil))))) (blkOk_by (N := Nbent) (sc := defScope sbent) (by decide +kernel)) (fun _ _ _ _ _ => pg_name (i := 10) scbent.nd rfl (Or.inl rfl)) (fun _ _ _ _ _ => pts_nil) (fun _ _ _ _ _ => (pe_op (r := rCatP K) op_catP (pe_op (r := rCatP K) op_catP (pe_slice (r := rSlP K) sl_tupP (pv 1) po_none (po_some (pv 3))) (pe_tupF (pa_cons (pe_tup (pa_cons pe_str (pa_cons (pv 10) pa_nil))) pa_nil))) (pe_slice (r := rSlP K) sl_tupP (pv 1) (po_some (pe_op op_add (pv 3) pe_int)) po_none)))) pa_nil)))
    (pss_cons (ps_expr (pe_bm PySem.F.plainAttrs_list PySem.F.slot_list_extend PySem.F.type_list_extend mt_extend (pv 6) (pa_cons (pe_lst (pa_cons (pe_op (r := rCatP K) op_catP (pv 1) (pe_tupF (pa_cons (pe_tup (pa_cons pe_str (pa_cons (pe_tup pa_nil) pa_nil))) (pa_cons (pe_tup (pa_cons pe_str pa_nil)) pa_nil)))) (pa_cons (pe_call Gdeep (hr.mono (by omega)) (by rfl) ddeep.g ddeep.F.kp ddeep.b .nil pass0 (pa_cons (pv 0) pa_nil)) (pa_cons (pe_op (r := rCatP K) op_catP (pe_op (r := rCatP K) op_catP (pe_tupF (pa_cons (pe_tup (pa_cons pe_str (pa_cons (pe_tup pa_nil) pa_nil))) pa_nil)) (pv 1)) (pe_tupF (pa_cons (pe_tup (pa_cons pe_str pa_nil)) pa_nil))) pa_nil)))) pa_nil)))
    (pss_cons (ps_expr (pe_bm PySem.F.plainAttrs_list PySem.F.slot_list_extend PySem.F.type_list_extend mt_extend (pv 6) (pa_cons (pe_lst (pa_cons (pe_op (r := rCatP K) op_catP (pe_op (r := rCatP K) op_catP (pe_slice (r := rSlP K) sl_tupP (pv 1) po_none (po_some (pv 3))) (pe_tupF (pa_cons (pe_callTy call_list_of (by rfl) T.n_list (by decide +kernel) (pa_cons (pv 4) pa_nil)) pa_nil))) (pe_slice (r := rSlP K) sl_tupP (pv 1) (po_some (pe_op op_add (pv 3) pe_int)) po_none)) (pa_cons (pe_op (r := rCatP K) op_catP (pv 1) (pe_tupF (pa_cons (pe_tup (pa_cons pe_str pa_nil)) pa_nil))) pa_nil))) pa_nil)))
    (pss_cons (ps_set (i := 7) scbent.nd rfl (Or.inl rfl) (pe_lst pa_nil))
    (pss_cons (ps_for PassesOwn.never rfl (pi_tup (pv 2)) (pg_tup (by rfl) (pgs_cons (pg_name (i := 8) scbent.nd rfl (Or.inl rfl)) (pgs_cons (pg_name (i := 9) scbent.nd rfl (Or.inl rfl)) pgs_nil)))
      (pss_one (ps_expr (pe_bm PySem.F.plainAttrs_list PySem.F.slot_list_extend PySem.F.type_list_extend mt_extend (pv 7) (pa_cons (pe_op op_rep (pe_lst (pa_cons (pv 8) pa_nil)) (pv 9)) pa_nil)))))
    (pss_cons (ps_expr (pe_bm PySem.F.plainAttrs_list PySem.F.slot_list_append PySem.F.type_list_append mt_append (pv 6) (pa_cons (pe_tup (pa_cons (pe_tup (pa_cons pe_str (pa_cons (pe_callTy call_tupleF (by rfl) T.n_tuple (by decide +kernel) (pa_cons (pv 7) pa_nil)) pa_nil))) pa_nil)) pa_nil)))
    (pss_one (ps_ret (pe_ix ix_list (pv 6) (pe_call Gdraw (hr.mono (by omega)) (by rfl) ddraw.g ddraw.F.kp ddraw.b .nil pass0 (pa_cons (pv 0) (pa_cons pe_int pa_nil))) (fun _ _ => rfl)))))))))))))), ?_⟩
    refine ⟨.ref a, rfl, .ref t, rfl, t, _, rfl, .inr ht.seq, a, c, _, rfl, w0, (by omega), (by omega), fun H1 k x1 w1 k0 k1 => ?_⟩
    obtain ⟨k, rfl⟩ := Int.eq_ofNat_of_zero_le k0
    have kp1 := Exw.kp (K := K) x1 w0 w1
    have ht1 := kp1.p _ _ ht
    have hus1 : Paired (StpP K H1) us l := paired_imp (fun _ _ h => h.kp kp1) hus
    obtain ⟨sv, hsv⟩ : ∃ sv, us[k]? = some sv := ⟨us[k]'(by omega), List.getElem?_eq_getElem _⟩
    obtain ⟨st, hst, hat⟩ := paired_at hus1 hsv
    refine ⟨.ref t, rfl, .int (k : Int), rfl, t, _, _, sv, rfl, rfl, ht1.seq, atI_nat hsv, ?_⟩
    have wt1 : Wt K H1 t 5000 := ⟨us, ht1, by omega, fun v hv => by
      obtain ⟨j, hj⟩ := List.mem_iff_getElem?.mp hv
      obtain ⟨s, _, h⟩ := paired_at hus1 hj
      exact ⟨some s, h.at⟩⟩
    have tc1 : TupC H1 tr ys := by
      obtain ⟨vs, h1, h2⟩ := htc.ob
      exact ⟨vs, kp1.p _ _ h1, paired_imp (fun _ _ h => x1.at w0 h (by intro _ z; cases z)) h2⟩
    clear hus hus1 ht ht1 kp1 htc
    -- the names
    refine ⟨fun σ H2 => ∃ (b : Addr) (zs : List Str), σ = [some (.ref a), some (.ref t), some (.ref tr), some (.int (k : Int)), some sv, some (.ref b), none, none, none, none, none] ∧ BtE K a c t tr ys sv st b zs H H2 ∧ (∀ z ∈ zs, Nm z) ∧ zs.length ≤ 2000, ?_, ?_⟩
    · cases st with
      | put zs =>
        obtain ⟨p, b, rfl, h1, h2, h3, h4⟩ := hat
        refine ⟨.ref p, rfl, p, _, rfl, .inr h1, rfl, true, congrArg V.bl (decide_eq_true rfl), iteT ?_⟩
        exact ⟨.ref p, rfl, p, _, _, _, rfl, rfl, h1, atI_nat (j := 1) rfl, b, zs, rfl, ⟨x1, w1, wt1, tc1, ⟨p, b, rfl, h1, h2, h3, h4⟩, h2⟩, h3, h4⟩
      | pour =>
        obtain ⟨p, rfl, h1⟩ := hat
        refine ⟨.ref p, rfl, p, _, rfl, .inr h1, rfl, false, congrArg V.bl (decide_eq_false (by show ¬ V.int ((1 : Nat) : Int) = V.int 2; decide)), iteF ?_⟩
        refine ⟨(by show 0 ≤ sizeLine; decide), fun b ob nb ho => ⟨b, [], rfl, ?_, (fun _ h => nomatch h), Nat.zero_le _⟩⟩
        have s2 := same_upd (o := .frz ob (.tup [])) nb
        have k2 := Same.kp (K := K) s2
        exact ⟨x1.same s2, w1.same s2, wt1.kp k2, tc1.same s2, ⟨p, rfl, k2.t _ _ h1⟩, ⟨ob, upd_same, ho⟩⟩
    rintro σ H2 ⟨b, zs, rfl, E, hzn, hzl⟩
    clear wt1 tc1 w1 x1 hat w0
    -- nine things
    have A0 : ∀ v ∈ [V.ref t], Tv K H2 v := fun v hv => by
      rw [List.mem_singleton.mp hv]
      exact E.t.tv (by decide)
    refine ⟨.ref t, rfl, .ref t, rfl, .int (k : Int), rfl, (k : Int), rfl, wt_sl E.t fun p1 H3 s3 h1 => ?_⟩
    have E3 := E.same s3
    refine ⟨.ref t, rfl, .int (k : Int), rfl, (k : Int), 1, rfl, rfl, _, rfl, wt_sln E3.t fun p2 H4 s4 h2 => wt_ca (h1.kp (Same.kp s4)) h2 (by decide) fun p3 H5 s5 h3 => ?_⟩
    have E5 := (E3.same s4).same s5
    have A1 := tv_snoc A0 ((Same.trans s3 s4).trans s5) (h3.tv (by decide))
    clear A0 E E3 h1 h2 h3 s3 s4 s5
    refine ⟨.ref t, rfl, .ref t, rfl, .int (k : Int), rfl, (k : Int), rfl, .int (k : Int), rfl, (k : Int), 1, rfl, rfl, _, rfl, wt_sl E5.t fun p4 H6 s6 h4 => wt_ca (E5.same s6).t h4 (by decide) fun p5 H7 s7 h5 => ?_⟩
    have E7 := (E5.same s6).same s7
    have A2 := tv_snoc A1 (Same.trans s6 s7) (h5.tv (by decide))
    clear A1 E5 h4 h5 s6 s7
    obtain ⟨tvs7, ht7, hl7, ha7⟩ := E7.t
    refine ⟨.ref t, rfl, t, tvs7, rfl, ht7.seq, fun p6 H8 s8 hp6 => ?_⟩
    have E8 := E7.same s8
    have h6 := wt_rv hl7 ha7 s8 hp6
    have A3 := tv_snoc A2 s8 (h6.tv (by decide))
    clear A2 E7 h6 s8 ht7 hl7 ha7 hp6
    obtain ⟨tvs, ht8, _, _⟩ := E8.t
    refine ⟨.ref t, rfl, t, tvs, rfl, .inr ht8.seq, fun l9 n9 => ?_⟩
    have s9 := same_upd (o := .lst tvs) n9
    have hl9 : (upd H8 l9 (.lst tvs)) l9 = some (.lst tvs) := upd_same
    generalize upd H8 l9 (.lst tvs) = H9 at s9 hl9 ⊢
    have E9 := E8.same s9
    have A4 := tv_snoc A3 s9 (y := .ref l9) ⟨none, .inr (.inr ⟨l9, rfl, .inl ⟨_, .inl (.inl hl9)⟩⟩)⟩
    have A5 := tv_snoc A4 (Same.refl H9) (y := .non) ⟨none, .inl rfl⟩
    clear A3 A4 E8 ht8
    clear hl9 s9
    refine ⟨.ref t, rfl, 1, rfl, _, rfl, wt_sl E9.t fun p10 H10 s10 h10 => ?_⟩
    have E10 := E9.same s10
    have A6 := tv_snoc A5 s10 (h10.tv (by decide))
    clear A5 E9 h10 s10
    refine ⟨(by show 0 ≤ sizeLine; decide), fun p11 n11 => ?_⟩
    have s11 := same_upd (o := .tup []) n11
    have h11 : (upd H10 p11 (.tup [])) p11 = some (.tup []) := upd_same
    generalize upd H10 p11 (.tup []) = H11 at s11 h11 ⊢
    have E11 := E10.same s11
    have A7 := tv_snoc A6 s11 (y := .ref p11) ⟨some [], p11, [], rfl, .inl (.inl h11), .nil, Nat.zero_le _⟩
    have A8 := tv_snoc A7 (Same.refl H11) (y := .str (Str.ofString "tree")) ⟨none, .inr (.inl ⟨_, rfl⟩)⟩
    clear A6 A7 E10 s11 h11
    refine ⟨(by show 9 ≤ sizeLine; decide), fun D nD => ?_⟩
    have s12 := same_upd (o := .lst [.ref t, .ref p3, .ref p5, .ref p6, .ref l9, .non, .ref p10, .ref p11, .str (Str.ofString "tree")]) nD
    have hD12 : (upd H11 D (.lst [.ref t, .ref p3, .ref p5, .ref p6, .ref l9, .non, .ref p10, .ref p11, .str (Str.ofString "tree")])) D = some (.lst [.ref t, .ref p3, .ref p5, .ref p6, .ref l9, .non, .ref p10, .ref p11, .str (Str.ofString "tree")]) := upd_same
    generalize upd H11 D (.lst [.ref t, .ref p3, .ref p5, .ref p6, .ref l9, .non, .ref p10, .ref p11, .str (Str.ofString "tree")]) = H12 at s12 hD12 ⊢
    have Da := E11.w.ne2 nD
    have nD0 : H D = none := E11.x.gone Da.1 nD
    have E12 := E11.same s12
    have D12 : DAt K H12 D 9 := ⟨_, hD12, rfl, fun v hv => (A8 v hv).kp (Same.kp s12)⟩
    clear A8 E11 s12 hD12 nD
    -- three more
    obtain ⟨xs12, hx12, _, _⟩ := D12
    refine ⟨.ref D, rfl, .inl ⟨rfl, _, sql hx12⟩, .ref b, rfl, 1, rfl, b, _, rfl, E12.nm, fun o1 H13 s13 ho1 => ?_⟩
    have D12 : DAt K H12 D 9 := ⟨xs12, hx12, ‹_›, ‹_›⟩
    have E13 := E12.same s13
    have D13 := D12.same s13
    clear E12 D12 hx12
    have B1 : OneAt K H13 (.ref o1) := by
      unfold cutV at ho1
      rw [← List.map_drop, ← List.map_take] at ho1
      exact ⟨o1, rfl, .inl ⟨_, ho1.seq, fun z hz => hzn z (List.mem_of_mem_drop (List.mem_of_mem_take hz)), by rw [List.length_take, List.length_drop]; omega⟩⟩
    clear ho1 s13
    refine ⟨.ref b, rfl, (by show 1 ≤ sizeLine; decide), fun ua oba nua hoa => ?_⟩
    have s14 := same_upd (o := .frz oba (.tup [.str (Str.ofString "a")])) nua
    have ha14 : Ptp (upd H13 ua (.frz oba (.tup [.str (Str.ofString "a")]))) ua [.str (Str.ofString "a")] := ⟨oba, upd_same, hoa⟩
    generalize upd H13 ua (.frz oba (.tup [.str (Str.ofString "a")])) = H14 at s14 ha14 ⊢
    have E14 := E13.same s14
    have D14 := D13.same s14
    have B2 := B1.kp (Same.kp s14)
    clear E13 D13 B1 s14
    refine ⟨b, ua, _, _, rfl, rfl, E14.nm, ha14, by rw [List.length_map, sizeLine_eq]; show zs.length + 1 ≤ _; omega, fun o2 H15 s15 ho2 => ?_⟩
    have E15 := E14.same s15
    have D15 := D14.same s15
    have B3 := B2.kp (Same.kp s15)
    have B4 : OneAt K H15 (.ref o2) := by
      refine ⟨o2, rfl, .inl ⟨zs ++ [Str.ofString "a"], by rw [List.map_append]; exact ho2.seq, fun z hz => ?_, by rw [List.length_append]; show zs.length + 1 ≤ _; omega⟩⟩
      rcases List.mem_append.mp hz with hz | hz
      · exact hzn z hz
      · rw [List.mem_singleton.mp hz]
        exact nmA
    clear E14 D14 B2 ha14 ho2 s15
    refine ⟨.ref b, rfl, b, _, rfl, .inr E15.nm.seq, fun o3 no3 => ?_⟩
    have s16 := same_upd (o := .lst (zs.map V.str)) no3
    have ho16 : (upd H15 o3 (.lst (zs.map V.str))) o3 = some (.lst (zs.map V.str)) := upd_same
    generalize upd H15 o3 (.lst (zs.map V.str)) = H16 at s16 ho16 ⊢
    have E16 := E15.same s16
    have D16 := D15.same s16
    have C1 := B3.kp (Same.kp s16)
    have C2 := B4.kp (Same.kp s16)
    have C3 : OneAt K H16 (.ref o3) := ⟨o3, rfl, .inr ⟨_, .inl (.inl ho16)⟩⟩
    clear E15 D15 B3 B4 ho16 s16
    refine ⟨(by show 3 ≤ sizeLine; decide), fun u3 nu3 => ⟨u3, rfl, ⟨_, .inl (.inl upd_same)⟩, fun G nG => ?_⟩⟩
    have s17 := same_upd (o := .tup [.ref o1, .ref o2, .ref o3]) nu3
    have hu17 : SqT K (upd H16 u3 (.tup [.ref o1, .ref o2, .ref o3])) u3 [.ref o1, .ref o2, .ref o3] := .inl (.inl upd_same)
    generalize upd H16 u3 (.tup [.ref o1, .ref o2, .ref o3]) = H17 at s17 hu17 nG ⊢
    have E17 := E16.same s17
    have D17 := D16.same s17
    have O17 : ∀ v ∈ [V.ref o1, V.ref o2, V.ref o3], OneAt K H17 v := fun v hv => by
      simp only [List.mem_cons, List.not_mem_nil, or_false] at hv
      rcases hv with rfl | rfl | rfl
      · exact C1.kp (Same.kp s17)
      · exact C2.kp (Same.kp s17)
      · exact C3.kp (Same.kp s17)
    clear E16 D16 C1 C2 C3 s17
    refine lc_tup (xs := [.ref o1, .ref o2, .ref o3]) (fun i H3 => Same H17 H3 ∧ ∃ ws : List V, H3 G = some (.lst ws) ∧ ws.length = i ∧ ∀ v ∈ ws, Tv K H3 v) ⟨same_upd nG, [], upd_same, rfl, fun _ h => nomatch h⟩ (fun i H3 _ h => seqT hu17 h.1) (fun i v H3 hv h => ?_) (fun H18 h => ?_)
    · obtain ⟨s3, ws, hG, hwl, hws⟩ := h
      have hi := (List.getElem?_eq_some_iff.mp hv).1
      have hi3 : i < 3 := hi
      have O3 := (O17 v (List.mem_of_getElem? hv)).kp (Same.kp s3)
      have F3 := E17.same s3
      refine ⟨rfl, .ref t, rfl, .int (k : Int), rfl, (k : Int), rfl, wt_sl F3.t fun q1 G4 t4 g1 => ?_⟩
      refine ⟨v, rfl, (by show 2 ≤ sizeLine; decide), fun q2 nq2 => ⟨(by show 1 ≤ sizeLine; decide), fun q3 ob3 nq3 ho3 => ?_⟩⟩
      have t5 := same_upd (o := .tup [.str strmS, v]) nq2
      have sx := sx_one (K := K) (u := q2) (v := v) (H := upd G4 q2 (.tup [.str strmS, v])) (.inl (.inl upd_same)) ((O3.kp (Same.kp t4)).kp (Same.kp t5))
      have g3 := wt_1 nq3 ho3 sx
      have t6 := same_upd (o := .frz ob3 (.tup [.ref q2])) nq3
      have t46 := Same.trans t5 t6
      have F6 := (F3.same t4).same t46
      have g1' := g1.kp (Same.kp t46)
      have t36 := Same.trans t4 t46
      generalize upd (upd G4 q2 (.tup [.str strmS, v])) q3 (.frz ob3 (.tup [.ref q2])) = G6 at g3 F6 g1' t36 ⊢
      clear sx t4 t5 t6 t46 nq3 nq2 g1
      refine wt_ca g1' g3 (by decide) fun q4 G7 t7 g4 => ?_
      have F7 := F6.same t7
      refine ⟨.ref t, rfl, .int (k : Int), rfl, (k : Int), 1, rfl, rfl, _, rfl, wt_sln F7.t fun q5 G8 t8 g5 => wt_ca (g4.kp (Same.kp t8)) g5 (by decide) fun q6 G9 t9 g6 => ?_⟩
      have t39 := ((Same.trans t36 t7).trans t8).trans t9
      have hG9 := t39 _ _ hG
      refine ⟨_, hG9, by rw [hwl, sizeLine_eq]; omega, Same.put (Same.trans s3 t39) nG, ws ++ [.ref q6], upd_same, by rw [List.length_append, hwl]; rfl, fun y hy => ?_⟩
      have k9 := kp_putL (K := K) (ys := ws ++ [.ref q6]) hG9
      rcases List.mem_append.mp hy with hy | hy
      · exact ((hws y hy).kp (Same.kp t39)).kp k9
      · rw [List.mem_singleton.mp hy]
        exact (g6.tv (by decide)).kp k9
    obtain ⟨s18, ws, hG18, hwl, hws⟩ := h
    have E18 := E17.same s18
    have D18 := D17.same s18
    clear E17 D17 O17 hu17 s18
    obtain ⟨xs18, hx18, hxl18, hxa18⟩ := D18
    have hwl : ws.length = 3 := hwl
    refine ⟨D, G, xs18, ws, rfl, rfl, hx18, hG18, by rw [hxl18, hwl]; decide, ?_⟩
    have E19 := E18.put (xs' := xs18 ++ ws) hx18 nD0 Da
    have D19 := da_ext (n := 12) hx18 (by rw [List.length_append, hxl18, hwl]) hxa18 hws
    clear E18 hx18 hxl18 hxa18 hG18
    generalize upd H18 D (.lst (xs18 ++ ws)) = H19 at E19 D19 ⊢
    -- and three
    obtain ⟨xs19, hx19, hxl19, hxa19⟩ := D19
    refine ⟨.ref D, rfl, .inl ⟨rfl, _, sql hx19⟩, ?_⟩
    have D19 : DAt K H19 D 12 := ⟨xs19, hx19, hxl19, hxa19⟩
    clear hx19 hxl19 hxa19
    refine ⟨.ref t, rfl, (by show 0 ≤ sizeLine; decide), fun e1 ne1 => ⟨(by show 2 ≤ sizeLine; decide), fun e2 ne2 => ⟨(by show 1 ≤ sizeLine; decide), fun e3 ne3 => ⟨(by show 2 ≤ sizeLine; decide), fun e4 ob4 ne4 ho4 => ?_⟩⟩⟩⟩
    have s20 : Same H19 (upd (upd (upd H19 e1 (.tup [])) e2 (.tup [.str strmS, .ref e1])) e3 (.tup [.str pourS])) := Same.new (Same.new (same_upd ne1) ne2) ne3
    have f2 : ∃ st, SxAt K (upd (upd (upd H19 e1 (.tup [])) e2 (.tup [.str strmS, .ref e1])) e3 (.tup [.str pourS])) (.ref e2) st := sx_one (.inl (.inl (same_upd ne3 _ _ upd_same))) ⟨e1, rfl, .inl ⟨[], .inl (.inl ((Same.trans (same_upd ne2) (same_upd ne3)) _ _ upd_same)), (fun _ h => nomatch h), Nat.zero_le _⟩⟩
    have f3 : ∃ st, SxAt K (upd (upd (upd H19 e1 (.tup [])) e2 (.tup [.str strmS, .ref e1])) e3 (.tup [.str pourS])) (.ref e3) st := sx_pour (.inl (.inl upd_same))
    have f4 := wt_2 ne4 ho4 f2 f3
    have s21 : Same H19 (upd (upd (upd (upd H19 e1 (.tup [])) e2 (.tup [.str strmS, .ref e1])) e3 (.tup [.str pourS])) e4 (.frz ob4 (.tup [.ref e2, .ref e3]))) := Same.new s20 ne4
    clear f2 f3 s20 ne1 ne2 ne3 ne4
    refine wt_ca (H := upd (upd (upd (upd H19 e1 (.tup [])) e2 (.tup [.str strmS, .ref e1])) e3 (.tup [.str pourS])) e4 (.frz ob4 (.tup [.ref e2, .ref e3]))) (E19.same s21).t f4 (by decide) fun e5 H22 s22 f5 => ?_
    have E22 := E19.same (Same.trans s21 s22)
    have D22 := D19.same (Same.trans s21 s22)
    clear E19 D19 f4 s21 s22
    refine ⟨.ref a, rfl, a, c, rfl, E22.w, fun H23 dv dth x23 w23 hdv => ?_⟩
    have k23 := Exw.kp (K := K) x23 E22.w w23
    have E23 := E22.exw x23 w23
    have D23 := D22.exw x23 E22.w w23 Da.1
    have A1 : ∀ v ∈ [V.ref e5, dv], Tv K H23 v := fun v hv => by
      rcases List.mem_cons.mp hv with rfl | hv
      · exact (f5.tv (by decide)).kp k23
      · rw [List.mem_singleton.mp hv]
        exact ⟨dth, hdv⟩
    clear E22 D22 f5 hdv k23 w23 x23
    refine ⟨(by show 0 ≤ sizeLine; decide), fun g1 ng1 => ⟨(by show 2 ≤ sizeLine; decide), fun g2 ng2 => ⟨(by show 1 ≤ sizeLine; decide), fun g3 ob3 ng3 ho3 => ?_⟩⟩⟩
    have s24 : Same H23 (upd (upd H23 g1 (.tup [])) g2 (.tup [.str strmS, .ref g1])) := Same.new (same_upd ng1) ng2
    have f2 : ∃ st, SxAt K (upd (upd H23 g1 (.tup [])) g2 (.tup [.str strmS, .ref g1])) (.ref g2) st := sx_one (.inl (.inl upd_same)) ⟨g1, rfl, .inl ⟨[], .inl (.inl (same_upd ng2 _ _ upd_same)), (fun _ h => nomatch h), Nat.zero_le _⟩⟩
    have f3 := wt_1 ng3 ho3 f2
    have s25 : Same H23 (upd (upd (upd H23 g1 (.tup [])) g2 (.tup [.str strmS, .ref g1])) g3 (.frz ob3 (.tup [.ref g2]))) := Same.new s24 ng3
    generalize upd (upd (upd H23 g1 (.tup [])) g2 (.tup [.str strmS, .ref g1])) g3 (.frz ob3 (.tup [.ref g2])) = H25 at f3 s25 ⊢
    clear f2 s24 ng1 ng2 ng3
    have E25 := E23.same s25
    refine ⟨.ref t, rfl, wt_ca f3 E25.t (by decide) fun g4 H26 s26 f4 => ?_⟩
    have E26 := E25.same s26
    refine ⟨(by show 1 ≤ sizeLine; decide), fun g5 ng5 => ⟨(by show 1 ≤ sizeLine; decide), fun g6 ob6 ng6 ho6 => ?_⟩⟩
    have f5 : ∃ st, SxAt K (upd H26 g5 (.tup [.str pourS])) (.ref g5) st := sx_pour (.inl (.inl upd_same))
    have f6 := wt_1 ng6 ho6 f5
    have s27 : Same H26 (upd (upd H26 g5 (.tup [.str pourS])) g6 (.frz ob6 (.tup [.ref g5]))) := Same.new (same_upd ng5) ng6
    refine wt_ca (H := upd (upd H26 g5 (.tup [.str pourS])) g6 (.frz ob6 (.tup [.ref g5]))) (f4.kp (Same.kp s27)) f6 (by decide) fun g7 H28 s28 f7 => ?_
    have s2328 := ((Same.trans s25 s26).trans s27).trans s28
    have E28 := E23.same s2328
    have D28 := D23.same s2328
    have A2 := tv_snoc A1 s2328 (f7.tv (by decide))
    clear A1 E23 D23 E25 E26 f3 f4 f5 f6 f7 s2328 s25 s26 s27 s28 ng5 ng6
    refine ⟨(by show 3 ≤ sizeLine; decide), fun G nG => ?_⟩
    have s29 := same_upd (o := .lst [.ref e5, dv, .ref g7]) nG
    have hG29 : (upd H28 G (.lst [.ref e5, dv, .ref g7])) G = some (.lst [.ref e5, dv, .ref g7]) := upd_same
    generalize upd H28 G (.lst [.ref e5, dv, .ref g7]) = H29 at s29 hG29 ⊢
    have E29 := E28.same s29
    obtain ⟨xs29, hx29, hxl29, hxa29⟩ := D28.same s29
    refine ⟨D, G, xs29, _, rfl, rfl, hx29, hG29, by rw [hxl29, sizeLine_eq]; show 12 + 3 ≤ _; decide, ?_⟩
    have E30 := E29.put (xs' := xs29 ++ [.ref e5, dv, .ref g7]) hx29 nD0 Da
    have D30 := da_ext (n := 15) (ys := [.ref e5, dv, .ref g7]) hx29 (by rw [List.length_append, hxl29]; rfl) hxa29 fun v hv => (A2 v hv).kp (Same.kp s29)
    clear A2 E28 D28 s29 hG29 E29 hx29 hxl29 hxa29 nG
    generalize upd H29 D (.lst (xs29 ++ [.ref e5, dv, .ref g7])) = H30 at E30 D30 ⊢
    -- two more
    obtain ⟨xs30, hx30, hxl30, hxa30⟩ := D30
    refine ⟨.ref D, rfl, .inl ⟨rfl, _, sql hx30⟩, ?_⟩
    have D30 : DAt K H30 D 15 := ⟨xs30, hx30, hxl30, hxa30⟩
    clear hx30 hxl30 hxa30
    refine ⟨.ref t, rfl, .int (k : Int), rfl, (k : Int), rfl, wt_sl E30.t fun p1 H31 s31 h1 => ?_⟩
    have E31 := E30.same s31
    -- the step as a list
    obtain ⟨sx, hsx⟩ : ∃ sx, ∃ p, sv = .ref p ∧ SqT K H31 p sx := by
      have h := E31.s
      cases st with
      | put zs =>
        obtain ⟨p, _, rfl, h1, _⟩ := h
        exact ⟨_, p, rfl, h1⟩
      | pour =>
        obtain ⟨p, rfl, h1⟩ := h
        exact ⟨_, p, rfl, h1⟩
    obtain ⟨sp, hsv2, hsp⟩ := hsx
    refine ⟨sv, rfl, sp, sx, by rw [hsv2], .inr hsp, fun l32 n32 => ⟨(by show 1 ≤ sizeLine; decide), fun p2 ob2 n2 ho2 => ?_⟩⟩
    have f2 : ∃ st, SxAt K (upd H31 l32 (.lst sx)) (.ref l32) st := sx_list (.inl (.inl upd_same))
    have f3 := wt_1 n2 ho2 f2
    have s33 : Same H31 (upd (upd H31 l32 (.lst sx)) p2 (.frz ob2 (.tup [.ref l32]))) := Same.new (same_upd n32) n2
    refine wt_ca (H := upd (upd H31 l32 (.lst sx)) p2 (.frz ob2 (.tup [.ref l32]))) (h1.kp (Same.kp s33)) f3 (by decide) fun p3 H34 s34 f4 => ?_
    have E34 := (E31.same s33).same s34
    refine ⟨.ref t, rfl, .int (k : Int), rfl, (k : Int), 1, rfl, rfl, _, rfl, wt_sln E34.t fun p4 H35 s35 h4 => wt_ca (f4.kp (Same.kp s35)) h4 (by decide) fun p5 H36 s36 h5 => ?_⟩
    have s3036 := ((((Same.trans s31 s33).trans s34).trans s35).trans s36)
    have E36 := E30.same s3036
    have D36 := D30.same s3036
    clear E30 E31 E34 f2 f3 f4 h4 h1 s31 s33 s34 s35 s36 s3036 hsp n32 n2 D30
    refine ⟨.ref t, rfl, (by show 1 ≤ sizeLine; decide), fun g5 ng5 => ⟨(by show 1 ≤ sizeLine; decide), fun g6 ob6 ng6 ho6 => ?_⟩⟩
    have f5 : ∃ st, SxAt K (upd H36 g5 (.tup [.str pourS])) (.ref g5) st := sx_pour (.inl (.inl upd_same))
    have f6 := wt_1 ng6 ho6 f5
    have s37 : Same H36 (upd (upd H36 g5 (.tup [.str pourS])) g6 (.frz ob6 (.tup [.ref g5]))) := Same.new (same_upd ng5) ng6
    refine wt_ca (H := upd (upd H36 g5 (.tup [.str pourS])) g6 (.frz ob6 (.tup [.ref g5]))) (E36.same s37).t f6 (by decide) fun g7 H38 s38 f7 => ?_
    have s3638 := Same.trans s37 s38
    have E38 := E36.same s3638
    have D38 := D36.same s3638
    have A2 : ∀ v ∈ [V.ref p5, V.ref g7], Tv K H38 v := fun v hv => by
      rcases List.mem_cons.mp hv with rfl | hv
      · exact (h5.tv (by decide)).kp (Same.kp s3638)
      · rw [List.mem_singleton.mp hv]
        exact f7.tv (by decide)
    clear E36 D36 f5 f6 f7 h5 s37 s38 s3638 ng5 ng6
    refine ⟨(by show 2 ≤ sizeLine; decide), fun G nG => ?_⟩
    have s39 := same_upd (o := .lst [.ref p5, .ref g7]) nG
    have hG39 : (upd H38 G (.lst [.ref p5, .ref g7])) G = some (.lst [.ref p5, .ref g7]) := upd_same
    generalize upd H38 G (.lst [.ref p5, .ref g7]) = H39 at s39 hG39 ⊢
    have E39 := E38.same s39
    obtain ⟨xs39, hx39, hxl39, hxa39⟩ := D38.same s39
    refine ⟨D, G, xs39, _, rfl, rfl, hx39, hG39, by rw [hxl39, sizeLine_eq]; show 15 + 2 ≤ _; decide, ?_⟩
    have E40 := E39.put (xs' := xs39 ++ [.ref p5, .ref g7]) hx39 nD0 Da
    have D40 := da_ext (n := 17) (ys := [.ref p5, .ref g7]) hx39 (by rw [List.length_append, hxl39]; rfl) hxa39 fun v hv => (A2 v hv).kp (Same.kp s39)
    clear A2 E38 D38 s39 hG39 E39 hx39 hxl39 hxa39 nG
    generalize upd H39 D (.lst (xs39 ++ [.ref p5, .ref g7])) = H40 at E40 D40 ⊢
    -- the items
    refine ⟨(by show 0 ≤ sizeLine; decide), fun I nI => ?_⟩
    have s41 : Same H40 (upd H40 I (.lst [])) := same_upd nI
    have hI41 : (upd H40 I (.lst [])) I = some (.lst (([] : List Str).map V.str)) := upd_same
    have Ia := E40.w.ne2 nI
    generalize upd H40 I (.lst []) = H41 at s41 hI41 ⊢
    obtain ⟨vs, htr, hvs⟩ := E40.tc.ob
    have lvs := Paired.length hvs
    refine ⟨.ref tr, rfl, tr, rfl, ⟨_, (htr.same s41).seq⟩, for_tup (xs := vs.map V.ref) (fun i σ H4 => ∃ (y8 y9 : Option V) (zs2 : List Str), σ = [some (.ref a), some (.ref t), some (.ref tr), some (.int (k : Int)), some sv, some (.ref b), some (.ref D), some (.ref I), y8, y9, none] ∧ Same H40 H4 ∧ H4 I = some (.lst (zs2.map V.str)) ∧ (∀ z ∈ zs2, Nm z) ∧ (zs2.length : Int) + sumC (ys.drop i) = sumC ys)
      ⟨none, none, [], rfl, s41, hI41, (fun _ h => nomatch h), by rw [List.drop_zero]; show (0 : Int) + _ = _; omega⟩ (fun i σ H4 _ ⟨_, _, _, _, s4, _⟩ => (htr.same s4).seq) ?_ ?_⟩
    · rintro i v σ H4 hi ⟨y8, y9, zs2, rfl, s4, hI4, hz2, hln⟩
      obtain ⟨tp, htp, rfl⟩ := map_at hi
      obtain ⟨e, he, hat⟩ := paired_at hvs htp
      have hen := hys e (List.mem_of_getElem? he)
      have hil := (List.getElem?_eq_some_iff.mp he).1
      have hdr : ys.drop i = e :: ys.drop (i + 1) := by
        rw [List.drop_eq_getElem_cons hil]
        congr 1
        exact (List.getElem?_eq_some_iff.mp he).2
      have hdn : 0 ≤ sumC (ys.drop (i + 1)) := sumC_nn fun e he => (hys e (List.mem_of_mem_drop he)).1
      rw [hdr, sumC_cons'] at hln
      refine ⟨tp, _, rfl, .inl (.inl (s4 _ _ hat)), rfl, _, _, rfl, _, _, rfl, rfl, ?_⟩
      refine ⟨.ref I, rfl, .inl ⟨rfl, _, sql hI4⟩, .str e.1, rfl, (by show 1 ≤ sizeLine; decide), fun L nL => ?_⟩
      refine ⟨.int e.2, rfl, L, e.2, [.str e.1], rfl, rfl, upd_same, by omega, by omega, by rw [sizeLine_eq]; show 1 * _ ≤ _; omega, fun p np => ?_⟩
      rw [rep_flat]
      have s5 : Same H4 (upd (upd H4 L (.lst [.str e.1])) p (.lst (List.replicate e.2.toNat (V.str e.1)))) := Same.new (same_upd nL) np
      have hI5 := s5 _ _ hI4
      refine ⟨I, p, _, _, rfl, rfl, hI5, upd_same, by rw [List.length_map, List.length_replicate, sizeLine_eq]; omega, ?_⟩
      refine ⟨_, _, zs2 ++ List.replicate e.2.toNat e.1, rfl, Same.put (Same.trans s4 s5) nI, by rw [upd_same, List.map_append, List.map_replicate], fun z hz => ?_, ?_⟩
      · rcases List.mem_append.mp hz with hz | hz
        · exact hz2 z hz
        · rw [(List.mem_replicate.mp hz).2]
          exact hen.2
      · rw [List.length_append, List.length_replicate]
        push_cast
        have := hen.1
        omega
    rintro σ H42 ⟨y8, y9, zs2, rfl, s42, hI42, hz2, hln⟩
    rw [List.length_map, lvs, List.drop_length] at hln
    have hln2 : (zs2.length : Int) ≤ 1000 := by
      have : sumC ([] : Ct) = 0 := rfl
      omega
    have E42 := E40.same s42
    obtain ⟨xs42, hx42, hxl42, hxa42⟩ := D40.same s42
    clear E40 D40 htr hvs s41 hI41 nI
    refine ⟨.ref D, rfl, .inl ⟨rfl, _, sql hx42⟩, .ref I, rfl, I, _, rfl, sql hI42, fun tt ob ntt ho => ⟨(by show 2 ≤ sizeLine; decide), fun bb nbb => ⟨(by show 1 ≤ sizeLine; decide), fun pp npp => ?_⟩⟩⟩
    have s43 : Same H42 (upd (upd (upd H42 tt (.frz ob (.tup (zs2.map V.str)))) bb (.tup [.str strmS, .ref tt])) pp (.tup [.ref bb])) := Same.new (Same.new (same_upd ntt) nbb) npp
    have h43 : Tv K (upd (upd (upd H42 tt (.frz ob (.tup (zs2.map V.str)))) bb (.tup [.str strmS, .ref tt])) pp (.tup [.ref bb])) (.ref pp) := by
      refine ⟨some [some (.put zs2)], pp, [.ref bb], rfl, .inl (.inl upd_same), .cons ⟨bb, tt, rfl, .inl (.inl (same_upd npp _ _ upd_same)), .inl (.inr ⟨ob, (Same.trans (same_upd nbb) (same_upd npp)) _ _ upd_same⟩), hz2, by omega⟩ .nil, by show 1 ≤ 100000; decide⟩
    generalize upd (upd (upd H42 tt (.frz ob (.tup (zs2.map V.str)))) bb (.tup [.str strmS, .ref tt])) pp (.tup [.ref bb]) = H43 at s43 h43 ⊢
    have hx43 := s43 _ _ hx42
    refine ⟨D, xs42, .ref pp, rfl, rfl, hx43, by rw [hxl42]; decide, ?_⟩
    have E44 := (E42.same s43).put (xs' := xs42 ++ [.ref pp]) hx43 nD0 Da
    obtain ⟨xs44, hx44, hxl44, hxa44⟩ := da_ext (n := 18) (ys := [.ref pp]) hx43 (by rw [List.length_append, hxl42]; rfl) (fun v hv => (hxa42 v hv).kp (Same.kp s43)) fun v hv => (by rw [List.mem_singleton.mp hv]; exact h43)
    clear hxl42 hxa42 hx43 h43 s43 hx42 E42
    generalize upd H43 D (.lst (xs42 ++ [.ref pp])) = H44 at E44 hx44 hxa44 ⊢
    refine ⟨.ref D, rfl, .ref a, rfl, a, c, 18, rfl, E44.w, (by decide), (by decide), fun H45 r x45 w45 r0 r1 => ?_⟩
    obtain ⟨r, rfl⟩ := Int.eq_ofNat_of_zero_le r0
    obtain ⟨rv, hrv⟩ : ∃ rv, xs44[r]? = some rv := ⟨xs44[r]'(by omega), List.getElem?_eq_getElem _⟩
    obtain ⟨th, hth⟩ := (hxa44 rv (List.mem_of_getElem? hrv)).kp (Exw.kp (K := K) x45 E44.w w45)
    exact ⟨D, _, _, rv, rfl, rfl, sql (x45 _ _ Da.1 hx44), atI_nat hrv, q H45 rv th (E44.x.trans x45) w45 hth⟩
end
end Kb

namespace Kb
open PySem PySem.Spec PyProof.Rows L2
/-! try: .. except A as n: .. except ..: where each error of the body is A's -/
def wFirst (K : PySem.W.Frag) (c : Value) (i : Nat) (ts : Addr → Value → Option Addr → TS) (D : Ends) : WX := fun cls d σ H =>
  PySem.W.exmOne K cls c = some true ∧ ∀ a, H a = none → ts a cls d { nx := fun σ' H' => D.nx (σ'.set i none) H', rt := D.rt, bk := fun σ' H' => D.bk (σ'.set i none) H', ct := fun σ' H' => D.ct (σ'.set i none) H' } (σ.set i (some (.ref a))) H
section
variable {X : Cx} {x n : Str} {c : Value} {i : Nat} {body rest : List Stmt} {first : Stmt} {more : List ExceptHandler} {np pos hpos : Pos} {tb : WX → TS} {ts : Addr → Value → Option Addr → TS}
theorem ps_try_first (stk : X.stack = X.env :: X.outer) (frm : X.env.frame = some X.env.locals) (nd : X.N.Nodup) (at_ : X.N[i]? = some n) (loc : X.env.kindOf n = some .local) (nam : Names X x c)
    (runs : ∀ (W : WX) (pn : List (Addr × Obj)) (way : Value → Shared → Prop), L2.Takes (X.tr pn way) W → PassesOwn (model X.prog X.w) X.A X.env way → PSs (X.tr pn way) body (tb W))
    (caught : ∀ (a : Addr) (oe : Obj) (cls : Value) (d : Option Addr) (pn : List (Addr × Obj)), Zc cls d oe → (∃ vs, oe.data = .fields vs) → PSs (X.suite a ((a, oe) :: pn)) (first :: rest) (ts a cls d)) :
    PS X (.Try body (.ExceptHandler (some (.Name x np)) (some n) (first :: rest) hpos :: more) [] [] pos) (fun D σ H => tb (wFirst X.K c i ts D) D σ H) := by
  refine ⟨fun pins s σ H D I reads => ?_⟩
  have good := I.ok
  have fr : X.A.frames = some (X.env :: X.outer) := by rw [good.frames, stk]
  refine wpAny_Try_except ?_
  have whole := (runs (wFirst X.K c i ts D) (X.pn ++ pins) (fun e t1 => wpAny (model X.prog X.w) X.A (noteFrame e X.env) (fun _ t2 => wpAny (model X.prog X.w) X.A (setFlight e none) (fun _ t3 =>
    wpAny (model X.prog X.w) X.A (handleBy e X.env (.ExceptHandler (some (.Name x np)) (some n) (first :: rest) hpos :: more)) (SP X pins D) X.xe t3) X.xe t2) X.xe t1) (fun u s' air => ?_) PassesOwn.looking).run [] s σ H D (I.toTry _) reads
  · refine wpAny_mono whole (fun fl s1 got => ?_) fun _ _ z => z
    cases fl with
    | next => exact wpAny_execs_nil (let ⟨σ', H', J, q⟩ := got; ⟨σ', H', J.ofTry good, q⟩)
    | brk => exact let ⟨σ', H', J, q⟩ := got; ⟨σ', H', J.ofTry good, q⟩
    | cont => exact let ⟨σ', H', J, q⟩ := got; ⟨σ', H', J.ofTry good, q⟩
    | ret u => exact let ⟨v, σ', H', J, r, q⟩ := got; ⟨v, σ', H', J.ofTry good, r, q⟩
  · obtain ⟨a, B, sI, pins1, σ1, H1, cls, d, eu, J0, ground, up, sky, na, os, ag, yes, suite⟩ := air
    subst eu
    have J : L2.Inv X pins σ1 H1 sI := J0.ofTry good
    have sky : Sky B X.stack a (Zc cls d) X.env.locals s'.heap := sky
    rw [stk] at sky
    show wpAny (model X.prog X.w) X.A (noteFrame (.ref a) X.env) _ _ s'
    refine Sky.land Zc.steady fr frm sky fun g3 fly3 up3 => ?_
    have J3 : L2.Inv X pins σ1 H1 { s' with heap := g3 } := J.landed ground fly3.1 (up.trans up3) os ag
    obtain ⟨o3, v3, e3, z3, d3⟩ := fly3.there
    have offFrames : a ∉ frs (X.env :: X.outer) := fun hm => by
      obtain ⟨_, o', e', nofields⟩ := fly3.2.2.1.mem hm
      rw [e3] at e'
      cases e'
      exact nofields _ d3
    have offL : a ≠ X.env.locals := fun z => offFrames (List.mem_filterMap.mpr ⟨X.env, List.mem_cons_self, by rw [frm, z]⟩)
    have offF : a ∉ X.fs := fun hm => by
      obtain ⟨e, he, q⟩ := List.mem_filterMap.mp hm
      exact offFrames (List.mem_filterMap.mpr ⟨e, List.mem_cons_of_mem _ he, q⟩)
    have in3 := J3.suite e3 d3 na offL offF
    refine wpAny_handleBy_cons (codeAny_handlers_test ?_) (by intro q; cases q)
    have its : PySem.W.Looks (model X.prog X.w) g3 (typeOf (.ref a)) cls := fun _ _ _ _ keep q => wpAny_typeOf_ref (keep _ _ e3) (by rw [z3.1]; exact q)
    have asks := PySem.W.exm_one (M := model X.prog X.w) J3.kIn its yes
    have named : ∀ {R : Value → Shared → Prop} {way : Value → Shared → Prop}, R c { s' with heap := g3 } → wpAny (model X.prog X.w) (X.A.mark (some (.ref a))) (eval (.Name x np) X.env) R way { s' with heap := g3 } := fun {R way} q =>
      match nam with
      | ⟨gl, nodebug, .inl own⟩ => ld_glob (X := X.suite a ((a, o3) :: (X.pn ++ pins))) in3 gl own q nodebug
      | ⟨gl, nodebug, .inr ⟨none_, boot, nonm⟩⟩ => ld_blt (X := X.suite a ((a, o3) :: (X.pn ++ pins))) in3 gl none_ boot q nonm nodebug
    refine named (asks.here (codeAny_handlers_suite_as (HandSPX.lands_againZ fly3 fun g4 fly4 up4 => ?_)))
    have J4 : L2.Inv X pins σ1 H1 { s' with heap := g4 } := J.landed ground fly4.1 ((up.trans up3).trans up4) os ag
    obtain ⟨o4, v4, e4, z4, d4⟩ := fly4.there
    refine store_ok (X := X.suite a ((a, o4) :: (X.pn ++ pins))) (v := .ref a) (J4.suite e4 d4 na offL offF) nd at_ (.inl loc) rfl (fun s5 in5 => ?_) (.inr loc)
    refine wpAny_mono ((caught a o4 cls d (X.pn ++ pins) z4 ⟨_, d4⟩).run [] s5 _ H1 _ in5 (suite a na)) (fun fl s6 got => ?_) fun _ _ z => z.elim
    have over : ∀ {σ6 : L2.St} {H6 : Hp} {R : Shared → Prop}, L2.Inv (X.suite a ((a, o4) :: (X.pn ++ pins))) [] σ6 H6 s6 → (∀ s7, L2.Inv X pins (σ6.set i none) H6 s7 → R s7) →
        wpAny (model X.prog X.w) X.A (do bindName X.env n .none; unbindBehindTheSuite X.env n hpos) (fun _ s7 => R s7) X.xe s6 := fun in6 q => gone_ok (in6.unsuite good) nd at_ loc q
    cases fl with
    | next => exact let ⟨_, _, in6, q6⟩ := got; over in6 fun _ J7 => ⟨_, _, J7, q6⟩
    | brk => exact let ⟨_, _, in6, q6⟩ := got; over in6 fun _ J7 => ⟨_, _, J7, q6⟩
    | cont => exact let ⟨_, _, in6, q6⟩ := got; over in6 fun _ J7 => ⟨_, _, J7, q6⟩
    | ret u => exact let ⟨_, _, _, in6, r6, q6⟩ := got; over in6 fun _ J7 => ⟨_, _, _, J7, r6, q6⟩
end
end Kb

namespace Kb
open PySem PySem.Spec PyProof.Rows L2 SrtZ SrtO
abbrev sMany : Stmt := inClass (topS 6) 0
theorem scMany : FnScope ["self", "most"] ["self", "most"] (defScope sMany) := ⟨rfl, rfl, rfl, by decide +kernel, rfl, by decide +kernel, by decide +kernel⟩
/-! TooMany(most) -/
structure TxMany (K : PySem.W.Frag) (mg : Str → Option Value) where
  C : Addr
  fI : Addr
  fdI : FuncData
  oex : OexC K C
  iC : PySem.W.findIn K (.ref C) "__init__" = some (some (.ref fI))
  tI : PySem.W.typeIn K (.ref fI) = some (.type "function")
  F : Fun K "__init__" "TooMany.__init__" sMany fI fdI
  b : Binds K fdI ["self", "most"] []
  gC : mg "TooMany" = some (.ref C)
  noP : PySem.W.findIn K (.ref C) "most" = some none
  te : PySem.W.exmOne K (.ref C) (.ref C) = some true
def spInit (C : Addr) : Sp := fun vs H Q _ => ∃ (a : Addr) (y : V), vs = [.ref a, y] ∧ H a = some (exo a C none) ∧ ∀ dx, H dx = none → dx ≠ a → Q .non (upd (upd H dx (exd dx [(("most" : Str), y)])) a (exo a C (some dx)))
theorem bad_post {C : Addr} {y : V} {H1 : Hp} {W : XK} (h : ∀ d H', Same H1 H' → H' d = some (.xd [(("most" : Str), y)]) → W (.ref C) (some d) H') :
    ([y] : List V).length ≤ 1000 ∧ ∀ a, H1 a = none → spInit C (.ref a :: ([y] ++ [])) (upd H1 a (exo a C none))
      (fun v H2 => v = .non ∧ ∃ (d : Addr) (fs : List (Str × V)), H2 a = some (exo a C (some d)) ∧ H2 d = some (exd d fs) ∧ H1 d = none ∧ W (.ref C) (some d) (upd (del H2 a) d (.xd fs))) (fun _ _ _ => False) := by
  refine ⟨(by decide : 1 ≤ 1000), fun a na => ⟨a, y, rfl, upd_same, fun dx nd ne => ⟨rfl, dx, [(("most" : Str), y)], upd_same, ?_, ?_, ?_⟩⟩⟩
  · rw [upd_ne ne, upd_same]
  · rw [upd_ne ne] at nd
    exact nd
  · refine h dx _ (fun b o e => ?_) upd_same
    have nd' : H1 dx = none := by
      rw [upd_ne ne] at nd
      exact nd
    have h1 : b ≠ a := ne_of_none e na
    have h2 : b ≠ dx := ne_of_none e nd'
    rw [upd_ne h2, del_ne h1, upd_ne h1, upd_ne h2, upd_ne h1]
    exact e
section
variable {P : Program} {w : World} {K : PySem.W.Frag} {mg : Str → Option Value} {base : Heap}
theorem ok_init (B : TxMany K mg) : FnOk P w K mg base CX0 1 B.fI B.fdI ["self", "most"] (spInit B.C) := by
  refine B.F.ok scMany (fun vs H Q E h => ?_) (fun cdv A outer s H vs Q E hr h => ?_)
  · obtain ⟨a, y, rfl, _⟩ := h
    rfl
  · obtain ⟨a, y, rfl, ea, q⟩ := h
    refine ⟨_, (pss_one (ps_ost (pv 0) (pv 1))), ?_⟩
    exact ⟨y, rfl, .ref a, rfl, a, B.C, rfl, B.oex, B.noP, .inl ⟨ea, fun dx nd ne => q dx nd ne⟩⟩
/-! paper of a great sketch -/
def spPaperX (K : PySem.W.Frag) (C : Addr) : Sp := fun vs H _ E => ∃ (s t : Addr) (r : Int) (x : Tl) (ys : Ct), vs = [.ref s, .ref t] ∧ SkA H s r x ∧ 1500 < x.m ∧ TupC H t ys ∧ TrOf x ys ∧ ys.length ≤ 1000 ∧
  ∀ d H', Same H H' → H' d = some (.xd [(("most" : Str), .int 1500)]) → E (.ref C) (some d) H'
theorem ok_paperX (T : Blt mg) (B : TxMany K mg) (cM : Cst mg "MOST_ROOM" (.int 64)) (cL : Cst mg "LONGEST_NAME" (.int 8)) (cI : Cst mg "MOST_ITEMS_truths" (.int 1500)) (dP_is_int : DnIsInt K mg) (dP_is_number : DnIsNumber K mg) (dP_is_room : DnIsRoom K mg) (dP_is_name : DnIsName K mg) (dP_is_counted : DnIsCounted K mg) (dP_are_counts : DnAreCounts K mg)
    (dP_lost_of : DnLostOf K mg) (dP_is_sketch : DnIsSketch K mg) (dP_is_truth : DnIsTruth K mg) (d : DnPaper K mg) : FnOk P w K mg base (L2.CX P w) 6 d.f d.fd ["sketch", "truth"] (spPaperX K B.C) := by
  have GP_is_truth : FnOk P w K mg base CX0 5 dP_is_truth.f dP_is_truth.fd ["sketch", "thing"] (spIsTruth K) := ok_is_truth T cM cL dP_is_int dP_is_number dP_is_room dP_is_name dP_is_counted dP_are_counts dP_lost_of dP_is_sketch dP_is_truth
  have GInit : FnOk P w K mg base CX0 1 B.fI B.fdI ["self", "most"] (spInit B.C) := ok_init B
  refine d.F.okX scP_paper (fun vs H Q E h => ?_) (fun cdv A outer s H vs Q E hr h => ?_)
  · obtain ⟨s, t, r, x, ys, rfl, _⟩ := h
    rfl
  · obtain ⟨sk, t, r, x, ys, rfl, ⟨hs, ok, g⟩, hm, ht, tr, hyl, q⟩ := h
    have hr64 := g.r64
    refine ⟨_, (pss_cons (ps_if (pt_not (pt_val (pe_call GP_is_truth (hr.mono (by omega)) (by rfl) dP_is_truth.g dP_is_truth.F.kp dP_is_truth.b .nil pass0 (pa_cons (pv 0) (pa_cons (pv 1) pa_nil)))))
      (pss_one ps_never)
      pss_nil)
    (pss_cons (ps_asg (pv 0) (pg_tup (by rfl) (pgs_cons (pg_name (i := 2) scP_paper.nd rfl (Or.inl rfl)) (pgs_cons (pg_name (i := 3) scP_paper.nd rfl (Or.inl rfl)) (pgs_cons (pg_name (i := 4) scP_paper.nd rfl (Or.inl rfl)) (pgs_cons (pg_name (i := 5) scP_paper.nd rfl (Or.inl rfl)) pgs_nil))))))
    (pss_cons (ps_if (pt_cmpR op_gt (pv 3) (pe_glob rfl cI.g cI.r) (nomark _))
      (pss_one (ps_raise rfl (takes_of rfl rfl rfl rfl) (pmk_oex B.oex B.iC B.tI GInit (hr.mono (by omega)) B.b .nil pass0 rfl B.gC (pa_cons (pe_glob rfl cI.g cI.r) pa_nil))))
      pss_nil)
    pss_never))), ?_⟩
    refine ⟨.ref sk, rfl, .ref t, rfl, sk, .ref t, r, x, _, rfl, hs, ok, hr64, g.yes, ht.th tr.nm hyl, fun H1 b s1 hb => ?_⟩
    cases (hb.mpr (tr.trP ok))
    obtain ⟨k, ts, hs1, hk1, hp1⟩ := hs.same s1
    refine ⟨true, rfl, iteF ⟨.ref sk, rfl, sk, _, rfl, .inl (.inl hs1), rfl, _, _, rfl, _, _, rfl, _, _, rfl, _, _, rfl, rfl, ?_⟩⟩
    refine ⟨.int x.m, rfl, _, _, rfl, rfl, true, congrArg V.bl (decide_eq_true (by omega)), iteT ?_⟩
    exact bad_post fun d H' s' e' => q d H' (Same.trans s1 s') e'
end
end Kb

namespace Kb
open PySem PySem.Spec PyProof.Rows L2 SrtZ SrtO
abbrev sword : Stmt := topS 60
abbrev Nword : List Str := ["_law_sketch_here", "_law_truth_here", "_law_thing", "_law_which", "_law_told", "e"]
theorem scword : FnScope ["_law_sketch_here", "_law_truth_here", "_law_thing", "_law_which", "_law_told", "e"] ["_law_sketch_here", "_law_truth_here", "_law_thing", "_law_which"] (defScope sword) := ⟨rfl, rfl, rfl, by decide +kernel, rfl, by decide +kernel, by decide +kernel⟩
abbrev Dnword (K : PySem.W.Frag) (mg : Str → Option Value) := Dn K mg "_law_word" sword ["_law_sketch_here", "_law_truth_here", "_law_thing", "_law_which"]
theorem lookup_most (v : V) : List.lookup ("most" : Str) [(("most" : Str), v)] = some v := by simp [List.lookup]
section
variable {P : Program} {w : World} {K : PySem.W.Frag} {mg : Str → Option Value} {base : Heap}
def spWord : Sp := fun vs H Q _ => ∃ (s t : Addr) (v : V) (r : Int) (x : Tl) (ys : Ct), vs = [.ref s, .ref t, v, .int 0] ∧ SkA H s r x ∧ 1500 < x.m ∧ TupC H t ys ∧ TrOf x ys ∧ ys.length ≤ 1000 ∧
  ∀ p H', Same H H' → H' p = some (.tup [.str (Str.ofString "many"), .int 1500]) → Q (.ref p) H'
theorem ok_word (T : Blt mg) (B : TxMany K mg) (X1 : XfC K B.C) (cM : Cst mg "MOST_ROOM" (.int 64)) (cL : Cst mg "LONGEST_NAME" (.int 8)) (cI : Cst mg "MOST_ITEMS_truths" (.int 1500)) (dP_is_int : DnIsInt K mg) (dP_is_number : DnIsNumber K mg) (dP_is_room : DnIsRoom K mg) (dP_is_name : DnIsName K mg) (dP_is_counted : DnIsCounted K mg) (dP_are_counts : DnAreCounts K mg)
    (dP_lost_of : DnLostOf K mg) (dP_is_sketch : DnIsSketch K mg) (dP_is_truth : DnIsTruth K mg) (dP_paper : DnPaper K mg) (d : Dnword K mg) : FnOk P w K mg base CX0 7 d.f d.fd ["_law_sketch_here", "_law_truth_here", "_law_thing", "_law_which"] spWord := by
  have GP_paper : FnOk P w K mg base (L2.CX P w) 6 dP_paper.f dP_paper.fd ["sketch", "truth"] (spPaperX K B.C) := ok_paperX T B cM cL cI dP_is_int dP_is_number dP_is_room dP_is_name dP_is_counted dP_are_counts dP_lost_of dP_is_sketch dP_is_truth dP_paper
  refine d.F.ok scword (fun vs H Q E h => ?_) (fun cdv A outer s H vs Q E hr h => ?_)
  · obtain ⟨s, t, v, r, x, ys, rfl, _⟩ := h
    rfl
  · obtain ⟨sk, t, v, r, x, ys, rfl, hs, hm, ht, tr, hyl, q⟩ := h
    refine ⟨_, (pss_cons (ps_set (i := 4) scword.nd rfl (Or.inl rfl) pe_str)
    (pss_cons (ps_try_first (i := 5) (tb := fun W => tIfS (tTest (tOp rEq (tVar 3) (tC (.int 0)))) (tDrop (tCallS (spPaperX K B.C) (WE W) (tCons (tVar 0) (tCons (tVar 1) tNil)))) tNever) (ts := fun a cls d => tAsg (tTup (tCons (tC (.str (Str.ofString "many"))) (tCons (tXf a cls d B.C "most" (tVar 5)) tNil))) (gName 4)) rfl rfl scword.nd rfl rfl ⟨rfl, by decide, Or.inl B.gC⟩
      (fun W pn way tk _ => pss_one (ps_if (pt_cmpR op_eq (pv 3) pe_int (nomark _)) (pss_one (ps_expr (by exact (pe_callS GP_paper (hr.mono (by omega)) rfl dP_paper.g dP_paper.F.kp dP_paper.b (fun σ => passAt tk σ) (by exact (pa_cons (pv 0) (pa_cons (pv 1) pa_nil))))))) pss_never))
      (fun a oe cls d pn hz hf => pss_one (ps_set (i := 4) scword.nd rfl (Or.inl rfl) (by exact (pe_tup (by exact (pa_cons pe_str (pa_cons (pe_xf X1 B.noP hz hf (pv 5)) pa_nil))))))))
    (pss_one (ps_ret (pv 4))))), ?_⟩
    refine ⟨.int 0, rfl, rfl, true, congrArg V.bl (decide_eq_true rfl), iteT ?_⟩
    refine ⟨.ref sk, rfl, .ref t, rfl, sk, t, r, x, ys, rfl, hs, hm, ht, tr, hyl, fun dd H1 s1 h1 => ?_⟩
    refine ⟨B.te, fun a0 _ => ?_⟩
    exact ⟨_, rfl, rfl, rfl, dd, _, _, rfl, h1, lookup_most _, (by decide : 2 ≤ sizeLine), fun p np => ⟨_, rfl, q p _ (Same.trans s1 (same_upd np)) upd_same⟩⟩
end
end Kb

namespace Kb
open PySem PySem.Spec PyProof.Rows L2 SrtZ SrtO
abbrev sis_tree : Stmt := topS 55
abbrev Nis_tree : List Str := ["_law_thing", "_law_pile", "_law_items", "_law_step", "_law_name"]
theorem scis_tree : FnScope ["_law_thing", "_law_pile", "_law_items", "_law_step", "_law_name"] ["_law_thing"] (defScope sis_tree) := ⟨rfl, rfl, rfl, by decide +kernel, rfl, by decide +kernel, by decide +kernel⟩
abbrev Dnis_tree (K : PySem.W.Frag) (mg : Str → Option Value) := Dn K mg "_law_is_tree" sis_tree ["_law_thing"]
abbrev sis_paper : Stmt := topS 56
abbrev Nis_paper : List Str := ["_law_sketch_here", "_law_truth_here", "_law_thing"]
theorem scis_paper : FnScope ["_law_sketch_here", "_law_truth_here", "_law_thing"] ["_law_sketch_here", "_law_truth_here", "_law_thing"] (defScope sis_paper) := ⟨rfl, rfl, rfl, by decide +kernel, rfl, by decide +kernel, by decide +kernel⟩
abbrev Dnis_paper (K : PySem.W.Frag) (mg : Str → Option Value) := Dn K mg "_law_is_paper" sis_paper ["_law_sketch_here", "_law_truth_here", "_law_thing"]
abbrev sP_is_paper : Stmt := topS 38
abbrev NP_is_paper : List Str := ["sketch", "truth", "thing"]
theorem scP_is_paper : FnScope ["sketch", "truth", "thing"] ["sketch", "truth", "thing"] (defScope sP_is_paper) := ⟨rfl, rfl, rfl, by decide +kernel, rfl, by decide +kernel, by decide +kernel⟩
abbrev DnIsPaper (K : PySem.W.Frag) (mg : Str → Option Value) := Dn K mg "is_paper" sP_is_paper ["sketch", "truth", "thing"]
theorem sx_eqT {K : PySem.W.Frag} {H : Hp} {v : V} {t : Option Stp} (h : SxAt K H v t) : ∃ c, EqT K H v pourS c ∧ (c = true ↔ t = some .pour) := by
  cases t with
  | some t =>
    cases t with
    | put zs =>
      obtain ⟨a, b, rfl, h1, _⟩ := h
      refine ⟨false, .inr ⟨a, rfl, .inr ⟨_, h1, .inr ⟨_, _, false, rfl, .inr (.inr (.inr (.inl ⟨_, rfl, by decide +kernel⟩))), rfl⟩⟩⟩, ⟨fun z => (nomatch z), fun z => by cases z⟩⟩
    | pour =>
      obtain ⟨a, rfl, h1⟩ := h
      exact ⟨true, .inr ⟨a, rfl, .inr ⟨_, h1, .inr ⟨_, _, true, rfl, .inr (.inr (.inr (.inl ⟨_, rfl, (decide_eq_true rfl).symm⟩))), rfl⟩⟩⟩, ⟨fun _ => rfl, fun _ => rfl⟩⟩
  | none =>
    have no : (false = true ↔ (none : Option Stp) = some .pour) := ⟨fun z => (nomatch z), fun z => by cases z⟩
    rcases h with rfl | ⟨i, rfl⟩ | ⟨a, rfl, h⟩
    · exact ⟨false, .inl ⟨rfl, .inl rfl⟩, no⟩
    · exact ⟨false, .inl ⟨rfl, .inr (.inl ⟨i, rfl⟩)⟩, no⟩
    · rcases h with ⟨xs, h⟩ | ⟨k, h⟩ | ⟨xs, h, h2⟩ | ⟨b, ys, h, h2⟩
      · exact ⟨false, .inr ⟨a, rfl, .inl ⟨rfl, .inl ⟨xs, h⟩⟩⟩, no⟩
      · exact ⟨false, .inr ⟨a, rfl, .inl ⟨rfl, .inr ⟨k, h⟩⟩⟩, no⟩
      · rcases h2 with rfl | ⟨x0, rfl, h2⟩
        · exact ⟨false, .inr ⟨a, rfl, .inr ⟨_, h, .inl ⟨rfl, rfl⟩⟩⟩, no⟩
        · exact ⟨false, .inr ⟨a, rfl, .inr ⟨_, h, .inr ⟨_, _, false, rfl, h2, rfl⟩⟩⟩, no⟩
      · exact ⟨false, .inr ⟨a, rfl, .inr ⟨_, h, .inr ⟨_, _, false, rfl, .inr (.inr (.inr (.inl ⟨_, rfl, by decide +kernel⟩))), rfl⟩⟩⟩, no⟩
theorem eqT_same {K : PySem.W.Frag} {H H' : Hp} {x : V} {z : Str} {c : Bool} (h : EqT K H x z c) (s : Same H H') : EqT K H' x z c := by
  rcases h with h | ⟨a, e, h⟩
  · exact .inl h
  · refine .inr ⟨a, e, ?_⟩
    rcases h with ⟨c, ⟨xs, h⟩ | ⟨k, h⟩⟩ | ⟨xs, h, h2⟩
    · exact .inl ⟨c, .inl ⟨xs, sqL_same h s⟩⟩
    · exact .inl ⟨c, .inr ⟨k, s _ _ h⟩⟩
    · refine .inr ⟨xs, seqT h s, ?_⟩
      rcases h2 with h2 | ⟨x0, r, c0, e1, e2, e3⟩
      · exact .inl h2
      · exact .inr ⟨x0, r, c0, e1, eqS_same e2 s, e3⟩
theorem sx_paired {K : PySem.W.Frag} {H : Hp} : ∀ {vs : List V} {ls : List Stp}, Paired (SxAt K H) vs (ls.map some) → Paired (StpAt K H) vs ls
  | _, [], .nil => .nil
  | _, _ :: _, .cons h t => .cons h (sx_paired t)
theorem stp_nm {K : PySem.W.Frag} {H : Hp} : ∀ {vs : List V} {ls : List Stp}, Paired (StpAt K H) vs ls → ∀ zs, .put zs ∈ ls → ∀ z ∈ zs, Nm z
  | _, _, .nil, _, h => nomatch h
  | _, _, .cons h t, zs, hz => by
    rcases List.mem_cons.mp hz with rfl | hz
    · obtain ⟨a, b, _, _, _, h3, _⟩ := h
      exact h3
    · exact stp_nm t zs hz
theorem tr_tree {K : PySem.W.Frag} {H : Hp} {v : V} {ls : List Stp} (h : TrAt K H v (some (ls.map some))) : ∃ a, v = .ref a ∧ TreeAt K H a ls ∧ ∀ zs, .put zs ∈ ls → ∀ z ∈ zs, Nm z := by
  obtain ⟨a, vs, e, h1, h2, _⟩ := h
  exact ⟨a, e, ⟨vs, h1, sx_paired h2⟩, stp_nm (sx_paired h2)⟩
/-- a tree leads to one sketch, by the program and by the law -/
theorem both_run {r : Int} {ls : List Stp} (hr : 1 ≤ r) (tr : Tree ls) (hN : ∀ zs, .put zs ∈ ls → ∀ z ∈ zs, Nm z) : ∃ x x', runT r ls = [x] ∧ runL r ls = [x'] ∧ skT x = skT x' := by
  have hl := run_len (r := r) tr.two ls.length (Nat.le_refl _)
  rw [List.take_length, tr.one] at hl
  have hlL := runL_lenT hr hN
  obtain ⟨x, hx⟩ : ∃ x, runT r ls = [x] := by
    match h : runT r ls, hl with
    | [x], _ => exact ⟨x, rfl⟩
    | [], hl => exact absurd hl (by decide)
    | _ :: _ :: _, hl => exact absurd hl (by simp only [List.length_cons]; omega)
  obtain ⟨x', hx'⟩ : ∃ x, runL r ls = [x] := by
    rw [hx] at hlL
    match h : runL r ls, hlL with
    | [x], _ => exact ⟨x, rfl⟩
    | [], hl => exact absurd hl (by simp)
    | _ :: _ :: _, hl => exact absurd hl (by simp)
  have hs := runTL (r := r) hr (l := ls) (st := []) (st' := []) hN (fun _ h => nomatch h) (fun _ h => nomatch h) rfl
  have hs2 : (runT r ls).map skT = (runL r ls).map skT := hs
  rw [hx, hx'] at hs2
  injection hs2 with hs2 _
  exact ⟨x, x', hx, hx', hs2⟩
theorem eqv_prsI : ∀ a b : Ct, PyData.eqvAll (a.map prD) (b.map prD) = true ↔ a = b
  | [], [] => ⟨fun _ => rfl, fun _ => rfl⟩
  | [], _ :: _ => ⟨fun h => (nomatch h), fun h => (nomatch h)⟩
  | _ :: _, [] => ⟨fun h => (nomatch h), fun h => (nomatch h)⟩
  | e :: a, f :: b => by
    show (((e.1 == f.1) && ((e.2 == f.2) && true)) && PyData.eqvAll (a.map prD) (b.map prD)) = true ↔ _
    rw [Bool.and_eq_true, eqv_prsI a b, Bool.and_eq_true, Bool.and_true, beq_iff_eq, beq_iff_eq]
    constructor
    · rintro ⟨⟨h1, h2⟩, rfl⟩
      rw [show e = f from Prod.ext h1 h2]
    · intro h
      injection h with h1 h2
      exact ⟨⟨by rw [h1], by rw [h1]⟩, h2⟩
theorem sk_eqvI (r m o m' o' : Int) (a b : Ct) : PyData.eqv (skD r m o a) (skD r m' o' b) = true ↔ m = m' ∧ o = o' ∧ a = b := by
  show ((r == r) && ((m == m') && ((o == o') && (PyData.eqvAll (a.map prD) (b.map prD) && true)))) = true ↔ _
  rw [beq_self_eq_true, Bool.true_and, Bool.and_eq_true, Bool.and_eq_true, Bool.and_true, eqv_prsI, beq_iff_eq, beq_iff_eq]
/-- these are a paper -/
def PapIs (r : Int) (x : Tl) (ys : Ct) (t : Option (List (Option Stp))) : Prop := ∃ ls : List Stp, t = some (ls.map some) ∧ Tree ls ∧ srtZ (cntT ls) = ys ∧ ∃ x', runL r ls = [x'] ∧ skT x' = skT x
theorem skT_iff {x y : Tl} : skT x = skT y ↔ x.m = y.m ∧ x.o = y.o ∧ srtZ x.c = srtZ y.c := by
  constructor
  · intro h
    exact ⟨congrArg (·.m) h, congrArg (·.o) h, congrArg (·.c) h⟩
  · rintro ⟨h1, h2, h3⟩
    show (⟨x.m, x.o, srtZ x.c⟩ : Tl) = ⟨y.m, y.o, srtZ y.c⟩
    rw [h1, h2, h3]
theorem pap_tree {r : Int} {x : Tl} {ys : Ct} {ls : List Stp} {x' : Tl} (tr : Tree ls) (h : runL r ls = [x']) : PapIs r x ys (some (ls.map some)) ↔ srtZ (cntT ls) = ys ∧ skT x' = skT x := by
  constructor
  · rintro ⟨ls', e, _, h1, x'', h2, h3⟩
    cases (List.map_inj_right (fun _ _ z => by injection z) |>.mp (Option.some.inj e))
    rw [h] at h2
    cases h2
    exact ⟨h1, h3⟩
  · rintro ⟨h1, h2⟩
    exact ⟨ls, rfl, tr, h1, x', h, h2⟩
theorem thT {K : PySem.W.Frag} {H : Hp} {k : Addr} {ys : Ct} (h : TupC H k ys) (nm : ∀ e ∈ ys, Nm e.1) (hl : ys.length ≤ 1000) : ThAt K H (.ref k) (some (ys.map prE)) := by
  obtain ⟨us, hp, hr⟩ := h.ob
  have gen : ∀ {us : List Addr} {ys : Ct}, Paired (PrT H) us ys → (∀ e ∈ ys, Nm e.1) → Paired (ElAt K H) (us.map V.ref) (ys.map prE) := by
    intro us ys h
    induction h with
    | nil => exact fun _ => .nil
    | cons h1 _ ih => exact fun nm => .cons ⟨_, rfl, h1, nm _ List.mem_cons_self⟩ (ih fun e he => nm e (List.mem_cons_of_mem _ he))
  exact ⟨k, us.map V.ref, rfl, hp, gen hr nm, by rw [List.length_map, Paired.length hr]; exact hl⟩
section
variable {P : Program} {w : World} {K : PySem.W.Frag} {mg : Str → Option Value} {base : Heap}
theorem ok_is_treeL (T : Blt mg) (dis_name : Dnis_name K mg) (d : Dnis_tree K mg) : FnOk P w K mg base CX0 2 d.f d.fd ["_law_thing"] (spIsTreeA K) := by
  have Gis_name : FnOk P w K mg base CX0 1 dis_name.f dis_name.fd ["_law_thing"] spIsName := ok_is_nameL T dis_name
  refine d.F.ok scis_tree (fun vs H Q E h => ?_) (fun cdv A outer s H vs Q E hr h => ?_)
  · obtain ⟨v, th, rfl, _⟩ := h
    rfl
  · obtain ⟨v, th, rfl, hat, q⟩ := h
    refine ⟨_, (pss_cons (ps_if (PW.pt (pw_or (pt_not (pt_val (pe_callB call_isi (by rfl) T.n_isinstance (by decide +kernel) (pa_cons (pv 0) (pa_cons (pe_bltn (v := .ty "tuple") (by rfl) T.n_tuple (by decide +kernel) rfl) pa_nil))))) (pw_or1 (pt_cmpR op_gt (pe_callB call_len_seq (by rfl) T.n_len (by decide +kernel) (pa_cons (pv 0) pa_nil)) pe_int (nomark _)))))
      (pss_one (ps_ret pe_bl))
      pss_nil)
    (pss_cons (ps_asg (pe_tup (pa_cons pe_int (pa_cons pe_int pa_nil))) (pg_tup (by rfl) (pgs_cons (pg_name (i := 1) scis_tree.nd rfl (Or.inl rfl)) (pgs_cons (pg_name (i := 2) scis_tree.nd rfl (Or.inl rfl)) pgs_nil))))
    (pss_cons (ps_for PassesOwn.never rfl (pi_tup (pv 0)) (pg_name (i := 3) scis_tree.nd rfl (Or.inl rfl))
      (pss_one (ps_if (PW.pt (pw_and (pt_cmpR (op_eqT (K := K) rfl hr.units) (pv 3) (pe_tup (pa_cons pe_str pa_nil)) (nomark _)) (pw_and1 (pt_val (pe_callB call_isi (by rfl) T.n_isinstance (by decide +kernel) (pa_cons (pv 3) (pa_cons (pe_bltn (v := .ty "tuple") (by rfl) T.n_tuple (by decide +kernel) rfl) pa_nil)))))))
        (pss_cons (ps_set (i := 1) scis_tree.nd rfl (Or.inl rfl) (pe_op op_sub (pv 1) pe_int))
        (pss_one (ps_if (pt_cmpR op_lt (pv 1) pe_int (nomark _))
          (pss_one (ps_ret pe_bl))
          pss_nil)))
        (pss_cons (ps_if (PW.pt (pw_or (pt_not (pt_val (pe_callB call_isi (by rfl) T.n_isinstance (by decide +kernel) (pa_cons (pv 3) (pa_cons (pe_bltn (v := .ty "tuple") (by rfl) T.n_tuple (by decide +kernel) rfl) pa_nil))))) (pw_or (pt_cmpR op_ne (pe_callB call_len_seq (by rfl) T.n_len (by decide +kernel) (pa_cons (pv 3) pa_nil)) pe_int (nomark _)) (pw_or (pt_cmpR op_ne (pe_ix ix_tup (pv 3) pe_int (fun _ _ => rfl)) pe_str (nomark _)) (pw_or1 (pt_not (pt_val (pe_callB call_isi (by rfl) T.n_isinstance (by decide +kernel) (pa_cons (pe_ix ix_tup (pv 3) pe_int (fun _ _ => rfl)) (pa_cons (pe_bltn (v := .ty "tuple") (by rfl) T.n_tuple (by decide +kernel) rfl) pa_nil))))))))))
          (pss_one (ps_ret pe_bl))
          pss_nil)
        (pss_cons (ps_if (pt_not (pt_val (pe_callB (cr_all rfl) (by rfl) T.n_all (by decide +kernel) (pa_cons (pe_lc (own := [("_law_name", 4)]) (g := gName 4) (tt := tYes) rfl scis_tree.nd (pi_tup (pe_ix ix_tup (pv 3) pe_int (fun _ _ => rfl))) (blkOk_by (N := Nis_tree) (sc := defScope sis_tree) (by decide +kernel)) (fun _ _ _ _ _ => pg_name (i := 4) scis_tree.nd rfl (Or.inl rfl)) (fun _ _ _ _ _ => pts_nil) (fun _ _ _ _ _ => (pe_call Gis_name (hr.mono (by omega)) (by rfl) dis_name.g dis_name.F.kp dis_name.b .nil pass0 (pa_cons (pv 4) pa_nil)))) pa_nil))))
          (pss_one (ps_ret pe_bl))
          pss_nil)
        (pss_one (ps_par (i := 1) (j := 2) (by rfl) scis_tree.nd rfl rfl (by decide) rfl rfl (pa_cons (pe_op op_add (pv 1) pe_int) (pa_cons (pe_op op_add (pv 2) (pe_callB call_len_seq (by rfl) T.n_len (by decide +kernel) (pa_cons (pe_ix ix_tup (pv 3) pe_int (fun _ _ => rfl)) pa_nil))) pa_nil)) (by rfl))))))))
    (pss_one (ps_ret (pe_and (pe_cmpR op_eq (pv 1) pe_int (nomark _)) (pe_one (pe_cmpR op_le (pv 2) pe_int (nomark _))))))))), ?_⟩
    cases th with
    | none =>
      obtain ⟨t, ty, kt⟩ := tr_ty hat
      exact ⟨v, rfl, v, _, _, _, false, rfl, .ty "tuple", ty, kt, false, rfl, iteT (iteT (q H false (Same.refl H) ⟨fun z => (nomatch z), fun ⟨_, e, _⟩ => nomatch e⟩))⟩
    | some l =>
      obtain ⟨a, vs, rfl, hS, hp, hlen⟩ := hat
      have hl : vs.length = l.length := Paired.length hp
      have no : ∀ {H' : Hp}, Same H H' → ¬ TrIs (some l) → Q (.bl false) H' := fun s h => q _ false s ⟨fun z => (nomatch z), fun z => absurd z h⟩
      refine ⟨.ref a, rfl, .ref a, _, _, _, true, rfl, .ty "tuple", tyT hS, kit_ty (by decide +kernel), true, rfl, iteF ?_⟩
      refine ⟨.ref a, rfl, a, _, rfl, .inr hS, _, _, rfl, rfl, decide ((vs.length : Int) > 5000), rfl, ?_⟩
      by_cases h5 : (vs.length : Int) > 5000
      · rw [decide_eq_true h5]
        refine iteT (no (Same.refl H) fun ⟨ls, e, tr⟩ => ?_)
        cases e
        have := tr.len
        rw [List.length_map] at hl
        omega
      rw [decide_eq_false h5]
      refine iteF ⟨(by show 2 ≤ sizeLine; decide), fun p0 np0 => ⟨p0, _, rfl, .inl (.inl upd_same), rfl, _, _, rfl, _, _, rfl, rfl, ?_⟩⟩
      have s0 := same_upd (o := .tup [.int 0, .int 0]) np0
      generalize upd H p0 (.tup [.int 0, .int 0]) = H0 at s0 ⊢
      refine ⟨.ref a, rfl, a, rfl, ⟨_, seqT hS s0⟩, for_tup (xs := vs) (fun i σ H3 => ∃ (x y : Option V) (ls : List Stp), σ = [some (.ref a), some (.int (hgt ls)), some (.int (mny ls)), x, y] ∧ Same H H3 ∧ TrTo l i ls) ⟨none, none, [], rfl, s0, ⟨rfl, fun _ h => by simp at h⟩⟩ (fun i σ H3 _ ⟨_, _, _, _, s3, _⟩ => seqT hS s3) ?_ ?_⟩
      · rintro i v σ H3 hi ⟨x, y, ls, rfl, s3, tt⟩
        obtain ⟨t, ht, hat⟩ := paired_at hp hi
        have hat3 := hat.same s3
        obtain ⟨c, hc, hct⟩ := sx_eqT hat3
        refine ⟨v, rfl, (by show 1 ≤ sizeLine; decide), fun p np => ?_⟩
        have s4 := same_upd (o := .tup [.str pourS]) np
        have s34 := s3.trans s4
        have hat4 := hat3.same s4
        refine ⟨p, pourS, c, rfl, .inl (.inl upd_same), eqT_same hc s4, c, rfl, ?_⟩
        generalize upd H3 p (.tup [.str pourS]) = H4 at s4 s34 hat4 ⊢
        cases t with
        | none =>
          have ec : c = false := by
            cases c with
            | false => rfl
            | true => exact nomatch hct.mp rfl
          subst ec
          refine iteF ?_
          have bad := no s34 (tt.no ht (.inl rfl))
          rcases hat4 with rfl | ⟨i, rfl⟩ | ⟨a2, rfl, h⟩
          · exact ⟨.non, rfl, .non, _, _, _, false, rfl, .ty "tuple", .base .non, kit_ty (by decide +kernel), false, rfl, iteT (iteT bad)⟩
          · exact ⟨.int i, rfl, .int i, _, _, _, false, rfl, .ty "tuple", .base (.int i), kit_ty (by decide +kernel), false, rfl, iteT (iteT bad)⟩
          · rcases h with ⟨xs, h⟩ | ⟨k, h⟩ | ⟨xs, h, h2⟩ | ⟨b, zs, h, h2⟩
            · exact ⟨.ref a2, rfl, .ref a2, _, _, _, false, rfl, .ty "tuple", tyL h, kit_ty (by decide +kernel), false, rfl, iteT (iteT bad)⟩
            · exact ⟨.ref a2, rfl, .ref a2, _, _, _, false, rfl, .ty "tuple", .base (.dK h), kit_ty (by decide +kernel), false, rfl, iteT (iteT bad)⟩
            · have hl : ¬ V.int ((xs.length : Nat) : Int) = V.int 2 := by
                rcases h2 with rfl | ⟨x0, rfl, _⟩
                · decide
                · intro z
                  injection z with z
                  simp at z
              exact ⟨.ref a2, rfl, .ref a2, _, _, _, true, rfl, .ty "tuple", tyT h, kit_ty (by decide +kernel), true, rfl, iteF ⟨.ref a2, rfl, a2, _, rfl, .inr h, rfl, true, congrArg (fun b => V.bl (!b)) (decide_eq_false hl), iteT (iteT bad)⟩⟩
            · refine ⟨.ref a2, rfl, .ref a2, _, _, _, true, rfl, .ty "tuple", tyT h, kit_ty (by decide +kernel), true, rfl, iteF ?_⟩
              refine ⟨.ref a2, rfl, a2, _, rfl, .inr h, rfl, false, congrArg (fun b => V.bl (!b)) (decide_eq_true rfl), iteF ?_⟩
              refine ⟨.ref a2, rfl, a2, _, _, _, rfl, rfl, h, atI_nat (j := 0) rfl, rfl, false, congrArg (fun b => V.bl (!b)) (decide_eq_true rfl), iteF ?_⟩
              exact ⟨.ref a2, rfl, a2, _, _, _, rfl, rfl, h, atI_nat (j := 1) rfl, .ref b, _, _, _, false, rfl, .ty "tuple", tyL h2, kit_ty (by decide +kernel), false, rfl, iteT bad⟩
        | some t =>
          cases t with
          | pour =>
            cases (hct.mpr rfl)
            obtain ⟨a2, rfl, h1⟩ := hat4
            refine iteT ⟨.ref a2, rfl, .ref a2, _, _, _, true, rfl, .ty "tuple", tyT h1, kit_ty (by decide +kernel), true, rfl, iteT ?_⟩
            refine ⟨.int (hgt ls), rfl, _, _, rfl, rfl, ?_⟩
            refine ⟨.int (hgt ls - 1), rfl, _, _, rfl, rfl, decide (hgt ls - 1 < 1), rfl, ?_⟩
            by_cases h2 : hgt ls - 1 < 1
            · rw [decide_eq_true h2]
              exact iteT (no s34 (tt.no ht (.inr ⟨rfl, by omega⟩)))
            · rw [decide_eq_false h2]
              refine iteF ?_
              refine ⟨some (.ref a2), y, ls ++ [.pour], ?_, s34, tt.snoc ht fun _ => by omega⟩
              rw [hgt_app, mny_app]
              rfl
          | put zs =>
            have ec : c = false := by
              cases c with
              | false => rfl
              | true => exact absurd (hct.mp rfl) (by intro z; cases z)
            subst ec
            obtain ⟨a2, b, rfl, h1, h2, h3, h4⟩ := hat4
            refine iteF ?_
            refine ⟨.ref a2, rfl, .ref a2, _, _, _, true, rfl, .ty "tuple", tyT h1, kit_ty (by decide +kernel), true, rfl, iteF ?_⟩
            refine ⟨.ref a2, rfl, a2, _, rfl, .inr h1, rfl, false, congrArg (fun b => V.bl (!b)) (decide_eq_true rfl), iteF ?_⟩
            refine ⟨.ref a2, rfl, a2, _, _, _, rfl, rfl, h1, atI_nat (j := 0) rfl, rfl, false, congrArg (fun b => V.bl (!b)) (decide_eq_true rfl), iteF ?_⟩
            refine ⟨.ref a2, rfl, a2, _, _, _, rfl, rfl, h1, atI_nat (j := 1) rfl, .ref b, _, _, _, true, rfl, .ty "tuple", tyT h2, kit_ty (by decide +kernel), true, rfl, iteF ?_⟩
            refine ⟨.ref a2, rfl, a2, _, _, _, rfl, rfl, h1, atI_nat (j := 1) rfl, b, rfl, ⟨_, h2⟩, fun D nD => ?_⟩
            refine lc_tup (xs := zs.map V.str) (fun j H5 => Same H4 H5 ∧ H5 D = some (.lst ((List.range j).map fun _ => V.bl true))) ⟨same_upd nD, upd_same⟩ (fun j H5 _ h => seqT h2 h.1) (fun j v H5 hv h => ?_) (fun H5 h => ?_)
            · obtain ⟨z, hz, rfl⟩ := map_at hv
              have hjl := (List.getElem?_eq_some_iff.mp hz).1
              refine ⟨rfl, .str z, rfl, z, rfl, h3 z (List.mem_of_getElem? hz), fun H6 s6 => ⟨_, s6 _ _ h.2, by rw [List.length_map, List.length_range, sizeLine_eq]; omega, Same.put (h.1.trans s6) nD, ?_⟩⟩
              rw [upd_same, List.range_succ, List.map_append]
              rfl
            obtain ⟨s5, hD5⟩ := h
            refine ⟨D, (List.range (zs.map V.str).length).map fun _ => true, rfl, sql (by rw [hD5, List.map_map]; rfl), ?_⟩
            rw [show ((List.range (zs.map V.str).length).map fun _ => true).all id = true by simp]
            refine ⟨true, rfl, iteF ?_⟩
            refine ⟨.int (hgt ls), rfl, _, _, rfl, rfl, .int (mny ls), rfl, .ref a2, rfl, a2, _, _, _, rfl, rfl, seqT h1 s5, atI_nat (j := 1) rfl, b, _, rfl, .inr (seqT h2 s5), _, _, rfl, rfl, _, _, rfl, ?_⟩
            refine ⟨some (.ref a2), y, ls ++ [.put zs], ?_, s34.trans s5, tt.snoc ht fun z => nomatch z⟩
            rw [hgt_app, mny_app, List.length_map]
            rfl
      · rintro σ H3 ⟨x, y, ls, rfl, s3, tt⟩
        have e1 := tt.eq
        rw [hl, List.take_length] at e1
        refine ⟨.int (hgt ls), rfl, rfl, decide (hgt ls = 1), (by show V.bl (decide (V.int (hgt ls) = V.int 1)) = _; congr 1; exact decide_eq_decide.mpr ⟨fun e => by injection e, fun e => by rw [e]⟩), ?_⟩
        have fin : TrIs (some l) ↔ hgt ls = 1 ∧ mny ls ≤ 50000 := by
          constructor
          · rintro ⟨ls', e, tr⟩
            cases e
            have e2 : ls' = ls := List.map_inj_right (fun _ _ z => by injection z) |>.mp e1
            rw [← e2]
            exact ⟨tr.one, tr.few⟩
          · rintro ⟨h1, h2⟩
            refine ⟨ls, by rw [e1], fun j hj => tt.two j hj, h1, h2, ?_⟩
            have := congrArg List.length e1
            rw [List.length_map] at this
            omega
        by_cases h1 : hgt ls = 1
        · rw [decide_eq_true h1]
          refine iteT ⟨.int (mny ls), rfl, _, _, rfl, rfl, ?_⟩
          exact q H3 (decide (mny ls ≤ 50000)) s3 (by rw [decide_eq_true_iff, fin]; exact ⟨fun z => ⟨h1, z⟩, fun z => z.2⟩)
        · rw [decide_eq_false h1]
          exact iteF (no s3 fun z => h1 (fin.mp z).1)
def spIsPaperL (K : PySem.W.Frag) : Sp := fun vs H Q _ => ∃ (s t : Addr) (v : V) (r : Int) (x : Tl) (ys : Ct) (th : Option (List (Option Stp))), vs = [.ref s, .ref t, v] ∧ SkA H s r x ∧ x.m ≤ 1000 ∧ TupC H t ys ∧ TrOf x ys ∧ TrAt K H v th ∧ ∀ H' b, Same H H' → (b = true ↔ PapIs r x ys th) → Q (.bl b) H'
theorem ok_is_paperL (T : Blt mg) (dis_name : Dnis_name K mg) (dis_tree : Dnis_tree K mg) (dcounted : Dncounted K mg) (dfed : Dnfed K mg) (dpoured : Dnpoured K mg) (dsketch : Dnsketch K mg) (d : Dnis_paper K mg) : FnOk P w K mg base CX0 3 d.f d.fd ["_law_sketch_here", "_law_truth_here", "_law_thing"] (spIsPaperL K) := by
  have Gis_tree : FnOk P w K mg base CX0 2 dis_tree.f dis_tree.fd ["_law_thing"] (spIsTreeA K) := ok_is_treeL T dis_name dis_tree
  have Gcounted : FnOk P w K mg base CX0 1 dcounted.f dcounted.fd ["_law_tree_here"] (spCountedL K) := ok_countedL T dcounted
  have Gsketch : FnOk P w K mg base CX0 2 dsketch.f dsketch.fd ["_law_room", "_law_tree_here"] (spSketchL K) := ok_sketchL T dfed dpoured dsketch
  refine d.F.ok scis_paper (fun vs H Q E h => ?_) (fun cdv A outer s H vs Q E hr h => ?_)
  · obtain ⟨s, t, v, r, x, ys, th, rfl, _⟩ := h
    rfl
  · obtain ⟨sk, t, v, r, x, ys, th, rfl, ⟨hs, ok, g⟩, hm, ht, tr, hat, q⟩ := h
    refine ⟨_, (pss_one (ps_ret (pe_and (pe_call Gis_tree (hr.mono (by omega)) (by rfl) dis_tree.g dis_tree.F.kp dis_tree.b .nil pass0 (pa_cons (pv 2) pa_nil)) (pe_and (pe_cmpR (op_eqD hr.units) (pe_call Gcounted (hr.mono (by omega)) (by rfl) dcounted.g dcounted.F.kp dcounted.b .nil pass0 (pa_cons (pv 2) pa_nil)) (pv 1) (nomark _)) (pe_one (pe_cmpR (op_eqD hr.units) (pe_call Gsketch (hr.mono (by omega)) (by rfl) dsketch.g dsketch.F.kp dsketch.b .nil pass0 (pa_cons (pe_ix ix_tup (pv 0) pe_int (fun _ _ => rfl)) (pa_cons (pv 2) pa_nil))) (pv 0) (nomark _))))))), ?_⟩
    refine ⟨v, rfl, v, th, rfl, hat, fun H1 b s1 hb => ⟨b, rfl, ?_⟩⟩
    cases b with
    | false =>
      refine iteF (q H1 false s1 ⟨fun z => (nomatch z), fun ⟨ls, e, t2, _⟩ => nomatch hb.mpr ⟨ls, e, t2⟩⟩)
    | true =>
      obtain ⟨ls, rfl, htr⟩ := hb.mp rfl
      obtain ⟨a, rfl, hT, hN⟩ := tr_tree (hat.same s1)
      obtain ⟨x0, x', hx0, hx', e0⟩ := both_run g.r1 htr hN
      have pi := pap_tree (x := x) (ys := ys) htr hx'
      refine iteT ⟨.ref a, rfl, a, ls, rfl, hT, htr, fun H2 kk ts2 s2 hpt hpr => ?_⟩
      have s02 := s1.trans s2
      obtain ⟨us, hut, hur⟩ := (ht.same s02).ob
      have cnm : ∀ e ∈ srtZ (cntT ls), Nm e.1 := fun e he => by
        have h1 := (srtZ_perm _).mem_iff.mp he
        exact cntT_in (Pn := Nm) (l := ls) (kc := []) hN (fun _ h => nomatch h) e h1 |>.2
      refine ⟨.ref t, rfl, ctD (srtZ (cntT ls)), ctD ys, dp_ct hpt.seq hpr, dp_ct hut.seq hur, ct_shaped cnm, ct_shaped tr.nm, PyData.eqv (ctD (srtZ (cntT ls))) (ctD ys), rfl, ?_⟩
      have ec : PyData.eqv (ctD (srtZ (cntT ls))) (ctD ys) = true ↔ srtZ (cntT ls) = ys := eqv_prsI _ _
      cases hq : PyData.eqv (ctD (srtZ (cntT ls))) (ctD ys) with
      | false =>
        refine iteF (q H2 false s02 ⟨fun z => (nomatch z), fun z => ?_⟩)
        rw [pi] at z
        rw [ec.mpr z.1] at hq
        cases hq
      | true =>
        have hcn := ec.mp hq
        obtain ⟨k, ts, hs2, hk2, hp2⟩ := hs.same s02
        refine iteT ⟨.ref sk, rfl, sk, _, _, _, rfl, rfl, .inl (.inl hs2), atI_nat (j := 0) rfl, .ref a, rfl, r, a, ls, x', rfl, g.r1, g.r64, hT.same s2, htr, hN, hx', fun H3 s3 ss3 h3 => ?_⟩
        have nm' : ∀ e ∈ srtZ x'.c, Nm e.1 := fun e he => by
          have okL := runL_ok (l := ls) (st := []) g.r1 hN (fun _ h => nomatch h) x' (by show x' ∈ runL r ls; rw [hx']; exact List.mem_cons_self)
          exact okL.nm e ((srtZ_perm _).mem_iff.mp he)
        refine ⟨.ref sk, rfl, skD r x'.m x'.o (srtZ x'.c), skD r x.m x.o (srtZ x.c), dp_sk h3, dp_sk (hs.same (s02.trans ss3)), sk_shaped nm', sk_shaped g.cts.nm, ?_⟩
        refine q H3 _ (s02.trans ss3) ?_
        rw [sk_eqvI, pi, skT_iff]
        exact ⟨fun z => ⟨hcn, z⟩, fun z => z.2⟩
def spIsPaperA (K : PySem.W.Frag) : Sp := spIsPaperL K
theorem ok_is_paperA (T : Blt mg) (cM : Cst mg "MOST_ROOM" (.int 64)) (cL : Cst mg "LONGEST_NAME" (.int 8)) (cS' : Cst mg "MOST_STEPS" (.int 5000)) (cI : Cst mg "MOST_ITEMS_streams" (.int 50000)) (dP_is_int : DnIsInt K mg) (dP_is_number : DnIsNumber K mg) (dP_is_room : DnIsRoom K mg) (dP_is_name : DnIsName K mg) (dP_is_counted : DnIsCounted K mg) (dP_are_counts : DnAreCounts K mg)
    (dP_lost_of : DnLostOf K mg) (dP_is_sketch : DnIsSketch K mg) (dP_is_truth : DnIsTruth K mg) (dP_is_stream : DnIsStream K mg) (dP_is_put : DnIsPut K mg) (dP_is_pour : DnIsPour K mg) (dP_is_tree : DnIsTree K mg) (dP_counts_of : DnCountsOf K mg) (dP_bare : DnBare K mg) (L : Tal K mg) (dP_sketch_of : DnSketchOf K mg) (d : DnIsPaper K mg) : FnOk P w K mg base CX0 6 d.f d.fd ["sketch", "truth", "thing"] (spIsPaperL K) := by
  have GP_is_truth : FnOk P w K mg base CX0 5 dP_is_truth.f dP_is_truth.fd ["sketch", "thing"] (spIsTruth K) := ok_is_truth T cM cL dP_is_int dP_is_number dP_is_room dP_is_name dP_is_counted dP_are_counts dP_lost_of dP_is_sketch dP_is_truth
  have GP_is_tree : FnOk P w K mg base CX0 4 dP_is_tree.f dP_is_tree.fd ["thing"] (spIsTreeA K) := ok_is_treeA T cL cS' cI dP_is_name dP_is_stream dP_is_put dP_is_pour dP_is_tree
  have GP_counts_of : FnOk P w K mg base CX0 5 dP_counts_of.f dP_counts_of.fd ["tree"] (spCountsOf K) := ok_counts_of T cL cS' cI dP_is_name dP_is_stream dP_is_put dP_is_pour dP_is_tree dP_counts_of
  have GP_sketch_of : FnOk P w K mg base CX0 5 dP_sketch_of.f dP_sketch_of.fd ["room", "tree"] (spSketchOf K) := ok_sketch_of T cM cL cS' cI dP_is_int dP_is_room dP_is_name dP_is_stream dP_is_put dP_is_pour dP_is_tree dP_bare L dP_sketch_of
  refine d.F.ok scP_is_paper (fun vs H Q E h => ?_) (fun cdv A outer s H vs Q E hr h => ?_)
  · obtain ⟨s, t, v, r, x, ys, th, rfl, _⟩ := h
    rfl
  · obtain ⟨sk, t, v, r, x, ys, th, rfl, ⟨hs, ok, g⟩, hm, ht, tr, hat, q⟩ := h
    have hr64 := g.r64
    have hyl := tr.len
    refine ⟨_, (pss_cons (ps_if (pt_not (pt_val (pe_call GP_is_truth (hr.mono (by omega)) (by rfl) dP_is_truth.g dP_is_truth.F.kp dP_is_truth.b .nil pass0 (pa_cons (pv 0) (pa_cons (pv 1) pa_nil)))))
      (pss_one ps_never)
      pss_nil)
    (pss_cons (ps_if (PW.pt (pw_or (pt_not (pt_val (pe_call GP_is_tree (hr.mono (by omega)) (by rfl) dP_is_tree.g dP_is_tree.F.kp dP_is_tree.b .nil pass0 (pa_cons (pv 2) pa_nil)))) (pw_or1 (pt_cmpR (op_neD hr.units) (pe_call GP_counts_of (hr.mono (by omega)) (by rfl) dP_counts_of.g dP_counts_of.F.kp dP_counts_of.b .nil pass0 (pa_cons (pv 2) pa_nil)) (pv 1) (nomark _)))))
      (pss_one (ps_ret pe_bl))
      pss_nil)
    (pss_one (ps_ret (pe_cmpR (op_eqD hr.units) (pe_call GP_sketch_of (hr.mono (by omega)) (by rfl) dP_sketch_of.g dP_sketch_of.F.kp dP_sketch_of.b .nil pass0 (pa_cons (pe_ix ix_tup (pv 0) pe_int (fun _ _ => rfl)) (pa_cons (pv 2) pa_nil))) (pv 0) (nomark _)))))), ?_⟩
    refine ⟨.ref sk, rfl, .ref t, rfl, sk, .ref t, r, x, _, rfl, hs, ok, hr64, g.yes, thT ht tr.nm (by omega), fun H1 b s1 hb => ?_⟩
    cases (hb.mpr (tr.tr ok))
    refine ⟨true, rfl, iteF ⟨v, rfl, v, th, rfl, hat.same s1, fun H2 b2 s2 hb2 => ⟨b2, rfl, ?_⟩⟩⟩
    have s02 := s1.trans s2
    cases b2 with
    | false => exact iteT (iteT (q H2 false s02 ⟨fun z => (nomatch z), fun ⟨ls, e, t2, _⟩ => nomatch hb2.mpr ⟨ls, e, t2⟩⟩))
    | true =>
      obtain ⟨ls, rfl, htr⟩ := hb2.mp rfl
      obtain ⟨a, rfl, hT, hN⟩ := tr_tree (hat.same s02)
      obtain ⟨x0, x', hx0, hx', e0⟩ := both_run g.r1 htr hN
      have pi := pap_tree (x := x) (ys := ys) htr hx'
      rw [← e0] at pi
      refine iteF ⟨.ref a, rfl, a, ls, rfl, hT, htr, fun H3 kk ts3 s3 hpt hpr => ?_⟩
      have s03 := s02.trans s3
      obtain ⟨us, hut, hur⟩ := (ht.same s03).ob
      have cnm : ∀ e ∈ srtZ (cntT ls), Nm e.1 := fun e he => by
        have h1 := (srtZ_perm _).mem_iff.mp he
        exact cntT_in (Pn := Nm) (l := ls) (kc := []) hN (fun _ h => nomatch h) e h1 |>.2
      refine ⟨.ref t, rfl, ctD (srtZ (cntT ls)), ctD ys, dp_ct hpt.seq hpr, dp_ct hut.seq hur, ct_shaped cnm, ct_shaped tr.nm, !PyData.eqv (ctD (srtZ (cntT ls))) (ctD ys), rfl, ?_⟩
      have ec : PyData.eqv (ctD (srtZ (cntT ls))) (ctD ys) = true ↔ srtZ (cntT ls) = ys := eqv_prsI _ _
      cases hq : PyData.eqv (ctD (srtZ (cntT ls))) (ctD ys) with
      | false =>
        refine iteT (q H3 false s03 ⟨fun z => (nomatch z), fun z => ?_⟩)
        rw [pi] at z
        rw [ec.mpr z.1] at hq
        cases hq
      | true =>
        have hcn := ec.mp hq
        obtain ⟨k, ts, hs3, hk3, hp3⟩ := hs.same s03
        refine iteF ⟨.ref sk, rfl, sk, _, _, _, rfl, rfl, .inl (.inl hs3), atI_nat (j := 0) rfl, .ref a, rfl, a, r, ls, x0, rfl, g.r1, hr64, hT.same s3, htr, hN, hx0, fun oky H4 s4 k4 ts4 ss4 nS h4 hpt4 hpr4 => ?_⟩
        have hs4 : SkAt H4 s4 r x0 := ⟨k4, ts4, h4, hpt4, hpr4⟩
        refine ⟨.ref sk, rfl, skD r x0.m x0.o (srtZ x0.c), skD r x.m x.o (srtZ x.c), dp_sk hs4, dp_sk (hs.same (s03.trans ss4)), sk_shaped (fun e he => oky.nm e ((srtZ_perm _).mem_iff.mp he)), sk_shaped g.cts.nm, ?_⟩
        refine q H4 _ (s03.trans ss4) ?_
        rw [sk_eqvI, pi, skT_iff]
        exact ⟨fun z => ⟨hcn, z⟩, fun z => z.2⟩
end
end Kb

namespace Kb
open PySem PySem.Spec PyProof.Rows L2 SrtZ SrtO
abbrev slaw : Stmt := topS 61
abbrev Nlaw : List Str := ["_law_script", "_law_hand_here", "_law_turn", "_law_sketch_here", "_law_room", "_law_fresh", "_law_truth_here", "_law_told", "_law_again", "_law_thing", "_law_flag", "_law_many", "_law_great", "_law_name"]
theorem sclaw : FnScope ["_law_script", "_law_hand_here", "_law_turn", "_law_sketch_here", "_law_room", "_law_fresh", "_law_truth_here", "_law_told", "_law_again", "_law_thing", "_law_flag", "_law_many", "_law_great", "_law_name"] ["_law_script"] (defScope slaw) := ⟨rfl, rfl, rfl, by decide +kernel, rfl, by decide +kernel, by decide +kernel⟩
abbrev Dnlaw (K : PySem.W.Frag) (mg : Str → Option Value) := Dn K mg "law" slaw ["_law_script"]
theorem SkAt.exw {a c s : Addr} {H H' : Hp} {r : Int} {y : Tl} (h : SkAt H s r y) (x : Exw a H H') (w : Wl a c H) : SkAt H' s r y := by
  obtain ⟨k, ts, h1, ⟨o, h2, d⟩, h3⟩ := h
  exact ⟨k, ts, x.at w h1 (by intro _ z; cases z), ⟨o, x.at w h2 (by intro _ z; cases z), d⟩, paired_imp (fun t y ht => x.at w ht (by intro _ z; cases z)) h3⟩
theorem TupC.exw {a c k : Addr} {H H' : Hp} {ys : Ct} (h : TupC H k ys) (x : Exw a H H') (w : Wl a c H) : TupC H' k ys := by
  obtain ⟨us, ⟨o, h2, d⟩, h3⟩ := h.ob
  exact ⟨us, ⟨o, x.at w h2 (by intro _ z; cases z), d⟩, paired_imp (fun t y ht => x.at w ht (by intro _ z; cases z)) h3⟩
theorem SkA.exw {a c s : Addr} {H H' : Hp} {r : Int} {y : Tl} (h : SkA H s r y) (x : Exw a H H') (w : Wl a c H) : SkA H' s r y := ⟨h.at_.exw x w, h.ok, h.g⟩
/-- names that are in no pool -/
def zzL (P : List Nat) (n : Nat) : List Str := (poolL P n).map fun z => Str.ofString "zz" ++ z
theorem zz_cs (z : Str) : cs (Str.ofString "zz" ++ z) = [122, 122] ++ cs z := by rw [cs_app]; rfl
theorem fs_ok {PP P2 : List Nat} {n m : Nat} (hP : Pre PP) (hP2 : Pre P2) (hn : n ≤ 702) : (zzL P2 n).Nodup ∧ (∀ z ∈ zzL P2 n, Nm z) ∧ ∀ z ∈ poolL PP m, z ∉ zzL P2 n := by
  refine ⟨?_, fun z hz => ?_, fun z hz hf => ?_⟩
  · unfold zzL List.Nodup
    rw [List.pairwise_map]
    exact (poolL_nd P2 n).imp fun {a b} h e => h (cs_inj (by
      have := congrArg cs e
      rw [zz_cs, zz_cs] at this
      exact List.append_cancel_left this))
  · obtain ⟨y, hy, rfl⟩ := List.mem_map.mp hz
    obtain ⟨k, hk, rfl⟩ := List.mem_map.mp hy
    have hk := List.mem_range.mp hk
    obtain ⟨l1, l2⟩ := pnm_len (k := k) hP2
    refine nm_of (zz_cs _) (by rw [List.length_append]; omega) (by rw [List.length_append]; show 2 + _ ≤ 8; omega) fun c hc => ?_
    rcases List.mem_append.mp hc with hc | hc
    · simp at hc
      omega
    · exact pnm_abc hP2 (by omega) c hc
  · obtain ⟨k, hk, rfl⟩ := List.mem_map.mp hz
    obtain ⟨y, hy, e⟩ := List.mem_map.mp hf
    obtain ⟨j, hj, rfl⟩ := List.mem_map.mp hy
    have e := congrArg cs e
    rw [zz_cs] at e
    obtain ⟨l1, l2⟩ := pnm_len (k := j) hP2
    rcases fr_zz hP (j := k) (t := cs (pnm P2 j)) with h | h
    · exact h e.symm
    · omega
theorem papZ_is {r : Int} {x : Tl} {ys : Ct} (g : SkG r x.m x.o (srtZ x.c)) (ok : TlOk r x) (tr : TrOf x ys) (hm : x.m ≤ 1000) : PapIs r x ys (some ((papZ r x ys).map some)) := by
  have p := papZ_ok g ok tr
  have tree := papZ_tree g p (by omega)
  obtain ⟨x0, x', h0, h1, e⟩ := both_run g.r1 tree p.nm
  have pr := p.run
  rw [show ((r.toNat : Nat) : Int) = r by have := g.r1; omega, show ((x.o.toNat : Nat) : Int) = x.o by have := g.o0; omega] at pr
  have e2 : x0 = ⟨x.m, x.o, srtZ x.c⟩ := List.singleton_inj.mp (h0.symm.trans pr)
  refine ⟨_, rfl, tree, p.cnt, x', h1, ?_⟩
  rw [← e, e2]
  show (⟨x.m, x.o, srtZ (srtZ x.c)⟩ : Tl) = ⟨x.m, x.o, srtZ x.c⟩
  rw [srtZ_self (srtZ_asc ok.nd) (srtZ_nd ok.nd)]
theorem papZ_len {r : Int} {x : Tl} {ys : Ct} (g : SkG r x.m x.o (srtZ x.c)) (ok : TlOk r x) (tr : TrOf x ys) (hm : x.m ≤ 1000) : 0 < (papZ r x ys).length ∧ (papZ r x ys).length ≤ 5000 := by
  have p := papZ_ok g ok tr
  have h : (papZ r x ys).length = 1 + 4 * x.o.toNat := p.steps
  have tree := papZ_tree g p (by omega)
  have := tree.len
  omega
theorem stpP_sx {K : PySem.W.Frag} {H : Hp} : ∀ {vs : List V} {l : List Stp}, Paired (StpP K H) vs l → Paired (SxAt K H) vs (l.map some)
  | _, _, .nil => .nil
  | _, _, .cons h t => .cons h.at (stpP_sx t)
/-- a great sketch -/
def grX (m : Int) : Tl := ⟨m, 0, [(Str.ofString "a", m)]⟩
theorem gr_ok {m : Int} (h : 1 ≤ m) : TlOk 2 (grX m) := ⟨List.pairwise_singleton _ _, by show ((1 : Nat) : Int) ≤ 2; decide, fun e he => (by rw [List.mem_singleton.mp he]; exact h), fun e he => (by rw [List.mem_singleton.mp he]; exact nmA)⟩
theorem gr_srt {m : Int} : srtZ (grX m).c = [(Str.ofString "a", m)] := srtZ_self (List.pairwise_singleton _ _) (List.pairwise_singleton _ _)
theorem gr_g {m : Int} (h : 1 ≤ m) (h2 : m ≤ 2000) : SkG 2 (grX m).m (grX m).o (srtZ (grX m).c) := by
  rw [gr_srt]
  have e : sumC [(Str.ofString "a", m)] = m := by
    show m + 0 = m
    omega
  refine ⟨by decide, by decide, by show 0 ≤ m; omega, Int.le_refl _, ⟨fun e he => (by rw [List.mem_singleton.mp he]; exact nmA), fun e he => (by rw [List.mem_singleton.mp he]; exact h), List.pairwise_singleton _ _⟩, by show ((1 : Nat) : Int) ≤ 2; decide, ?_, ?_, ?_⟩
  · rw [e]
    show 3 * 0 ≤ m - m
    omega
  · rw [e]
    show m - m ≤ 2 * 2 * 0
    omega
  · show m < 2 ^ 100
    have : (2000 : Int) < 2 ^ 100 := by decide
    omega
theorem gr_tr {m : Int} (h : 1 ≤ m) : TrOf (grX m) [(Str.ofString "a", m)] := by
  refine ⟨List.pairwise_singleton _ _, List.pairwise_singleton _ _, fun e he => (by rw [List.mem_singleton.mp he]; exact h), fun e he => (by rw [List.mem_singleton.mp he]; exact nmA), fun k => Int.le_refl _, fun k => ?_, ?_⟩
  · show gd [(Str.ofString "a", m)] k - gd [(Str.ofString "a", m)] k ≤ 0
    omega
  · show m + 0 = m
    omega
structure Defs (K : PySem.W.Frag) (mg : Str → Option Value) (base : Heap) where
  T : Blt mg
  cM : Cst mg "MOST_ROOM" (.int 64)
  cL : Cst mg "LONGEST_NAME" (.int 8)
  cS' : Cst mg "MOST_STEPS" (.int 5000)
  cIs : Cst mg "MOST_ITEMS_streams" (.int 50000)
  cI : Cst mg "MOST_ITEMS_truths" (.int 1500)
  L : Tal K mg
  BX : Σ' B : TxMany K mg, XfC K B.C
  dP_is_int : DnIsInt K mg
  dP_is_number : DnIsNumber K mg
  dP_is_room : DnIsRoom K mg
  dP_is_name : DnIsName K mg
  dP_is_stream : DnIsStream K mg
  dP_is_tree : DnIsTree K mg
  dP_is_put : DnIsPut K mg
  dP_is_pour : DnIsPour K mg
  dP_are_counts : DnAreCounts K mg
  dP_is_counted : DnIsCounted K mg
  dP_counts_of : DnCountsOf K mg
  dP_lost_of : DnLostOf K mg
  dP_is_sketch : DnIsSketch K mg
  dP_bare : DnBare K mg
  dP_sketch_of : DnSketchOf K mg
  dP_is_truth : DnIsTruth K mg
  dP_paper : DnPaper K mg
  dP_repeated : DnRepeated K mg
  dP_layers : DnLayers K mg
  dP_is_paper : DnIsPaper K mg
  dhand : Dnhand K mg
  ddraw : Dndraw K mg
  dany : Dnany K mg
  dpool : Dnpool K mg
  dfed : Dnfed K mg
  dpoured : Dnpoured K mg
  dsketch : Dnsketch K mg
  dcounted : Dncounted K mg
  dtree : Dntree K mg
  dlost : Dnlost K mg
  dtruth : Dntruth K mg
  dis_int : Dnis_int K mg
  dis_name : Dnis_name K mg
  dare_counts : Dnare_counts K mg
  dis_truth : Dnis_truth K mg
  dis_tree : Dnis_tree K mg
  dis_paper : Dnis_paper K mg
  ddeep : Dndeep K mg
  ddrawn : Dndrawn K mg
  dbent : Dnbent K mg
  dword : Dnword K mg
def spLaw (K : PySem.W.Frag) : Sp := fun vs H Q _ => ∃ (a : Addr) (ns : List Int), vs = [.ref a] ∧ SqL K H a (ns.map V.int) ∧ ns.length ≤ 63 ∧ ∀ H', Q (.bl true) H'
section
variable {P : Program} {w : World} {K : PySem.W.Frag} {mg : Str → Option Value} {base : Heap}
theorem ok_law (F : Defs K mg base) (d : Dnlaw K mg) : FnOk P w K mg base CX0 8 d.f d.fd ["_law_script"] (spLaw K) := by
  obtain ⟨T, cM, cL, cS', cIs, cI, L, ⟨B, X1⟩, dP_is_int, dP_is_number, dP_is_room, dP_is_name, dP_is_stream, dP_is_tree, dP_is_put, dP_is_pour, dP_are_counts, dP_is_counted, dP_counts_of, dP_lost_of, dP_is_sketch, dP_bare, dP_sketch_of, dP_is_truth, dP_paper, dP_repeated, dP_layers, dP_is_paper, dhand, ddraw, dany, dpool, dfed, dpoured, dsketch, dcounted, dtree, dlost, dtruth, dis_int, dis_name, dare_counts, dis_truth, dis_tree, dis_paper, ddeep, ddrawn, dbent, dword⟩ := F
  have Ghand : FnOk P w K mg base CX0 1 dhand.f dhand.fd ["_law_script"] (spHand K) := ok_hand T dhand
  have Gdraw : FnOk P w K mg base CX0 1 ddraw.f ddraw.fd ["_law_hand_here", "_law_many"] spDraw := ok_draw T ddraw
  have Gpool : FnOk P w K mg base CX0 3 dpool.f dpool.fd ["_law_hand_here", "_law_many"] spPool := ok_pool T ddraw dany dpool
  have Gtree : FnOk P w K mg base CX0 3 dtree.f dtree.fd ["_law_hand_here", "_law_pool_here", "_law_streams", "_law_most"] (spTree K) := ok_tree T ddraw dany dtree
  have Gsketch : FnOk P w K mg base CX0 2 dsketch.f dsketch.fd ["_law_room", "_law_tree_here"] (spSketchL K) := ok_sketchL T dfed dpoured dsketch
  have Glost : FnOk P w K mg base CX0 1 dlost.f dlost.fd ["_law_sketch_here"] spLost := ok_lost T dlost
  have Gtruth : FnOk P w K mg base CX0 3 dtruth.f dtruth.fd ["_law_hand_here", "_law_sketch_here", "_law_fresh"] spTruth := ok_truth T ddraw dany dlost dtruth
  have Gis_truth : FnOk P w K mg base CX0 3 dis_truth.f dis_truth.fd ["_law_sketch_here", "_law_thing"] (spIsTruthL K) := ok_is_truthL T dlost dis_int dis_name dare_counts dis_truth
  have Gis_paper : FnOk P w K mg base CX0 3 dis_paper.f dis_paper.fd ["_law_sketch_here", "_law_truth_here", "_law_thing"] (spIsPaperL K) := ok_is_paperL T dis_name dis_tree dcounted dfed dpoured dsketch dis_paper
  have Gdrawn : FnOk P w K mg base CX0 4 ddrawn.f ddrawn.fd ["_law_hand_here"] (spDrawn K) := ok_drawn T ddraw dany dpool ddrawn
  have Gbent : FnOk P w K mg base CX0 3 dbent.f dbent.fd ["_law_hand_here", "_law_told", "_law_truth_here"] (spBent K) := ok_bent T ddraw ddeep dbent
  have Gword : FnOk P w K mg base CX0 7 dword.f dword.fd ["_law_sketch_here", "_law_truth_here", "_law_thing", "_law_which"] spWord := ok_word T B X1 cM cL cI dP_is_int dP_is_number dP_is_room dP_is_name dP_is_counted dP_are_counts dP_lost_of dP_is_sketch dP_is_truth dP_paper dword
  have GP_paper : FnOk P w K mg base CX0 6 dP_paper.f dP_paper.fd ["sketch", "truth"] (spPaperP K) := ok_paperP T cM cL cI dP_is_int dP_is_number dP_is_room dP_is_name dP_is_counted dP_are_counts dP_lost_of dP_is_sketch dP_is_truth dP_repeated dP_layers dP_paper
  have GP_is_paper : FnOk P w K mg base CX0 6 dP_is_paper.f dP_is_paper.fd ["sketch", "truth", "thing"] (spIsPaperL K) := ok_is_paperA T cM cL cS' cIs dP_is_int dP_is_number dP_is_room dP_is_name dP_is_counted dP_are_counts dP_lost_of dP_is_sketch dP_is_truth dP_is_stream dP_is_put dP_is_pour dP_is_tree dP_counts_of dP_bare L dP_sketch_of dP_is_paper
  refine d.F.ok sclaw (fun vs H Q X h => ?_) (fun cdv A outer s H vs Q X hr h => ?_)
  · obtain ⟨a, ns, rfl, _⟩ := h
    rfl
  · obtain ⟨sc, nsc, rfl, hSc, hscl, q⟩ := h
    refine ⟨_, (pss_cons (ps_set (i := 1) sclaw.nd rfl (Or.inl rfl) (pe_call Ghand (hr.mono (by omega)) (by rfl) dhand.g dhand.F.kp dhand.b .nil pass0 (pa_cons (pv 0) pa_nil)))
    (pss_cons (ps_for PassesOwn.never rfl (pi_range1 (by rfl) T.n_range (pa_cons pe_int pa_nil)) (pg_name (i := 2) sclaw.nd rfl (Or.inl rfl))
      (pss_cons (ps_set (i := 3) sclaw.nd rfl (Or.inl rfl) (pe_call Gdrawn (hr.mono (by omega)) (by rfl) ddrawn.g ddrawn.F.kp ddrawn.b .nil pass0 (pa_cons (pv 1) pa_nil)))
      (C8.pss_cut (ps_if (pt_cmpR op_eq (pe_call Gdraw (hr.mono (by omega)) (by rfl) ddraw.g ddraw.F.kp ddraw.b .nil pass0 (pa_cons (pv 1) (pa_cons pe_int pa_nil))) pe_int (nomark _))
        (pss_cons (ps_set (i := 4) sclaw.nd rfl (Or.inl rfl) (pe_op op_add pe_int (pe_call Gdraw (hr.mono (by omega)) (by rfl) ddraw.g ddraw.F.kp ddraw.b .nil pass0 (pa_cons (pv 1) (pa_cons pe_int pa_nil)))))
        (pss_one (ps_set (i := 3) sclaw.nd rfl (Or.inl rfl) (pe_call Gsketch (hr.mono (by omega)) (by rfl) dsketch.g dsketch.F.kp dsketch.b .nil pass0 (pa_cons (pv 4) (pa_cons (pe_call Gtree (hr.mono (by omega)) (by rfl) dtree.g dtree.F.kp dtree.b .nil pass0 (pa_cons (pv 1) (pa_cons (pe_call Gpool (hr.mono (by omega)) (by rfl) dpool.g dpool.F.kp dpool.b .nil pass0 (pa_cons (pv 1) (pa_cons (pe_op op_add pe_int (pe_call Gdraw (hr.mono (by omega)) (by rfl) ddraw.g ddraw.F.kp ddraw.b .nil pass0 (pa_cons (pv 1) (pa_cons (pe_op op_mul pe_int (pv 4)) pa_nil)))) pa_nil))) (pa_cons pe_int (pa_cons pe_int pa_nil))))) pa_nil))))))
        pss_nil)
      (pss_cons (ps_setLc (i := 5) (own := [("_law_name", 13)]) (g := gName 13) (tt := tYes) rfl sclaw.nd rfl rfl (sw_true rfl rfl rfl (by decide +kernel)) (pi_list (pe_call Gpool (hr.mono (by omega)) (by rfl) dpool.g dpool.F.kp dpool.b .nil pass0 (pa_cons (pv 1) (pa_cons (pe_op op_add pe_int (pe_call Glost (hr.mono (by omega)) (by rfl) dlost.g dlost.F.kp dlost.b .nil pass0 (pa_cons (pv 3) pa_nil))) pa_nil)))) (blkOk_by (N := Nlaw) (sc := defScope slaw) (by decide +kernel)) (fun _ _ _ _ _ => pg_name (i := 13) sclaw.nd rfl (Or.inl rfl)) (fun _ _ _ _ _ => pts_nil) (fun _ _ _ _ _ => (pe_op op_add_str pe_str (pv 13))))
      (pss_cons (ps_set (i := 6) sclaw.nd rfl (Or.inl rfl) (pe_call Gtruth (hr.mono (by omega)) (by rfl) dtruth.g dtruth.F.kp dtruth.b .nil pass0 (pa_cons (pv 1) (pa_cons (pv 3) (pa_cons (pv 5) pa_nil)))))
      (pss_cons (ps_set (i := 7) sclaw.nd rfl (Or.inl rfl) (pe_call GP_paper (hr.mono (by omega)) (by rfl) dP_paper.g dP_paper.F.kp dP_paper.b .nil pass0 (pa_cons (pv 3) (pa_cons (pv 6) pa_nil))))
      (pss_cons (ps_if (PW.pt (pw_or (pt_not (pt_val (pe_call Gis_truth (hr.mono (by omega)) (by rfl) dis_truth.g dis_truth.F.kp dis_truth.b .nil pass0 (pa_cons (pv 3) (pa_cons (pv 6) pa_nil))))) (pw_or1 (pt_not (pt_val (pe_call Gis_paper (hr.mono (by omega)) (by rfl) dis_paper.g dis_paper.F.kp dis_paper.b .nil pass0 (pa_cons (pv 3) (pa_cons (pv 6) (pa_cons (pv 7) pa_nil)))))))))
        (pss_one (ps_ret pe_bl))
        pss_nil)
      (pss_one (ps_for PassesOwn.never rfl (pi_range1 (by rfl) T.n_range (pa_cons pe_int pa_nil)) (pg_name (i := 8) sclaw.nd rfl (Or.inl rfl))
        (pss_cons (ps_set (i := 9) sclaw.nd rfl (Or.inl rfl) (pe_call Gbent (hr.mono (by omega)) (by rfl) dbent.g dbent.F.kp dbent.b .nil pass0 (pa_cons (pv 1) (pa_cons (pv 7) (pa_cons (pv 6) pa_nil)))))
        (pss_cons (ps_set (i := 10) sclaw.nd rfl (Or.inl rfl) (pe_call GP_is_paper (hr.mono (by omega)) (by rfl) dP_is_paper.g dP_is_paper.F.kp dP_is_paper.b .nil pass0 (pa_cons (pv 3) (pa_cons (pv 6) (pa_cons (pv 9) pa_nil)))))
        (pss_one (ps_if (PW.pt (pw_or (pt_not (pt_val (pe_callB call_isi (by rfl) T.n_isinstance (by decide +kernel) (pa_cons (pv 10) (pa_cons (pe_bltn (v := .ty "bool") (by rfl) T.n_bool (by decide +kernel) rfl) pa_nil))))) (pw_or1 (pt_cmpR op_ne (pv 10) (pe_call Gis_paper (hr.mono (by omega)) (by rfl) dis_paper.g dis_paper.F.kp dis_paper.b .nil pass0 (pa_cons (pv 3) (pa_cons (pv 6) (pa_cons (pv 9) pa_nil)))) (nomark _)))))
          (pss_one (ps_ret pe_bl))
          pss_nil)))))))))))))
    (pss_cons (ps_set (i := 11) sclaw.nd rfl (Or.inl rfl) (pe_op op_add pe_int (pe_call Gdraw (hr.mono (by omega)) (by rfl) ddraw.g ddraw.F.kp ddraw.b .nil pass0 (pa_cons (pv 1) (pa_cons pe_int pa_nil)))))
    (pss_cons (ps_set (i := 12) sclaw.nd rfl (Or.inl rfl) (pe_tup (pa_cons pe_int (pa_cons (pv 11) (pa_cons pe_int (pa_cons (pe_tupF (pa_cons (pe_tup (pa_cons pe_str (pa_cons (pv 11) pa_nil))) pa_nil)) pa_nil))))))
    (pss_one (ps_ret (pe_cmpR (op_eqD hr.units) (pe_call Gword (hr.mono (by omega)) (by rfl) dword.g dword.F.kp dword.b .nil pass0 (pa_cons (pv 12) (pa_cons (pe_ix ix_tup (pv 12) pe_int (fun _ _ => rfl)) (pa_cons pe_non (pa_cons pe_int pa_nil))))) (pe_tup (pa_cons pe_str (pa_cons pe_int pa_nil))) (nomark _)))))))), ?_⟩
    refine ⟨.ref sc, rfl, sc, nsc, rfl, hSc, hscl, fun H1 a c s1 _ w1 => ?_⟩
    refine ⟨2, rfl, by decide, by decide, ?_⟩
    refine for_range (lo := 0) (n := 2) (fun i σ H2 => ∃ y2 y3 y4 y5 y6 y7 y8 y9 y10 y13 : Option V, σ = [some (.ref sc), some (.ref a), y2, y3, y4, y5, y6, y7, y8, y9, y10, none, none, y13] ∧ Wl a c H2)
      ⟨_, _, _, _, _, _, _, _, _, _, rfl, w1⟩ ?_ ?_
    · rintro i σ H2 hi ⟨y2, y3, y4, y5, y6, y7, y8, y9, y10, y13, rfl, w2⟩
      clear w1
      refine ⟨.ref a, rfl, a, c, rfl, w2, fun H3 sk r x PP n x3 w3 ska hm hlo hP hn hin => ?_⟩
      clear w2 x3
      -- another sketch
      refine ⟨fun σ H4 => ∃ (sk : Addr) (r : Int) (x : Tl) (PP : List Nat) (n : Nat) (y4 : Option V), σ = [some (.ref sc), some (.ref a), some (.int (0 + (i : Int))), some (.ref sk), y4, y5, y6, y7, y8, y9, y10, none, none, y13] ∧ Wl a c H4 ∧ SkA H4 sk r x ∧ x.m ≤ 1000 ∧ x.m - sumC x.c ≤ 600 ∧ Pre PP ∧ n ≤ 64 ∧ ∀ e ∈ x.c, e.1 ∈ poolL PP n, ?_, ?_⟩
      · refine ⟨.ref a, rfl, a, c, 2, rfl, w3, by decide, by decide, fun H4 v x4 w4 _ _ => ⟨rfl, decide (V.int v = V.int 0), rfl, ite2 (fun _ => ?_) (fun _ => ?_)⟩⟩
        case' refine_2 => exact ⟨sk, r, x, PP, n, _, rfl, w4, ska.exw x4 w3, hm, hlo, hP, hn, hin⟩
        clear ska hm hlo hP hn hin w3 x4
        refine ⟨.ref a, rfl, a, c, 6, rfl, w4, (by decide), (by decide), fun H12 r1 x12 w12 r10 r11 => ⟨_, _, rfl, rfl, ?_⟩⟩
        obtain ⟨rm, hrm, rm1, rm2⟩ : ∃ rm : Int, 1 + r1 = rm ∧ 1 ≤ rm ∧ rm ≤ 6 := ⟨1 + r1, rfl, by omega, by omega⟩
        show gName 4 (V.int (1 + r1)) _ _ _
        rw [hrm]
        refine ⟨.int rm, rfl, .ref a, rfl, .ref a, rfl, .ref a, rfl, .int rm, rfl, _, _, rfl, rfl, cmulL (by decide) (by decide), a, c, _, rfl, w12, (by omega), (by omega), fun H13 r4 x13 w13 r40 r41 => ⟨_, _, rfl, rfl, ?_⟩⟩
        obtain ⟨r4, rfl⟩ := Int.eq_ofNat_of_zero_le r40
        refine ⟨a, c, 2 + r4, (by rw [Int.natCast_add]; rfl), w13, by omega, fun H14 l PP x14 w14 nl la lc hl hP => ?_⟩
        have hns : ∀ z ∈ poolL PP (2 + r4), Nm z := fun z hz => poolL_nm hP (by omega) hz
        have hpl : (poolL PP (2 + r4)).length = 2 + r4 := by unfold poolL; rw [List.length_map, List.length_range]
        refine ⟨a, c, l, poolL PP (2 + r4), 5, 20, rfl, w14, la, hl, (by omega), (by omega), hns, (by decide), (by decide), (by decide), (by decide), fun H15 t ti st x15 w15 nt htree gr hti => ?_⟩
        obtain ⟨x0, x', out⟩ := tree_out (r := rm) rm1 hns gr (by omega)
        have trT := gr_tree gr (by omega)
        have hN : ∀ zs, .put zs ∈ st → ∀ z ∈ zs, Nm z := fun zs hz z hzz => hns z (gr.nm zs hz z hzz)
        refine ⟨rm, t, st, x', rfl, rm1, by omega, htree, trT, hN, out.rl, fun H16 gk s16 hgk => ?_⟩
        have ok' := out.ok
        have bd := out.bd
        have mf := out.few
        have sx : sumC (srtZ x'.c) = sumC x'.c := sumC_perm' (srtZ_perm x'.c)
        have sm0 : 0 ≤ sumC x'.c := sumC_nn fun e he => by have := ok'.pos e he; omega
        have g' : SkG rm x'.m x'.o (srtZ x'.c) := ⟨rm1, by omega, bd.many, bd.off, cts_of ok', by rw [(srtZ_perm x'.c).length_eq]; exact ok'.len, by rw [sx]; exact bd.low, by rw [sx]; exact bd.high, by
          have : (360 : Int) < 2 ^ 100 := by decide
          omega⟩
        exact ⟨gk, rm, x', PP, 2 + r4, _, rfl, w15.same s16, ⟨hgk, ok', g'⟩, by omega, by omega, hP, by omega, out.inn⟩
      clear ska hm hlo hP hn hin w3
      rintro σ H4 ⟨sk, r, x, PP, n, y4, rfl, w4, ska, hm, hlo, hP, hn, hin⟩
      clear H3
      have ok := ska.ok
      have g := ska.g
      have r64 := g.r64
      have o0 := g.o0
      have hcl := ok.len
      have sx : sumC (srtZ x.c) = sumC x.c := sumC_perm' (srtZ_perm x.c)
      have mS : ∀ e, e ∈ srtZ x.c ↔ e ∈ x.c := fun e => (srtZ_perm x.c).mem_iff
      have glo := g.lo
      have ghi := g.hi
      rw [sx] at glo ghi
      have ol0 : 0 ≤ (r + 1) * x.o := Int.mul_nonneg (by have := g.r1; omega) o0
      have ole : x.o ≤ x.m - sumC x.c := by
        have : 1 * x.o ≤ (r + 1) * x.o := Int.mul_le_mul_of_nonneg_right (by have := g.r1; omega) o0
        omega
      obtain ⟨LN, hLN⟩ : ∃ LN : Nat, x.m - sumC x.c = (LN : Int) := ⟨(x.m - sumC x.c).toNat, by omega⟩
      -- fresh names
      refine ⟨.ref a, rfl, .ref sk, rfl, sk, r, x, rfl, ska.at_, by omega, fun H17 s17 => ⟨_, _, rfl, rfl, ?_⟩⟩
      have w17 := w4.same s17
      have sk17 := ska.same s17
      refine ⟨a, c, 1 + LN, by rw [hLN, Int.natCast_add]; rfl, w17, by omega, fun H18 lp P2 x18 w18 nlp lpa lpc hlp hP2 => ⟨lp, rfl, ⟨_, sql hlp⟩, fun F nF => ?_⟩⟩
      have sk18 := sk17.exw x18 w17
      clear ska w4 w17 sk17 s17 x18
      have pl2 : (poolL P2 (1 + LN)).length = 1 + LN := by unfold poolL; rw [List.length_map, List.length_range]
      refine lc_list (xs := (poolL P2 (1 + LN)).map V.str) (fun j H19 => Same H18 H19 ∧ H19 F = some (.lst ((((poolL P2 (1 + LN)).take j).map fun z => Str.ofString "zz" ++ z).map V.str))) ⟨same_upd nF, upd_same⟩ (fun j H19 _ h => sql (h.1 _ _ hlp)) (fun j v H19 hv h => ?_) (fun H19 h => ?_)
      · obtain ⟨z, hz, rfl⟩ := map_at hv
        obtain ⟨s19, hF19⟩ := h
        have hj := (List.getElem?_eq_some_iff.mp hz).1
        have hzm := List.mem_of_getElem? hz
        obtain ⟨k, hk, hke⟩ := List.mem_map.mp hzm
        have pl := pnm_len (k := k) hP2
        refine ⟨rfl, .str z, rfl, _, _, rfl, rfl, ?_, _, hF19, by rw [List.length_map, List.length_map, List.length_take, sizeLine_eq]; omega, Same.put s19 nF, ?_⟩
        · show 2 + z.length ≤ _
          rw [sizeLine_eq, ← hke, ← cs_len]
          omega
        · rw [upd_same, List.take_add_one, hz, List.map_append, List.map_append]
          rfl
      obtain ⟨s19, hF19⟩ := h
      rw [List.length_map, List.take_length] at hF19
      have sk19 := sk18.same s19
      have w19 := w18.same s19
      have Fa : F ≠ a := (w18.ne2 nF).1
      obtain ⟨fnd, fnm, fout⟩ := fs_ok (n := 1 + LN) (m := n) hP hP2 (by omega)
      have hF19 : H19 F = some (.lst ((zzL P2 (1 + LN)).map V.str)) := hF19
      have flen : (zzL P2 (1 + LN)).length = LN + 1 := by
        unfold zzL
        rw [List.length_map, pl2]
        omega
      generalize zzL P2 (1 + LN) = fs at hF19 fnd fnm fout flen
      have allnd : ((srtZ x.c).map (·.1) ++ fs).Nodup := by
        rw [List.nodup_append]
        refine ⟨srtZ_nd ok.nd, fnd, fun u hu v hv e => ?_⟩
        subst e
        obtain ⟨e, he, rfl⟩ := List.mem_map.mp hu
        exact fout _ (hin e ((mS _).mp he)) hv
      have lostle : x.m - sumC x.c ≤ (((srtZ x.c).map (·.1) ++ fs).length : Nat) * x.o := by
        by_cases e : x.o = 0
        · have := ghi
          rw [e, Int.mul_zero] at this
          rw [e, Int.mul_zero]
          exact this
        · have hl : (LN : Int) ≤ ((((srtZ x.c).map (·.1) ++ fs).length : Nat) : Int) := by
            have := List.length_append (as := (srtZ x.c).map (·.1)) (bs := fs)
            omega
          have h1 : (LN : Int) * 1 ≤ ((((srtZ x.c).map (·.1) ++ fs).length : Nat) : Int) * x.o := Int.mul_le_mul hl (by omega) (by decide) (by omega)
          rw [hLN]
          omega
      clear sk18 w18 s19 nF hlp
      -- a truth
      refine ⟨.ref a, rfl, .ref sk, rfl, .ref F, rfl, a, c, sk, F, r, x, fs, rfl, w19, sk19.at_, ok, by omega, Fa, hF19, by omega, allnd, fnm, o0, by omega, by omega, lostle, fun H22 k ts ys x22 w22 nk ptk prk ofy yl => ?_⟩
      have sk22 := sk19.exw x22 w19
      have tc22 : TupC H22 k ys := ⟨ts, ptk, prk⟩
      clear sk19 w19 x22 hF19 ptk prk nk
      -- its paper
      refine ⟨.ref sk, rfl, .ref k, rfl, sk, k, r, x, ys, rfl, sk22, hm, tc22, ofy, fun H23 p vs s23 hp23 hv23 => ?_⟩
      have sk23 := sk22.same s23
      have tc23 := tc22.same s23
      have w23 := w22.same s23
      clear sk22 tc22 w22 s23
      have pis := papZ_is g ok ofy hm
      have plen := papZ_len g ok ofy hm
      generalize papZ r x ys = pz at hv23 pis plen
      have tat : ∀ {H : Hp}, Ptp H p vs → Paired (StpP K H) vs pz → TrAt K H (.ref p) (some (pz.map some)) := fun {H} h1 h2 => by
        exact ⟨p, vs, rfl, h1.seq, stpP_sx h2, by have := Paired.length h2; omega⟩
      refine ⟨.ref sk, rfl, .ref k, rfl, sk, .ref k, r, x, _, rfl, sk23.at_, ok, r64, tc23.th ofy.nm (by omega), fun H24 b s24 hb => ?_⟩
      cases (hb.mpr (ofy.trP ok))
      have sk24 := sk23.same s24
      have tc24 := tc23.same s24
      have w24 := w23.same s24
      have hp24 := hp23.same s24
      have hv24 : Paired (StpP K H24) vs pz := paired_imp (fun _ _ h => h.same s24) hv23
      clear sk23 tc23 w23 hp23 hv23 s24 hb
      refine ⟨true, rfl, iteF ⟨.ref sk, rfl, .ref k, rfl, .ref p, rfl, sk, k, .ref p, r, x, ys, _, rfl, sk24, hm, tc24, ofy, tat hp24 hv24, fun H25 b s25 hb => ?_⟩⟩
      cases (hb.mpr pis)
      have sk25 := sk24.same s25
      have tc25 := tc24.same s25
      have w25 := w24.same s25
      have hp25 := hp24.same s25
      have hv25 : Paired (StpP K H25) vs pz := paired_imp (fun _ _ h => h.same s25) hv24
      clear sk24 tc24 w24 hp24 hv24 s25 hb
      refine ⟨true, rfl, iteF ?_⟩
      -- bent
      refine ⟨5, rfl, by decide, by decide, ?_⟩
      refine for_range (lo := 0) (n := 5) (fun l σ H26 => ∃ y8 y9 y10 y13 : Option V, σ = [some (.ref sc), some (.ref a), some (.int (0 + (i : Int))), some (.ref sk), y4, some (.ref F), some (.ref k), some (.ref p), y8, y9, y10, none, none, y13] ∧ Wl a c H26 ∧ SkA H26 sk r x ∧ TupC H26 k ys ∧ Ptp H26 p vs ∧ Paired (StpP K H26) vs pz)
        ⟨_, _, _, _, rfl, w25, sk25, tc25, hp25, hv25⟩ ?_ ?_
      · rintro l σ H26 hl ⟨y8, y9, y10, y13, rfl, w26, sk26, tc26, hp26, hv26⟩
        clear w25 sk25 tc25 hp25 hv25
        have sy : sumC ys = x.m := ofy.sum
        refine ⟨.ref a, rfl, .ref p, rfl, .ref k, rfl, a, c, p, k, vs, pz, ys, rfl, w26, hp26, hv26, plen.1, plen.2, tc26, (fun e he => ⟨by have := ofy.pos e he; omega, ofy.nm e he⟩), by omega, by omega, fun H27 v th x27 w27 hat => ?_⟩
        have kp := Exw.kp (K := K) x27 w26 w27
        have sk27 := sk26.exw x27 w26
        have tc27 := tc26.exw x27 w26
        have hp27 := kp.p _ _ hp26
        have hv27 : Paired (StpP K H27) vs pz := paired_imp (fun _ _ h => h.kp kp) hv26
        clear w26 sk26 tc26 hp26 hv26 kp x27
        refine ⟨.ref sk, rfl, .ref k, rfl, v, rfl, sk, k, v, r, x, ys, th, rfl, sk27, hm, tc27, ofy, hat, fun H28 b s28 hb => ?_⟩
        refine ⟨.bl b, rfl, .bl b, _, _, _, true, rfl, .ty "bool", .base (.bl b), kit_ty (by decide +kernel), true, rfl, iteF ?_⟩
        refine ⟨.bl b, rfl, .ref sk, rfl, .ref k, rfl, v, rfl, sk, k, v, r, x, ys, th, rfl, sk27.same s28, hm, tc27.same s28, ofy, hat.same s28, fun H29 b2 s29 hb2 => ?_⟩
        have eb : b = b2 := Bool.eq_iff_iff.mpr (hb.trans hb2.symm)
        subst eb
        refine ⟨rfl, false, congrArg V.bl (by simp), iteF ?_⟩
        have s79 := Same.trans s28 s29
        exact ⟨_, _, _, _, rfl, w27.same s79, sk27.same s79, tc27.same s79, hp27.same s79, paired_imp (fun _ _ h => h.same s79) hv27⟩
      · rintro σ H26 ⟨y8, y9, y10, y13, rfl, w26, _⟩
        exact ⟨_, _, _, _, _, _, _, _, _, _, rfl, w26⟩
    · rintro σ H2 ⟨y2, y3, y4, y5, y6, y7, y8, y9, y10, y13, rfl, w2⟩
      refine ⟨.ref a, rfl, a, c, 9, rfl, w2, (by decide), (by decide), fun H3 v x3 w3 v0 v1 => ⟨_, _, rfl, rfl, ?_⟩⟩
      obtain ⟨mn, hmn, mn1, mn2⟩ : ∃ mn : Int, 1501 + v = mn ∧ 1501 ≤ mn ∧ mn ≤ 1509 := ⟨1501 + v, rfl, by omega, by omega⟩
      show gName 11 (V.int (1501 + v)) _ _ _
      rw [hmn]
      refine ⟨.int mn, rfl, .int mn, rfl, (by show 2 ≤ sizeLine; decide), fun t1 nt1 => ⟨(by show 1 ≤ sizeLine; decide), fun t2 ob nt2 ho => ⟨(by show 4 ≤ sizeLine; decide), fun t0 nt0 => ?_⟩⟩⟩
      have h0 : (upd (upd (upd H3 t1 (.tup [.str (Str.ofString "a"), .int mn])) t2 (.frz ob (.tup [.ref t1]))) t0 (.tup [.int 2, .int mn, .int 0, .ref t2])) t0 = some (.tup [.int 2, .int mn, .int 0, .ref t2]) := upd_same
      have s0 := same_upd (o := .tup [.int 2, .int mn, .int 0, .ref t2]) nt0
      have s2 := same_upd (o := .frz ob (.tup [.ref t1])) nt2
      have h2 : (upd (upd (upd H3 t1 (.tup [.str (Str.ofString "a"), .int mn])) t2 (.frz ob (.tup [.ref t1]))) t0 (.tup [.int 2, .int mn, .int 0, .ref t2])) t2 = some (.frz ob (.tup [.ref t1])) := s0 _ _ upd_same
      have h1 : (upd (upd (upd H3 t1 (.tup [.str (Str.ofString "a"), .int mn])) t2 (.frz ob (.tup [.ref t1]))) t0 (.tup [.int 2, .int mn, .int 0, .ref t2])) t1 = some (.tup [.str (Str.ofString "a"), .int mn]) := s0 _ _ (s2 _ _ upd_same)
      generalize upd (upd (upd H3 t1 (.tup [.str (Str.ofString "a"), .int mn])) t2 (.frz ob (.tup [.ref t1]))) t0 (.tup [.int 2, .int mn, .int 0, .ref t2]) = H4 at h0 h1 h2 ⊢
      have pt2 : Ptp H4 t2 ([t1].map V.ref) := ⟨ob, h2, ho⟩
      have pr2 : Paired (PrT H4) [t1] [(Str.ofString "a", mn)] := .cons h1 .nil
      have ska : SkA H4 t0 2 (grX mn) := ⟨⟨t2, [t1], h0, pt2, by rw [gr_srt]; exact pr2⟩, gr_ok (by omega), gr_g (by omega) (by omega)⟩
      refine ⟨.ref t0, rfl, .ref t0, rfl, t0, _, _, _, rfl, rfl, .inl (.inl h0), atI_nat (j := 3) rfl, t0, t2, .non, 2, grX mn, _, rfl, ska, (by show 1500 < mn; omega), ⟨[t1], pt2, pr2⟩, gr_tr (by omega), (by show 1 ≤ 1000; decide), fun p H5 s5 hp => ?_⟩
      refine ⟨(by show 2 ≤ sizeLine; decide), fun p2 np2 => ?_⟩
      refine ⟨.tuple [.str (Str.ofString "many"), .int 1500], .tuple [.str (Str.ofString "many"), .int 1500], .tup (.inl (.inl (same_upd np2 _ _ hp))) (.cons (.str _) (.cons (.int _) .nil)), .tup (.inl (.inl upd_same)) (.cons (.str _) (.cons (.int _) .nil)), by decide +kernel, by decide +kernel, ?_⟩
      rw [show PyData.eqv (.tuple [.str (Str.ofString "many"), .int 1500]) (.tuple [.str (Str.ofString "many"), .int 1500]) = true by decide +kernel]
      exact q _
end
end Kb

namespace Kb
open PySem PySem.Spec PyProof.Rows L2
/-- a def as the top has left it -/
def dn_of {K : PySem.W.Frag} {h : Heap} {mg : Str → Option Value} {nm : Str} {st : Stmt} {ps : List Str} {f : Addr} {oc : Value} {od an : Option Addr} {osl : Array (Option Value)} {kV doc pm cdv ct : Value} (X : K.In h) (G : h.Ns mainGlobals mg)
    (fa : PySem.W.nsIn K mainGlobals nm = some (some (.ref f))) (fl : K.lookup f = some ⟨oc, od, .func (PySem.W.fnOf nm nm (defArgs st) (defBody st) (defScope st) .none kV doc pm an cdv ct), osl⟩) (fc : PySem.W.codeIn K cdv nm = true) (fk : PySem.W.keepIn K (.ref f) = true)
    (fb : ∀ (kV doc pm : Value) (an : Option Addr) (cdv ct : Value) (us : List Value), us.length = ps.length → bindArgs (PySem.W.fnOf nm nm (defArgs st) (defBody st) (defScope st) .none kV doc pm an cdv ct) ⟨us, []⟩ = pure (ps.zip us)) : Dn K mg nm st ps :=
  ⟨f, _, fun_mk fl fc fk, PySem.W.mg_of X G fa, (fun_mk fl fc fk).binds fb⟩
def cst_of {K : PySem.W.Frag} {h : Heap} {mg : Str → Option Value} {nm : Str} {i : Int} {t : Tok} (X : K.In h) (G : h.Ns mainGlobals mg) (fa : PySem.W.nsIn K mainGlobals nm = some (some (.int i t))) : Cst mg nm (.int i) := ⟨_, PySem.W.mg_of X G fa, ⟨_, rfl⟩⟩
/-- the class as the top has left it -/
def tal_of {K : PySem.W.Frag} {h : Heap} {mg : Str → Option Value} {C fI fS fF fP fT : Addr} {odI anI odS anS odF anF odP anP odT anT : Option Addr} {slI slS slF slP slT : Array (Option Value)} {ocI kVI dcI pmI cdI ctI ocS kVS dcS pmS cdS ctS ocF kVF dcF pmF cdF ctF ocP kVP dcP pmP cdP ctP ocT kVT dcT pmT cdT ctT : Value} (X : K.In h) (G : h.Ns mainGlobals mg)
    (aCls : PySem.W.nsIn K mainGlobals "Tally" = some (some (.ref C)))
    (aI : PySem.W.findIn K (.ref C) "__init__" = some (some (.ref fI))) (iI : PySem.W.isFn K (.ref fI) = true) (lI : K.lookup fI = some ⟨ocI, odI, .func (PySem.W.fnOf "__init__" "Tally.__init__" (defArgs sTinit) (defBody sTinit) (defScope sTinit) .none kVI dcI pmI anI cdI ctI), slI⟩) (cI : PySem.W.codeIn K cdI "Tally.__init__" = true) (kI : PySem.W.keepIn K (.ref fI) = true)
    (aS : PySem.W.findIn K (.ref C) "sketch" = some (some (.ref fS))) (iS : PySem.W.isFn K (.ref fS) = true) (lS : K.lookup fS = some ⟨ocS, odS, .func (PySem.W.fnOf "sketch" "Tally.sketch" (defArgs sTsketch) (defBody sTsketch) (defScope sTsketch) .none kVS dcS pmS anS cdS ctS), slS⟩) (cS : PySem.W.codeIn K cdS "Tally.sketch" = true) (kS : PySem.W.keepIn K (.ref fS) = true)
    (aF : PySem.W.findIn K (.ref C) "gain" = some (some (.ref fF))) (iF : PySem.W.isFn K (.ref fF) = true) (lF : K.lookup fF = some ⟨ocF, odF, .func (PySem.W.fnOf "gain" "Tally.gain" (defArgs sTfeed) (defBody sTfeed) (defScope sTfeed) .none kVF dcF pmF anF cdF ctF), slF⟩) (cF : PySem.W.codeIn K cdF "Tally.gain" = true) (kF : PySem.W.keepIn K (.ref fF) = true)
    (aP : PySem.W.findIn K (.ref C) "pour" = some (some (.ref fP))) (iP : PySem.W.isFn K (.ref fP) = true) (lP : K.lookup fP = some ⟨ocP, odP, .func (PySem.W.fnOf "pour" "Tally.pour" (defArgs sTpour) (defBody sTpour) (defScope sTpour) .none kVP dcP pmP anP cdP ctP), slP⟩) (cP : PySem.W.codeIn K cdP "Tally.pour" = true) (kP : PySem.W.keepIn K (.ref fP) = true)
    (aT : PySem.W.findIn K (.ref C) "_take" = some (some (.ref fT))) (iT : PySem.W.isFn K (.ref fT) = true) (lT : K.lookup fT = some ⟨ocT, odT, .func (PySem.W.fnOf "_take" "Tally._take" (defArgs sTtake) (defBody sTtake) (defScope sTtake) .none kVT dcT pmT anT cdT ctT), slT⟩) (cT : PySem.W.codeIn K cdT "Tally._take" = true) (kT : PySem.W.keepIn K (.ref fT) = true)
    (pg : PySem.W.plainGet K C Str.empty = true) (hd : PySem.W.hasDictIn K C = true) (po : PySem.W.plainOver K C = true) (sa : PySem.W.findIn K (.ref C) "__setattr__" = some (some (.builtin "object.__setattr__"))) (mk : PySem.W.makesIn K C = true) (kc : PySem.W.keepIn K (.ref C) = true)
    (nR : PySem.W.findIn K (.ref C) "room" = some none) (nM : PySem.W.findIn K (.ref C) "seen" = some none) (nO : PySem.W.findIn K (.ref C) "off" = some none) (nC : PySem.W.findIn K (.ref C) "counts" = some none) : Tal K mg :=
  { C := C, fI := fI, fS := fS, fF := fF, fP := fP, fT := fT, dI := _, dS := _, dF := _, dP := _, dT := _, FI := fun_mk lI cI kI, FS := fun_mk lS cS kS, FF := fun_mk lF cF kF, FP := fun_mk lP cP kP, FT := fun_mk lT cT kT,
    bI := (fun_mk (st := sTinit) lI cI kI).binds fun _ _ _ _ _ _ us hl => match us, hl with | [_, _], _ => rfl, bS := (fun_mk (st := sTsketch) lS cS kS).binds fun _ _ _ _ _ _ us hl => match us, hl with | [_], _ => rfl, bF := (fun_mk (st := sTfeed) lF cF kF).binds fun _ _ _ _ _ _ us hl => match us, hl with | [_, _, _], _ => rfl, bP := (fun_mk (st := sTpour) lP cP kP).binds fun _ _ _ _ _ _ us hl => match us, hl with | [_, _], _ => rfl, bT := (fun_mk (st := sTtake) lT cT kT).binds fun _ _ _ _ _ _ us hl => match us, hl with | [_, _], _ => rfl,
    mI := ⟨mk, aI, iI, kc⟩, mS := ⟨aS, iS, kS⟩, mF := ⟨aF, iF, kF⟩, mP := ⟨aP, iP, kP⟩, mT := ⟨aT, iT, kT⟩, cl := ⟨pg, hd, po, sa⟩, nR := nR, nM := nM, nO := nO, nC := nC, g := PySem.W.mg_of X G aCls }
/-- an error with a field -/
def bad_of {K : PySem.W.Frag} {h : Heap} {mg : Str → Option Value} {C f : Addr} {nm q : Str} {N : Addr} {bs bm : List Value} {sn : List Str} {sub : List Value} {ab : Bool} {col : Option Bool} {dd : Option Addr} {m0 m1 m2 m3 m5 : Option Value} {oc : Value} {od an : Option Addr} {osl : Array (Option Value)} {kV doc pm cdv ct : Value} (X : K.In h) (G : h.Ns mainGlobals mg)
    (e1 : PySem.W.nsIn K mainGlobals "TooMany" = some (some (.ref C))) (e2 : K.lookup C = some (excClassObj nm q C N bs bm true sn sub ab col dd m0 m1 m2 m3 m5 "ValueError.__new__")) (e3 : PySem.HandSPX.refsVE bm = true)
    (e4 : PySem.W.findIn K (.ref C) "__setattr__" = some (some (.builtin "object.__setattr__"))) (e5 : PySem.W.subIn K (.ref C) (.type "BaseException") = some true) (e6 : PySem.W.typeIn K (.ref C) = some (.type "type")) (e7 : PySem.W.keepIn K (.ref C) = true)
    (e8 : PySem.W.findIn K (.ref C) "__init__" = some (some (.ref f))) (e9 : PySem.W.typeIn K (.ref f) = some (.type "function"))
    (e10 : K.lookup f = some ⟨oc, od, .func (PySem.W.fnOf "__init__" "TooMany.__init__" (defArgs sMany) (defBody sMany) (defScope sMany) .none kV doc pm an cdv ct), osl⟩) (e11 : PySem.W.codeIn K cdv "TooMany.__init__" = true) (e12 : PySem.W.keepIn K (.ref f) = true)
    (e13 : PySem.W.findIn K (.ref C) "most" = some none) (e14 : PySem.W.exmOne K (.ref C) (.ref C) = some true)
    (e15 : PySem.W.findIn K (.ref C) "__getattribute__" = some (some (.builtin "BaseException.__getattribute__"))) (e16 : PySem.W.findIn K (.ref C) "__getattr__" = some none) (e17 : PySem.W.hasDictIn K C = true) : Σ' B : TxMany K mg, XfC K B.C :=
  ⟨{ C := C, fI := f, fdI := _, oex := ⟨⟨nm, q, N, bs, bm, sn, sub, ab, col, dd, m0, m1, m2, m3, m5, e2, e3⟩, e4, e5, e6, e7⟩, iC := e8, tI := e9, F := ⟨⟨_, _, _, _, _, _, _, _, _, rfl, e10, e11⟩, e12⟩, b := Fun.binds (x := "__init__") (qual := "TooMany.__init__") (st := sMany) ⟨⟨_, _, _, _, _, _, _, _, _, rfl, e10, e11⟩, e12⟩ (fun _ _ _ _ _ _ us hl => match us, hl with | [_, _], _ => rfl), gC := PySem.W.mg_of X G e1, noP := e13, te := e14 }, ⟨e15, e16, e5, e17⟩⟩
theorem law_end {l : PySem.W.OpenLaw} {w : World} {K : PySem.W.Frag} {h : Heap} {mg : Str → Option Value} {fa f : Addr} (X : K.In h) (G : h.Ns mainGlobals mg) (hfa : mg "law" = some (.ref fa))
    {od an : Option Addr} {osl : Array (Option Value)} {oc kV doc pm cdv ct : Value}
    (a0 : PySem.W.nsIn K mainGlobals "law" = some (some (.ref f))) (l0 : K.lookup f = some ⟨oc, od, .func (PySem.W.fnOf "law" "law" (defArgs slaw) (defBody slaw) (defScope slaw) .none kV doc pm an cdv ct), osl⟩) (c0 : PySem.W.codeIn K cdv "law" = true) (k0 : PySem.W.keepIn K (.ref f) = true)
    (T : Blt mg)  (cM : Cst mg "MOST_ROOM" (.int 64)) (cL : Cst mg "LONGEST_NAME" (.int 8)) (cS' : Cst mg "MOST_STEPS" (.int 5000)) (cIs : Cst mg "MOST_ITEMS_streams" (.int 50000)) (cI : Cst mg "MOST_ITEMS_truths" (.int 1500)) (L : Tal K mg) (BX : Σ' B : TxMany K mg, XfC K B.C) (dP_is_int : DnIsInt K mg) (dP_is_number : DnIsNumber K mg) (dP_is_room : DnIsRoom K mg) (dP_is_name : DnIsName K mg) (dP_is_stream : DnIsStream K mg) (dP_is_tree : DnIsTree K mg) (dP_is_put : DnIsPut K mg) (dP_is_pour : DnIsPour K mg) (dP_are_counts : DnAreCounts K mg) (dP_is_counted : DnIsCounted K mg) (dP_counts_of : DnCountsOf K mg) (dP_lost_of : DnLostOf K mg) (dP_is_sketch : DnIsSketch K mg) (dP_bare : DnBare K mg) (dP_sketch_of : DnSketchOf K mg) (dP_is_truth : DnIsTruth K mg) (dP_paper : DnPaper K mg) (dP_repeated : DnRepeated K mg) (dP_layers : DnLayers K mg) (dP_is_paper : DnIsPaper K mg) (dhand : Dnhand K mg) (ddraw : Dndraw K mg) (dany : Dnany K mg) (dpool : Dnpool K mg) (dfed : Dnfed K mg) (dpoured : Dnpoured K mg) (dsketch : Dnsketch K mg) (dcounted : Dncounted K mg) (dtree : Dntree K mg) (dlost : Dnlost K mg) (dtruth : Dntruth K mg) (dis_int : Dnis_int K mg) (dis_name : Dnis_name K mg) (dare_counts : Dnare_counts K mg) (dis_truth : Dnis_truth K mg) (dis_tree : Dnis_tree K mg) (dis_paper : Dnis_paper K mg) (ddeep : Dndeep K mg) (ddrawn : Dndrawn K mg) (dbent : Dnbent K mg) (dword : Dnword K mg) :
    ∃ fd : FuncData, (∀ (s : Shared) (v : Value), BindsTo s fd ⟨[v], []⟩ [("_law_script", v)]) ∧ ∀ base : Heap, K.In base → base.Ns mainGlobals mg → FnOk l.prog w K mg base CX0 8 fa fd ["_law_script"] (spLaw K) := by
  have e := hfa.symm.trans (PySem.W.mg_of X G a0)
  cases e
  exact ⟨PySem.W.fnOf "law" "law" (defArgs slaw) (defBody slaw) (defScope slaw) .none kV doc pm an cdv ct, fun s v => .of_eq rfl, fun base _ _ => ok_law ⟨T, cM, cL, cS', cIs, cI, L, BX, dP_is_int, dP_is_number, dP_is_room, dP_is_name, dP_is_stream, dP_is_tree, dP_is_put, dP_is_pour, dP_are_counts, dP_is_counted, dP_counts_of, dP_lost_of, dP_is_sketch, dP_bare, dP_sketch_of, dP_is_truth, dP_paper, dP_repeated, dP_layers, dP_is_paper, dhand, ddraw, dany, dpool, dfed, dpoured, dsketch, dcounted, dtree, dlost, dtruth, dis_int, dis_name, dare_counts, dis_truth, dis_tree, dis_paper, ddeep, ddrawn, dbent, dword⟩
    ⟨_, _, fun_mk l0 c0 k0, PySem.W.mg_of X G a0, (fun_mk l0 c0 k0).binds fun _ _ _ _ _ _ us hl => match us, hl with | [_], _ => rfl⟩⟩
end Kb
open PySem PySem.W PyProof.Rows
theorem PySem.Challenge.cw_knownends_k37_whole_papers_of_truths_holds : PySem.Challenge.rw_knownends_k37_whole_papers_of_truths.Holds := by
  w_on; o_law; k_head; (case hw => w_witness2)
  k_fill
  refine L2.walk_of (l := PySem.Challenge.rw_knownends_k37_whole_papers_of_truths) (n := 63) (k := 8) (x := "_law_script") (CX := fun _ => L2.CX0) (sp := fun w => Kb.spLaw _) rfl (by decide) rfl ⟨rfl, by decide, by decide⟩ (fun w h Y => PySem.W.kIn_of Y) ?F (fun _ _ a ns hl _ hS => ⟨a, ns, rfl, hS, hl, fun _ => rfl⟩) (fun _ _ _ _ _ h => h)
  case F =>
    intro w mg fa h KX G hmg
    refine' Kb.law_end KX G hmg ?a0 ?l0 ?c0 ?k0 ?T ?cM ?cL ?cS' ?cIs ?cI ?L ?BX ?dP_is_int ?dP_is_number ?dP_is_room ?dP_is_name ?dP_is_stream ?dP_is_tree ?dP_is_put ?dP_is_pour ?dP_are_counts ?dP_is_counted ?dP_counts_of ?dP_lost_of ?dP_is_sketch ?dP_bare ?dP_sketch_of ?dP_is_truth ?dP_paper ?dP_repeated ?dP_layers ?dP_is_paper ?dhand ?ddraw ?dany ?dpool ?dfed ?dpoured ?dsketch ?dcounted ?dtree ?dlost ?dtruth ?dis_int ?dis_name ?dare_counts ?dis_truth ?dis_tree ?dis_paper ?ddeep ?ddrawn ?dbent ?dword
    (case a0 => k_is); (case l0 => k_is); (case c0 => k_is); (case k0 => k_is)
    (case T => exact ⟨PySem.W.mg_none_of KX G (by k_is), PySem.W.mg_none_of KX G (by k_is), PySem.W.mg_none_of KX G (by k_is), PySem.W.mg_none_of KX G (by k_is), PySem.W.mg_none_of KX G (by k_is), PySem.W.mg_none_of KX G (by k_is), PySem.W.mg_none_of KX G (by k_is), PySem.W.mg_none_of KX G (by k_is), PySem.W.mg_none_of KX G (by k_is), PySem.W.mg_none_of KX G (by k_is), PySem.W.mg_none_of KX G (by k_is), PySem.W.mg_none_of KX G (by k_is), PySem.W.mg_none_of KX G (by k_is), PySem.W.mg_none_of KX G (by k_is), PySem.W.mg_none_of KX G (by k_is), PySem.W.mg_none_of KX G (by k_is)⟩)
    (case cM => refine' Kb.cst_of KX G ?a_cM; (case a_cM => k_is))
    (case cL => refine' Kb.cst_of KX G ?a_cL; (case a_cL => k_is))
    (case cS' => refine' Kb.cst_of KX G ?a_cS'; (case a_cS' => k_is))
    (case cIs => refine' Kb.cst_of KX G ?a_cIs; (case a_cIs => k_is))
    (case cI => refine' Kb.cst_of KX G ?a_cI; (case a_cI => k_is))
    (case L =>
      refine' Kb.tal_of KX G ?tL_aCls ?tL_aI ?tL_iI ?tL_lI ?tL_cI ?tL_kI ?tL_aS ?tL_iS ?tL_lS ?tL_cS ?tL_kS ?tL_aF ?tL_iF ?tL_lF ?tL_cF ?tL_kF ?tL_aP ?tL_iP ?tL_lP ?tL_cP ?tL_kP ?tL_aT ?tL_iT ?tL_lT ?tL_cT ?tL_kT ?tL_pg ?tL_hd ?tL_po ?tL_sa ?tL_mk ?tL_kc ?tL_nR ?tL_nM ?tL_nO ?tL_nC
      (case tL_aCls => k_is); (case tL_aI => k_is); (case tL_iI => k_is); (case tL_lI => k_is); (case tL_cI => k_is); (case tL_kI => k_is); (case tL_aS => k_is); (case tL_iS => k_is); (case tL_lS => k_is); (case tL_cS => k_is); (case tL_kS => k_is); (case tL_aF => k_is); (case tL_iF => k_is); (case tL_lF => k_is); (case tL_cF => k_is); (case tL_kF => k_is); (case tL_aP => k_is); (case tL_iP => k_is); (case tL_lP => k_is); (case tL_cP => k_is); (case tL_kP => k_is); (case tL_aT => k_is); (case tL_iT => k_is); (case tL_lT => k_is); (case tL_cT => k_is); (case tL_kT => k_is); (case tL_pg => k_is); (case tL_hd => k_is); (case tL_po => k_is); (case tL_sa => k_is); (case tL_mk => k_is); (case tL_kc => k_is); (case tL_nR => k_is); (case tL_nM => k_is); (case tL_nO => k_is); (case tL_nC => k_is))
    (case BX =>
      refine' Kb.bad_of KX G ?e1 ?e2 ?e3 ?e4 ?e5 ?e6 ?e7 ?e8 ?e9 ?e10 ?e11 ?e12 ?e13 ?e14 ?e15 ?e16 ?e17
      (case e1 => k_is); (case e2 => k_is); (case e3 => first | rfl | decide +kernel); (case e4 => k_is); (case e5 => k_is); (case e6 => k_is); (case e7 => k_is); (case e8 => k_is); (case e9 => k_is); (case e10 => k_is); (case e11 => k_is); (case e12 => k_is); (case e13 => k_is); (case e15 => k_is); (case e16 => k_is); (case e17 => k_is)
      (case e14 => first | rfl | k_is))
    (case dP_is_int => refine' Kb.dn_of KX G ?a_dP_is_int ?l_dP_is_int ?c_dP_is_int ?k_dP_is_int ?b_dP_is_int; (case a_dP_is_int => k_is); (case l_dP_is_int => k_is); (case c_dP_is_int => k_is); (case k_dP_is_int => k_is); (case b_dP_is_int => exact fun _ _ _ _ _ _ us hl => match us, hl with | [_], _ => rfl))
    (case dP_is_number => refine' Kb.dn_of KX G ?a_dP_is_number ?l_dP_is_number ?c_dP_is_number ?k_dP_is_number ?b_dP_is_number; (case a_dP_is_number => k_is); (case l_dP_is_number => k_is); (case c_dP_is_number => k_is); (case k_dP_is_number => k_is); (case b_dP_is_number => exact fun _ _ _ _ _ _ us hl => match us, hl with | [_], _ => rfl))
    (case dP_is_room => refine' Kb.dn_of KX G ?a_dP_is_room ?l_dP_is_room ?c_dP_is_room ?k_dP_is_room ?b_dP_is_room; (case a_dP_is_room => k_is); (case l_dP_is_room => k_is); (case c_dP_is_room => k_is); (case k_dP_is_room => k_is); (case b_dP_is_room => exact fun _ _ _ _ _ _ us hl => match us, hl with | [_], _ => rfl))
    (case dP_is_name => refine' Kb.dn_of KX G ?a_dP_is_name ?l_dP_is_name ?c_dP_is_name ?k_dP_is_name ?b_dP_is_name; (case a_dP_is_name => k_is); (case l_dP_is_name => k_is); (case c_dP_is_name => k_is); (case k_dP_is_name => k_is); (case b_dP_is_name => exact fun _ _ _ _ _ _ us hl => match us, hl with | [_], _ => rfl))
    (case dP_is_stream => refine' Kb.dn_of KX G ?a_dP_is_stream ?l_dP_is_stream ?c_dP_is_stream ?k_dP_is_stream ?b_dP_is_stream; (case a_dP_is_stream => k_is); (case l_dP_is_stream => k_is); (case c_dP_is_stream => k_is); (case k_dP_is_stream => k_is); (case b_dP_is_stream => exact fun _ _ _ _ _ _ us hl => match us, hl with | [_], _ => rfl))
    (case dP_is_tree => refine' Kb.dn_of KX G ?a_dP_is_tree ?l_dP_is_tree ?c_dP_is_tree ?k_dP_is_tree ?b_dP_is_tree; (case a_dP_is_tree => k_is); (case l_dP_is_tree => k_is); (case c_dP_is_tree => k_is); (case k_dP_is_tree => k_is); (case b_dP_is_tree => exact fun _ _ _ _ _ _ us hl => match us, hl with | [_], _ => rfl))
    (case dP_is_put => refine' ⟨Kb.dn_of KX G ?a_pp ?l_pp ?c_pp ?k_pp ?b_pp, Kb.dn_of KX G ?a_po ?l_po ?c_po ?k_po ?b_po⟩; (case a_pp => k_is); (case l_pp => k_is); (case c_pp => k_is); (case k_pp => k_is); (case b_pp => exact fun _ _ _ _ _ _ us hl => match us, hl with | [_, _], _ => rfl); (case a_po => k_is); (case l_po => k_is); (case c_po => k_is); (case k_po => k_is); (case b_po => exact fun _ _ _ _ _ _ us hl => match us, hl with | [_, _, _], _ => rfl))
    (case dP_is_pour => refine' Kb.dn_of KX G ?a_dP_is_pour ?l_dP_is_pour ?c_dP_is_pour ?k_dP_is_pour ?b_dP_is_pour; (case a_dP_is_pour => k_is); (case l_dP_is_pour => k_is); (case c_dP_is_pour => k_is); (case k_dP_is_pour => k_is); (case b_dP_is_pour => exact fun _ _ _ _ _ _ us hl => match us, hl with | [_], _ => rfl))
    (case dP_are_counts => refine' Kb.dn_of KX G ?a_dP_are_counts ?l_dP_are_counts ?c_dP_are_counts ?k_dP_are_counts ?b_dP_are_counts; (case a_dP_are_counts => k_is); (case l_dP_are_counts => k_is); (case c_dP_are_counts => k_is); (case k_dP_are_counts => k_is); (case b_dP_are_counts => exact fun _ _ _ _ _ _ us hl => match us, hl with | [_], _ => rfl))
    (case dP_is_counted => refine' Kb.dn_of KX G ?a_dP_is_counted ?l_dP_is_counted ?c_dP_is_counted ?k_dP_is_counted ?b_dP_is_counted; (case a_dP_is_counted => k_is); (case l_dP_is_counted => k_is); (case c_dP_is_counted => k_is); (case k_dP_is_counted => k_is); (case b_dP_is_counted => exact fun _ _ _ _ _ _ us hl => match us, hl with | [_], _ => rfl))
    (case dP_counts_of => refine' Kb.dn_of KX G ?a_dP_counts_of ?l_dP_counts_of ?c_dP_counts_of ?k_dP_counts_of ?b_dP_counts_of; (case a_dP_counts_of => k_is); (case l_dP_counts_of => k_is); (case c_dP_counts_of => k_is); (case k_dP_counts_of => k_is); (case b_dP_counts_of => exact fun _ _ _ _ _ _ us hl => match us, hl with | [_], _ => rfl))
    (case dP_lost_of => refine' Kb.dn_of KX G ?a_dP_lost_of ?l_dP_lost_of ?c_dP_lost_of ?k_dP_lost_of ?b_dP_lost_of; (case a_dP_lost_of => k_is); (case l_dP_lost_of => k_is); (case c_dP_lost_of => k_is); (case k_dP_lost_of => k_is); (case b_dP_lost_of => exact fun _ _ _ _ _ _ us hl => match us, hl with | [_], _ => rfl))
    (case dP_is_sketch => refine' Kb.dn_of KX G ?a_dP_is_sketch ?l_dP_is_sketch ?c_dP_is_sketch ?k_dP_is_sketch ?b_dP_is_sketch; (case a_dP_is_sketch => k_is); (case l_dP_is_sketch => k_is); (case c_dP_is_sketch => k_is); (case k_dP_is_sketch => k_is); (case b_dP_is_sketch => exact fun _ _ _ _ _ _ us hl => match us, hl with | [_], _ => rfl))
    (case dP_bare => refine' Kb.dn_of KX G ?a_dP_bare ?l_dP_bare ?c_dP_bare ?k_dP_bare ?b_dP_bare; (case a_dP_bare => k_is); (case l_dP_bare => k_is); (case c_dP_bare => k_is); (case k_dP_bare => k_is); (case b_dP_bare => exact fun _ _ _ _ _ _ us hl => match us, hl with | [_], _ => rfl))
    (case dP_sketch_of => refine' Kb.dn_of KX G ?a_dP_sketch_of ?l_dP_sketch_of ?c_dP_sketch_of ?k_dP_sketch_of ?b_dP_sketch_of; (case a_dP_sketch_of => k_is); (case l_dP_sketch_of => k_is); (case c_dP_sketch_of => k_is); (case k_dP_sketch_of => k_is); (case b_dP_sketch_of => exact fun _ _ _ _ _ _ us hl => match us, hl with | [_, _], _ => rfl))
    (case dP_is_truth => refine' Kb.dn_of KX G ?a_dP_is_truth ?l_dP_is_truth ?c_dP_is_truth ?k_dP_is_truth ?b_dP_is_truth; (case a_dP_is_truth => k_is); (case l_dP_is_truth => k_is); (case c_dP_is_truth => k_is); (case k_dP_is_truth => k_is); (case b_dP_is_truth => exact fun _ _ _ _ _ _ us hl => match us, hl with | [_, _], _ => rfl))
    (case dP_paper => refine' Kb.dn_of KX G ?a_dP_paper ?l_dP_paper ?c_dP_paper ?k_dP_paper ?b_dP_paper; (case a_dP_paper => k_is); (case l_dP_paper => k_is); (case c_dP_paper => k_is); (case k_dP_paper => k_is); (case b_dP_paper => exact fun _ _ _ _ _ _ us hl => match us, hl with | [_, _], _ => rfl))
    (case dP_repeated => refine' Kb.dn_of KX G ?a_dP_repeated ?l_dP_repeated ?c_dP_repeated ?k_dP_repeated ?b_dP_repeated; (case a_dP_repeated => k_is); (case l_dP_repeated => k_is); (case c_dP_repeated => k_is); (case k_dP_repeated => k_is); (case b_dP_repeated => exact fun _ _ _ _ _ _ us hl => match us, hl with | [_], _ => rfl))
    (case dP_layers => refine' Kb.dn_of KX G ?a_dP_layers ?l_dP_layers ?c_dP_layers ?k_dP_layers ?b_dP_layers; (case a_dP_layers => k_is); (case l_dP_layers => k_is); (case c_dP_layers => k_is); (case k_dP_layers => k_is); (case b_dP_layers => exact fun _ _ _ _ _ _ us hl => match us, hl with | [_, _], _ => rfl))
    (case dP_is_paper => refine' Kb.dn_of KX G ?a_dP_is_paper ?l_dP_is_paper ?c_dP_is_paper ?k_dP_is_paper ?b_dP_is_paper; (case a_dP_is_paper => k_is); (case l_dP_is_paper => k_is); (case c_dP_is_paper => k_is); (case k_dP_is_paper => k_is); (case b_dP_is_paper => exact fun _ _ _ _ _ _ us hl => match us, hl with | [_, _, _], _ => rfl))
    (case dhand => refine' Kb.dn_of KX G ?a_dhand ?l_dhand ?c_dhand ?k_dhand ?b_dhand; (case a_dhand => k_is); (case l_dhand => k_is); (case c_dhand => k_is); (case k_dhand => k_is); (case b_dhand => exact fun _ _ _ _ _ _ us hl => match us, hl with | [_], _ => rfl))
    (case ddraw => refine' Kb.dn_of KX G ?a_ddraw ?l_ddraw ?c_ddraw ?k_ddraw ?b_ddraw; (case a_ddraw => k_is); (case l_ddraw => k_is); (case c_ddraw => k_is); (case k_ddraw => k_is); (case b_ddraw => exact fun _ _ _ _ _ _ us hl => match us, hl with | [_, _], _ => rfl))
    (case dany => refine' Kb.dn_of KX G ?a_dany ?l_dany ?c_dany ?k_dany ?b_dany; (case a_dany => k_is); (case l_dany => k_is); (case c_dany => k_is); (case k_dany => k_is); (case b_dany => exact fun _ _ _ _ _ _ us hl => match us, hl with | [_, _], _ => rfl))
    (case dpool => refine' Kb.dn_of KX G ?a_dpool ?l_dpool ?c_dpool ?k_dpool ?b_dpool; (case a_dpool => k_is); (case l_dpool => k_is); (case c_dpool => k_is); (case k_dpool => k_is); (case b_dpool => exact fun _ _ _ _ _ _ us hl => match us, hl with | [_, _], _ => rfl))
    (case dfed => refine' Kb.dn_of KX G ?a_dfed ?l_dfed ?c_dfed ?k_dfed ?b_dfed; (case a_dfed => k_is); (case l_dfed => k_is); (case c_dfed => k_is); (case k_dfed => k_is); (case b_dfed => exact fun _ _ _ _ _ _ us hl => match us, hl with | [_, _], _ => rfl))
    (case dpoured => refine' Kb.dn_of KX G ?a_dpoured ?l_dpoured ?c_dpoured ?k_dpoured ?b_dpoured; (case a_dpoured => k_is); (case l_dpoured => k_is); (case c_dpoured => k_is); (case k_dpoured => k_is); (case b_dpoured => exact fun _ _ _ _ _ _ us hl => match us, hl with | [_, _], _ => rfl))
    (case dsketch => refine' Kb.dn_of KX G ?a_dsketch ?l_dsketch ?c_dsketch ?k_dsketch ?b_dsketch; (case a_dsketch => k_is); (case l_dsketch => k_is); (case c_dsketch => k_is); (case k_dsketch => k_is); (case b_dsketch => exact fun _ _ _ _ _ _ us hl => match us, hl with | [_, _], _ => rfl))
    (case dcounted => refine' Kb.dn_of KX G ?a_dcounted ?l_dcounted ?c_dcounted ?k_dcounted ?b_dcounted; (case a_dcounted => k_is); (case l_dcounted => k_is); (case c_dcounted => k_is); (case k_dcounted => k_is); (case b_dcounted => exact fun _ _ _ _ _ _ us hl => match us, hl with | [_], _ => rfl))
    (case dtree => refine' Kb.dn_of KX G ?a_dtree ?l_dtree ?c_dtree ?k_dtree ?b_dtree; (case a_dtree => k_is); (case l_dtree => k_is); (case c_dtree => k_is); (case k_dtree => k_is); (case b_dtree => exact fun _ _ _ _ _ _ us hl => match us, hl with | [_, _, _, _], _ => rfl))
    (case dlost => refine' Kb.dn_of KX G ?a_dlost ?l_dlost ?c_dlost ?k_dlost ?b_dlost; (case a_dlost => k_is); (case l_dlost => k_is); (case c_dlost => k_is); (case k_dlost => k_is); (case b_dlost => exact fun _ _ _ _ _ _ us hl => match us, hl with | [_], _ => rfl))
    (case dtruth => refine' Kb.dn_of KX G ?a_dtruth ?l_dtruth ?c_dtruth ?k_dtruth ?b_dtruth; (case a_dtruth => k_is); (case l_dtruth => k_is); (case c_dtruth => k_is); (case k_dtruth => k_is); (case b_dtruth => exact fun _ _ _ _ _ _ us hl => match us, hl with | [_, _, _], _ => rfl))
    (case dis_int => refine' Kb.dn_of KX G ?a_dis_int ?l_dis_int ?c_dis_int ?k_dis_int ?b_dis_int; (case a_dis_int => k_is); (case l_dis_int => k_is); (case c_dis_int => k_is); (case k_dis_int => k_is); (case b_dis_int => exact fun _ _ _ _ _ _ us hl => match us, hl with | [_], _ => rfl))
    (case dis_name => refine' Kb.dn_of KX G ?a_dis_name ?l_dis_name ?c_dis_name ?k_dis_name ?b_dis_name; (case a_dis_name => k_is); (case l_dis_name => k_is); (case c_dis_name => k_is); (case k_dis_name => k_is); (case b_dis_name => exact fun _ _ _ _ _ _ us hl => match us, hl with | [_], _ => rfl))
    (case dare_counts => refine' Kb.dn_of KX G ?a_dare_counts ?l_dare_counts ?c_dare_counts ?k_dare_counts ?b_dare_counts; (case a_dare_counts => k_is); (case l_dare_counts => k_is); (case c_dare_counts => k_is); (case k_dare_counts => k_is); (case b_dare_counts => exact fun _ _ _ _ _ _ us hl => match us, hl with | [_], _ => rfl))
    (case dis_truth => refine' Kb.dn_of KX G ?a_dis_truth ?l_dis_truth ?c_dis_truth ?k_dis_truth ?b_dis_truth; (case a_dis_truth => k_is); (case l_dis_truth => k_is); (case c_dis_truth => k_is); (case k_dis_truth => k_is); (case b_dis_truth => exact fun _ _ _ _ _ _ us hl => match us, hl with | [_, _], _ => rfl))
    (case dis_tree => refine' Kb.dn_of KX G ?a_dis_tree ?l_dis_tree ?c_dis_tree ?k_dis_tree ?b_dis_tree; (case a_dis_tree => k_is); (case l_dis_tree => k_is); (case c_dis_tree => k_is); (case k_dis_tree => k_is); (case b_dis_tree => exact fun _ _ _ _ _ _ us hl => match us, hl with | [_], _ => rfl))
    (case dis_paper => refine' Kb.dn_of KX G ?a_dis_paper ?l_dis_paper ?c_dis_paper ?k_dis_paper ?b_dis_paper; (case a_dis_paper => k_is); (case l_dis_paper => k_is); (case c_dis_paper => k_is); (case k_dis_paper => k_is); (case b_dis_paper => exact fun _ _ _ _ _ _ us hl => match us, hl with | [_, _, _], _ => rfl))
    (case ddeep => refine' Kb.dn_of KX G ?a_ddeep ?l_ddeep ?c_ddeep ?k_ddeep ?b_ddeep; (case a_ddeep => k_is); (case l_ddeep => k_is); (case c_ddeep => k_is); (case k_ddeep => k_is); (case b_ddeep => exact fun _ _ _ _ _ _ us hl => match us, hl with | [_], _ => rfl))
    (case ddrawn => refine' Kb.dn_of KX G ?a_ddrawn ?l_ddrawn ?c_ddrawn ?k_ddrawn ?b_ddrawn; (case a_ddrawn => k_is); (case l_ddrawn => k_is); (case c_ddrawn => k_is); (case k_ddrawn => k_is); (case b_ddrawn => exact fun _ _ _ _ _ _ us hl => match us, hl with | [_], _ => rfl))
    (case dbent => refine' Kb.dn_of KX G ?a_dbent ?l_dbent ?c_dbent ?k_dbent ?b_dbent; (case a_dbent => k_is); (case l_dbent => k_is); (case c_dbent => k_is); (case k_dbent => k_is); (case b_dbent => exact fun _ _ _ _ _ _ us hl => match us, hl with | [_, _, _], _ => rfl))
    (case dword => refine' Kb.dn_of KX G ?a_dword ?l_dword ?c_dword ?k_dword ?b_dword; (case a_dword => k_is); (case l_dword => k_is); (case c_dword => k_is); (case k_dword => k_is); (case b_dword => exact fun _ _ _ _ _ _ us hl => match us, hl with | [_, _, _, _], _ => rfl))

