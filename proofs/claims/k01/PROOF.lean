import PyProof.Rows.All
import HandS.ForMost
import HandS.ForExc
import HandS.SortKw
import HandS.SortRule
import HandS.DictTup
import HandS.DictComp
import HandS.ListItems
import HandS.Conv
import HandS.IsInst
import HandS.Codes
import HandS.Walk
import HandS.Style
import KE.KDictSum
import KE.KSortTupAny
import KE.KDictPairs
import HandS.ExcValue
import HandS.TupLe
import PySem.Challenge.RW_knownends_k01_names_trees_and_counts_jud
import HandS.CallLocal
import HandS.List
import PyProof.ReprRoads
import PyProof.ReprText
import PyProof.EqKinds
import PyProof.EqAt
import HandS.ExcField
import HandS.ExcInit
import PyProof.NeData
import HandS.ExcIs
import HandS.StrMore
import HandS.TryMany
import HandS.TupMul
import HandS.Ends
import HandS.Words
import KE.KExcStr
import PyProof.ExcRepr
import PyProof.ReprReads
import PyProof.ReprNest
import HandS.TupAny
import HandS.Wide
import HandS.SetFor
import PyProof.Rows.CountFlat
import KE.KRevSl
import HandS.Text
import PyProof.ReprLen
set_option Elab.async false
set_option linter.all false
set_option maxRecDepth 100000
set_option maxHeartbeats 0
/-! own rules: sorted of pairs (text, int), of views -/
namespace SrtZ
open PySem PyProof.Rows Srt SrtO PySem.W
abbrev ltZ (x y : Str) : Bool := decide (x.cps.toList < y.cps.toList)
theorem str_of {x y : Str} (h : x.cps.toList = y.cps.toList) : x = y := by
  cases x; cases y
  simp at h
  rw [h]
theorem ltZ_irr (x : Str) : ltZ x x = false := decide_eq_false (List.lt_irrefl _)
theorem ltZ_asym {x y : Str} (h : ltZ x y = true) : ltZ y x = false := decide_eq_false (List.lt_asymm (of_decide_eq_true h))
theorem ltZ_trans {x y z : Str} (h : ltZ x y = true) (k : ltZ y z = true) : ltZ x z = true := decide_eq_true (List.lt_trans (of_decide_eq_true h) (of_decide_eq_true k))
theorem ltZ_tri {x y : Str} (h : ltZ x y = false) (k : ltZ y x = false) : x = y :=
  str_of (List.le_antisymm (List.not_lt.mp (of_decide_eq_false k)) (List.not_lt.mp (of_decide_eq_false h)))
def lexZ (p q : Str × Int) : Bool := if p.1 = q.1 then decide (p.2 < q.2) else ltZ p.1 q.1
theorem lexZ_eq {p q : Str × Int} (e : p.1 = q.1) : lexZ p q = decide (p.2 < q.2) := if_pos e
theorem lexZ_ne {p q : Str × Int} (e : ¬ p.1 = q.1) : lexZ p q = ltZ p.1 q.1 := if_neg e
theorem swo_Z : Swo lexZ := by
  refine ⟨fun x y h => ?_, fun x y z h1 h2 => ?_⟩
  · by_cases e : x.1 = y.1
    · rw [lexZ_eq e, decide_eq_true_eq] at h
      rw [lexZ_eq e.symm]
      exact decide_eq_false (by omega)
    · rw [lexZ_ne e] at h
      rw [lexZ_ne (fun z => e z.symm)]
      exact ltZ_asym h
  · by_cases e : x.1 = y.1
    · rw [lexZ_eq e.symm, decide_eq_false_iff_not] at h1
      by_cases f : y.1 = z.1
      · rw [lexZ_eq f.symm, decide_eq_false_iff_not] at h2
        rw [lexZ_eq (e.trans f).symm]
        exact decide_eq_false (by omega)
      · rw [lexZ_ne (fun q => f q.symm)] at h2
        rw [lexZ_ne (fun q => f (e.symm.trans q.symm)), e]
        exact h2
    · rw [lexZ_ne (fun q => e q.symm)] at h1
      by_cases f : y.1 = z.1
      · rw [lexZ_ne (fun q => e (q.symm.trans f.symm)), ← f]
        exact h1
      · rw [lexZ_ne (fun q => f q.symm)] at h2
        have g1 : ltZ x.1 y.1 = true := by
          rcases bcase (ltZ x.1 y.1) with q | q
          · exact q
          · exact absurd (ltZ_tri q h1) e
        have g2 : ltZ y.1 z.1 = true := by
          rcases bcase (ltZ y.1 z.1) with q | q
          · exact q
          · exact absurd (ltZ_tri q h2) f
        have g := ltZ_trans g1 g2
        have ne : ¬ z.1 = x.1 := fun q => by
          rw [q, ltZ_irr] at g
          cases g
        rw [lexZ_ne ne]
        exact ltZ_asym g
/-- a tuple (text, int) -/
def IsPZ (h : Heap) (v : Value) (p : Str × Int) : Prop := ∃ a o t u n, v = .ref a ∧ h.get? a = some o ∧ o.cls = .type "tuple" ∧ o.data = .seq #[.str p.1 t, .int p.2 u] n
theorem IsPZ.keeps {h h' : Heap} {v : Value} {p : Str × Int} (x : IsPZ h v p) (k : ∀ b o, h.get? b = some o → o.cls = .type "tuple" → h'.get? b = some o) : IsPZ h' v p := by
  obtain ⟨a, o, t, u, n, e, ho, hc, hd⟩ := x
  exact ⟨a, o, t, u, n, e, k _ _ ho hc, hc, hd⟩
section
variable {prog : Program} {w : World} {A : Around} {E : Value → Shared → Prop} {s : Shared}
theorem firstsZ {h : Heap} : ∀ {vs : List Value}, (∀ v ∈ vs, ∃ p, IsPZ h v p) → ∃ fs : List Value, KatTups h vs fs ∧ fs.length = vs.length ∧ ∀ f ∈ fs, ∃ x t, f = Value.str x t
  | [], _ => ⟨[], KatTups.nil, rfl, fun _ hm => by simp at hm⟩
  | v :: vs, hp => by
    obtain ⟨fs, h1, h2, h3⟩ := firstsZ (vs := vs) fun v' hm => hp v' (List.mem_cons_of_mem _ hm)
    obtain ⟨p, a, o, t, u, n, e, ho, hc, hd⟩ := hp v List.mem_cons_self
    subst e
    refine ⟨.str p.1 t :: fs, KatTups.cons ho hc hd rfl h1, by rw [List.length_cons, List.length_cons, h2], fun f hm => ?_⟩
    rcases List.mem_cons.mp hm with rfl | hm
    · exact ⟨_, t, rfl⟩
    · exact h3 f hm
theorem pairZ_cmp {vs : List Value} {k : Value → Str × Int} (hp : ∀ v ∈ vs, IsPZ s.heap v (k v)) : Cmp prog w A s (tuples' true) (fun p => p.1 ∈ vs) (lt2 fun v u => lexZ (k v) (k u)) := by
  intro p q hm hm'
  have h1 := hp _ hm
  have h2 := hp _ hm'
  show wpAny (model prog w) A (keyLt' (tuples' true) p.1 q.1) (fun r s' => s' = s ∧ r = lexZ (k p.1) (k q.1)) (fun _ _ => False) s
  generalize k p.1 = x at h1 ⊢
  generalize k q.1 = y at h2 ⊢
  obtain ⟨a, o, t, u, n, e, ho, hc, hd⟩ := h1
  obtain ⟨a', o', t', u', n', e', ho', hc', hd'⟩ := h2
  rw [e, e']
  refine kat_lt ho hd ho' hd' ?_
  show KatLex prog w A true (decide (2 < 2)) _ [(.str x.1 t, .str y.1 t'), (.int x.2 u, .int y.2 u')] 0 s
  refine kat_cons (wpAny_eqBool_str ?_)
  refine kat_go (fun e1 => ?_) (fun e1 => ?_)
  · have ex : x.1 = y.1 := of_decide_eq_true e1
    refine kat_yes (kat_cons (wpAny_eqBool_int ?_))
    refine kat_go (fun e2 => ?_) (fun e2 => ?_)
    · have ey : x.2 = y.2 := by simpa using e2
      refine kat_yes (kat_nil ⟨rfl, ?_⟩)
      rw [lexZ_eq ex, ey]
      exact (decide_eq_false (Int.lt_irrefl _)).symm
    · exact kat_no (oneLt_any_int ⟨rfl, (lexZ_eq ex).symm⟩)
  · have ex : ¬ x.1 = y.1 := of_decide_eq_false e1
    exact kat_no (oneLt_any_str ⟨rfl, (lexZ_ne ex).symm⟩)
theorem pairsZ_sortable {a : Addr} {vs : List Value} {k : Value → Str × Int} (h0 : 0 < vs.length) (hp : ∀ v ∈ vs, IsPZ s.heap v (k v)) (ha : ∀ o, s.heap.get? a = some o → o.cls ≠ .type "tuple") : SortableO prog w A s a vs fun v u => lexZ (k v) (k u) := by
  intro h' keep
  have hp' : ∀ v ∈ vs, IsPZ h' v (k v) := fun v hm => (hp v hm).keeps fun b o e c => keep b o (fun z => by subst z; exact ha o e c) e
  obtain ⟨fs, h1, h2, h3⟩ := firstsZ fun v hm => ⟨_, hp' v hm⟩
  refine ⟨tuples' true, fun Q E hq => ?_, pairZ_cmp hp'⟩
  refine kat_kind (T := .type "str") h1 (by omega) (fun f hm => ?_) (by rfl) ?_
  · obtain ⟨x, t, rfl⟩ := h3 f hm
    exact Looks.now
  · have e : (Value.type "str" != Value.type "tuple") = true := by first | decide +kernel | rfl | decide
    rw [e]
    exact hq
theorem plain_rev (a : Addr) : Builtin.«list.sort» ⟨[.ref a], []⟩ = Builtin.«list.sort» ⟨[.ref a], [(Str.ofString "reverse", .bool false)]⟩ := by
  rw [list_sort_rev]
  first | rfl | kernel_rfl
/-- sorted(x, ..) over what is collected of x -/
theorem sorted_col {x : Value} {b : Bool} {kw : List (Str × Value)} {ltv : Heap → Value → Value → Bool} {Q : Value → Shared → Prop} {P : Heap → Nat → List Value → Prop}
    (hk : ∀ a, Builtin.«list.sort» ⟨[.ref a], kw⟩ = Builtin.«list.sort» ⟨[.ref a], [(Str.ofString "reverse", .bool b)]⟩) (ha1 : argsOk "sorted" ⟨[x], kw⟩) (ha2 : ∀ a, argsOk "list.sort" ⟨[a], kw⟩)
    (hcol : ∀ R : List Value → Shared → Prop, (∀ h' tk vs, (∀ b o, s.heap.get? b = some o → h'.get? b = some o) → P h' tk vs → R vs { s with heap := h', toks := tk }) → wpAny (model prog w) A.in1 (collect x) R E s)
    (O : ∀ h' tk vs, P h' tk vs → Swo (ltv h')) (hz : ∀ h' tk vs, P h' tk vs → vs.length ≤ sizeLine)
    (hS : ∀ h' tk vs, P h' tk vs → 2 ≤ vs.length → ∀ (h₁ : Heap) (a : Addr), h₁.get? a = some (seqObj "list" vs.toArray 0) → (∀ b o, h'.get? b = some o → b ≠ a ∧ h₁.get? b = some o) → SortableO prog w A.in1.in1 { s with heap := h₁, toks := tk } a vs (ltv h'))
    (h : ∀ h' tk vs out h2, (∀ b o, s.heap.get? b = some o → h'.get? b = some o) → P h' tk vs → Srtd (ltv h') out → Stb (ltv h') out (if b = true then vs.reverse else vs) → (∀ c o, h'.get? c = some o → h2.get? c = some o) →
      (∃ n, h2.get? h'.objs.size = some (seqObj "list" (if b = true then out.toArray.reverse else out.toArray) n)) → Q (.ref h'.objs.size) { s with heap := h2, toks := tk }) :
    wpAny (model prog w) A (call (.builtin "sorted") [x] kw) Q E s := by
  refine call_function_entry_kw kind_sorted plain_sorted entry_sorted ha1 ?_
  unfold Builtin.«sorted»
  refine wpAny_bind (m := checkCount "sorted" 1 1 _) (wpAny_pure ?_)
  refine wpAny_bind (hcol _ fun h' tk vs hkp hP => ?_)
  refine wpAny_bind (wpAny_newList ?_ (hz _ _ _ hP))
  have hoL : (h'.push (seqObj "list" vs.toArray 0)).get? h'.objs.size = some (seqObj "list" vs.toArray 0) := Heap.get?_push_size _ rfl
  have keep : ∀ b o, h'.get? b = some o → b ≠ h'.objs.size ∧ (h'.push (seqObj "list" vs.toArray 0)).get? b = some o := fun b o q => ⟨Nat.ne_of_lt (Heap.lt_size q), Heap.get?_push_of_some _ q⟩
  show wpAny _ _ _ _ _ { s with heap := h'.push (seqObj "list" vs.toArray 0), toks := tk }
  refine wpAny_bind (wpAny_holding (wpAny_call_entry_kw slot_list_sort ⟨_, hoL, rfl⟩ entry_list_sort ?_ (ha2 _)))
  rw [hk]
  refine SrtR.list_sort_ordR (s := { s with heap := h'.push (seqObj "list" vs.toArray 0), toks := tk }) (O _ _ _ hP) hoL (hz _ _ _ hP) (fun h2 => hS _ _ _ hP h2 _ _ hoL keep) fun out hs hb => ⟨_, rfl, ?_⟩
  refine wpAny_pure ⟨_, rfl, h h' tk vs out _ hkp hP hs hb (fun c o q => ?_) ?_⟩
  · exact (sortedHeap_old (keep c o q).1 (Heap.lt_size (keep c o q).2)).trans (keep c o q).2
  · exact sortedHeap_at hoL
end
end SrtZ

namespace L2
open PySem PySem.Spec PyProof.Rows SrtO SrtZ
/-- counts as a dict's pairs -/
abbrev entZ (e : Str × Int) : Key × V := (Sum.inr e.1, V.int e.2)
section
variable {X : Cx}
/-- d.items() -/
def rItemsK : V → List V → Hp → VK → Prop := fun x xs H Q => ∃ (a : Addr) (kvs : List (Key × V)), x = .ref a ∧ xs = [] ∧ H a = some (.dK kvs) ∧ ∀ p, H p = none → Q (.ref p) (upd H p (DX.itemsO p a))
theorem mt_itemsK : MtR X "dict.items" rItemsK := by
  intro pins s σ H x xs v us Q I rx rxs h
  obtain ⟨a, kvs, rfl, rfl, ha, q⟩ := h
  cases rx
  cases rxs
  obtain ⟨z, hd, vs, kv, o, es, ep, ho, hx, hdat, _⟩ := dk_of I.hok ha
  refine DT.callItems (es := es) (ep := ep) hd ⟨o, ho, hx, hdat⟩ ?_
  have hf : H s.heap.objs.size = none := I.hok.fresh (Nat.le_refl _)
  exact ⟨.ref s.heap.objs.size, upd H s.heap.objs.size (DX.itemsO s.heap.objs.size a), I.laid (t' := s.toks) (fun b u e => Heap.get?_push_of_some _ e) (Nat.le_refl _) (DX.itemsO_ok (Heap.get?_push_size _ rfl)), rfl, q _ hf⟩
/-- d.values() -/
def valuesO (p d : Addr) : HO := .ext fun h => h.IsValuesView p d
theorem valuesO_ok {P : Program} {w : World} {H : Hp} {h : Heap} {p d : Addr} (e : h.get? p = some { cls := .type "dict_values", data := .fields #[.ref d] }) : ObjOk P w H h p (valuesO p d) :=
  ⟨⟨_, e, rfl, rfl⟩, ⟨_, e⟩, fun h1 h2 x k => let ⟨o, ho, r⟩ := x; ⟨o, k o ho, r⟩⟩
def rValuesK : V → List V → Hp → VK → Prop := fun x xs H Q => ∃ (a : Addr) (kvs : List (Key × V)), x = .ref a ∧ xs = [] ∧ H a = some (.dK kvs) ∧ ∀ p, H p = none → Q (.ref p) (upd H p (valuesO p a))
theorem mt_valuesK : MtR X "dict.values" rValuesK := by
  intro pins s σ H x xs v us Q I rx rxs h
  obtain ⟨a, kvs, rfl, rfl, ha, q⟩ := h
  cases rx
  cases rxs
  obtain ⟨z, hd, vs, kv, dd⟩ := dk_of I.hok ha
  have hf : H s.heap.objs.size = none := I.hok.fresh (Nat.le_refl _)
  refine call_meetsIn PySem.F.slot_dict_values dd.typeIs PySem.F.entry_dict_values (PySem.F.args_dict_values_1 _) (meets_dict_values (mixKind X.prog X.w) a hd) ⟨⟨vs, dd⟩, ?_⟩
  exact ⟨.ref s.heap.objs.size, upd H s.heap.objs.size (valuesO s.heap.objs.size a), I.laid (t' := s.toks) (fun b u e => Heap.get?_push_of_some _ e) (Nat.le_refl _) (valuesO_ok (Heap.get?_push_size _ rfl)), rfl, q _ hf⟩
end
end L2

namespace L2
open PySem PySem.Spec PyProof.Rows SrtO SrtZ
theorem ent_paired {xs' : List (Key × Value)} : ∀ {ks : List (Str × Int)}, KV (ks.map entZ) xs' → ∀ {j : Nat} {x : Key × Value}, xs'[j]? = some x → ∃ e t, ks[j]? = some e ∧ x = (Sum.inr e.1, Value.int e.2 t) := fun {ks} h {j x} hx => by
  obtain ⟨y, hy, r1, r2⟩ := DX.pget h hx
  rw [List.getElem?_map] at hy
  cases e : ks[j]? with
  | none => rw [e] at hy; cases hy
  | some p =>
    rw [e] at hy
    have hy' : entZ p = y := Option.some.inj hy
    subst hy'
    obtain ⟨t, et⟩ := (show ∃ t, x.2 = Value.int p.2 t from r2)
    refine ⟨p, t, rfl, ?_⟩
    obtain ⟨x1, x2⟩ := x
    have r1' : Sum.inr p.1 = x1 := r1
    have et' : x2 = Value.int p.2 t := et
    rw [← r1', et']
section
variable {X : Cx}
/-- sorted(d.items()), keys texts, values ints, any number of them -/
def rSortedIZ : List V → Hp → VK → Prop := fun vs H Q => ∃ (p d : Addr) (ks : List (Str × Int)), vs = [V.ref p] ∧ H p = some (DX.itemsO p d) ∧ H d = some (.dK (ks.map entZ)) ∧
  ∀ (H' : Hp) (l : Addr) (ys : List (Str × Int)) (ts : List Addr), Same H H' → H l = none → (∀ t ∈ ts, H t = none) → l ∉ ts → ys.Perm ks → Srtd lexZ ys → H' l = some (.lst (ts.map V.ref)) → Paired (fun (t : Addr) (y : Str × Int) => H' t = some (.tup [.str y.1, .int y.2])) ts ys → Q (.ref l) H'
theorem paired_of {α β : Type} {F : α → β → Prop} {l : List (α × β)} (h : ∀ z ∈ l, F z.1 z.2) : Paired F (l.map (·.1)) (l.map (·.2)) := by
  induction l with
  | nil => exact .nil
  | cons a l ih => exact .cons (h a List.mem_cons_self) (ih fun z hz => h z (List.mem_cons_of_mem _ hz))
/-- a tuple's key, read off the heap -/
def keyZ (h : Heap) : Value → Str × Int
  | .ref a => match h.get? a with
    | some o => match o.data with
      | .seq xs _ => match xs.toList with
        | [.str x _, .int y _] => (x, y)
        | _ => (⟨#[]⟩, 0)
      | _ => (⟨#[]⟩, 0)
    | none => (⟨#[]⟩, 0)
  | _ => (⟨#[]⟩, 0)
theorem keyZ_of {h : Heap} {v : Value} {p : Str × Int} (x : IsPZ h v p) : keyZ h v = p := by
  obtain ⟨a, o, t, u, n, rfl, ho, hc, hd⟩ := x
  simp only [keyZ, ho, hd]
theorem swo_key (h : Heap) : Swo fun v u => lexZ (keyZ h v) (keyZ h u) := ⟨fun x y => swo_Z.asym _ _, fun x y z => swo_Z.tr _ _ _⟩
def adr : Value → Addr
  | .ref a => a
  | _ => 0
theorem adr_refs : ∀ as : List Addr, (as.map Value.ref).map adr = as
  | [] => rfl
  | a :: as => congrArg (List.cons a) (adr_refs as)
theorem refs_adr : ∀ out : List Value, (∀ v ∈ out, ∃ a, v = Value.ref a) → (out.map adr).map Value.ref = out
  | [], _ => rfl
  | v :: out, h => by
    obtain ⟨a, rfl⟩ := h v List.mem_cons_self
    show Value.ref a :: (out.map adr).map Value.ref = Value.ref a :: out
    rw [refs_adr out fun u hu => h u (List.mem_cons_of_mem _ hu)]
/-- pairs that were laid and sorted are tracked: a list of them at l, the tuples at ts -/
theorem sortZ_end {pins : List (Addr × Obj)} {σ : St} {H : Hp} {s : Shared} {h' h2 : Heap} {tk l n : Nat} {as : List Addr} {ks : List (Str × Int)} {out : List Value} {Q : VK} (I : Inv X pins σ H s)
    (hk : ∀ b o, s.heap.get? b = some o → h'.get? b = some o) (hk2 : ∀ b o, h'.get? b = some o → h2.get? b = some o) (hl : s.heap.objs.size ≤ l) (hle : as.length ≤ sizeLine) (hlas : ∀ t ∈ as, t ≠ l) (nd : as.Nodup) (ha : ∀ t ∈ as, s.heap.objs.size ≤ t) (hn : H l = none)
    (hks : as.map (fun t => keyZ h' (.ref t)) = ks) (hp : ∀ t ∈ as, ∃ p, IsPZ h' (.ref t) p) (hat : h2.get? l = some (seqObj "list" out.toArray n)) (h1 : Srtd (fun v u => lexZ (keyZ h' v) (keyZ h' u)) out) (hb : out.Perm (as.map Value.ref))
    (q : ∀ (H' : Hp) (ys : List (Str × Int)) (ts : List Addr), Same H H' → H l = none → (∀ t ∈ ts, H t = none) → l ∉ ts → ys.Perm ks → Srtd lexZ ys → H' l = some (.lst (ts.map V.ref)) → Paired (fun (t : Addr) (y : Str × Int) => H' t = some (.tup [.str y.1, .int y.2])) ts ys → Q (.ref l) H') :
    EP X pins σ Q (.ref l) { s with heap := h2, toks := tk } := by
  have isr : ∀ v ∈ out, ∃ a, v = Value.ref a := fun v hv => by
    obtain ⟨a, _, e⟩ := List.mem_map.mp (hb.mem_iff.mp hv)
    exact ⟨a, e.symm⟩
  have eo := refs_adr out isr
  generalize ets : out.map adr = ts at eo
  have pt : ts.Perm as := by
    have := hb.map adr
    rwa [adr_refs, ets] at this
  have kS : ∀ b o, s.heap.get? b = some o → h2.get? b = some o := fun b o e => hk2 b o (hk b o e)
  have I1 : Inv X pins σ H { s with heap := h2, toks := tk } := I.kept (t' := tk) kS
  have hlen : (ts.map V.ref).length ≤ sizeLine := by rw [List.length_map, pt.length_eq]; exact hle
  have rv : Vals (ts.map V.ref) out := by
    rw [← eo]
    exact LiI.vals_refs ts
  have I2 : Inv X pins σ (upd H l (.lst (ts.map V.ref))) { s with heap := h2, toks := tk } := I1.take (h' := h2) (t' := tk) (fun b ob _ e => e) (I.fpOk hl hn) ⟨hlen, out, n, rv, hat⟩
  obtain ⟨H2, I3, g, qt⟩ := DX.takeT (P := fun b vs => vs = [.str (keyZ h' (.ref b)).1, .int (keyZ h' (.ref b)).2]) I as _ I2 nd fun b hb' => by
    obtain ⟨p, hp'⟩ := hp b hb'
    have ek := keyZ_of hp'
    obtain ⟨a, o, t, u, m, e, ho, hc, hd⟩ := hp'
    cases e
    refine ⟨ha b hb', ?_, [.str (keyZ h' (.ref b)).1, .int (keyZ h' (.ref b)).2], rfl, fun H3 => ⟨(by rw [sizeLine_eq]; show 2 ≤ 16777216; omega), [Value.str p.1 t, Value.int p.2 u], by rw [ek]; exact .cons ⟨_, rfl⟩ (.cons ⟨_, rfl⟩ .nil), ⟨o, hk2 _ _ ho, hc, m, hd⟩⟩⟩
    rw [upd_ne (hlas b hb')]
    exact I.hok.fresh (ha b hb')
  have gr : Same H H2 := fun b o e => g b o (by rw [upd_ne (ne_of_none e hn)]; exact e)
  refine ⟨.ref l, H2, I3, rfl, q H2 (ts.map fun t => keyZ h' (.ref t)) ts gr hn (fun t ht => I.hok.fresh (ha t (pt.mem_iff.mp ht))) (fun z => hlas l (pt.mem_iff.mp z) rfl) ?_ ?_ (g _ _ upd_same) ?_⟩
  · rw [← hks]
    exact pt.map _
  · have e : ts.map (fun t => keyZ h' (.ref t)) = out.map (keyZ h') := by
      rw [← eo, List.map_map]
      rfl
    rw [e]
    exact srtd_map h1
  · have : ∀ L : List Addr, (∀ t ∈ L, t ∈ as) → Paired (fun (t : Addr) (y : Str × Int) => H2 t = some (.tup [.str y.1, .int y.2])) L (L.map fun t => keyZ h' (.ref t)) := by
      intro L
      induction L with
      | nil => exact fun _ => .nil
      | cons t L ih =>
        intro hL
        refine .cons ?_ (ih fun u hu => hL u (List.mem_cons_of_mem _ hu))
        obtain ⟨vs, ev, hv⟩ := qt t (hL t List.mem_cons_self)
        rw [← ev]
        exact hv
    exact this ts fun t ht => pt.mem_iff.mp ht
theorem cr_sortedIZ (hc : X.calm = true) : CallR X (.builtin "sorted") rSortedIZ := by
  intro pins s σ H xs us Q I r h
  obtain ⟨p, a, ks, rfl, hp, ha, q⟩ := h
  obtain rfl := Vals.ref1 r
  have view : s.heap.IsItemsView p a := (show ObjOk X.prog X.w H s.heap p (DX.itemsO p a) from I.hok p _ hp).1
  obtain ⟨z, hd, xs', rel, o, es, ep, ho, hx, hdat, _, hes, _⟩ := dk_of I.hok ha
  have l1 : ks.length = xs'.length := by
    have := Paired.length rel
    rwa [List.length_map] at this
  have l2 : es.size = xs'.length := by rw [← Array.length_toList, hes.length]
  have hh : X.A.handled = none := I.ok.hd hc
  have hz : es.size ≤ sizeLine := by rw [List.length_map] at z; omega
  have ent : ∀ (j : Nat) (en : DictEntry), es[j]? = some en → ∃ e t u, ks[j]? = some e ∧ en.key = Value.str e.1 t ∧ en.val = Value.int e.2 u := by
    intro j en he
    have he' : es.toList[j]? = some en := by rw [Array.getElem?_toList]; exact he
    have pz : ∀ {es : List DictEntry} {kvs : List (Key × Value)}, Pairs (mixKind X.prog X.w) es kvs → ∀ {j : Nat} {en : DictEntry}, es[j]? = some en → ∃ x, kvs[j]? = some x ∧ keyIs x.1 en.key = true ∧ en.val = x.2 := by
      intro es kvs h
      induction h with
      | nil => intro j en h; simp at h
      | cons h1 h2 h3 ih =>
        intro j en h
        cases j with
        | zero => cases (Option.some.inj h); exact ⟨_, rfl, h1, h2⟩
        | succ j => exact ih (by simpa using h)
    obtain ⟨x, ex, k1, k2⟩ := pz hes he'
    obtain ⟨e, t, e1, e2⟩ := ent_paired rel ex
    subst e2
    obtain ⟨u, eu⟩ := relV_key k1
    exact ⟨e, u, t, e1, eu, k2⟩
  refine sorted_col (x := .ref p) (b := false) (kw := []) (ltv := fun h' v u => lexZ (keyZ h' v) (keyZ h' u)) (P := fun h' _ vs => ∃ as, vs = as.map Value.ref ∧ as.length = es.size ∧ DT.Made es s.heap.objs.size h' as ∧ s.heap.objs.size < h'.objs.size)
    plain_rev (args_sorted1 _) (fun _ => args_list_sort _) (fun R hR => ?_) (fun h' _ _ _ => swo_key h') (fun h' _ vs hP => ?_) (fun h' tk vs hP h2 h₁ b hb keep => ?_) (fun h' tk vs out h2 hk hP h1 hb hk2 hat => ?_)
  · exact DT.collectI (A := X.A.in1) hh view ⟨o, ho, hx, hdat⟩ hz fun h' tk as hk hlt hl hM => hR h' tk _ hk ⟨as, rfl, hl, hM, hlt⟩
  · obtain ⟨as, rfl, hl, _⟩ := hP
    rw [List.length_map, hl]
    exact hz
  · obtain ⟨as, rfl, hl, hM, _⟩ := hP
    refine pairsZ_sortable (s := { s with heap := h₁, toks := tk }) (k := keyZ h') (by omega) (fun v hv => ?_) (fun ob e => ?_)
    · obtain ⟨t, ht, rfl⟩ := List.mem_map.mp hv
      obtain ⟨j, hj⟩ := List.mem_iff_getElem?.mp ht
      obtain ⟨en, he, hg⟩ := hM.pairs j t hj
      obtain ⟨e, t1, t2, _, k1, k2⟩ := ent j en he
      have x : IsPZ h' (.ref t) e := ⟨t, _, t1, t2, 0, rfl, hg, rfl, by rw [k1, k2]⟩
      rw [keyZ_of x]
      exact x.keeps fun b o e _ => (keep b o e).2
    · have e' : some ob = some (seqObj "list" (as.map Value.ref).toArray 0) := e.symm.trans hb
      cases e'
      intro c
      exact absurd (Value.type.inj c) (by decide)
  · obtain ⟨as, rfl, hl, hM, hlt⟩ := hP
    obtain ⟨n, hat⟩ := hat
    have pz : ∀ (j : Nat) (t : Addr), as[j]? = some t → ∃ e, ks[j]? = some e ∧ IsPZ h' (.ref t) e := fun j t hj => by
      obtain ⟨en, he, hg⟩ := hM.pairs j t hj
      obtain ⟨e, t1, t2, e1, k1, k2⟩ := ent j en he
      exact ⟨e, e1, t, _, t1, t2, 0, rfl, hg, rfl, by rw [k1, k2]⟩
    refine sortZ_end (as := as) (ks := ks) I hk hk2 (Nat.le_of_lt hlt) (by rw [hl]; exact hz) (fun t ht => Nat.ne_of_lt (hM.there ht)) (List.Pairwise.imp (fun h => Nat.ne_of_lt h) hM.rise) (fun t ht => Nat.le_of_lt (hM.above t ht)) (I.hok.fresh (Nat.le_of_lt hlt)) ?_ (fun t ht => ?_) hat h1 hb.perm fun H' ys ts => q H' _ ys ts
    · refine List.ext_getElem? fun j => ?_
      rw [List.getElem?_map]
      cases hj : as[j]? with
      | none =>
        have : ks[j]? = none := List.getElem?_eq_none (by have := List.getElem?_eq_none_iff.mp hj; omega)
        rw [this]
        rfl
      | some t =>
        obtain ⟨e, e1, x⟩ := pz j t hj
        rw [e1]
        show some (keyZ h' (.ref t)) = some e
        rw [keyZ_of x]
    · obtain ⟨j, hj⟩ := List.mem_iff_getElem?.mp ht
      obtain ⟨e, _, x⟩ := pz j t hj
      exact ⟨e, x⟩
end
end L2

namespace SrtZ
open PySem PyProof.Rows Srt SrtO PySem.W
def ltSv (v u : Value) : Bool := ltZ (strOf v) (strOf u)
theorem swo_str : Swo ltSv := by
  refine ⟨fun x y h => ltZ_asym h, fun x y z h1 h2 => ?_⟩
  rcases bcase (ltZ (strOf z) (strOf x)) with q | q
  · rcases bcase (ltZ (strOf x) (strOf y)) with p | p
    · rcases bcase (ltZ (strOf y) (strOf z)) with r | r
      · have := ltZ_asym (ltZ_trans p r)
        rw [q] at this
        cases this
      · have e := ltZ_tri r h2
        have q' : ltZ (strOf z) (strOf x) = true := q
        rw [← e, ltZ_asym p] at q'
        cases q'
    · have e := ltZ_tri p h1
      have q' : ltZ (strOf z) (strOf x) = true := q
      have h2' : ltZ (strOf z) (strOf y) = false := h2
      rw [e, h2'] at q'
      cases q'
  · exact q
theorem strOf_strs : ∀ {vs : List Value} {ss : List Str}, StrsAre vs ss → vs.map strOf = ss
  | _, _, .nil => rfl
  | _, _, .cons y t h => congrArg (y :: ·) (strOf_strs h)
section
variable {prog : Program} {w : World} {A : Around} {E : Value → Shared → Prop} {s : Shared}
theorem str_cmp {vs : List Value} {ss : List Str} (hI : StrsAre vs ss) : Cmp prog w A s oneType' (fun p => p.1 ∈ vs) (lt2 ltSv) := by
  intro p q hm hm'
  obtain ⟨a, t, e⟩ := StrsAre.all hI _ hm
  obtain ⟨b, u, e'⟩ := StrsAre.all hI _ hm'
  show wpAny (model prog w) A (keyLt' oneType' p.1 q.1) (fun r s' => s' = s ∧ r = ltSv p.1 q.1) (fun _ _ => False) s
  rw [e, e', keyLt'_oneType]
  exact oneLt_any_str ⟨rfl, rfl⟩
theorem strs_sortable {a : Addr} {vs : List Value} {ss : List Str} (hI : StrsAre vs ss) (h2 : 2 ≤ vs.length) : SortableO prog w A s a vs ltSv := by
  intro h' _
  refine ⟨oneType', fun Q E hq => ?_, str_cmp hI⟩
  match vs, hI, h2 with
  | v1 :: v2 :: rest, hI, _ =>
    rw [keyKind_strs hI]
    exact wpAny_pure hq
  | [], _, h => exact absurd h (by decide)
  | [v], _, h => exact absurd h (by simp)
end
end SrtZ
namespace L2
open PySem PySem.Spec PyProof.Rows SrtO SrtZ
section
variable {X : Cx}
/-- sorted(xs), xs a list of tuples (text, int), any number of them -/
def rSortedPZ (K : PySem.W.Frag) : List V → Hp → VK → Prop := fun vs H Q => ∃ (a : Addr) (ts : List Addr) (k : Addr → Str × Int), vs = [V.ref a] ∧ SqL K H a (ts.map V.ref) ∧ (∀ t ∈ ts, H t = some (.tup [.str (k t).1, .int (k t).2])) ∧
  ∀ (us : List Addr) (p : Addr), us.Perm ts → Srtd lexZ (us.map k) → H p = none → Q (.ref p) (upd H p (.lst (us.map V.ref)))
theorem cr_sortedPZ : CallR X (.builtin "sorted") (rSortedPZ X.K) := by
  intro pins s σ H vs us Q I r h
  obtain ⟨a, ts, k, rfl, hs, hx, q⟩ := h
  obtain ⟨its, rv, hl, hz⟩ := I.list hs
  obtain rfl := Vals.ref1 r
  obtain rfl := refs_at rv
  rw [List.length_map] at hz
  have hp : ∀ v ∈ ts.map Value.ref, IsPZ s.heap v (k (adr v)) := fun v hv => by
    obtain ⟨t, ht, rfl⟩ := List.mem_map.mp hv
    obtain ⟨_, its2, r2, o, ho, hc, n, hd⟩ := I.hok _ _ (hx t ht)
    obtain ⟨u1, u2, rfl, ri, rj⟩ := vals2 r2
    obtain ⟨t1, rfl⟩ := ri
    obtain ⟨t2, rfl⟩ := rj
    exact ⟨t, o, t1, t2, n, rfl, ho, hc, hd⟩
  refine SrtO.sorted_ord (ltv := fun v u => lexZ (k (adr v)) (k (adr u))) ⟨fun x y => swo_Z.asym _ _, fun x y z => swo_Z.tr _ _ _⟩ hl.isList (by rw [List.length_map]; exact hz) (fun h2 h₁ b hb kk => ?_) fun out h1 h2 => ?_
  · refine pairsZ_sortable (s := { s with heap := h₁ }) (k := fun v => k (adr v)) (by omega) (fun v hv => (hp v hv).keeps fun b o e _ => (kk b o e).2) fun o e => ?_
    have e' : some o = some (seqObj "list" (ts.map Value.ref).toArray 0) := e.symm.trans hb
    cases e'
    intro c
    exact absurd (Value.type.inj c) (by decide)
  · obtain ⟨ep, he'⟩ := PyProof.Rows.sortedAll_at s.heap (ts.map Value.ref) out.toArray
    have isr : ∀ v ∈ out, ∃ a, v = Value.ref a := fun v hv => by
      obtain ⟨a, _, e⟩ := List.mem_map.mp (h2.perm.mem_iff.mp hv)
      exact ⟨a, e.symm⟩
    have eo := refs_adr out isr
    generalize eus : out.map adr = us at eo
    have pt : us.Perm ts := by
      have := h2.perm.map adr
      rwa [adr_refs, eus] at this
    have hlen : (us.map V.ref).length ≤ sizeLine := by rw [List.length_map, pt.length_eq]; exact hz
    have rv : Vals (us.map V.ref) out := by
      rw [← eo]
      exact LiI.vals_refs us
    refine ⟨.ref _, upd H (s.heap.objs.size + 1) (.lst (us.map V.ref)), I.laid (t' := s.toks) (fun _ _ => PyProof.Rows.sortedAll_old) (Nat.le_succ _) ⟨hlen, out, ep, rv, he'⟩, rfl, q us _ pt ?_ (I.hok.fresh (Nat.le_succ _))⟩
    have e : us.map k = out.map fun v => k (adr v) := by
      rw [← eo, List.map_map]
      rfl
    rw [e]
    exact srtd_map h1
/-- the ints of a dict's values -/
theorem vals_ints' {xs' : List (Key × Value)} : ∀ {ks : List (Str × Int)}, KV (ks.map entZ) xs' → ∀ {vs : List Value}, vs.length = xs'.length → (∀ (j : Nat) (v : Value), vs[j]? = some v → ∃ k, xs'[j]? = some (k, v)) → IntsAre vs (ks.map (·.2)) := fun {ks} rel {vs} hl hv => by
  have e : vs = xs'.map (·.2) := PySem.W.kdl_vals_eq vs hl hv
  subst e
  have : ∀ {ks : List (Str × Int)} {xs : List (Key × Value)}, KV (ks.map entZ) xs → IntsAre (xs.map (·.2)) (ks.map (·.2)) := by
    intro ks
    induction ks with
    | nil =>
      intro xs r
      cases r
      exact .nil
    | cons e ks ih =>
      intro xs r
      cases r with
      | cons h t =>
        obtain ⟨u, eu⟩ := (show ∃ t, _ = Value.int e.2 t from h.2)
        rw [List.map_cons, eu]
        exact .cons _ _ (ih t)
  exact this rel
/-- sorted(d.values(), reverse=b), values ints -/
def rSortedVR (b : Bool) : List V → List V → Hp → VK → Prop := fun vs zs H Q => ∃ (p d : Addr) (ks : List (Str × Int)), vs = [V.ref p] ∧ zs = [.bl b] ∧ H p = some (valuesO p d) ∧ H d = some (.dK (ks.map entZ)) ∧
  ∀ (ns : List Int) (l : Addr), ns.Perm (ks.map (·.2)) → OrdB b ns → H l = none → Q (.ref l) (upd H l (.lst (ns.map V.int)))
theorem cr_sortedVR {b : Bool} (hc : X.calm = true) : CallRK X (.builtin "sorted") [Str.ofString "reverse"] (rSortedVR b) := by
  intro pins s σ H vs zs us ws Q I r rz h
  obtain ⟨p, d, ks, rfl, rfl, hp, ha, q⟩ := h
  obtain rfl := Vals.ref1 r
  obtain ⟨w1, rfl, e1⟩ := vals1 rz
  obtain rfl : w1 = Value.bool b := e1
  have view : s.heap.IsValuesView p d := (show ObjOk X.prog X.w H s.heap p (valuesO p d) from I.hok p _ hp).1
  obtain ⟨z, hd, xs', rel, dd⟩ := dk_of I.hok ha
  obtain ⟨ep, hat⟩ := dd.dictAt
  have l1 : ks.length = xs'.length := by
    have := Paired.length rel
    rwa [List.length_map] at this
  have hz : xs'.length ≤ sizeLine := by rw [List.length_map] at z; omega
  refine sorted_col (x := .ref p) (b := b) (kw := [(Str.ofString "reverse", .bool b)]) (ltv := fun _ => SrtO.ltIv) (P := fun h' _ vs => IntsAre vs (ks.map (·.2)))
    (fun _ => rfl) (args_sorted_rev _ _) (fun _ => args_list_sort_rev _ _) (fun R hR => ?_) (fun _ _ _ _ => SrtO.swo_int) (fun h' _ vs hP => ?_) (fun h' tk vs hP h2 h₁ c hb keep => ?_) (fun h' tk vs out h2 hk hP h1 hb hk2 hat => ?_)
  · refine PySem.W.kdu_collect (A := X.A.in1) (PySem.W.kdl_values (knd := mixKind X.prog X.w) (kvs := xs') (ep := ep) (r := p) (d := d)) (I.ok.hd hc) ⟨view, hat⟩ hz fun h' tk acc hk hacc => hR h' tk _ hk (vals_ints' rel (by rw [Array.length_toList]; exact hacc.1) fun j v e => hacc.2 j v (by rw [← Array.getElem?_toList]; exact e))
  · rw [hP.length, List.length_map, l1]
    exact hz
  · exact SrtO.ints_sortable hP h2
  · obtain ⟨n, hat⟩ := hat
    obtain ⟨ns', k1, k2, k3⟩ := SrtR.ints_outR hP h1 hb
    have hlen : (ns'.map V.int).length ≤ sizeLine := by
      rw [List.length_map, k2.length_eq, List.length_map, l1]
      exact hz
    have e0 : ((if b = true then out.toArray.reverse else out.toArray).toList).toArray = (if b = true then out.toArray.reverse else out.toArray) := by rw [Array.toArray_toList]
    have gone : s.heap.get? h'.objs.size = none := by
      cases e : s.heap.get? h'.objs.size with
      | none => rfl
      | some o => exact absurd (Heap.lt_size (hk _ _ e)) (Nat.lt_irrefl _)
    have hn := I.hok.gone gone
    exact ⟨.ref h'.objs.size, upd H h'.objs.size (.lst (ns'.map V.int)), I.laidN (t' := tk) (fun c o e => hk2 c o (hk c o e)) gone hn ⟨hlen, _, n, vals_of_ints k1, by rw [e0]; exact hat⟩, rfl, q _ _ k2 k3 hn⟩
/-- sorted(d), keys texts, any number of them -/
def rSortedDS : List V → Hp → VK → Prop := fun vs H Q => ∃ (d : Addr) (kvs : List (Key × V)) (ss : List Str), vs = [V.ref d] ∧ H d = some (.dK kvs) ∧ kvs.map (·.1) = ss.map Sum.inr ∧
  ∀ (ys : List Str) (l : Addr), ys.Perm ss → Srtd ltZ ys → H l = none → Q (.ref l) (upd H l (.lst (ys.map V.str)))
theorem keys_strs {P : Program} {w : World} {xs' : List (Key × Value)} : ∀ {kvs : List (Key × V)} {ss : List Str}, KV kvs xs' → kvs.map (·.1) = ss.map Sum.inr → ∀ {vs : List Value}, vs.length = xs'.length → (∀ (j : Nat) (v : Value), vs[j]? = some v → ∃ k x, xs'[j]? = some (k, x) ∧ (mixKind P w).is k v = true) → StrsAre vs ss := fun {kvs ss} rel hk {vs} hl hv => by
  have : ∀ {kvs : List (Key × V)} {ss : List Str} {xs : List (Key × Value)} {vs : List Value}, KV kvs xs → kvs.map (·.1) = ss.map Sum.inr → vs.length = xs.length → (∀ (j : Nat) (v : Value), vs[j]? = some v → ∃ k x, xs[j]? = some (k, x) ∧ (mixKind P w).is k v = true) → StrsAre vs ss := by
    intro kvs
    induction kvs with
    | nil =>
      intro ss xs vs r hk hl hv
      cases r
      cases ss with
      | nil =>
        have : vs = [] := List.eq_nil_of_length_eq_zero hl
        subst this
        exact .nil
      | cons _ _ => cases hk
    | cons kv kvs ih =>
      intro ss xs vs r hk hl hv
      cases r with
      | cons h t =>
        cases ss with
        | nil => cases hk
        | cons z ss =>
          cases vs with
          | nil => simp at hl
          | cons v vs =>
            rw [List.map_cons, List.map_cons] at hk
            obtain ⟨h1, h2⟩ := List.cons.inj hk
            obtain ⟨k, x, e1, e2⟩ := hv 0 v rfl
            have e1' := (Prod.mk.inj (Option.some.inj e1)).1
            have kk : k = Sum.inr z := by rw [← e1', ← h.1, h1]
            subst kk
            obtain ⟨u, eu⟩ := relV_key (show keyIs (Sum.inr z) v = true from e2)
            subst eu
            exact .cons _ _ (ih t h2 (by simpa using hl) fun j v' e => hv (j + 1) v' (by simpa using e))
  exact this rel hk hl hv
theorem cr_sortedDS (hc : X.calm = true) : CallR X (.builtin "sorted") rSortedDS := by
  intro pins s σ H xs us Q I r h
  obtain ⟨d, kvs, ss, rfl, ha, hks, q⟩ := h
  obtain rfl := Vals.ref1 r
  obtain ⟨z, hd, xs', rel, dd⟩ := dk_of I.hok ha
  obtain ⟨ep, hat⟩ := dd.dictAt
  have l1 : kvs.length = xs'.length := Paired.length rel
  have hz : xs'.length ≤ sizeLine := by omega
  refine sorted_col (x := .ref d) (b := false) (kw := []) (ltv := fun _ => ltSv) (P := fun _ _ vs => StrsAre vs ss)
    plain_rev (args_sorted1 _) (fun _ => args_list_sort _) (fun R hR => ?_) (fun _ _ _ _ => swo_str) (fun h' _ vs hP => ?_) (fun h' tk vs hP h2 h₁ c hb keep => strs_sortable hP h2) (fun h' tk vs out h2 hk hP h1 hb hk2 hat => ?_)
  · refine PySem.W.kdu_collect (A := X.A.in1) (PySem.W.kdl_dict (knd := mixKind X.prog X.w) (kvs := xs') (ep := ep) (d := d) hd) (I.ok.hd hc) hat hz fun h' tk acc hk hacc => hR h' tk _ hk (keys_strs rel hks (by rw [Array.length_toList]; exact hacc.1) fun j v e => hacc.2 j v (by rw [← Array.getElem?_toList]; exact e))
  · rw [hP.length, ← List.length_map (f := (Sum.inr : Str → Key)), ← hks, List.length_map]
    omega
  · obtain ⟨n, hat⟩ := hat
    have isS : ∀ v ∈ out, ∃ x t, v = Value.str x t := fun v hv => StrsAre.all hP v (hb.perm.mem_iff.mp hv)
    have kp : (out.map strOf).Perm ss := by
      have := hb.perm.map strOf
      rwa [if_neg (by decide), strOf_strs hP] at this
    have hlen : ((out.map strOf).map V.str).length ≤ sizeLine := by
      rw [List.length_map, kp.length_eq, ← List.length_map (f := (Sum.inr : Str → Key)), ← hks, List.length_map]
      omega
    have gone : s.heap.get? h'.objs.size = none := by
      cases e : s.heap.get? h'.objs.size with
      | none => rfl
      | some o => exact absurd (Heap.lt_size (hk _ _ e)) (Nat.lt_irrefl _)
    have hn := I.hok.gone gone
    exact ⟨.ref h'.objs.size, upd H h'.objs.size (.lst ((out.map strOf).map V.str)), I.laidN (t' := tk) (fun c o e => hk2 c o (hk c o e)) gone hn ⟨hlen, out, n, vals_of_strs (strsAre_map out isS), hat⟩, rfl, q _ _ kp (srtd_map h1) hn⟩
/-! plain tuples: such of which no attributes are held -/
def Ptp (H : Hp) (a : Addr) (xs : List V) : Prop := ∃ o : Obj, H a = some (.frz o (.tup xs)) ∧ o.dict = none
theorem Ptp.seq {K : PySem.W.Frag} {H : Hp} {a : Addr} {xs : List V} (h : Ptp H a xs) : SqT K H a xs := let ⟨o, e, _⟩ := h; .inl (.inr ⟨o, e⟩)
theorem Ptp.same {H H' : Hp} {a : Addr} {xs : List V} (h : Ptp H a xs) (s : Same H H') : Ptp H' a xs := let ⟨o, e, d⟩ := h; ⟨o, s _ _ e, d⟩
theorem Ptp.ne {H : Hp} {a p : Addr} {xs : List V} (h : Ptp H a xs) (hp : H p = none) : a ≠ p := let ⟨o, e, _⟩ := h; ne_of_none e hp
theorem Ptp.upd {H : Hp} {a p : Addr} {xs : List V} {u : HO} (h : Ptp H a xs) (n : a ≠ p) : Ptp (L2.upd H p u) a xs := let ⟨o, e, d⟩ := h; ⟨o, by rw [upd_ne n]; exact e, d⟩
/-- (a, b, ..), a plain tuple -/
def tTupF (t : TA) : TE := fun σ H Q => t σ H fun xs H1 => xs.length ≤ sizeLine ∧ ∀ p o, H1 p = none → o.dict = none → Q (.ref p) (upd H1 p (.frz o (.tup xs)))
theorem pe_tupF {x1} {es : List Expr} {t : TA} {pos : Pos} (h : PA X es t) : PE X (.Tuple es x1 pos) (tTupF t) := by
  refine ⟨fun pins s σ H Q I hq => ?_⟩
  refine wpAny_Tuple_spliced (thn (h.run pos pins s σ H _ I hq) fun us s1 ⟨xs, H1, I1, r, z, q⟩ => ⟨by rw [← r.length]; exact z, ?_⟩)
  have hf : H1 s1.heap.objs.size = none := I1.hok.fresh (Nat.le_refl _)
  refine ⟨.ref s1.heap.objs.size, _, I1.laid (t' := s1.toks) (fun b u e => Heap.get?_push_of_some _ e) (Nat.le_refl _) ?_, rfl, q _ { cls := .type "tuple", data := .seq us.toArray } hf rfl⟩
  exact ⟨Heap.get?_push_size _ rfl, z, us, r, ⟨_, Heap.get?_push_size _ rfl, rfl, _, rfl⟩⟩
/-- tuple(xs) of a list, a plain tuple -/
theorem call_tupleF : CallR X (.type "tuple") (fun xs H Q => ∃ p ys, xs = [.ref p] ∧ SqL X.K H p ys ∧ ∀ l o, H l = none → o.dict = none → Q (.ref l) (upd H l (.frz o (.tup ys)))) := by
  intro pins s σ H xs us Q I r h
  obtain ⟨p, ys, rfl, hq, q⟩ := h
  obtain ⟨u, rfl, rx⟩ := vals1 r
  cases rx
  obtain ⟨its, r', pl, hz⟩ := I.list hq
  have hlen := r'.length
  refine call_tuple_list pl.isList (fun h' kp => ?_) (by simp only [List.size_toArray] <;> omega)
  have I1 : Inv X pins σ H { s with heap := h' } := I.kept (t' := s.toks) kp
  have I2 : Inv X pins σ (upd H h'.objs.size (.frz _ (.tup ys))) { s with heap := h'.push { cls := .type "tuple", data := .seq its.toArray } } :=
    I1.laid (t' := s.toks) (fun b o e => Heap.get?_push_of_some _ e) (Nat.le_refl _) (show ObjOk X.prog X.w _ _ _ (.frz _ (.tup ys)) from ⟨Heap.get?_push_size _ rfl, hz, its, r', IsTup.new _ _⟩)
  exact ⟨.ref h'.objs.size, _, I2, rfl, q _ _ (I1.hok.fresh (Nat.le_refl _)) rfl⟩
theorem pairs_of2 {pins : List (Addr × Obj)} {σ : St} {H : Hp} {s : Shared} (I : Inv X pins σ H s) : ∀ {ps : List Addr} {kvs : List (Key × V)}, Paired (fun p kv => SqT X.K H p [kV kv.1, kv.2]) ps kvs →
    ∃ (prs : List (Key × Value)) (vps : List (Value × Value)), KV kvs prs ∧ prs.length = ps.length ∧ vps.length = prs.length ∧
      ∀ (j : Nat) (k v : Value), vps[j]? = some (k, v) → ∃ (b : Addr) (q : Key × Value), ps[j]? = some b ∧ prs[j]? = some q ∧ v = q.2 ∧ IsTup s.heap b #[k, v] ∧ keyIs q.1 k = true
  | _, _, .nil => ⟨[], [], .nil, rfl, rfl, fun j k v e => by simp at e⟩
  | _, _, .cons (a := p) (b := kv) h t => by
    obtain ⟨prs, vps, r, hl, hl2, hp⟩ := pairs_of2 I t
    obtain ⟨its, rv, ht, _⟩ := I.tuple h
    obtain ⟨u, y, ei, ru, ry⟩ := vals2 rv
    subst ei
    refine ⟨(kv.1, y) :: prs, (u, y) :: vps, .cons ⟨rfl, ry⟩ r, by rw [List.length_cons, List.length_cons, hl], by rw [List.length_cons, List.length_cons, hl2], fun j k v e => ?_⟩
    cases j with
    | zero =>
      have e' : (u, y) = (k, v) := Option.some.inj e
      cases e'
      exact ⟨p, _, rfl, rfl, rfl, ht, kV_is (P := X.prog) (w := X.w) ru⟩
    | succ j =>
      obtain ⟨b, q, e1, e2, e3⟩ := hp j k v (by simpa using e)
      exact ⟨b, q, by simpa using e1, by simpa using e2, e3⟩
/-- dict(t), t a plain tuple of pairs -/
theorem call_dictPT (hcalm : X.calm = true) : CallR X (.type "dict") (fun xs H Q => ∃ (a : Addr) (ps : List Addr) (kvs : List (Key × V)), xs = [.ref a] ∧ Ptp H a (ps.map V.ref) ∧ Paired (fun p kv => SqT X.K H p [kV kv.1, kv.2]) ps kvs ∧
    ∀ p, H p = none → Q (.ref p) (upd H p (.dK (mergeK [] kvs)))) := by
  intro pins s σ H xs us Q I r q
  obtain ⟨a, ps, kvs, ex, hq, hp, q⟩ := q
  subst ex
  obtain ⟨u, eu, rx⟩ := vals1 r
  subst eu
  cases rx
  obtain ⟨o, ha, hdn⟩ := hq
  obtain ⟨hao, hz, its, rv, o', hao', hc, n, hdat⟩ := (show ObjOk X.prog X.w H s.heap a (.frz o (.tup (ps.map V.ref))) from I.hok a _ ha)
  rw [hao] at hao'
  cases hao'
  have ei := refs_at rv
  subst ei
  rw [List.length_map] at hz
  obtain ⟨prs, vps, rel, hl, hvl, hvp⟩ := pairs_of2 I hp
  have hTs : ∀ j b, ps[j]? = some b → ps.getD j 0 = b := fun j b e => by simp [List.getD, e]
  refine PySem.call_dict_pairs (knd := mixKind X.prog X.w) (kvs := prs) (PairArg.tuple (prog := X.prog) (w := X.w) a (ps.map Value.ref).toArray (fun j => ps.getD j 0) vps) (I.ok.hd hcalm) ⟨⟨o, n, hao, hc, hdn, hdat⟩, ?_, fun j k v e => ?_⟩ ⟨hvl.symm, fun i key v h => ?_⟩ (by rw [hvl, hl]; exact hz) fun h' tk hd' k => ?_
  · simp [hvl, hl]
  · obtain ⟨b, q, e1, e2, e3, e4, e5⟩ := hvp j k v e
    show _ ∧ PairAt s.heap (ps.getD j 0) k v
    rw [hTs j b e1]
    have ed : (List.map Value.ref ps).toArray[j]? = some (Value.ref b) := by simp [e1]
    refine ⟨?_, .inl e4⟩
    show _ = some (Value.ref (ps.getD j 0))
    rw [hTs j b e1]
    exact ed
  · obtain ⟨b, q', e1, e2, e3, e4, e5⟩ := hvp i key v h
    exact ⟨q'.1, by rw [e2, e3], e5⟩
  · have hm : (s.heap.objs.size == sysModules) = false := beq_eq_false_iff_ne.mpr (Nat.ne_of_gt I.big)
    have hlen : (mergeK [] kvs).length ≤ sizeLine := by
      refine Nat.le_trans (length_mergeK kvs []) ?_
      rw [List.length_nil, Nat.zero_add, rel.length, hl]
      exact hz
    exact ⟨.ref s.heap.objs.size, upd H s.heap.objs.size (.dK (mergeK [] kvs)), I.laid (t' := tk) (fun b u e => k b u (by simp) e) (Nat.le_refl _) (show ObjOk X.prog X.w _ _ _ (.dK (mergeK [] kvs)) from ⟨hlen, hm, merged [] prs, KV.merge rel .nil, hd'⟩), rfl, q _ (I.hok.fresh (Nat.le_refl _))⟩
/-- o.f as a target -/
def gFld (K : PySem.W.Frag) (ta : TE) (f : Str) : TG := fun y σ H Q => ta σ H fun x H2 => ∃ a C dx fs, x = .ref a ∧ H2 a = some (.ins C dx fs) ∧ Cls K C ∧ NoAttr K C f ∧ fs.length < 1000 ∧ Q σ (upd H2 a (.ins C dx (putF f y fs)))
theorem pg_fld {o : Expr} {f : Str} {pos : Pos} {ta : TE} (ha : PE X o ta) : PG X (.Attribute o f pos) (gFld X.K ta f) := by
  refine ⟨fun pins s σ H v u Q I r h => ?_⟩
  rw [assign_Attribute]
  refine wpAny_bind (wpAny_holding (thn (ha.run pins s σ H _ I h) fun ov s2 ⟨x, H2, I2, rx, a, C, dx, fs, ex, ea, c, n, l, q2⟩ => ?_))
  subst ex
  obtain rfl : ov = Value.ref a := rx
  refine wpAny_bind (wpAny_standAt (wpAny_bind (wpAny_holding (setattr_ok I2 ea c n l r fun s3 I3 => ?_))))
  exact wpAny_release ⟨σ, _, I3, q2⟩
end
end L2

namespace L2
open PySem PySem.Spec PyProof.Rows SrtO SrtZ
section
variable {X : Cx}
/-- min(d.values()), values ints -/
def rMinV : List V → Hp → VK → Prop := fun vs H Q => ∃ (p d : Addr) (ks : List (Str × Int)), vs = [V.ref p] ∧ H p = some (valuesO p d) ∧ H d = some (.dK (ks.map entZ)) ∧ 0 < ks.length ∧
  ∀ m, m ∈ ks.map (·.2) → (∀ y ∈ ks.map (·.2), m ≤ y) → Q (.int m) H
theorem cr_minV (hc : X.calm = true) : CallR X (.builtin "min") rMinV := by
  intro pins s σ H vs us Q I r h
  obtain ⟨p, d, ks, rfl, hp, ha, hne, q⟩ := h
  obtain rfl := Vals.ref1 r
  have view : s.heap.IsValuesView p d := (show ObjOk X.prog X.w H s.heap p (valuesO p d) from I.hok p _ hp).1
  obtain ⟨z, hd, xs', rel, dd⟩ := dk_of I.hok ha
  obtain ⟨ep, hat⟩ := dd.dictAt
  have l1 : ks.length = xs'.length := by
    have := Paired.length rel
    rwa [List.length_map] at this
  have K := PySem.W.kdl_values (prog := X.prog) (w := X.w) (knd := mixKind X.prog X.w) (kvs := xs') (ep := ep) (r := p) (d := d)
  have hok : s.heap.IsValuesView p d ∧ s.heap.DictAt (mixKind X.prog X.w) d xs' ep := ⟨view, hat⟩
  have hval : ∀ (i : Nat) (v : Value), (∃ k, xs'[i]? = some (k, v)) → ∃ t : Tok, v = Value.int ((ks.map (·.2)).getD i 0) t := fun i v ⟨k, e⟩ => by
    obtain ⟨e', t, e1, e2⟩ := ent_paired rel e
    refine ⟨t, ?_⟩
    have : (ks.map (·.2)).getD i 0 = e'.2 := by simp [List.getD, e1]
    rw [this]
    exact (Prod.mk.inj e2).2
  refine PySem.call_min_walkS ?_
  obtain ⟨oI, St, hit, W, st⟩ := K.iter X.A.in1 s (I.ok.hd hc) hok
  refine hit _ _ ⟨s.heap.objs.size, _, _, _, xs'.length, _, _, fun i j => decide ((ks.map (·.2)).getD i 0 < (ks.map (·.2)).getD j 0), rfl, W.toS, st, fun b hb => ?_, by omega, PySem.CmpOf.ints_lt _ hval, fun v s' hP hm => ?_⟩
  · show b < (s.heap.push oI).objs.size
    rw [size_push']
    rcases List.mem_cons.mp hb with e | hb
    · rw [e]; exact Nat.lt_succ_self _
    · rw [List.mem_singleton.mp hb]; exact Nat.lt_succ_of_lt (K.there _ hok).2
  · have hk : ∀ b o, s.heap.get? b = some o → s'.heap.get? b = some o := fun b o e =>
      hm.heap b o (fun hI => absurd (Heap.lt_size e) (by rw [List.mem_singleton.mp hI]; exact Nat.lt_irrefl _)) (Heap.get?_push_of_some _ e)
    obtain ⟨t, rfl⟩ := hval _ v hP
    obtain ⟨h1, h2⟩ := argBest_lt (fun i => (ks.map (·.2)).getD i 0) (xs'.length - 1)
    have hI : Inv X pins σ H s' := by
      rw [Moved.eq_with hm]
      exact I.kept (t' := s'.toks) hk
    refine ⟨.int _, H, hI, ⟨t, rfl⟩, q _ ?_ fun a ha => ?_⟩
    · exact PySem.getD_mem (by rw [List.length_map]; omega)
    · obtain ⟨j, hj, rfl⟩ := mem_getD ha
      rw [List.length_map] at hj
      exact h2 j (by omega)
end
end L2

namespace L2
open PySem PySem.Spec PyProof.Rows SrtO SrtZ
/-! own rules: (int, text) < (int, text); sorted of a list of texts of any length -/
def ltNZ (i j : Int) (x y : Str) : Bool := if i = j then ltZ x y else decide (i < j)
section
variable {X : Cx}
def rLtNZ (K : PySem.W.Frag) : R2 := fun x y H Q => ∃ (a b : Addr) (i j : Int) (z w : Str), x = .ref a ∧ y = .ref b ∧ SqT K H a [.int i, .str z] ∧ SqT K H b [.int j, .str w] ∧ Q (.bl (ltNZ i j z w)) H
theorem op_ltNZ (hu : X.A.units < cLine) : OpR X (compareOp .Lt) (rLtNZ X.K) := by
  intro pins s σ H x y v u Q I rx ry h
  obtain ⟨a, b, i, j, z, w, rfl, rfl, ha, hb, q⟩ := h
  cases rx
  cases ry
  obtain ⟨its, r1, p1, _⟩ := I.tuple ha
  obtain ⟨its2, r2, p2, _⟩ := I.tuple hb
  obtain ⟨u1, u2, rfl, ri, rj⟩ := vals2 r1
  obtain ⟨w1, w2, rfl, si, sj⟩ := vals2 r2
  obtain ⟨t1, rfl⟩ := ri
  obtain ⟨t2, rfl⟩ := rj
  obtain ⟨t3, rfl⟩ := si
  obtain ⟨t4, rfl⟩ := sj
  have R := Ob.RcOp.tuples_lt (A := X.A) (s := s) (e := fun k => match k with | 0 => (i == j) | _ => (z == w)) (r := fun k => match k with | 0 => decide (i < j) | _ => ltZ z w) p1 p2 hu (fun k h1 h2 => by
    match k, h1, h2 with
    | 0, _, _ => exact SeqAt.EqAt.int_int _ _ _ _
    | 1, _, _ => exact SeqAt.EqAt.str_str _ _ _ _
    | k + 2, h1, _ => exact absurd h1 (by simp)) (fun k h1 h2 _ => by
    match k, h1, h2 with
    | 0, _, _ => exact Ob.RcOp.lt_int _ _ _ _
    | 1, _, _ => exact fun _ _ _ _ h => PyProof.Rows.lt_str h
    | k + 2, h1, _ => exact absurd h1 (by simp))
  have e : Ob.lexAt (fun k => match k with | 0 => (i == j) | _ => (z == w)) (fun k => match k with | 0 => decide (i < j) | _ => ltZ z w) (decide (2 < 2)) 0 2 = ltNZ i j z w := by
    unfold ltNZ
    rw [Ob.lexAt_succ, Ob.lexAt_succ, Ob.lexAt_zero]
    show (if (i == j) = true then (if (z == w) = true then decide (2 < 2) else ltZ z w) else decide (i < j)) = _
    by_cases h1 : i = j
    · rw [if_pos (beq_iff_eq.mpr h1), if_pos h1]
      by_cases h2 : z = w
      · rw [if_pos (by rw [h2]; exact beq_self_eq_true w), h2, ltZ_irr]
        rfl
      · rw [if_neg (fun q => h2 (eq_of_beq q))]
    · rw [if_neg (fun q => h1 (eq_of_beq q)), if_neg h1]
  have R' : Ob.RcOp .Lt X.A s (.ref a) (.ref b) (ltNZ i j z w) := by
    rw [← e]
    exact R
  exact R' X.prog X.w X.xe (EP X pins σ Q) ⟨.bl _, H, I, rfl, q⟩
/-- sorted(xs), xs a list of texts of any length -/
def rSortedSL (K : PySem.W.Frag) : List V → Hp → VK → Prop := fun vs H Q => ∃ (a : Addr) (xs : List Str), vs = [V.ref a] ∧ SqL K H a (xs.map V.str) ∧ ∀ (ys : List Str) (p : Addr), ys.Perm xs → Srtd ltZ ys → H p = none → Q (.ref p) (upd H p (.lst (ys.map V.str)))
theorem cr_sortedSL : CallR X (.builtin "sorted") (rSortedSL X.K) := by
  intro pins s σ H vs us Q I r h
  obtain ⟨a, xs, rfl, hs, q⟩ := h
  obtain ⟨its, rv, hl, hz⟩ := I.list hs
  obtain rfl := Vals.ref1 r
  have hI : StrsAre its xs := strs_of_vals rv
  rw [List.length_map] at hz
  have il : its.length = xs.length := hI.length
  refine SrtO.sorted_ord (ltv := ltSv) ⟨fun x y => swo_str.asym _ _, fun x y z => swo_str.tr _ _ _⟩ hl.isList (by rw [il]; exact hz) (fun h2 h₁ b hb kk => strs_sortable (s := { s with heap := h₁ }) hI h2) fun out h1 h2 => ?_
  obtain ⟨ep, he'⟩ := PyProof.Rows.sortedAll_at s.heap its out.toArray
  have isO : ∀ v ∈ out, ∃ x t, v = Value.str x t := fun v hv => hI.all v (h2.perm.mem_iff.mp hv)
  have hO := strsAre_map out isO
  have pt : (out.map strOf).Perm xs := by
    have := h2.perm.map strOf
    rwa [show its.map strOf = xs from hI.strs] at this
  have hlen : ((out.map strOf).map V.str).length ≤ sizeLine := by rw [List.length_map, pt.length_eq]; exact hz
  refine ⟨.ref _, upd H (s.heap.objs.size + 1) (.lst ((out.map strOf).map V.str)), I.laid (t' := s.toks) (fun _ _ => PyProof.Rows.sortedAll_old) (Nat.le_succ _) ⟨hlen, out, ep, vals_of_strs hO, he'⟩, rfl, q _ _ pt (srtd_map h1) (I.hok.fresh (Nat.le_succ _))⟩
end
end L2


namespace Kb
open PySem PySem.Spec PyProof.Rows L2
/-! the text -/
def topS (i : Nat) : Stmt := PySem.Challenge.pw_knownends_k01_names_trees_and_counts_jud.main.body.getD i (.Pass ⟨0, 0, 0, 0⟩)
/-! facts -/
structure Dn (K : PySem.W.Frag) (mg : Str → Option Value) (nm : Str) (st : Stmt) (ps : List Str) where
  f : Addr
  fd : FuncData
  F : Fun K nm nm st f fd
  g : mg nm = some (.ref f)
  b : Binds K fd ps []
structure Cst (mg : Str → Option Value) (nm : Str) (v : V) where
  u : Value
  g : mg nm = some u
  r : RelV v u
structure Blt (mg : Str → Option Value) : Prop where
  n_len : mg "len" = none
  n_int : mg "int" = none
  n_abs : mg "abs" = none
  n_range : mg "range" = none
  n_isinstance : mg "isinstance" = none
  n_str : mg "str" = none
  n_all : mg "all" = none
  n_tuple : mg "tuple" = none
  n_bool : mg "bool" = none
  n_list : mg "list" = none
  n_dict : mg "dict" = none
  n_sum : mg "sum" = none
  n_min : mg "min" = none
  n_sorted : mg "sorted" = none
/-! heaps -/
theorem same_upd {H : Hp} {p : Addr} {o : HO} (h : H p = none) : Same H (upd H p o) := fun b x e => by
  rw [upd_ne (ne_of_none e h)]
  exact e
theorem Same.new {H H1 : Hp} {p : Addr} {o : HO} (x : Same H H1) (h : H1 p = none) : Same H (upd H1 p o) := fun b u e => same_upd h b u (x b u e)
theorem Same.gone {H H1 : Hp} {p : Addr} (x : Same H H1) (h : H1 p = none) : H p = none := by
  cases e : H p with
  | none => rfl
  | some o =>
    have := x _ _ e
    rw [h] at this
    cases this
/-- an object that was new is stored anew -/
theorem Same.put {H H1 : Hp} {p : Addr} {o : HO} (x : Same H H1) (h : H p = none) : Same H (upd H1 p o) := fun b u e => by
  rw [upd_ne (ne_of_none e h)]
  exact x b u e
theorem sql {K : PySem.W.Frag} {H : Hp} {a : Addr} {xs : List V} (h : H a = some (.lst xs)) : SqL K H a xs := .inl (.inl h)
theorem seqT {K : PySem.W.Frag} {H H' : Hp} {a : Addr} {xs : List V} (h : SqT K H a xs) (s : Same H H') : SqT K H' a xs := by
  rcases h with (h | ⟨o, h⟩) | h
  · exact .inl (.inl (s _ _ h))
  · exact .inl (.inr ⟨o, s _ _ h⟩)
  · exact .inr h
theorem tyT {K : PySem.W.Frag} {H : Hp} {a : Addr} {xs : List V} (h : SqT K H a xs) : TyX K H (.ref a) (.type "tuple") := by
  rcases h with (h | ⟨o, h⟩) | ⟨o, its, n, h, c, _⟩
  · exact .base (.tup h)
  · exact .fTuple h
  · exact .kTuple h c
/-- %, the rest as a letter -/
def rModB : R2 := fun x y H Q => ∃ i j, x = .int i ∧ y = .int j ∧ 0 < j ∧ ∀ m : Int, 0 ≤ m → m < j → m = i % j → Q (.int m) H
theorem op_modB {X : Cx} : OpR X (binaryOp .Mod) rModB := fun pins s σ H x y v u Q I rx ry h => by
  obtain ⟨i, j, e1, e2, hj, q⟩ := h
  exact op_mod pins s σ H x y v u Q I rx ry ⟨i, j, e1, e2, hj, q _ (Int.emod_nonneg _ (by omega)) (Int.emod_lt_of_pos _ hj) rfl⟩
theorem cmulR {i j : Int} (h1 : 0 ≤ j) (h2 : j < 10000000000) : CMul i j := .inr ⟨by omega, by omega⟩
theorem cmulL {i j : Int} (h1 : 0 ≤ i) (h2 : i < 10000000000) : CMul i j := .inl ⟨by omega, by omega⟩
/-! names -/
def cs (z : Str) : List Nat := z.cps.toList
theorem cs_len (z : Str) : (cs z).length = z.length := by simp [cs, Str.length]
theorem cs_inj {a b : Str} (h : cs a = cs b) : a = b := by
  cases a; cases b
  simp [cs] at h
  rw [h]
def nmC (c : Nat) : Bool := !decide (c < 97) && !decide (122 < c)
/-- a name -/
structure Nm (z : Str) : Prop where
  pos : 1 ≤ z.length
  len : z.length ≤ 8
  abc : ∀ c ∈ cs z, nmC c = true
theorem lt_one (a b : Nat) : decide ([a] < [b]) = decide (a < b) := by
  have : ([a] < [b]) ↔ a < b := by simp [List.cons_lt_cons_iff]
  by_cases h : a < b
  · rw [decide_eq_true h, decide_eq_true (this.mpr h)]
  · rw [decide_eq_false h, decide_eq_false (fun z => h (this.mp z))]
abbrev sP_is_int : Stmt := topS 6
abbrev NP_is_int : List Str := ["thing"]
theorem scP_is_int : FnScope ["thing"] ["thing"] (defScope sP_is_int) := ⟨rfl, rfl, rfl, by decide +kernel, rfl, by decide +kernel, by decide +kernel⟩
abbrev NP_is_number : List Str := ["thing"]
abbrev sP_is_room : Stmt := topS 7
abbrev NP_is_room : List Str := ["thing"]
theorem scP_is_room : FnScope ["thing"] ["thing"] (defScope sP_is_room) := ⟨rfl, rfl, rfl, by decide +kernel, rfl, by decide +kernel, by decide +kernel⟩
abbrev sP_is_name : Stmt := topS 12
abbrev NP_is_name : List Str := ["thing", "letter"]
theorem scP_is_name : FnScope ["thing", "letter"] ["thing"] (defScope sP_is_name) := ⟨rfl, rfl, rfl, by decide +kernel, rfl, by decide +kernel, by decide +kernel⟩
abbrev sP_is_stream : Stmt := topS 13
abbrev NP_is_stream : List Str := ["thing", "item"]
theorem scP_is_stream : FnScope ["thing", "item"] ["thing"] (defScope sP_is_stream) := ⟨rfl, rfl, rfl, by decide +kernel, rfl, by decide +kernel, by decide +kernel⟩
abbrev DnIsInt (K : PySem.W.Frag) (mg : Str → Option Value) := Dn K mg "is_int" sP_is_int ["thing"]
abbrev DnIsRoom (K : PySem.W.Frag) (mg : Str → Option Value) := Dn K mg "is_room" sP_is_room ["thing"]
abbrev DnIsName (K : PySem.W.Frag) (mg : Str → Option Value) := Dn K mg "is_name" sP_is_name ["thing"]
abbrev DnIsStream (K : PySem.W.Frag) (mg : Str → Option Value) := Dn K mg "is_stream" sP_is_stream ["thing"]
section
variable {P : Program} {w : World} {K : PySem.W.Frag} {mg : Str → Option Value} {base : Heap}
/-! is_int, of ints -/
def spIsInt : Sp := fun vs H Q _ => ∃ i : Int, vs = [.int i] ∧ Q (.bl true) H
theorem ok_is_int (T : Blt mg) (d : DnIsInt K mg) : FnOk P w K mg base CX0 1 d.f d.fd ["thing"] spIsInt := by
  refine d.F.ok scP_is_int (fun vs H Q E h => ?_) (fun cdv A outer s H vs Q E hr h => ?_)
  · obtain ⟨i, rfl, _⟩ := h
    rfl
  · obtain ⟨i, rfl, q⟩ := h
    refine ⟨_, (pss_one (ps_ret (pe_and (pe_callB call_isi (by rfl) T.n_isinstance (by decide +kernel) (pa_cons (pv 0) (pa_cons (pe_bltn (v := .ty "int") (by rfl) T.n_int (by decide +kernel) rfl) pa_nil))) (pe_one (pe_not (pe_callB call_isi (by rfl) T.n_isinstance (by decide +kernel) (pa_cons (pv 0) (pa_cons (pe_bltn (v := .ty "bool") (by rfl) T.n_bool (by decide +kernel) rfl) pa_nil)))))))), ?_⟩
    refine ⟨.int i, rfl, .int i, _, _, _, true, rfl, .ty "int", .base (.int i), kit_ty (by decide +kernel), true, rfl, iteT ?_⟩
    exact ⟨.int i, rfl, .int i, _, _, _, false, rfl, .ty "bool", .base (.int i), kit_ty (by decide +kernel), false, rfl, q⟩
/-! is_number, of ints -/
def spIsNumber : Sp := fun vs H Q _ => ∃ i : Int, vs = [.int i] ∧ Q (.bl (decide (0 ≤ i))) H
/-! is_room, of ints -/
def spIsRoom : Sp := fun vs H Q _ => ∃ i : Int, vs = [.int i] ∧ Q (.bl (decide (1 ≤ i) && decide (i ≤ 64))) H
theorem ok_is_room (T : Blt mg) (cM : Cst mg "MOST_ROOM" (.int 64)) (dP_is_int : DnIsInt K mg) (d : DnIsRoom K mg) : FnOk P w K mg base CX0 2 d.f d.fd ["thing"] spIsRoom := by
  have GP_is_int : FnOk P w K mg base CX0 1 dP_is_int.f dP_is_int.fd ["thing"] spIsInt := ok_is_int T dP_is_int
  refine d.F.ok scP_is_room (fun vs H Q E h => ?_) (fun cdv A outer s H vs Q E hr h => ?_)
  · obtain ⟨i, rfl, _⟩ := h
    rfl
  · obtain ⟨i, rfl, q⟩ := h
    refine ⟨_, (pss_one (ps_ret (pe_and (pe_call GP_is_int (hr.mono (by omega)) (by rfl) dP_is_int.g dP_is_int.F.kp dP_is_int.b .nil pass0 (pa_cons (pv 0) pa_nil)) (pe_one (pe_chain op_le op_le pe_int (pv 0) (pe_glob rfl cM.g cM.r)))))), ?_⟩
    refine ⟨.int i, rfl, i, rfl, true, rfl, iteT ⟨.int i, rfl, _, _, rfl, rfl, decide (1 ≤ i), rfl, ite2 (fun e => ⟨_, _, rfl, rfl, ?_⟩) (fun e => ?_)⟩⟩
    · rw [e, Bool.true_and] at q
      exact q
    · rw [show decide (1 ≤ i) = false from by simpa using e, Bool.false_and] at q
      exact q
/-! is_name, of names -/
def spIsName : Sp := fun vs H Q _ => ∃ z : Str, vs = [.str z] ∧ Nm z ∧ ∀ H', Same H H' → Q (.bl true) H'
theorem ok_is_name (T : Blt mg) (cL : Cst mg "LONGEST_NAME" (.int 8)) (d : DnIsName K mg) : FnOk P w K mg base CX0 1 d.f d.fd ["thing"] spIsName := by
  refine d.F.ok scP_is_name (fun vs H Q E h => ?_) (fun cdv A outer s H vs Q E hr h => ?_)
  · obtain ⟨z, rfl, _⟩ := h
    rfl
  · obtain ⟨z, rfl, nm, q⟩ := h
    refine ⟨_, (pss_cons (ps_if (PW.pt (pw_or (pt_not (pt_val (pe_callB call_isi (by rfl) T.n_isinstance (by decide +kernel) (pa_cons (pv 0) (pa_cons (pe_bltn (v := .ty "str") (by rfl) T.n_str (by decide +kernel) rfl) pa_nil))))) (pw_or1 (pt_not (pt_chain op_le op_le pe_int (pe_callB call_len_str (by rfl) T.n_len (by decide +kernel) (pa_cons (pv 0) pa_nil)) (pe_glob rfl cL.g cL.r))))))
      (pss_one (ps_ret pe_bl))
      pss_nil)
    (pss_one (ps_ret (pe_callB (cr_all rfl) (by rfl) T.n_all (by decide +kernel) (pa_cons (pe_lc (own := [("letter", 1)]) (g := gName 1) (tt := tYes) rfl scP_is_name.nd (pi_str (pv 0)) (blkOk_by (N := NP_is_name) (sc := defScope sP_is_name) (by decide +kernel)) (fun _ _ _ _ _ => pg_name (i := 1) scP_is_name.nd rfl (Or.inl rfl)) (fun _ _ _ _ _ => pts_nil) (fun _ _ _ _ _ => (pe_chain op_le_str op_le_str pe_str (pv 1) pe_str))) pa_nil))))), ?_⟩
    have h1 : decide ((1 : Int) ≤ (z.length : Int)) = true := decide_eq_true (by have := nm.pos; omega)
    have h8 : decide ((z.length : Int) ≤ 8) = true := decide_eq_true (by have := nm.len; omega)
    refine ⟨.str z, rfl, .str z, _, _, _, true, rfl, .ty "str", .base (.str z), kit_ty (by decide +kernel), true, rfl, iteF ?_⟩
    refine ⟨.str z, rfl, z, rfl, (by rw [sizeLine_eq]; have := nm.len; omega), _, _, rfl, rfl, true, congrArg V.bl h1, iteT ⟨_, _, rfl, rfl, true, congrArg V.bl h8, iteF ?_⟩⟩
    refine ⟨.str z, rfl, z, rfl, fun D nD => ?_⟩
    refine lc_it walk_str (fun i H3 => Same H H3 ∧ H3 D = some (.lst (((cs z).take i).map fun c => V.bl true))) ⟨same_upd nD, upd_same⟩ (fun _ _ _ _ => trivial) (fun i x H3 H4 hi h3 y => ?_) (fun H3 h3 => ?_)
    · obtain ⟨rfl, c, hc, rfl⟩ := y
      have hc2 : (cs z)[i]? = some c := by
        rw [← hc]
        simp [cs]
      have hcn := nm.abc c (List.mem_of_getElem? hc2)
      unfold nmC at hcn
      have ha : (!decide (c < 97)) = true := by cases h : (!decide (c < 97)) <;> simp_all
      have hz : (!decide (122 < c)) = true := by rw [ha, Bool.true_and] at hcn; exact hcn
      refine ⟨rfl, .str ⟨#[c]⟩, rfl, _, _, rfl, rfl, true, ?_, iteT ⟨_, _, rfl, rfl, ?_⟩⟩
      · show V.bl (!decide ([c] < (Str.ofString "a").cps.toList)) = _
        rw [show (Str.ofString "a").cps.toList = [97] by decide +kernel, lt_one, ha]
      · rw [show (!decide ((Str.ofString "z").cps.toList < [c])) = true by
          rw [show (Str.ofString "z").cps.toList = [122] by decide +kernel, lt_one, hz]]
        refine ⟨_, h3.2, ?_, fun b o e => ?_, ?_⟩
        · rw [List.length_map, List.length_take, sizeLine_eq]
          have := cs_len z
          have := nm.len
          omega
        · rw [upd_ne (ne_of_none e nD)]
          exact h3.1 b o e
        · rw [upd_same, List.take_add_one, hc2, List.map_append]
          rfl
    · refine ⟨D, (cs z).map fun _ => true, rfl, sql ?_, ?_⟩
      · rw [h3.2, List.map_map]
        rw [List.take_of_length_le (by
          show (cs z).length ≤ z.cps.size
          simp [cs])]
        rfl
      · rw [show (((cs z).map fun _ => true).all id) = true by simp]
        exact q H3 h3.1
/-! is_stream, of tuples of names -/
def spIsStream (K : PySem.W.Frag) : Sp := fun vs H Q _ => ∃ (a : Addr) (zs : List Str), vs = [.ref a] ∧ SqT K H a (zs.map V.str) ∧ (∀ z ∈ zs, Nm z) ∧ zs.length ≤ 100000 ∧ ∀ H', Same H H' → Q (.bl true) H'
theorem ok_is_stream (T : Blt mg) (cL : Cst mg "LONGEST_NAME" (.int 8)) (dP_is_name : DnIsName K mg) (d : DnIsStream K mg) : FnOk P w K mg base CX0 2 d.f d.fd ["thing"] (spIsStream K) := by
  have GP_is_name : FnOk P w K mg base CX0 1 dP_is_name.f dP_is_name.fd ["thing"] spIsName := ok_is_name T cL dP_is_name
  refine d.F.ok scP_is_stream (fun vs H Q E h => ?_) (fun cdv A outer s H vs Q E hr h => ?_)
  · obtain ⟨a, zs, rfl, _⟩ := h
    rfl
  · obtain ⟨a, zs, rfl, hS, hN, hl, q⟩ := h
    refine ⟨_, (pss_one (ps_ret (pe_and (pe_callB call_isi (by rfl) T.n_isinstance (by decide +kernel) (pa_cons (pv 0) (pa_cons (pe_bltn (v := .ty "tuple") (by rfl) T.n_tuple (by decide +kernel) rfl) pa_nil))) (pe_one (pe_callB (cr_all rfl) (by rfl) T.n_all (by decide +kernel) (pa_cons (pe_lc (own := [("item", 1)]) (g := gName 1) (tt := tYes) rfl scP_is_stream.nd (pi_tup (pv 0)) (blkOk_by (N := NP_is_stream) (sc := defScope sP_is_stream) (by decide +kernel)) (fun _ _ _ _ _ => pg_name (i := 1) scP_is_stream.nd rfl (Or.inl rfl)) (fun _ _ _ _ _ => pts_nil) (fun _ _ _ _ _ => (pe_call GP_is_name (hr.mono (by omega)) (by rfl) dP_is_name.g dP_is_name.F.kp dP_is_name.b .nil pass0 (pa_cons (pv 1) pa_nil)))) pa_nil)))))), ?_⟩
    refine ⟨.ref a, rfl, .ref a, _, _, _, true, rfl, .ty "tuple", tyT hS, kit_ty (by decide +kernel), true, rfl, iteT ?_⟩
    refine ⟨.ref a, rfl, a, rfl, ⟨_, hS⟩, fun D nD => lc_tup (xs := zs.map V.str) (fun i H3 => Same H H3 ∧ H3 D = some (.lst ((zs.take i).map fun _ => V.bl true))) ⟨same_upd nD, upd_same⟩ (fun i H3 _ h3 => seqT hS h3.1) (fun i x H3 hx h3 => ?_) (fun H3 h3 => ?_)⟩
    · obtain ⟨z, hz, rfl⟩ : ∃ z, zs[i]? = some z ∧ x = .str z := by
        rw [List.getElem?_map] at hx
        cases e : zs[i]? with
        | none => rw [e] at hx; cases hx
        | some z => rw [e] at hx; exact ⟨z, rfl, (Option.some.inj hx).symm⟩
      refine ⟨rfl, .str z, rfl, z, rfl, hN z (List.mem_of_getElem? hz), fun H4 s4 => ⟨_, s4 _ _ h3.2, ?_, fun b o e => ?_, ?_⟩⟩
      · rw [List.length_map, List.length_take, sizeLine_eq]
        omega
      · rw [upd_ne (ne_of_none e nD)]
        exact s4 b o (h3.1 b o e)
      · rw [upd_same, List.take_add_one, hz, List.map_append]
        rfl
    · refine ⟨D, zs.map fun _ => true, rfl, sql ?_, ?_⟩
      · rw [h3.2, List.length_map, List.take_length, List.map_map]
        rfl
      · rw [show ((zs.map fun _ => true).all id) = true by simp]
        exact q H3 h3.1
end
end Kb


namespace Kb
open PySem PySem.Spec PyProof.Rows L2
abbrev sP_is_tree : Stmt := topS 14
abbrev NP_is_tree : List Str := ["thing"]
theorem scP_is_tree : FnScope ["thing"] ["thing"] (defScope sP_is_tree) := ⟨rfl, rfl, rfl, by decide +kernel, rfl, by decide +kernel, by decide +kernel⟩
abbrev sP_is_tree_of : Stmt := topS 15
abbrev NP_is_tree_of : List Str := ["thing", "word", "is_right", "many", "height", "step"]
theorem scP_is_tree_of : FnScope ["thing", "word", "is_right", "many", "height", "step"] ["thing", "word", "is_right"] (defScope sP_is_tree_of) := ⟨rfl, rfl, rfl, by decide +kernel, rfl, by decide +kernel, by decide +kernel⟩
abbrev sP_is_put : Stmt := topS 16
abbrev NP_is_put : List Str := ["step", "word"]
theorem scP_is_put : FnScope ["step", "word"] ["step", "word"] (defScope sP_is_put) := ⟨rfl, rfl, rfl, by decide +kernel, rfl, by decide +kernel, by decide +kernel⟩
abbrev sP_is_pour : Stmt := topS 17
abbrev NP_is_pour : List Str := ["step"]
theorem scP_is_pour : FnScope ["step"] ["step"] (defScope sP_is_pour) := ⟨rfl, rfl, rfl, by decide +kernel, rfl, by decide +kernel, by decide +kernel⟩
abbrev DnIsTree (K : PySem.W.Frag) (mg : Str → Option Value) := Dn K mg "is_tree" sP_is_tree ["thing"]
structure DnIsPut (K : PySem.W.Frag) (mg : Str → Option Value) where
  p : Dn K mg "_is_put" sP_is_put ["step", "word"]
  o : Dn K mg "is_tree_of" sP_is_tree_of ["thing", "word", "is_right"]
abbrev DnIsPour (K : PySem.W.Frag) (mg : Str → Option Value) := Dn K mg "_is_pour" sP_is_pour ["step"]
/-! trees -/
inductive Stp
  | put (zs : List Str)
  | pour
def StpAt (K : PySem.W.Frag) (H : Hp) (v : V) : Stp → Prop
  | .put zs => ∃ a b, v = .ref a ∧ SqT K H a [.str (Str.ofString "stream"), .ref b] ∧ SqT K H b (zs.map V.str) ∧ (∀ z ∈ zs, Nm z) ∧ zs.length ≤ 100000
  | .pour => ∃ a, v = .ref a ∧ SqT K H a [.str (Str.ofString "pour")]
theorem StpAt.same {K : PySem.W.Frag} {H H' : Hp} {v : V} {t : Stp} (h : StpAt K H v t) (s : Same H H') : StpAt K H' v t := by
  cases t with
  | put zs =>
    obtain ⟨a, b, e, h1, h2, r⟩ := h
    exact ⟨a, b, e, seqT h1 s, seqT h2 s, r⟩
  | pour =>
    obtain ⟨a, e, h1⟩ := h
    exact ⟨a, e, seqT h1 s⟩
def hS (h : Int) : Stp → Int
  | .put _ => h + 1
  | .pour => h - 1
def cS (m : Int) : Stp → Int
  | .put zs => m + (zs.length : Nat)
  | .pour => m
def hgt (l : List Stp) : Int := l.foldl hS 0
def mny (l : List Stp) : Int := l.foldl cS 0
structure Tree (l : List Stp) : Prop where
  two : ∀ i, l[i]? = some .pour → 2 ≤ hgt (l.take i)
  one : hgt l = 1
  few : mny l ≤ 50000
  len : l.length ≤ 5000
theorem hgt_snoc {l : List Stp} {i : Nat} {t : Stp} (h : l[i]? = some t) : hgt (l.take (i + 1)) = hS (hgt (l.take i)) t := by
  unfold hgt
  rw [List.take_add_one, h, List.foldl_append]
  rfl
theorem mny_snoc {l : List Stp} {i : Nat} {t : Stp} (h : l[i]? = some t) : mny (l.take (i + 1)) = cS (mny (l.take i)) t := by
  unfold mny
  rw [List.take_add_one, h, List.foldl_append]
  rfl
def TreeAt (K : PySem.W.Frag) (H : Hp) (a : Addr) (l : List Stp) : Prop := ∃ vs, SqT K H a vs ∧ Paired (StpAt K H) vs l
theorem paired_same {K : PySem.W.Frag} {H H' : Hp} (s : Same H H') : ∀ {vs : List V} {l : List Stp}, Paired (StpAt K H) vs l → Paired (StpAt K H') vs l
  | _, _, .nil => .nil
  | _, _, .cons h t => .cons (h.same s) (paired_same s t)
theorem TreeAt.same {K : PySem.W.Frag} {H H' : Hp} {a : Addr} {l : List Stp} (h : TreeAt K H a l) (s : Same H H') : TreeAt K H' a l := by
  obtain ⟨vs, h1, h2⟩ := h
  exact ⟨vs, seqT h1 s, paired_same s h2⟩
theorem stream_ne : ¬ (V.str (Str.ofString "pour") = V.str (Str.ofString "stream")) := by decide +kernel
section
variable {P : Program} {w : World} {K : PySem.W.Frag} {mg : Str → Option Value} {base : Heap}
/-! _is_put -/
def isPut : Stp → Bool
  | .put _ => true
  | .pour => false
def spIsPut (K : PySem.W.Frag) : Sp := fun vs H Q _ => ∃ (v : V) (t : Stp), vs = [v, .str (Str.ofString "stream")] ∧ StpAt K H v t ∧ Q (.bl (isPut t)) H
theorem ok_is_put (T : Blt mg) (d : DnIsPut K mg) : FnOk P w K mg base CX0 1 d.p.f d.p.fd ["step", "word"] (spIsPut K) := by
  refine d.p.F.ok scP_is_put (fun vs H Q E h => ?_) (fun cdv A outer s H vs Q E hr h => ?_)
  · obtain ⟨v, t, rfl, _⟩ := h
    rfl
  · obtain ⟨v, t, rfl, ht, q⟩ := h
    refine ⟨_, (pss_one (ps_ret (pe_and (pe_callB call_isi (by rfl) T.n_isinstance (by decide +kernel) (pa_cons (pv 0) (pa_cons (pe_bltn (v := .ty "tuple") (by rfl) T.n_tuple (by decide +kernel) rfl) pa_nil))) (pe_and (pe_cmpR op_eq (pe_callB call_len_seq (by rfl) T.n_len (by decide +kernel) (pa_cons (pv 0) pa_nil)) pe_int (nomark _)) (pe_one (pe_cmpR op_eq (pe_ix ix_tup (pv 0) pe_int (fun _ _ => rfl)) (pv 1) (nomark _))))))), ?_⟩
    cases t with
    | put zs =>
      obtain ⟨a, b, rfl, h1, h2, h3, h4⟩ := ht
      refine ⟨.ref a, rfl, .ref a, _, _, _, true, rfl, .ty "tuple", tyT h1, kit_ty (by decide +kernel), true, rfl, iteT ?_⟩
      refine ⟨.ref a, rfl, a, _, rfl, .inr h1, rfl, true, congrArg V.bl (decide_eq_true rfl), iteT ?_⟩
      refine ⟨.ref a, rfl, a, _, _, _, rfl, rfl, h1, atI_nat (j := 0) rfl, .str (Str.ofString "stream"), rfl, rfl, ?_⟩
      rw [decide_eq_true rfl]
      exact q
    | pour =>
      obtain ⟨a, rfl, h1⟩ := ht
      refine ⟨.ref a, rfl, .ref a, _, _, _, true, rfl, .ty "tuple", tyT h1, kit_ty (by decide +kernel), true, rfl, iteT ?_⟩
      exact ⟨.ref a, rfl, a, _, rfl, .inr h1, rfl, false, congrArg V.bl (decide_eq_false (by decide)), iteF q⟩
/-! _is_pour -/
def spIsPour (K : PySem.W.Frag) : Sp := fun vs H Q _ => ∃ v : V, vs = [v] ∧ StpAt K H v .pour ∧ Q (.bl true) H
theorem ok_is_pour (T : Blt mg) (d : DnIsPour K mg) : FnOk P w K mg base CX0 1 d.f d.fd ["step"] (spIsPour K) := by
  refine d.F.ok scP_is_pour (fun vs H Q E h => ?_) (fun cdv A outer s H vs Q E hr h => ?_)
  · obtain ⟨v, rfl, _⟩ := h
    rfl
  · obtain ⟨v, rfl, ⟨a, rfl, h1⟩, q⟩ := h
    refine ⟨_, (pss_one (ps_ret (pe_and (pe_callB call_isi (by rfl) T.n_isinstance (by decide +kernel) (pa_cons (pv 0) (pa_cons (pe_bltn (v := .ty "tuple") (by rfl) T.n_tuple (by decide +kernel) rfl) pa_nil))) (pe_and (pe_cmpR op_eq (pe_callB call_len_seq (by rfl) T.n_len (by decide +kernel) (pa_cons (pv 0) pa_nil)) pe_int (nomark _)) (pe_one (pe_cmpR op_eq (pe_ix ix_tup (pv 0) pe_int (fun _ _ => rfl)) pe_str (nomark _))))))), ?_⟩
    refine ⟨.ref a, rfl, .ref a, _, _, _, true, rfl, .ty "tuple", tyT h1, kit_ty (by decide +kernel), true, rfl, iteT ?_⟩
    refine ⟨.ref a, rfl, a, _, rfl, .inr h1, rfl, true, congrArg V.bl (decide_eq_true rfl), iteT ?_⟩
    refine ⟨.ref a, rfl, a, _, _, _, rfl, rfl, h1, atI_nat (j := 0) rfl, rfl, ?_⟩
    rw [decide_eq_true rfl]
    exact q
/-! is_tree_of, is_tree -/
theorem paired_at {α β : Type} {F : α → β → Prop} : ∀ {xs : List α} {ys : List β}, Paired F xs ys → ∀ {i : Nat} {x : α}, xs[i]? = some x → ∃ y, ys[i]? = some y ∧ F x y := LiI.paired_get
def spIsTreeOf (K : PySem.W.Frag) (g : Addr) : Sp := fun vs H Q _ => ∃ (a : Addr) (l : List Stp), vs = [.ref a, .str (Str.ofString "stream"), .ref g] ∧ TreeAt K H a l ∧ Tree l ∧ ∀ H', Same H H' → Q (.bl true) H'
theorem ok_is_tree_of (T : Blt mg) (cL : Cst mg "LONGEST_NAME" (.int 8)) (cS' : Cst mg "MOST_STEPS" (.int 5000)) (cI : Cst mg "MOST_ITEMS" (.int 50000)) (dP_is_name : DnIsName K mg) (dP_is_stream : DnIsStream K mg) (dP_is_put : DnIsPut K mg) (dP_is_pour : DnIsPour K mg) :
    FnOk P w K mg base CX0 3 dP_is_put.o.f dP_is_put.o.fd ["thing", "word", "is_right"] (spIsTreeOf K dP_is_stream.f) := by
  have GP_is_stream : FnOk P w K mg base CX0 2 dP_is_stream.f dP_is_stream.fd ["thing"] (spIsStream K) := ok_is_stream T cL dP_is_name dP_is_stream
  have GP_is_put : FnOk P w K mg base CX0 1 dP_is_put.p.f dP_is_put.p.fd ["step", "word"] (spIsPut K) := ok_is_put T dP_is_put
  have GP_is_pour : FnOk P w K mg base CX0 1 dP_is_pour.f dP_is_pour.fd ["step"] (spIsPour K) := ok_is_pour T dP_is_pour
  refine dP_is_put.o.F.ok scP_is_tree_of (fun vs H Q E h => ?_) (fun cdv A outer s H vs Q E hr h => ?_)
  · obtain ⟨a, l, rfl, _⟩ := h
    rfl
  · obtain ⟨a, l, rfl, ⟨vs, hS, hp⟩, tr, q⟩ := h
    refine ⟨_, (pss_cons (ps_if (PW.pt (pw_or (pt_not (pt_val (pe_callB call_isi (by rfl) T.n_isinstance (by decide +kernel) (pa_cons (pv 0) (pa_cons (pe_bltn (v := .ty "tuple") (by rfl) T.n_tuple (by decide +kernel) rfl) pa_nil))))) (pw_or1 (pt_cmpR op_gt (pe_callB call_len_seq (by rfl) T.n_len (by decide +kernel) (pa_cons (pv 0) pa_nil)) (pe_glob rfl cS'.g cS'.r) (nomark _)))))
      (pss_one (ps_ret pe_bl))
      pss_nil)
    (pss_cons (ps_set (i := 3) scP_is_tree_of.nd rfl (Or.inl rfl) pe_int)
    (pss_cons (ps_set (i := 4) scP_is_tree_of.nd rfl (Or.inl rfl) pe_int)
    (pss_cons (ps_for PassesOwn.never rfl (pi_tup (pv 0)) (pg_name (i := 5) scP_is_tree_of.nd rfl (Or.inl rfl))
      (pss_one (ps_if (PW.pt (pw_and (pt_val (pe_call GP_is_put (hr.mono (by omega)) (by rfl) dP_is_put.p.g dP_is_put.p.F.kp dP_is_put.p.b .nil pass0 (pa_cons (pv 5) (pa_cons (pv 1) pa_nil)))) (pw_and1 (pt_val (pe_callL (i := 2) GP_is_stream (hr.mono (by omega)) rfl (.inl rfl) dP_is_stream.F.kp dP_is_stream.b .nil pass0 (pa_cons (pe_ix ix_tup (pv 5) pe_int (fun _ _ => rfl)) pa_nil))))))
        (pss_cons (ps_aug (i := 4) scP_is_tree_of.nd rfl (Or.inl rfl) pe_int ip_add)
        (pss_one (ps_aug (i := 3) scP_is_tree_of.nd rfl (Or.inl rfl) (pe_callB call_len_seq (by rfl) T.n_len (by decide +kernel) (pa_cons (pe_ix ix_tup (pv 5) pe_int (fun _ _ => rfl)) pa_nil)) ip_add)))
        (pss_one (ps_if (PW.pt (pw_and (pt_val (pe_call GP_is_pour (hr.mono (by omega)) (by rfl) dP_is_pour.g dP_is_pour.F.kp dP_is_pour.b .nil pass0 (pa_cons (pv 5) pa_nil))) (pw_and1 (pt_cmpR op_ge (pv 4) pe_int (nomark _)))))
          (pss_one (ps_aug (i := 4) scP_is_tree_of.nd rfl (Or.inl rfl) pe_int ip_sub))
          (pss_one (ps_ret pe_bl)))))))
    (pss_one (ps_ret (pe_and (pe_cmpR op_eq (pv 4) pe_int (nomark _)) (pe_one (pe_cmpR op_le (pv 3) (pe_glob rfl cI.g cI.r) (nomark _)))))))))), ?_⟩
    have hl : vs.length = l.length := Paired.length hp
    refine ⟨.ref a, rfl, .ref a, _, _, _, true, rfl, .ty "tuple", tyT hS, kit_ty (by decide +kernel), true, rfl, iteF ?_⟩
    refine ⟨.ref a, rfl, a, _, rfl, .inr hS, _, _, rfl, rfl, false, congrArg V.bl (decide_eq_false (by have := tr.len; omega)), iteF ?_⟩
    refine ⟨.ref a, rfl, a, rfl, ⟨_, hS⟩, for_tup (xs := vs) (fun i σ H3 => ∃ x, σ = [some (.ref a), some (.str (Str.ofString "stream")), some (.ref dP_is_stream.f), some (.int (mny (l.take i))), some (.int (hgt (l.take i))), x] ∧ Same H H3) ⟨none, rfl, Same.refl H⟩ (fun i σ H3 _ ⟨_, _, s3⟩ => seqT hS s3) ?_ ?_⟩
    · rintro i v σ H3 hi ⟨x, rfl, s3⟩
      obtain ⟨t, ht, hat⟩ := paired_at hp hi
      have hat3 := hat.same s3
      refine ⟨v, rfl, _, rfl, v, t, rfl, hat3, isPut t, rfl, ?_⟩
      have hh := hgt_snoc ht
      have hm := mny_snoc ht
      cases t with
      | put zs =>
        refine iteT ?_
        obtain ⟨b, c, rfl, h1, h2, h3, h4⟩ := hat3
        refine ⟨rfl, .ref b, rfl, b, _, _, _, rfl, rfl, h1, atI_nat (j := 1) rfl, c, zs, rfl, h2, h3, h4, fun H4 s4 => ⟨true, rfl, iteT ?_⟩⟩
        refine ⟨.int (hgt (l.take i)), rfl, _, _, rfl, rfl, ?_⟩
        refine ⟨.int (mny (l.take i)), rfl, .ref b, rfl, b, _, _, _, rfl, rfl, seqT h1 s4, atI_nat (j := 1) rfl, c, _, rfl, .inr (seqT h2 s4), _, _, rfl, rfl, ?_⟩
        refine ⟨some (.ref b), ?_, fun b o e => s4 b o (s3 b o e)⟩
        rw [hh, hm, List.length_map]
        rfl
      | pour =>
        refine iteF ?_
        have h2 := tr.two i ht
        refine ⟨v, rfl, v, rfl, hat3, true, rfl, iteT ⟨.int (hgt (l.take i)), rfl, _, _, rfl, rfl, true, congrArg V.bl (decide_eq_true (by omega)), iteT ?_⟩⟩
        refine ⟨.int (hgt (l.take i)), rfl, _, _, rfl, rfl, some v, ?_, s3⟩
        rw [hh, hm]
        rfl
    · rintro σ H3 ⟨x, rfl, s3⟩
      have e1 : l.take vs.length = l := by rw [hl, List.take_length]
      rw [e1]
      refine ⟨.int (hgt l), rfl, rfl, true, congrArg V.bl (decide_eq_true (by rw [tr.one])), iteT ⟨.int (mny l), rfl, _, _, rfl, rfl, ?_⟩⟩
      show Q (.bl (decide (mny l ≤ 50000))) H3
      rw [decide_eq_true tr.few]
      exact q H3 s3
def spIsTree (K : PySem.W.Frag) : Sp := fun vs H Q _ => ∃ (a : Addr) (l : List Stp), vs = [.ref a] ∧ TreeAt K H a l ∧ Tree l ∧ ∀ H', Same H H' → Q (.bl true) H'
theorem ok_is_tree (T : Blt mg) (cL : Cst mg "LONGEST_NAME" (.int 8)) (cS' : Cst mg "MOST_STEPS" (.int 5000)) (cI : Cst mg "MOST_ITEMS" (.int 50000)) (dP_is_name : DnIsName K mg) (dP_is_stream : DnIsStream K mg) (dP_is_put : DnIsPut K mg) (dP_is_pour : DnIsPour K mg) (d : DnIsTree K mg) :
    FnOk P w K mg base CX0 4 d.f d.fd ["thing"] (spIsTree K) := by
  have GP_is_tree_of : FnOk P w K mg base CX0 3 dP_is_put.o.f dP_is_put.o.fd ["thing", "word", "is_right"] (spIsTreeOf K dP_is_stream.f) := ok_is_tree_of T cL cS' cI dP_is_name dP_is_stream dP_is_put dP_is_pour
  refine d.F.ok scP_is_tree (fun vs H Q E h => ?_) (fun cdv A outer s H vs Q E hr h => ?_)
  · obtain ⟨a, l, rfl, _⟩ := h
    rfl
  · obtain ⟨a, l, rfl, hT, tr, q⟩ := h
    refine ⟨_, (pss_one (ps_ret (pe_call GP_is_tree_of (hr.mono (by omega)) (by rfl) dP_is_put.o.g dP_is_put.o.F.kp dP_is_put.o.b .nil pass0 (pa_cons (pv 0) (pa_cons pe_str (pa_cons (pe_glob (v := .ref dP_is_stream.f) rfl dP_is_stream.g rfl) pa_nil)))))), ?_⟩
    exact ⟨.ref a, rfl, a, l, rfl, hT, tr, q⟩
end
end Kb


namespace Kb
open PySem PySem.Spec PyProof.Rows L2 SrtZ
abbrev sP_are_counts : Stmt := topS 18
abbrev NP_are_counts : List Str := ["thing", "last", "pair"]
theorem scP_are_counts : FnScope ["thing", "last", "pair"] ["thing"] (defScope sP_are_counts) := ⟨rfl, rfl, rfl, by decide +kernel, rfl, by decide +kernel, by decide +kernel⟩
abbrev sP_is_counted : Stmt := topS 19
abbrev NP_is_counted : List Str := ["pair"]
theorem scP_is_counted : FnScope ["pair"] ["pair"] (defScope sP_is_counted) := ⟨rfl, rfl, rfl, by decide +kernel, rfl, by decide +kernel, by decide +kernel⟩
abbrev NP_lost_of : List Str := ["sketch", "_", "count"]
abbrev NP_is_sketch : List Str := ["thing", "room", "many", "off", "kept"]
abbrev sP_bare : Stmt := topS 24
abbrev NP_bare : List Str := ["room"]
theorem scP_bare : FnScope ["room"] ["room"] (defScope sP_bare) := ⟨rfl, rfl, rfl, by decide +kernel, rfl, by decide +kernel, by decide +kernel⟩
abbrev DnAreCounts (K : PySem.W.Frag) (mg : Str → Option Value) := Dn K mg "are_counts" sP_are_counts ["thing"]
abbrev DnIsCounted (K : PySem.W.Frag) (mg : Str → Option Value) := Dn K mg "_is_counted" sP_is_counted ["pair"]
abbrev DnBare (K : PySem.W.Frag) (mg : Str → Option Value) := Dn K mg "bare" sP_bare ["room"]
/-! counts -/
abbrev Ct := List (Str × Int)
def PrAt (K : PySem.W.Frag) (H : Hp) (t : Addr) (e : Str × Int) : Prop := SqT K H t [.str e.1, .int e.2]
/-- the tuple at k holds these pairs -/
def CtAt (K : PySem.W.Frag) (H : Hp) (k : Addr) (kvs : Ct) : Prop := ∃ ts : List Addr, SqT K H k (ts.map V.ref) ∧ Paired (PrAt K H) ts kvs
theorem prs_same {K : PySem.W.Frag} {H H' : Hp} (s : Same H H') : ∀ {ts : List Addr} {kvs : Ct}, Paired (PrAt K H) ts kvs → Paired (PrAt K H') ts kvs
  | _, _, .nil => .nil
  | _, _, .cons h t => .cons (seqT h s) (prs_same s t)
theorem CtAt.same {K : PySem.W.Frag} {H H' : Hp} {k : Addr} {kvs : Ct} (h : CtAt K H k kvs) (s : Same H H') : CtAt K H' k kvs := by
  obtain ⟨ts, h1, h2⟩ := h
  exact ⟨ts, seqT h1 s, prs_same s h2⟩
structure Cts (kvs : Ct) : Prop where
  nm : ∀ e ∈ kvs, Nm e.1
  pos : ∀ e ∈ kvs, 1 ≤ e.2
  asc : kvs.Pairwise fun a b => ltZ a.1 b.1 = true
def sumC (kvs : Ct) : Int := (kvs.map (·.2)).sum
theorem map_at {α β : Type} {f : α → β} {xs : List α} {i : Nat} {y : β} (h : (xs.map f)[i]? = some y) : ∃ x, xs[i]? = some x ∧ y = f x := by
  rw [List.getElem?_map] at h
  cases e : xs[i]? with
  | none => rw [e] at h; cases h
  | some x => rw [e] at h; exact ⟨x, rfl, (Option.some.inj h).symm⟩
section
variable {P : Program} {w : World} {K : PySem.W.Frag} {mg : Str → Option Value} {base : Heap}
/-! _is_counted -/
def spIsCounted (K : PySem.W.Frag) : Sp := fun vs H Q _ => ∃ (t : Addr) (e : Str × Int), vs = [.ref t] ∧ PrAt K H t e ∧ Nm e.1 ∧ 1 ≤ e.2 ∧ ∀ H', Same H H' → Q (.bl true) H'
theorem ok_is_counted (T : Blt mg) (cL : Cst mg "LONGEST_NAME" (.int 8)) (dP_is_int : DnIsInt K mg) (dP_is_name : DnIsName K mg) (d : DnIsCounted K mg) : FnOk P w K mg base CX0 2 d.f d.fd ["pair"] (spIsCounted K) := by
  have GP_is_int : FnOk P w K mg base CX0 1 dP_is_int.f dP_is_int.fd ["thing"] spIsInt := ok_is_int T dP_is_int
  have GP_is_name : FnOk P w K mg base CX0 1 dP_is_name.f dP_is_name.fd ["thing"] spIsName := ok_is_name T cL dP_is_name
  refine d.F.ok scP_is_counted (fun vs H Q E h => ?_) (fun cdv A outer s H vs Q E hr h => ?_)
  · obtain ⟨t, e, rfl, _⟩ := h
    rfl
  · obtain ⟨t, e, rfl, hp, hn, h1, q⟩ := h
    refine ⟨_, (pss_cons (ps_if (PW.pt (pw_or (pt_not (pt_val (pe_callB call_isi (by rfl) T.n_isinstance (by decide +kernel) (pa_cons (pv 0) (pa_cons (pe_bltn (v := .ty "tuple") (by rfl) T.n_tuple (by decide +kernel) rfl) pa_nil))))) (pw_or1 (pt_cmpR op_ne (pe_callB call_len_seq (by rfl) T.n_len (by decide +kernel) (pa_cons (pv 0) pa_nil)) pe_int (nomark _)))))
      (pss_one (ps_ret pe_bl))
      pss_nil)
    (pss_one (ps_ret (pe_and (pe_call GP_is_name (hr.mono (by omega)) (by rfl) dP_is_name.g dP_is_name.F.kp dP_is_name.b .nil pass0 (pa_cons (pe_ix ix_tup (pv 0) pe_int (fun _ _ => rfl)) pa_nil)) (pe_and (pe_call GP_is_int (hr.mono (by omega)) (by rfl) dP_is_int.g dP_is_int.F.kp dP_is_int.b .nil pass0 (pa_cons (pe_ix ix_tup (pv 0) pe_int (fun _ _ => rfl)) pa_nil)) (pe_one (pe_cmpR op_ge (pe_ix ix_tup (pv 0) pe_int (fun _ _ => rfl)) pe_int (nomark _)))))))), ?_⟩
    refine ⟨.ref t, rfl, .ref t, _, _, _, true, rfl, .ty "tuple", tyT hp, kit_ty (by decide +kernel), true, rfl, iteF ?_⟩
    refine ⟨.ref t, rfl, t, _, rfl, .inr hp, rfl, false, rfl, iteF ?_⟩
    refine ⟨.ref t, rfl, t, _, _, _, rfl, rfl, hp, atI_nat (j := 0) rfl, e.1, rfl, hn, fun H1 s1 => ⟨true, rfl, iteT ?_⟩⟩
    have hp1 : PrAt K H1 t e := seqT hp s1
    refine ⟨.ref t, rfl, t, _, _, _, rfl, rfl, hp1, atI_nat (j := 1) rfl, e.2, rfl, true, rfl, iteT ?_⟩
    refine ⟨.ref t, rfl, t, _, _, _, rfl, rfl, hp1, atI_nat (j := 1) rfl, _, _, rfl, rfl, ?_⟩
    show Q (.bl (decide (1 ≤ e.2))) H1
    rw [decide_eq_true h1]
    exact q H1 s1
/-! are_counts -/
def spAreCounts (K : PySem.W.Frag) : Sp := fun vs H Q _ => ∃ (k : Addr) (kvs : Ct), vs = [.ref k] ∧ CtAt K H k kvs ∧ Cts kvs ∧ ∀ H', Same H H' → Q (.bl true) H'
theorem ok_are_counts (T : Blt mg) (cL : Cst mg "LONGEST_NAME" (.int 8)) (dP_is_int : DnIsInt K mg) (dP_is_name : DnIsName K mg) (dP_is_counted : DnIsCounted K mg) (d : DnAreCounts K mg) : FnOk P w K mg base CX0 3 d.f d.fd ["thing"] (spAreCounts K) := by
  have GP_is_counted : FnOk P w K mg base CX0 2 dP_is_counted.f dP_is_counted.fd ["pair"] (spIsCounted K) := ok_is_counted T cL dP_is_int dP_is_name dP_is_counted
  refine d.F.ok scP_are_counts (fun vs H Q E h => ?_) (fun cdv A outer s H vs Q E hr h => ?_)
  · obtain ⟨k, kvs, rfl, _⟩ := h
    rfl
  · obtain ⟨k, kvs, rfl, ⟨ts, hS, hp⟩, hc, q⟩ := h
    refine ⟨_, (pss_cons (ps_if (pt_not (pt_val (pe_callB call_isi (by rfl) T.n_isinstance (by decide +kernel) (pa_cons (pv 0) (pa_cons (pe_bltn (v := .ty "tuple") (by rfl) T.n_tuple (by decide +kernel) rfl) pa_nil)))))
      (pss_one (ps_ret pe_bl))
      pss_nil)
    (pss_cons (ps_set (i := 1) scP_are_counts.nd rfl (Or.inl rfl) pe_str)
    (pss_cons (ps_for PassesOwn.never rfl (pi_tup (pv 0)) (pg_name (i := 2) scP_are_counts.nd rfl (Or.inl rfl))
      (pss_cons (ps_if (PW.pt (pw_or (pt_not (pt_val (pe_call GP_is_counted (hr.mono (by omega)) (by rfl) dP_is_counted.g dP_is_counted.F.kp dP_is_counted.b .nil pass0 (pa_cons (pv 2) pa_nil)))) (pw_or1 (pt_cmpR op_le_str (pe_ix ix_tup (pv 2) pe_int (fun _ _ => rfl)) (pv 1) (nomark _)))))
        (pss_one (ps_ret pe_bl))
        pss_nil)
      (pss_one (ps_set (i := 1) scP_are_counts.nd rfl (Or.inl rfl) (pe_ix ix_tup (pv 2) pe_int (fun _ _ => rfl))))))
    (pss_one (ps_ret pe_bl))))), ?_⟩
    refine ⟨.ref k, rfl, .ref k, _, _, _, true, rfl, .ty "tuple", tyT hS, kit_ty (by decide +kernel), true, rfl, iteF ?_⟩
    refine ⟨.ref k, rfl, k, rfl, ⟨_, hS⟩, for_tup (xs := ts.map V.ref) (fun i σ H3 => ∃ (la : Str) (x : Option V), σ = [some (.ref k), some (.str la), x] ∧ Same H H3 ∧ (i = 0 → la = Str.ofString "") ∧ ∀ j e, i = j + 1 → kvs[j]? = some e → la = e.1)
      ⟨Str.ofString "", none, rfl, Same.refl H, fun _ => rfl, fun j e h => by omega⟩ (fun i σ H3 _ ⟨_, _, _, s3, _⟩ => seqT hS s3) ?_ ?_⟩
    · rintro i v σ H3 hi ⟨la, x, rfl, s3, e0, e1⟩
      obtain ⟨t, ht, rfl⟩ := map_at hi
      obtain ⟨e, he, hat⟩ := paired_at hp ht
      have hm := List.mem_of_getElem? he
      refine ⟨.ref t, rfl, t, e, rfl, seqT hat s3, hc.nm e hm, hc.pos e hm, fun H4 s4 => ⟨true, rfl, iteF ?_⟩⟩
      have hat4 : PrAt K H4 t e := seqT hat fun b o z => s4 b o (s3 b o z)
      have hlt : decide (la.cps.toList < e.1.cps.toList) = true := by
        cases i with
        | zero =>
          rw [e0 rfl]
          have h1 := (hc.nm e hm).pos
          have : (Str.ofString "").cps.toList = [] := by decide +kernel
          rw [this]
          refine decide_eq_true ?_
          cases hz : e.1.cps.toList with
          | nil =>
            have : e.1.length = 0 := by rw [← cs_len]; unfold cs; rw [hz]; rfl
            omega
          | cons c r => exact List.nil_lt_cons c r
        | succ j =>
          obtain ⟨e', he'⟩ : ∃ e', kvs[j]? = some e' := ⟨kvs[j]'(by have := (List.getElem?_eq_some_iff.mp he).1; omega), by simp⟩
          rw [e1 j e' rfl he']
          exact (List.pairwise_iff_getElem.mp hc.asc) j (j + 1) (List.getElem?_eq_some_iff.mp he').1 (List.getElem?_eq_some_iff.mp he).1 (by omega) |> fun h => by
            rw [(List.getElem?_eq_some_iff.mp he').2, (List.getElem?_eq_some_iff.mp he).2] at h
            exact h
      refine ⟨.ref t, rfl, t, _, _, _, rfl, rfl, hat4, atI_nat (j := 0) rfl, .str la, rfl, _, _, rfl, rfl, false, ?_, iteF ?_⟩
      · show V.bl (!decide (la.cps.toList < e.1.cps.toList)) = _
        rw [hlt]
        rfl
      refine ⟨.ref t, rfl, t, _, _, _, rfl, rfl, hat4, atI_nat (j := 0) rfl, e.1, some (.ref t), rfl, fun b o z => s4 b o (s3 b o z), fun h => by omega, fun j e' h1 h2 => ?_⟩
      have : j = i := by omega
      subst this
      rw [he] at h2
      cases h2
      rfl
    · rintro σ H3 ⟨la, x, rfl, s3, _⟩
      exact q H3 s3
/-! lost_of -/
def spLostOf (K : PySem.W.Frag) : Sp := fun vs H Q _ => ∃ (s k : Addr) (room many off : Int) (kvs : Ct), vs = [.ref s] ∧ SqT K H s [.int room, .int many, .int off, .ref k] ∧ CtAt K H k kvs ∧ kvs.length ≤ 1000 ∧ ∀ H', Same H H' → Q (.int (many - sumC kvs)) H'
/-! is_sketch -/
def skB (room many off : Int) (kvs : Ct) : Bool :=
  (decide (1 ≤ room) && decide (room ≤ 64)) && (decide (0 ≤ many) && (decide (0 ≤ off) && (decide ((kvs.length : Int) ≤ room) && (decide ((room + 1) * off ≤ many - sumC kvs) && decide (many - sumC kvs ≤ 2 * room * off)))))
def spIsSketch (K : PySem.W.Frag) : Sp := fun vs H Q _ => ∃ (s k : Addr) (room many off : Int) (kvs : Ct), vs = [.ref s] ∧ SqT K H s [.int room, .int many, .int off, .ref k] ∧ CtAt K H k kvs ∧ Cts kvs ∧ kvs.length ≤ 1000 ∧ ∀ H', Same H H' → Q (.bl (skB room many off kvs)) H'
/-! bare -/
def spBare : Sp := fun vs H Q _ => ∃ room : Int, vs = [.int room] ∧ 1 ≤ room ∧ room ≤ 64 ∧ ∀ H' s k, Same H H' → H s = none → H' s = some (.tup [.int room, .int 0, .int 0, .ref k]) → Ptp H' k [] → Q (.ref s) H'
theorem ok_bare (T : Blt mg) (cM : Cst mg "MOST_ROOM" (.int 64)) (dP_is_int : DnIsInt K mg) (dP_is_room : DnIsRoom K mg) (d : DnBare K mg) : FnOk P w K mg base CX0 3 d.f d.fd ["room"] spBare := by
  have GP_is_room : FnOk P w K mg base CX0 2 dP_is_room.f dP_is_room.fd ["thing"] spIsRoom := ok_is_room T cM dP_is_int dP_is_room
  refine d.F.ok scP_bare (fun vs H Q E h => ?_) (fun cdv A outer s H vs Q E hr h => ?_)
  · obtain ⟨room, rfl, _⟩ := h
    rfl
  · obtain ⟨room, rfl, h1, h2, q⟩ := h
    refine ⟨_, (pss_cons (ps_if (pt_not (pt_val (pe_call GP_is_room (hr.mono (by omega)) (by rfl) dP_is_room.g dP_is_room.F.kp dP_is_room.b .nil pass0 (pa_cons (pv 0) pa_nil))))
      (pss_one ps_never)
      pss_nil)
    (pss_one (ps_ret (pe_tup (pa_cons (pv 0) (pa_cons pe_int (pa_cons pe_int (pa_cons (pe_tupF pa_nil) pa_nil)))))))), ?_⟩
    refine ⟨.int room, rfl, room, rfl, true, ?_, iteF ?_⟩
    · rw [decide_eq_true h1, decide_eq_true h2]
      rfl
    · refine ⟨.int room, rfl, (by show 0 ≤ sizeLine; decide), fun k o nk ho => ⟨(by show 4 ≤ sizeLine; decide), fun p np => ?_⟩⟩
      have s1 : Same H (upd H k (.frz o (.tup []))) := same_upd nk
      refine q _ p k (Same.new s1 np) (Same.gone s1 np) upd_same ⟨o, ?_, ho⟩
      rw [upd_ne (ne_of_none upd_same np)]
      exact upd_same
end
end Kb


namespace Kb
open PySem PySem.Spec PyProof.Rows L2 SrtZ
abbrev sTinit : Stmt := inClass (topS 22) 0
abbrev NTinit : List Str := ["self", "sketch", "kept"]
theorem scTinit : FnScope ["self", "sketch", "kept"] ["self", "sketch"] (defScope sTinit) := ⟨rfl, rfl, rfl, by decide +kernel, rfl, by decide +kernel, by decide +kernel⟩
abbrev sTsketch : Stmt := inClass (topS 22) 1
abbrev NTsketch : List Str := ["self"]
theorem scTsketch : FnScope ["self"] ["self"] (defScope sTsketch) := ⟨rfl, rfl, rfl, by decide +kernel, rfl, by decide +kernel, by decide +kernel⟩
abbrev sTfeed : Stmt := inClass (topS 22) 2
abbrev NTfeed : List Str := ["self", "name", "times", "amount"]
theorem scTfeed : FnScope ["self", "name", "times", "amount"] ["self", "name", "times"] (defScope sTfeed) := ⟨rfl, rfl, rfl, by decide +kernel, rfl, by decide +kernel, by decide +kernel⟩
abbrev sTpour : Stmt := inClass (topS 22) 3
abbrev NTpour : List Str := ["self", "sketch", "_", "many", "off", "kept", "name", "count", "falling"]
theorem scTpour : FnScope ["self", "sketch", "_", "many", "off", "kept", "name", "count", "falling"] ["self", "sketch"] (defScope sTpour) := ⟨rfl, rfl, rfl, by decide +kernel, rfl, by decide +kernel, by decide +kernel⟩
abbrev sTtake : Stmt := inClass (topS 22) 4
abbrev NTtake : List Str := ["self", "amount", "name", "count"]
theorem scTtake : FnScope ["self", "amount", "name", "count"] ["self", "amount"] (defScope sTtake) := ⟨rfl, rfl, rfl, by decide +kernel, rfl, by decide +kernel, by decide +kernel⟩
/-! the fields -/
theorem k_mr : ¬ (("room" : Str) = "seen") := by decide +kernel
theorem k_or : ¬ (("room" : Str) = "off") := by decide +kernel
theorem k_om : ¬ (("seen" : Str) = "off") := by decide +kernel
theorem k_cr : ¬ (("room" : Str) = "counts") := by decide +kernel
theorem k_cm : ¬ (("seen" : Str) = "counts") := by decide +kernel
theorem k_co : ¬ (("off" : Str) = "counts") := by decide +kernel
def fl (r m o : Int) (d : Addr) : List (Str × V) := [(("room" : Str), V.int r), (("seen" : Str), V.int m), (("off" : Str), V.int o), (("counts" : Str), V.ref d)]
theorem fl_mk (r m o : Int) (d : Addr) : putF "counts" (.ref d) (putF "off" (.int o) (putF "seen" (.int m) (putF "room" (.int r) []))) = fl r m o d := by
  show putF "counts" (.ref d) (putF "off" (.int o) (if ("room" : Str) = "seen" then _ else (("room" : Str), V.int r) :: [(("seen" : Str), V.int m)])) = _
  rw [if_neg k_mr]
  show putF "counts" (.ref d) (if ("room" : Str) = "off" then _ else (("room" : Str), V.int r) :: (if ("seen" : Str) = "off" then _ else (("seen" : Str), V.int m) :: [(("off" : Str), V.int o)])) = _
  rw [if_neg k_or, if_neg k_om]
  show (if ("room" : Str) = "counts" then _ else (("room" : Str), V.int r) :: (if ("seen" : Str) = "counts" then _ else (("seen" : Str), V.int m) :: (if ("off" : Str) = "counts" then _ else (("off" : Str), V.int o) :: [(("counts" : Str), V.ref d)]))) = _
  rw [if_neg k_cr, if_neg k_cm, if_neg k_co]
  rfl
theorem fl_many (r m o x : Int) (d : Addr) : putF "seen" (.int x) (fl r m o d) = fl r x o d := by
  show (if ("room" : Str) = "seen" then _ else (("room" : Str), V.int r) :: (if ("seen" : Str) = "seen" then _ else _)) = _
  rw [if_neg k_mr, if_pos rfl]
  rfl
theorem fl_off (r m o x : Int) (d : Addr) : putF "off" (.int x) (fl r m o d) = fl r m x d := by
  show (if ("room" : Str) = "off" then _ else (("room" : Str), V.int r) :: (if ("seen" : Str) = "off" then _ else (("seen" : Str), V.int m) :: (if ("off" : Str) = "off" then _ else _))) = _
  rw [if_neg k_or, if_neg k_om, if_pos rfl]
  rfl
theorem fl_counts (r m o : Int) (d x : Addr) : putF "counts" (.ref x) (fl r m o d) = fl r m o x := by
  show (if ("room" : Str) = "counts" then _ else (("room" : Str), V.int r) :: (if ("seen" : Str) = "counts" then _ else (("seen" : Str), V.int m) :: (if ("off" : Str) = "counts" then _ else (("off" : Str), V.int o) :: (if ("counts" : Str) = "counts" then _ else _)))) = _
  rw [if_neg k_cr, if_neg k_cm, if_neg k_co, if_pos rfl]
  rfl
theorem g_room (r m o : Int) (d : Addr) : (fl r m o d).lookup ("room" : Str) = some (.int r) := by
  rw [← fl_mk, lookup_putF, if_neg k_cr, lookup_putF, if_neg k_or, lookup_putF, if_neg k_mr, lookup_putF, if_pos rfl]
theorem g_many (r m o : Int) (d : Addr) : (fl r m o d).lookup ("seen" : Str) = some (.int m) := by
  rw [← fl_mk, lookup_putF, if_neg k_cm, lookup_putF, if_neg k_om, lookup_putF, if_pos rfl]
theorem g_off (r m o : Int) (d : Addr) : (fl r m o d).lookup ("off" : Str) = some (.int o) := by
  rw [← fl_mk, lookup_putF, if_neg k_co, lookup_putF, if_pos rfl]
theorem g_counts (r m o : Int) (d : Addr) : (fl r m o d).lookup ("counts" : Str) = some (.ref d) := by
  rw [← fl_mk, lookup_putF, if_pos rfl]
theorem g_no (r m o : Int) (d : Addr) {f : Str} (h1 : ¬ f = "counts") (h2 : ¬ f = "off") (h3 : ¬ f = "seen") (h4 : ¬ f = "room") : (fl r m o d).lookup f = none := by
  rw [← fl_mk, lookup_putF, if_neg h1, lookup_putF, if_neg h2, lookup_putF, if_neg h3, lookup_putF, if_neg h4]
  rfl
/-! counts in a dict -/
def getZ (kvs : Ct) (n : Str) : Option Int := (kvs.find? fun e => decide (e.1 = n)).map (·.2)
def putZ (kvs : Ct) (n : Str) (v : Int) : Ct := if (kvs.any fun e => decide (e.1 = n)) = true then kvs.map (fun e => if e.1 = n then (e.1, v) else e) else kvs ++ [(n, v)]
def addZ (kvs : Ct) (n : Str) (c : Int) : Ct := putZ kvs n ((getZ kvs n).getD 0 + c)
def takeZ (a : Int) (kvs : Ct) : Ct := (kvs.filter fun e => decide (a < e.2)).map fun e => (e.1, e.2 - a)
theorem ent_dec (e : Str × Int) (n : Str) : decide ((entZ e).1 = (Sum.inr n : Key)) = decide (e.1 = n) := key_rr _ _
theorem getZ_val (n : Str) : ∀ kvs : Ct, valV (kvs.map entZ) (Sum.inr n : Key) = (getZ kvs n).map V.int
  | [] => rfl
  | e :: r => by
    have ih := getZ_val n r
    unfold getZ at ih ⊢
    rw [List.map_cons]
    by_cases h : e.1 = n
    · rw [valV_pos (show (entZ e).1 = Sum.inr n by rw [← h])]
      simp [h]
    · rw [valV_neg (show ¬ (entZ e).1 = Sum.inr n from fun z => h (Sum.inr.inj z)), ih]
      simp [h]
theorem putZ_put (kvs : Ct) (n : Str) (v : Int) : putK (kvs.map entZ) (Sum.inr n : Key) (.int v) = (putZ kvs n v).map entZ := by
  unfold putK putZ
  have e : ((kvs.map entZ).any fun kv => decide (kv.1 = (Sum.inr n : Key))) = kvs.any fun e => decide (e.1 = n) := by
    rw [List.any_map]
    congr 1
    funext e
    exact ent_dec e n
  rw [e]
  by_cases h : (kvs.any fun e => decide (e.1 = n)) = true
  · rw [if_pos h, if_pos h, List.map_map, List.map_map]
    refine List.map_congr_left fun e _ => ?_
    show (if (Sum.inr e.1 : Key) = Sum.inr n then _ else _) = entZ (if e.1 = n then _ else _)
    by_cases h2 : e.1 = n
    · rw [if_pos h2, if_pos (by rw [h2])]
    · rw [if_neg h2, if_neg (fun z => h2 (Sum.inr.inj z))]
  · rw [if_neg h, if_neg h, List.map_append]
    rfl
abbrev NdZ (kvs : Ct) : Prop := (kvs.map (·.1)).Nodup
theorem getZ_none {kvs : Ct} {n : Str} : getZ kvs n = none ↔ n ∉ kvs.map (·.1) := by
  unfold getZ
  rw [Option.map_eq_none_iff, List.find?_eq_none]
  constructor
  · intro h z
    obtain ⟨e, he, rfl⟩ := List.mem_map.mp z
    have := h e he
    simp at this
  · intro h e he z
    exact h (List.mem_map.mpr ⟨e, he, of_decide_eq_true z⟩)
theorem any_getZ (n : Str) (kvs : Ct) : (kvs.any fun e => decide (e.1 = n)) = (getZ kvs n).isSome := by
  cases h : getZ kvs n with
  | none =>
    rw [getZ_none] at h
    show _ = false
    rw [List.any_eq_false]
    intro e he z
    exact h (List.mem_map.mpr ⟨e, he, of_decide_eq_true z⟩)
  | some v =>
    show _ = true
    rw [List.any_eq_true]
    unfold getZ at h
    cases hf : kvs.find? fun e => decide (e.1 = n) with
    | none => rw [hf] at h; cases h
    | some e =>
      have h2 := List.find?_some (p := fun e : Str × Int => decide (e.1 = n)) hf
      exact ⟨e, List.mem_of_find?_eq_some hf, h2⟩
theorem putZ_new {kvs : Ct} {n : Str} {v : Int} (h : getZ kvs n = none) : putZ kvs n v = kvs ++ [(n, v)] := by
  unfold putZ
  rw [any_getZ, h]
  exact if_neg (by decide)
theorem putZ_keys_old {kvs : Ct} {n : Str} {v : Int} (h : (getZ kvs n).isSome = true) : (putZ kvs n v).map (·.1) = kvs.map (·.1) := by
  unfold putZ
  rw [any_getZ, if_pos h, List.map_map]
  refine List.map_congr_left fun e _ => ?_
  show (if e.1 = n then _ else _ : Str × Int).1 = e.1
  split <;> rfl
theorem putZ_nd {kvs : Ct} {n : Str} {v : Int} (nd : NdZ kvs) : NdZ (putZ kvs n v) := by
  unfold NdZ
  cases h : getZ kvs n with
  | none =>
    rw [putZ_new h, List.map_append, List.nodup_append]
    refine ⟨nd, by simp, fun a ha b hb => ?_⟩
    rw [List.map_cons, List.map_nil, List.mem_singleton] at hb
    rw [hb]
    intro e
    have e' : a = n := e
    exact getZ_none.mp h (by rw [← e']; exact ha)
  | some x =>
    rw [putZ_keys_old (by rw [h]; rfl)]
    exact nd
theorem putZ_len {kvs : Ct} {n : Str} {v : Int} : (putZ kvs n v).length ≤ kvs.length + 1 := by
  cases h : getZ kvs n with
  | none => rw [putZ_new h, List.length_append]; exact Nat.le_refl _
  | some x =>
    have := congrArg List.length (putZ_keys_old (v := v) (show (getZ kvs n).isSome = true by rw [h]; rfl))
    rw [List.length_map, List.length_map] at this
    omega
theorem takeZ_nd {a : Int} {kvs : Ct} (nd : NdZ kvs) : NdZ (takeZ a kvs) := by
  unfold NdZ takeZ
  rw [List.map_map]
  exact List.Nodup.sublist (List.Sublist.map _ List.filter_sublist) nd
theorem takeZ_len {a : Int} {kvs : Ct} : (takeZ a kvs).length ≤ kvs.length := by
  unfold takeZ
  rw [List.length_map]
  exact List.length_filter_le _ _
theorem mergeZ : ∀ (more kvs : Ct), NdZ (kvs ++ more) → mergeK (kvs.map entZ) (more.map entZ) = (kvs ++ more).map entZ
  | [], kvs, _ => by
    rw [List.append_nil]
    rfl
  | e :: r, kvs, nd => by
    have nm : getZ kvs e.1 = none := getZ_none.mpr fun z => by
      unfold NdZ at nd
      rw [List.map_append, List.nodup_append] at nd
      exact nd.2.2 _ z _ (List.mem_map.mpr ⟨e, List.mem_cons_self, rfl⟩) rfl
    show mergeK (putK (kvs.map entZ) (Sum.inr e.1) (.int e.2)) (r.map entZ) = _
    rw [putZ_put, putZ_new nm, mergeZ r (kvs ++ [e]) (by rw [List.append_assoc]; exact nd), List.append_assoc]
    rfl
/-! a Tally -/
structure TalAt (C : Addr) (H : Hp) (t d : Addr) (r m o : Int) (kvs : Ct) : Prop where
  ob : ∃ dx, H t = some (.ins C dx (fl r m o d))
  dc : H d = some (.dK (kvs.map entZ))
theorem TalAt.ne {C : Addr} {H : Hp} {t d : Addr} {r m o : Int} {kvs : Ct} (h : TalAt C H t d r m o kvs) : t ≠ d := by
  obtain ⟨dx, e⟩ := h.ob
  exact ne_of e h.dc (by intro z; cases z)
theorem TalAt.same {C : Addr} {H H' : Hp} {t d : Addr} {r m o : Int} {kvs : Ct} (h : TalAt C H t d r m o kvs) (s : Same H H') : TalAt C H' t d r m o kvs := by
  obtain ⟨⟨dx, e⟩, e2⟩ := h
  exact ⟨⟨dx, s _ _ e⟩, s _ _ e2⟩
/-- all but the tally stays -/
def But (t d : Addr) (H H' : Hp) : Prop := ∀ b u, b ≠ t → b ≠ d → H b = some u → H' b = some u
theorem But.refl (t d : Addr) (H : Hp) : But t d H H := fun _ _ _ _ e => e
theorem But.trans {t d : Addr} {H H1 H2 : Hp} (x : But t d H H1) (y : But t d H1 H2) : But t d H H2 := fun b u n1 n2 e => y b u n1 n2 (x b u n1 n2 e)
theorem But.same {t d : Addr} {H H1 H2 : Hp} (x : But t d H H1) (y : Same H1 H2) : But t d H H2 := fun b u n1 n2 e => y b u (x b u n1 n2 e)
theorem But.upT {t d : Addr} {H H1 : Hp} {u : HO} (x : But t d H H1) : But t d H (upd H1 t u) := fun b v n1 n2 e => by
  rw [upd_ne n1]
  exact x b v n1 n2 e
theorem But.upD {t d : Addr} {H H1 : Hp} {u : HO} (x : But t d H H1) : But t d H (upd H1 d u) := fun b v n1 n2 e => by
  rw [upd_ne n2]
  exact x b v n1 n2 e
theorem But.new {t d p : Addr} {H H1 : Hp} {u : HO} (x : But t d H H1) (h : H1 p = none) : But t d H (upd H1 p u) := x.same (same_upd h)
/-- of the class, as the top has made it -/
structure Tal (K : PySem.W.Frag) (mg : Str → Option Value) where
  C : Addr
  fI : Addr
  fS : Addr
  fF : Addr
  fP : Addr
  fT : Addr
  dI : FuncData
  dS : FuncData
  dF : FuncData
  dP : FuncData
  dT : FuncData
  FI : Fun K "__init__" "Tally.__init__" sTinit fI dI
  FS : Fun K "sketch" "Tally.sketch" sTsketch fS dS
  FF : Fun K "gain" "Tally.gain" sTfeed fF dF
  FP : Fun K "pour" "Tally.pour" sTpour fP dP
  FT : Fun K "_take" "Tally._take" sTtake fT dT
  bI : Binds K dI ["self", "sketch"] []
  bS : Binds K dS ["self"] []
  bF : Binds K dF ["self", "name", "times"] []
  bP : Binds K dP ["self", "sketch"] []
  bT : Binds K dT ["self", "amount"] []
  mI : Mk K C fI
  mS : Meth K C "sketch" fS
  mF : Meth K C "gain" fF
  mP : Meth K C "pour" fP
  mT : Meth K C "_take" fT
  cl : Cls K C
  nR : NoAttr K C "room"
  nM : NoAttr K C "seen"
  nO : NoAttr K C "off"
  nC : NoAttr K C "counts"
  g : mg "Tally" = some (.ref C)
theorem ents_paired {K : PySem.W.Frag} {H : Hp} : ∀ {ts : List Addr} {kvs : Ct}, Paired (PrAt K H) ts kvs → Paired (fun p kv => SqT K H p [kV kv.1, kv.2]) ts (kvs.map entZ)
  | _, _, .nil => .nil
  | _, _, .cons h t => .cons h (ents_paired t)
theorem seq_upd {K : PySem.W.Frag} {H : Hp} {a t : Addr} {xs : List V} {C dx : Addr} {fs : List (Str × V)} {u : HO} (h : SqT K H a xs) (ht : H t = some (.ins C dx fs)) : SqT K (upd H t u) a xs := by
  rcases h with (h | ⟨o, h⟩) | h
  · exact .inl (.inl (by rw [upd_ne (ne_of h ht (by intro z; cases z))]; exact h))
  · exact .inl (.inr ⟨o, by rw [upd_ne (ne_of h ht (by intro z; cases z))]; exact h⟩)
  · exact .inr h
theorem prs_upd {K : PySem.W.Frag} {H : Hp} {t : Addr} {C dx : Addr} {fs : List (Str × V)} {u : HO} (ht : H t = some (.ins C dx fs)) : ∀ {ts : List Addr} {kvs : Ct}, Paired (PrAt K H) ts kvs → Paired (PrAt K (upd H t u)) ts kvs
  | _, _, .nil => .nil
  | _, _, .cons h q => .cons (seq_upd h ht) (prs_upd ht q)
section
variable {P : Program} {w : World} {K : PySem.W.Frag} {mg : Str → Option Value} {base : Heap}
/-! Tally.__init__ -/
def spTinit (K : PySem.W.Frag) (C : Addr) : Sp := fun vs H Q _ => ∃ (t dx s k : Addr) (r m o : Int) (ts : List Addr) (kvs : Ct), vs = [.ref t, .ref s] ∧ H t = some (.ins C dx []) ∧ SqT K H s [.int r, .int m, .int o, .ref k] ∧ Ptp H k (ts.map V.ref) ∧ Paired (PrAt K H) ts kvs ∧ NdZ kvs ∧
  ∀ H' d, (∀ b u, b ≠ t → H b = some u → H' b = some u) → H d = none → TalAt C H' t d r m o kvs → Q .non H'
theorem ok_Tinit (T : Blt mg) (L : Tal K mg) : FnOk P w K mg base CX0 1 L.fI L.dI ["self", "sketch"] (spTinit K L.C) := by
  refine L.FI.ok scTinit (fun vs H Q E h => ?_) (fun cdv A outer s H vs Q E hr h => ?_)
  · obtain ⟨t, dx, s, k, r, m, o, ts, kvs, rfl, _⟩ := h
    rfl
  · obtain ⟨t, dx, s, k, r, m, o, ts, kvs, rfl, ht, hs, hk, hp, nd, q⟩ := h
    refine ⟨_, (pss_cons (ps_asg (pv 1) (pg_tup (by rfl) (pgs_cons (pg_fld (pv 0)) (pgs_cons (pg_fld (pv 0)) (pgs_cons (pg_fld (pv 0)) (pgs_cons (pg_name (i := 2) scTinit.nd rfl (Or.inl rfl)) pgs_nil))))))
    (pss_one (ps_fld (pv 0) (pe_callTy (call_dictPT rfl) (by rfl) T.n_dict (by decide +kernel) (pa_cons (pv 2) pa_nil)) rfl))), ?_⟩
    have kt : k ≠ t := by
      obtain ⟨ob, e, _⟩ := hk
      exact ne_of e ht (by intro z; cases z)
    refine ⟨.ref s, rfl, s, _, rfl, hs, rfl, _, _, rfl, .ref t, rfl, t, L.C, dx, _, rfl, ht, L.cl, L.nR, (by show 0 < 1000; decide), ?_⟩
    refine ⟨_, _, rfl, .ref t, rfl, t, L.C, dx, _, rfl, upd_same, L.cl, L.nM, (by show 1 < 1000; decide), ?_⟩
    have l2 : (putF "seen" (V.int m) (putF "room" (V.int r) [])).length < 1000 := by
      show (if ("room" : Str) = "seen" then _ else (("room" : Str), V.int r) :: [(("seen" : Str), V.int m)]).length < 1000
      rw [if_neg k_mr]
      show 2 < 1000
      decide
    have l3 : (putF "off" (V.int o) (putF "seen" (V.int m) (putF "room" (V.int r) []))).length < 1000 := by
      show (putF "off" (V.int o) (if ("room" : Str) = "seen" then _ else (("room" : Str), V.int r) :: [(("seen" : Str), V.int m)])).length < 1000
      rw [if_neg k_mr]
      show (if ("room" : Str) = "off" then _ else (("room" : Str), V.int r) :: (if ("seen" : Str) = "off" then _ else (("seen" : Str), V.int m) :: [(("off" : Str), V.int o)])).length < 1000
      rw [if_neg k_or, if_neg k_om]
      show 3 < 1000
      decide
    refine ⟨_, _, rfl, .ref t, rfl, t, L.C, dx, _, rfl, upd_same, L.cl, L.nO, l2, ?_⟩
    rw [upd_upd, upd_upd]
    refine ⟨_, _, rfl, rfl, .ref k, rfl, k, ts, kvs.map entZ, rfl, hk.upd kt, ents_paired (prs_upd ht hp), fun d nd2 => ?_⟩
    have td : t ≠ d := ne_of_none upd_same nd2
    have nd0 : H d = none := by rw [upd_ne td.symm] at nd2; exact nd2
    refine ⟨.ref t, rfl, t, L.C, dx, _, rfl, (by rw [upd_ne td]; exact upd_same), L.cl, L.nC, l3, ?_⟩
    rw [fl_mk, show mergeK [] (kvs.map entZ) = kvs.map entZ from mergeZ kvs [] nd]
    refine q _ d (fun b u hb e => ?_) nd0 ⟨⟨dx, upd_same⟩, by rw [upd_ne td.symm]; exact upd_same⟩
    rw [upd_ne hb, upd_ne (ne_of_none e nd0), upd_ne hb]
    exact e
end
end Kb


namespace L2
section
variable {J : It} {n : Nat} {G : Hp → Prop} {Y : Nat → Hp → V → Hp → Prop}
/-- a dict comprehension over a walk -/
theorem dc_it (w : Walk J n G Y) {g : TG} {tt : TT} {tk tv : TE} {vs : List Nat} {σ : St} {H1 : Hp} {D : PySem.Addr} {Qd : Hp → Prop} (Pv : Nat → Hp → Prop) (h0 : Pv 0 (upd H1 D (.dK []))) (hG : ∀ i H, i ≤ n → Pv i H → G H)
    (hs : ∀ i x H H', i < n → Pv i H → Y i H x H' → g x (wipe σ vs) H' fun σ2 H2 => wipe σ2 vs = wipe σ vs ∧ tt σ2 H2 fun b H3 =>
      if b = true then tk σ2 H3 fun y H4 => tv σ2 H4 fun z H5 => ∃ kvs k, y = kV k ∧ H5 D = some (.dK kvs) ∧ kvs.length < PySem.sizeLine ∧ Pv (i + 1) (upd H5 D (.dK (putK kvs k z))) else Pv (i + 1) H3) (hd : ∀ H, Pv n H → Qd H) :
    ∃ W : Nat → Nat → Hp → Prop, (∃ m, W 0 m (upd H1 D (.dK []))) ∧ ∀ i m H, W i m H →
      (J.stop i H ∧ Qd H) ∨ (J.go i H ∧ ∃ Nx : Hp → Prop, (∀ H', Nx H' → ∃ m', m' < m ∧ W (i + 1) m' H') ∧ ∀ x H', J.yld i H x H' → g x (wipe σ vs) H' fun σ2 H2 => wipe σ2 vs = wipe σ vs ∧ tt σ2 H2 fun b H3 =>
        if b = true then tk σ2 H3 fun y H4 => tv σ2 H4 fun z H5 => ∃ kvs k, y = kV k ∧ H5 D = some (.dK kvs) ∧ kvs.length < PySem.sizeLine ∧ Nx (upd H5 D (.dK (putK kvs k z))) else Nx H3) := by
  refine ⟨fun i m H => m = n - i ∧ i ≤ n ∧ Pv i H, ⟨n, by simp, Nat.zero_le _, h0⟩, ?_⟩
  rintro i m H ⟨rfl, hi, p⟩
  have q := hG i H hi p
  by_cases hlt : i < n
  · refine .inr ⟨w.goes i H hlt q, Pv (i + 1), fun H' p' => ⟨n - (i + 1), by omega, rfl, hlt, p'⟩, fun x H' y => hs i x H H' hlt p (w.yields i H x H' hlt q y)⟩
  · have e : i = n := by omega
    subst e
    exact .inl ⟨w.stops H q, hd H p⟩
end
end L2
namespace Kb
open PySem PySem.Spec PyProof.Rows L2 SrtZ SrtO
def Asc (kvs : Ct) : Prop := kvs.Pairwise fun a b => ltZ a.1 b.1 = true
/-- sorted, names unlike: ascending -/
theorem asc_of {ys kvs : Ct} (h : Srtd lexZ ys) (p : ys.Perm kvs) (nd : NdZ kvs) : Asc ys := by
  have nd2 : (ys.map (·.1)).Nodup := (p.map (·.1)).nodup_iff.mpr nd
  rw [List.Nodup, List.pairwise_map] at nd2
  refine List.Pairwise.imp₂ (fun {a b} h1 h2 => ?_) h nd2
  rw [lexZ_ne (fun e => h2 e.symm)] at h1
  rcases bcase (ltZ a.1 b.1) with q | q
  · exact q
  · exact absurd (ltZ_tri q h1) h2
theorem asc_uniq {xs ys : Ct} (hx : Asc xs) (hy : Asc ys) (p : xs.Perm ys) : xs = ys :=
  List.Perm.eq_of_pairwise (le := fun (a b : Str × Int) => ltZ a.1 b.1 = true) (fun a b _ _ h1 h2 => by
    have := ltZ_asym h1
    rw [h2] at this
    cases this) hx hy p
theorem putZ_snoc {kvs : Ct} {n : Str} {v : Int} (h : n ∉ kvs.map (·.1)) : putZ kvs n v = kvs ++ [(n, v)] := putZ_new (getZ_none.mpr h)
theorem takeZ_snoc (a : Int) (kvs : Ct) (e : Str × Int) : takeZ a (kvs ++ [e]) = takeZ a kvs ++ (if a < e.2 then [(e.1, e.2 - a)] else []) := by
  unfold takeZ
  rw [List.filter_append, List.map_append]
  by_cases h : a < e.2
  · rw [if_pos h, List.filter_cons_of_pos (by simpa using h)]
    rfl
  · rw [if_neg h, List.filter_cons_of_neg (by simpa using h)]
    rfl
theorem takeZ_keys {a : Int} {kvs : Ct} {n : Str} (h : n ∈ (takeZ a kvs).map (·.1)) : n ∈ kvs.map (·.1) := by
  unfold takeZ at h
  rw [List.map_map] at h
  obtain ⟨e, he, rfl⟩ := List.mem_map.mp h
  exact List.mem_map.mpr ⟨e, (List.mem_filter.mp he).1, rfl⟩
section
variable {P : Program} {w : World} {K : PySem.W.Frag} {mg : Str → Option Value} {base : Heap}
/-! Tally.sketch -/
def spTsketch (C : Addr) : Sp := fun vs H Q _ => ∃ (t d : Addr) (r m o : Int) (kvs : Ct), vs = [.ref t] ∧ TalAt C H t d r m o kvs ∧ NdZ kvs ∧ kvs.length ≤ 1000 ∧
  ∀ H' s k (ys : Ct) (ts : List Addr), Same H H' → H s = none → H' s = some (.tup [.int r, .int m, .int o, .ref k]) → Ptp H' k (ts.map V.ref) → Paired (fun (t : Addr) (y : Str × Int) => H' t = some (.tup [.str y.1, .int y.2])) ts ys → ys.Perm kvs → Asc ys → Q (.ref s) H'
theorem ok_Tsketch (T : Blt mg) (L : Tal K mg) : FnOk P w K mg base CX0 1 L.fS L.dS ["self"] (spTsketch L.C) := by
  refine L.FS.ok scTsketch (fun vs H Q E h => ?_) (fun cdv A outer s H vs Q E hr h => ?_)
  · obtain ⟨t, d, r, m, o, kvs, rfl, _⟩ := h
    rfl
  · obtain ⟨t, d, r, m, o, kvs, rfl, ta, nd, hl, q⟩ := h
    refine ⟨_, (pss_one (ps_ret (pe_tup (pa_cons (pe_fld (pv 0) rfl) (pa_cons (pe_fld (pv 0) rfl) (pa_cons (pe_fld (pv 0) rfl) (pa_cons (pe_callTy call_tupleF (by rfl) T.n_tuple (by decide +kernel) (pa_cons (pe_callB (cr_sortedIZ rfl) (by rfl) T.n_sorted (by decide +kernel) (pa_cons (pe_bm0 PySem.F.plainAttrs_dict PySem.F.slot_dict_items PySem.F.type_dict_items mt_itemsK (pe_fld (pv 0) rfl)) pa_nil)) pa_nil)) pa_nil))))))), ?_⟩
    obtain ⟨⟨dx, ht⟩, hd⟩ := id ta
    refine ⟨.ref t, rfl, t, L.C, dx, _, _, rfl, ht, L.cl, L.nR, g_room _ _ _ _, .ref t, rfl, t, L.C, dx, _, _, rfl, ht, L.cl, L.nM, g_many _ _ _ _, .ref t, rfl, t, L.C, dx, _, _, rfl, ht, L.cl, L.nO, g_off _ _ _ _, ?_⟩
    refine ⟨.ref t, rfl, t, L.C, dx, _, _, rfl, ht, L.cl, L.nC, g_counts _ _ _ _, .inr (.inr (.inl ⟨rfl, .inl ⟨_, hd⟩⟩)), d, _, rfl, rfl, hd, fun p np => ?_⟩
    refine ⟨p, d, kvs, rfl, upd_same, (by rw [upd_ne (ne_of_none hd np)]; exact hd), fun H1 l ys ts s1 nl nts lts pm so hl1 hts => ?_⟩
    refine ⟨l, _, rfl, sql hl1, fun k ob nk ho => ⟨(by show 4 ≤ sizeLine; decide), fun s ns => ?_⟩⟩
    have sa : Same H (upd H p (DX.itemsO p d)) := same_upd np
    have sb : Same H H1 := fun b u e => s1 b u (sa b u e)
    have sc : Same H (upd H1 k (.frz ob (.tup (ts.map V.ref)))) := Same.new sb nk
    refine q _ s k ys ts (Same.new sc ns) (Same.gone sc ns) upd_same ⟨ob, ?_, ho⟩ ?_ pm (asc_of so pm nd)
    · rw [upd_ne (ne_of_none upd_same ns)]
      exact upd_same
    · have : ∀ {ts : List Addr} {ys : Ct}, Paired (fun (t : Addr) (y : Str × Int) => H1 t = some (.tup [.str y.1, .int y.2])) ts ys → Paired (fun (t : Addr) (y : Str × Int) => (upd (upd H1 k (.frz ob (.tup (ts.map V.ref)))) s (.tup [.int r, .int m, .int o, .ref k])) t = some (.tup [.str y.1, .int y.2])) ts ys := by
        intro ts ys h
        have gen : ∀ (u : HO) (ns' : (upd H1 k u) s = none) (v : HO) {ts : List Addr} {ys : Ct}, Paired (fun (t : Addr) (y : Str × Int) => H1 t = some (.tup [.str y.1, .int y.2])) ts ys → Paired (fun (t : Addr) (y : Str × Int) => (upd (upd H1 k u) s v) t = some (.tup [.str y.1, .int y.2])) ts ys := by
          intro u ns' v ts ys h
          induction h with
          | nil => exact .nil
          | cons h _ ih => exact .cons ((Same.new (same_upd nk) ns') _ _ h) ih
        exact gen _ (by
          have e : s ≠ k := (ne_of_none upd_same ns).symm
          rw [upd_ne e] at ns ⊢
          exact ns) _ h
      exact this hts
/-! Tally._take -/
def spTtake (C : Addr) : Sp := fun vs H Q _ => ∃ (t d : Addr) (r m o a : Int) (kvs : Ct), vs = [.ref t, .int a] ∧ TalAt C H t d r m o kvs ∧ NdZ kvs ∧ kvs.length ≤ 1000 ∧
  ∀ H' d', But t d H H' → H d' = none → TalAt C H' t d' r m (o + a) (takeZ a kvs) → Q .non H'
theorem ok_Ttake (T : Blt mg) (L : Tal K mg) : FnOk P w K mg base CX0 1 L.fT L.dT ["self", "amount"] (spTtake L.C) := by
  refine L.FT.ok scTtake (fun vs H Q E h => ?_) (fun cdv A outer s H vs Q E hr h => ?_)
  · obtain ⟨t, d, r, m, o, a, kvs, rfl, _⟩ := h
    rfl
  · obtain ⟨t, d, r, m, o, a, kvs, rfl, ta, nd, hl, q⟩ := h
    refine ⟨_, (pss_cons (ps_fldaug (pv 0) (pv 1) in_add)
    (pss_one (ps_fld (pv 0) (pe_lock (pe_dc rfl scTtake.nd (own := [("name", 2), ("count", 3)]) (g := gTup K 2 (gCons (gName 2) (gCons (gName 3) gNil))) (pi_items (pe_fld (pv 0) rfl)) (blkOk_by (N := NTtake) (sc := defScope sTtake) (by decide +kernel)) (fun _ _ _ _ _ => pg_tup (by rfl) (pgs_cons (pg_name (i := 2) scTtake.nd rfl (Or.inl rfl)) (pgs_cons (pg_name (i := 3) scTtake.nd rfl (Or.inl rfl)) pgs_nil))) (fun _ _ _ _ _ => pts_one (pt_cmpR op_gt (pv 3) (pv 1) (nomark _))) (fun _ _ _ _ _ => (pv 2)) (fun _ _ _ _ _ => (pe_op op_sub (pv 3) (pv 1))))) rfl))), ?_⟩
    obtain ⟨⟨dx, ht⟩, hd⟩ := id ta
    have td := ta.ne
    refine ⟨.ref t, rfl, t, L.C, dx, _, _, rfl, ht, L.cl, L.nO, g_off _ _ _ _, .int a, rfl, _, _, rfl, rfl, dx, _, ht, (by show 4 < 1000; decide), ?_⟩
    rw [fl_off]
    have hd1 : (upd H t (.ins L.C dx (fl r m (o + a) d))) d = some (.dK (kvs.map entZ)) := by rw [upd_ne td.symm]; exact hd
    refine ⟨d, _, hd1, trivial, fun od => ⟨.ref t, rfl, t, L.C, dx, _, _, rfl, (by rw [upd_ne td]; exact upd_same), L.cl, L.nC, g_counts _ _ _ _, d, od, kvs.map entZ, rfl, upd_same, fun D nD => ?_⟩⟩
    have tD : t ≠ D := ne_of_none (by rw [upd_ne td]; exact upd_same) nD
    have dD : d ≠ D := ne_of_none upd_same nD
    generalize hHl : upd (upd H t (.ins L.C dx (fl r m (o + a) d))) d (.frz od (.dK (kvs.map entZ))) = Hl at nD ⊢
    have hlt : Hl t = some (.ins L.C dx (fl r m (o + a) d)) := by rw [← hHl, upd_ne td]; exact upd_same
    have hld : Hl d = some (.frz od (.dK (kvs.map entZ))) := by rw [← hHl]; exact upd_same
    refine dc_it (walk_items (kvs := kvs.map entZ)) (fun i H3 => (∀ b u, b ≠ D → Hl b = some u → H3 b = some u) ∧ H3 D = some (.dK ((takeZ a (kvs.take i)).map entZ))) ⟨fun b u n e => by rw [upd_ne n]; exact e, upd_same⟩ (fun i H3 _ h3 => h3.1 d _ dD hld) (fun i x H3 H4 hi h3 y => ?_) (fun H3 h3 => ?_)
    · obtain ⟨Tp, x1, y1, rfl, nT, rfl, hx, hy⟩ := y
      dsimp only at hx hy
      rw [List.length_map] at hi
      have he : kvs[i]? = some kvs[i] := List.getElem?_eq_getElem hi
      generalize kvs[i] = e at he
      have hx1 : x1 = .str e.1 := by
        rw [List.getElem?_map, he] at hx
        exact (Option.some.inj hx).symm
      have hy1 : y1 = .int e.2 := by
        rw [List.getElem?_map, he] at hy
        exact (Option.some.inj hy).symm
      subst hx1 hy1
      have TD : Tp ≠ D := (ne_of_none h3.2 nT).symm
      refine ⟨Tp, _, rfl, .inl (.inl upd_same), rfl, _, _, rfl, _, _, rfl, rfl, rfl, .int e.2, rfl, .int a, rfl, _, _, rfl, rfl, _, rfl, ?_⟩
      have tk := takeZ_snoc a (kvs.take i) e
      have te : kvs.take (i + 1) = kvs.take i ++ [e] := by rw [List.take_add_one, he]; rfl
      refine ite2 (fun hgt => ?_) (fun hgt => ?_)
      · have hga : a < e.2 := of_decide_eq_true hgt
        refine ⟨.str e.1, rfl, .int e.2, rfl, .int a, rfl, _, _, rfl, rfl, _, Sum.inr e.1, rfl, (by rw [upd_ne TD.symm]; exact h3.2), ?_, fun b u nb e' => ?_, ?_⟩
        · rw [List.length_map, sizeLine_eq]
          have := takeZ_len (a := a) (kvs := kvs.take i)
          rw [List.length_take] at this
          omega
        · rw [upd_ne nb]
          by_cases hb : b = Tp
          · subst hb
            have := h3.1 b u nb e'
            rw [nT] at this
            cases this
          · rw [upd_ne hb]
            exact h3.1 b u nb e'
        · rw [upd_same, putZ_put, putZ_snoc, te, tk, if_pos hga]
          intro z
          have z2 := takeZ_keys z
          have nd2 := nd
          unfold NdZ at nd2
          rw [← List.take_append_drop i kvs, List.map_append, List.nodup_append] at nd2
          refine nd2.2.2 _ z2 e.1 (List.mem_map.mpr ⟨e, ?_, rfl⟩) rfl
          rw [List.drop_eq_getElem_cons hi]
          have := (List.getElem?_eq_some_iff.mp he).2
          rw [this]
          exact List.mem_cons_self
      · have hga : ¬ a < e.2 := fun z => hgt (decide_eq_true z)
        refine ⟨fun b u nb e' => ?_, ?_⟩
        · by_cases hb : b = Tp
          · subst hb
            have := h3.1 b u nb e'
            rw [nT] at this
            cases this
          · rw [upd_ne hb]
            exact h3.1 b u nb e'
        · rw [upd_ne TD.symm, te, tk, if_neg hga, List.append_nil]
          exact h3.2
    · have h3t := h3.1 t _ tD hlt
      have h3d := h3.1 d _ dD hld
      refine ⟨h3d, .ref t, rfl, t, L.C, dx, _, rfl, (by rw [upd_ne td]; exact h3t), L.cl, L.nC, (by show 4 < 1000; decide), ?_⟩
      rw [fl_counts]
      have h3D : H3 D = some (.dK ((takeZ a kvs).map entZ)) := by
        have := h3.2
        rw [List.length_map, List.take_length] at this
        exact this
      have nD0 : H D = none := by
        rw [← hHl, upd_ne dD.symm, upd_ne tD.symm] at nD
        exact nD
      refine q _ D (fun b u n1 n2 e => ?_) nD0 ⟨⟨dx, upd_same⟩, by rw [upd_ne tD.symm, upd_ne dD.symm]; exact h3D⟩
      rw [upd_ne n1, upd_ne n2]
      refine h3.1 b u (ne_of_none e nD0) ?_
      rw [← hHl, upd_ne n2, upd_ne n1]
      exact e
end
end Kb


namespace Kb
open PySem PySem.Spec PyProof.Rows L2 SrtZ SrtO
/-- the least count -/
def mnC : Ct → Int
  | [] => 0
  | [e] => e.2
  | e :: r => if e.2 ≤ mnC r then e.2 else mnC r
theorem mnC_spec : ∀ {kvs : Ct}, kvs ≠ [] → mnC kvs ∈ kvs.map (·.2) ∧ ∀ y ∈ kvs.map (·.2), mnC kvs ≤ y
  | [], h => absurd rfl h
  | [e], _ => ⟨by simp [mnC], fun y hy => by
    have : y = e.2 := by simpa using hy
    rw [this]
    exact Int.le_refl _⟩
  | e :: f :: r, _ => by
    obtain ⟨h1, h2⟩ := mnC_spec (kvs := f :: r) (by simp)
    show (if e.2 ≤ mnC (f :: r) then e.2 else mnC (f :: r)) ∈ _ ∧ ∀ y ∈ _, (if e.2 ≤ mnC (f :: r) then e.2 else mnC (f :: r)) ≤ y
    by_cases h : e.2 ≤ mnC (f :: r)
    · rw [if_pos h]
      refine ⟨by simp, fun y hy => ?_⟩
      rw [List.map_cons] at hy
      rcases List.mem_cons.mp hy with rfl | hy
      · exact Int.le_refl _
      · exact Int.le_trans h (h2 y hy)
    · rw [if_neg h]
      refine ⟨by rw [List.map_cons]; exact List.mem_cons_of_mem _ h1, fun y hy => ?_⟩
      rw [List.map_cons] at hy
      rcases List.mem_cons.mp hy with rfl | hy
      · omega
      · exact h2 y hy
theorem mnC_uniq {kvs : Ct} {m : Int} (h : m ∈ kvs.map (·.2)) (hm : ∀ y ∈ kvs.map (·.2), m ≤ y) : m = mnC kvs := by
  have ne : kvs ≠ [] := by
    rintro rfl
    simp at h
  obtain ⟨h1, h2⟩ := mnC_spec ne
  have a := h2 _ h
  have b := hm _ h1
  omega
/-- what a tally holds: many, off, counts -/
structure Tl where
  m : Int
  o : Int
  c : Ct
def full (r : Int) (n : Str) (kvs : Ct) : Bool := !(getZ kvs n).isSome && decide ((kvs.length : Int) = r)
def feedT (r : Int) (n : Str) (c : Int) (x : Tl) : Tl :=
  if full r n x.c = true then
    let a := if mnC x.c < c then mnC x.c else c
    ⟨x.m + c, x.o + a, if 0 < c - a then addZ (takeZ a x.c) n (c - a) else takeZ a x.c⟩
  else ⟨x.m + c, x.o, if 0 < c then addZ x.c n c else x.c⟩
def sumsZ (more kvs : Ct) : Ct := more.foldl (fun a e => addZ a e.1 e.2) kvs
def fallZ (kvs : Ct) (r : Int) : Int := ((kvs.map (·.2)).mergeSort (fun a b => decide (b ≤ a))).getD r.toNat 0
def pourT (r : Int) (y x : Tl) : Tl :=
  let all := sumsZ y.c x.c
  if r < (all.length : Int) then ⟨x.m + y.m, x.o + y.o + fallZ all r, takeZ (fallZ all r) all⟩ else ⟨x.m + y.m, x.o + y.o, all⟩
theorem fall_uniq {kvs : Ct} {ns : List Int} (p : ns.Perm (kvs.map (·.2))) (h : ns.Pairwise (· ≥ ·)) : ns = (kvs.map (·.2)).mergeSort (fun a b => decide (b ≤ a)) := by
  refine List.Perm.eq_of_pairwise (le := fun (a b : Int) => b ≤ a) (fun a b _ _ h1 h2 => Int.le_antisymm h2 h1) h ?_ (p.trans (List.mergeSort_perm _ _).symm)
  have := List.pairwise_mergeSort (le := fun (a b : Int) => decide (b ≤ a)) (fun a b c h1 h2 => by simp at *; omega) (fun a b => by simp; omega) (kvs.map (·.2))
  exact this.imp fun h => of_decide_eq_true h
theorem addZ_nd {kvs : Ct} {n : Str} {c : Int} (nd : NdZ kvs) : NdZ (addZ kvs n c) := putZ_nd nd
theorem addZ_len {kvs : Ct} {n : Str} {c : Int} : (addZ kvs n c).length ≤ kvs.length + 1 := putZ_len
theorem sumsZ_nd : ∀ {more kvs : Ct}, NdZ kvs → NdZ (sumsZ more kvs)
  | [], _, h => h
  | e :: r, kvs, h => sumsZ_nd (more := r) (addZ_nd (n := e.1) (c := e.2) h)
theorem sumsZ_len : ∀ {more kvs : Ct}, (sumsZ more kvs).length ≤ kvs.length + more.length
  | [], kvs => Nat.le_refl _
  | e :: r, kvs => by
    have h := sumsZ_len (more := r) (kvs := addZ kvs e.1 e.2)
    have h2 := addZ_len (kvs := kvs) (n := e.1) (c := e.2)
    show (sumsZ r (addZ kvs e.1 e.2)).length ≤ kvs.length + (r.length + 1)
    omega
theorem sumsZ_snoc {more kvs : Ct} {i : Nat} {e : Str × Int} (h : more[i]? = some e) : sumsZ (more.take (i + 1)) kvs = addZ (sumsZ (more.take i) kvs) e.1 e.2 := by
  unfold sumsZ
  rw [List.take_add_one, h, List.foldl_append]
  rfl
section
variable {P : Program} {w : World} {K : PySem.W.Frag} {mg : Str → Option Value} {base : Heap}
/-! Tally.feed -/
def spTfeed (C : Addr) : Sp := fun vs H Q _ => ∃ (t d : Addr) (r c : Int) (n : Str) (x : Tl), vs = [.ref t, .str n, .int c] ∧ TalAt C H t d r x.m x.o x.c ∧ NdZ x.c ∧ x.c.length ≤ 500 ∧ 1 ≤ r ∧
  ∀ H' d', But t d H H' → (d' = d ∨ H d' = none) → TalAt C H' t d' r (feedT r n c x).m (feedT r n c x).o (feedT r n c x).c → Q .non H'
theorem ok_Tfeed (T : Blt mg) (L : Tal K mg) : FnOk P w K mg base CX0 2 L.fF L.dF ["self", "name", "times"] (spTfeed L.C) := by
  have G_take : FnOk P w K mg base CX0 1 L.fT L.dT ["self", "amount"] (spTtake L.C) := ok_Ttake T L
  refine L.FF.ok scTfeed (fun vs H Q E h => ?_) (fun cdv A outer s H vs Q E hr h => ?_)
  · obtain ⟨t, d, r, c, n, x, rfl, _⟩ := h
    rfl
  · obtain ⟨t, d, r, c, n, ⟨m, o, kvs⟩, rfl, ta, nd, hl, hr1, q⟩ := h
    dsimp only at ta nd hl q
    have hu := hu_of hr
    refine ⟨_, (pss_cons (ps_fldaug (pv 0) (pv 2) in_add)
    (C8.pss_cut (ps_if (PW.pt (pw_and (pt_cmp (pc_dnotin hu (pv 1) (pe_fld (pv 0) rfl))) (pw_and1 (pt_cmpR op_eq (pe_callB call_lenD (by rfl) T.n_len (by decide +kernel) (pa_cons (pe_fld (pv 0) rfl) pa_nil)) (pe_fld (pv 0) rfl) (nomark _)))))
      (pss_cons (ps_set (i := 3) scTfeed.nd rfl (Or.inl rfl) (pe_callB (call_min2 rfl) (by rfl) T.n_min (by decide +kernel) (pa_cons (pv 2) (pa_cons (pe_callB (cr_minV rfl) (by rfl) T.n_min (by decide +kernel) (pa_cons (pe_bm0 PySem.F.plainAttrs_dict PySem.F.slot_dict_values PySem.F.type_dict_values mt_valuesK (pe_fld (pv 0) rfl)) pa_nil)) pa_nil))))
      (pss_cons (ps_expr (pe_meth (pv 0) L.cl L.mT G_take (hr.mono (by omega)) L.bT .nil pass0 (pa_cons (pv 3) pa_nil)))
      (pss_one (ps_aug (i := 2) scTfeed.nd rfl (Or.inl rfl) (pv 3) ip_sub))))
      pss_nil)
    (pss_one (ps_if (pt_cmpR op_gt (pv 2) pe_int (nomark _))
      (pss_one (ps_dput hu (pe_fld (pv 0) rfl) (pv 1) (pe_op op_add (pe_dget2 hu (pe_fld (pv 0) rfl) (pv 1) pe_int ⟨rfl, rfl, rfl, rfl⟩) (pv 2)) rfl))
      pss_nil)))), ?_⟩
    obtain ⟨⟨dx, ht⟩, hd⟩ := id ta
    have td := ta.ne
    refine ⟨.ref t, rfl, t, L.C, dx, _, _, rfl, ht, L.cl, L.nM, g_many _ _ _ _, .int c, rfl, _, _, rfl, rfl, dx, _, ht, (by show 4 < 1000; decide), ?_⟩
    rw [fl_many]
    have ta1 : TalAt L.C (upd H t (.ins L.C dx (fl r (m + c) o d))) t d r (m + c) o kvs := ⟨⟨dx, upd_same⟩, by rw [upd_ne td.symm]; exact hd⟩
    have bt1 : But t d H (upd H t (.ins L.C dx (fl r (m + c) o d))) := (But.refl t d H).upT
    generalize upd H t (.ins L.C dx (fl r (m + c) o d)) = H1 at ta1 bt1
    -- what stands behind the first if
    refine ⟨fun σ H2 => ∃ (d2 : Addr) (o2 c2 : Int) (kvs2 : Ct) (y : Option V), σ = [some (.ref t), some (.str n), some (.int c2), y] ∧ But t d H H2 ∧ (d2 = d ∨ H d2 = none) ∧ TalAt L.C H2 t d2 r (m + c) o2 kvs2 ∧ NdZ kvs2 ∧ kvs2.length ≤ 500 ∧
      feedT r n c ⟨m, o, kvs⟩ = ⟨m + c, o2, if 0 < c2 then addZ kvs2 n c2 else kvs2⟩, ?_, ?_⟩
    · obtain ⟨⟨dx1, ht1⟩, hd1⟩ := id ta1
      refine ⟨.str n, rfl, .ref t, rfl, t, L.C, dx1, _, _, rfl, ht1, L.cl, L.nC, g_counts _ _ _ _, d, _, rfl, DGet.k (k := Sum.inr n) hd1, _, rfl, ?_⟩
      rw [getZ_val]
      have stay : full r n kvs = false → ∃ (d2 : Addr) (o2 c2 : Int) (kvs2 : Ct) (y : Option V), [some (V.ref t), some (V.str n), some (V.int c), none] = [some (.ref t), some (.str n), some (.int c2), y] ∧ But t d H H1 ∧ (d2 = d ∨ H d2 = none) ∧ TalAt L.C H1 t d2 r (m + c) o2 kvs2 ∧ NdZ kvs2 ∧ kvs2.length ≤ 500 ∧
          feedT r n c ⟨m, o, kvs⟩ = ⟨m + c, o2, if 0 < c2 then addZ kvs2 n c2 else kvs2⟩ := fun hf => ⟨d, o, c, kvs, none, rfl, bt1, .inl rfl, ta1, nd, hl, by unfold feedT; rw [if_neg (by rw [hf]; decide)]⟩
      cases hg : getZ kvs n with
      | some v =>
        refine iteF ?_
        exact stay (by unfold full; rw [hg]; rfl)
      | none =>
        refine iteT ⟨.ref t, rfl, t, L.C, dx1, _, _, rfl, ht1, L.cl, L.nC, g_counts _ _ _ _, d, _, rfl, hd1, .ref t, rfl, t, L.C, dx1, _, _, rfl, ht1, L.cl, L.nR, g_room _ _ _ _, rfl, _, rfl, ?_⟩
        rw [List.length_map]
        by_cases hfull : (kvs.length : Int) = r
        · have hf : full r n kvs = true := by
            unfold full
            rw [hg, decide_eq_true hfull]
            rfl
          rw [show decide (V.int (kvs.length : Int) = V.int r) = true from decide_eq_true (by rw [hfull])]
          refine iteT ?_
          have hne : kvs ≠ [] := by
            rintro rfl
            have : (0 : Int) = r := hfull
            omega
          refine ⟨.int c, rfl, .ref t, rfl, t, L.C, dx1, _, _, rfl, ht1, L.cl, L.nC, g_counts _ _ _ _, .inr (.inr (.inl ⟨rfl, .inl ⟨_, hd1⟩⟩)), d, _, rfl, rfl, hd1, fun p np => ?_⟩
          refine ⟨p, d, kvs, rfl, upd_same, (by rw [upd_ne (ne_of_none hd1 np)]; exact hd1), List.length_pos_iff.mpr hne, fun mn h1 h2 => ?_⟩
          have emn := mnC_uniq h1 h2
          subst emn
          refine ⟨_, _, rfl, ?_⟩
          generalize ha : (if mnC kvs < c then mnC kvs else c) = a
          have ta2 : TalAt L.C (upd H1 p (valuesO p d)) t d r (m + c) o kvs := ta1.same (same_upd np)
          obtain ⟨⟨dx2, ht2⟩, _⟩ := id ta2
          refine ⟨.ref t, rfl, t, dx2, _, rfl, ht2, g_no _ _ _ _ (by decide +kernel) (by decide +kernel) (by decide +kernel) (by decide +kernel), .int a, rfl, t, d, r, m + c, o, a, kvs, rfl, ta2, nd, (by omega), fun H3 d3 b3 nd3 ta3 => ?_⟩
          refine ⟨.int c, rfl, .int a, rfl, _, _, rfl, rfl, d3, o + a, c - a, takeZ a kvs, some (.int a), rfl, ?_, .inr ?_, ta3, takeZ_nd nd, Nat.le_trans takeZ_len hl, ?_⟩
          · exact (bt1.new np).trans b3
          · have nd4 : H1 d3 = none := Same.gone (same_upd np) nd3
            cases e : H d3 with
            | none => rfl
            | some u =>
              by_cases e1 : d3 = t
              · subst e1
                rw [ht1] at nd4
                cases nd4
              · by_cases e2 : d3 = d
                · subst e2
                  rw [hd1] at nd4
                  cases nd4
                · have := bt1 d3 u e1 e2 e
                  rw [nd4] at this
                  cases this
          · unfold feedT
            rw [if_pos hf]
            dsimp only
            rw [ha]
        · have hf : full r n kvs = false := by
            unfold full
            rw [hg, decide_eq_false hfull]
            rfl
          rw [show decide (V.int (kvs.length : Int) = V.int r) = false from decide_eq_false (fun z => hfull (by injection z))]
          exact iteF (stay hf)
    · rintro σ H2 ⟨d2, o2, c2, kvs2, y, rfl, bt2, hd2, ta2, nd2, hl2, hf⟩
      rw [hf] at q
      dsimp only at q
      obtain ⟨⟨dx2, ht2⟩, hdd⟩ := id ta2
      have td2 := ta2.ne
      refine ⟨.int c2, rfl, _, _, rfl, rfl, _, rfl, ite2 (fun hp => ?_) fun hp => ?_⟩
      · have hp' : 0 < c2 := of_decide_eq_true hp
        rw [if_pos hp'] at q
        refine ⟨.ref t, rfl, t, L.C, dx2, _, _, rfl, ht2, L.cl, L.nC, g_counts _ _ _ _, d2, rfl, .inl ⟨_, .inl hdd⟩, .str n, rfl, _, DGet.k (k := Sum.inr n) hdd, ?_⟩
        rw [getZ_val]
        refine ⟨.int c2, rfl, (getZ kvs2 n).getD 0, c2, ?_, rfl, ?_⟩
        · cases getZ kvs2 n <;> rfl
        · refine ⟨.ref t, rfl, t, L.C, dx2, _, _, rfl, ht2, L.cl, L.nC, g_counts _ _ _ _, .str n, rfl, d2, _, rfl, DPut.k (k := Sum.inr n) hdd (by rw [List.length_map, sizeLine_eq]; omega), ?_⟩
          rw [putZ_put]
          refine q _ d2 (fun b u n1 n2 e => ?_) hd2 ⟨⟨dx2, by rw [upd_ne td2]; exact ht2⟩, upd_same⟩
          by_cases hb : b = d2
          · subst hb
            rcases hd2 with rfl | hd2
            · exact absurd rfl n2
            · rw [e] at hd2
              cases hd2
          · rw [upd_ne hb]
            exact bt2 b u n1 n2 e
      · have hp' : ¬ 0 < c2 := fun z => hp (decide_eq_true z)
        rw [if_neg hp'] at q
        exact q H2 d2 bt2 hd2 ta2
end
end Kb


namespace Kb
open PySem PySem.Spec PyProof.Rows L2 SrtZ SrtO
theorem seqT_but {K : PySem.W.Frag} {C : Addr} {H H' : Hp} {t d a : Addr} {r m o : Int} {kvs : Ct} {xs : List V} (h : SqT K H a xs) (ta : TalAt C H t d r m o kvs) (b : But t d H H') : SqT K H' a xs := by
  obtain ⟨⟨dx, ht⟩, hd⟩ := ta
  rcases h with (h | ⟨o, h⟩) | h
  · exact .inl (.inl (b a _ (ne_of h ht (by intro z; cases z)) (ne_of h hd (by intro z; cases z)) h))
  · exact .inl (.inr ⟨o, b a _ (ne_of h ht (by intro z; cases z)) (ne_of h hd (by intro z; cases z)) h⟩)
  · exact .inr h
theorem prs_but {K : PySem.W.Frag} {C : Addr} {H H' : Hp} {t d : Addr} {r m o : Int} {kvs : Ct} (ta : TalAt C H t d r m o kvs) (b : But t d H H') : ∀ {ts : List Addr} {ks : Ct}, Paired (PrAt K H) ts ks → Paired (PrAt K H') ts ks
  | _, _, .nil => .nil
  | _, _, .cons h q => .cons (seqT_but h ta b) (prs_but ta b q)
section
variable {P : Program} {w : World} {K : PySem.W.Frag} {mg : Str → Option Value} {base : Heap}
/-! Tally.pour -/
def spTpour (K : PySem.W.Frag) (C : Addr) : Sp := fun vs H Q _ => ∃ (t d s k : Addr) (r r2 : Int) (x y : Tl), vs = [.ref t, .ref s] ∧ TalAt C H t d r x.m x.o x.c ∧ NdZ x.c ∧ x.c.length ≤ 200 ∧ SqT K H s [.int r2, .int y.m, .int y.o, .ref k] ∧ CtAt K H k y.c ∧ y.c.length ≤ 200 ∧ 0 ≤ r ∧
  ∀ H' d', But t d H H' → (d' = d ∨ H d' = none) → TalAt C H' t d' r (pourT r y x).m (pourT r y x).o (pourT r y x).c → Q .non H'
theorem ok_Tpour (T : Blt mg) (L : Tal K mg) : FnOk P w K mg base CX0 2 L.fP L.dP ["self", "sketch"] (spTpour K L.C) := by
  have G_take : FnOk P w K mg base CX0 1 L.fT L.dT ["self", "amount"] (spTtake L.C) := ok_Ttake T L
  refine L.FP.ok scTpour (fun vs H Q E h => ?_) (fun cdv A outer s H vs Q E hr h => ?_)
  · obtain ⟨t, d, s, k, r, r2, x, y, rfl, _⟩ := h
    rfl
  · obtain ⟨t, d, s, k, r, r2, ⟨m, o, kvs⟩, ⟨m2, o2, ks⟩, rfl, ta, nd, hl, hs, ⟨ts, hS, hp⟩, hl2, hr0, q⟩ := h
    dsimp only at ta nd hl hs hp hl2 q
    have hu := hu_of hr
    obtain ⟨rn, rfl⟩ := Int.eq_ofNat_of_zero_le hr0
    refine ⟨_, (pss_cons (ps_asg (pv 1) (pg_tup (by rfl) (pgs_cons (pg_name (i := 2) scTpour.nd rfl (Or.inl rfl)) (pgs_cons (pg_name (i := 3) scTpour.nd rfl (Or.inl rfl)) (pgs_cons (pg_name (i := 4) scTpour.nd rfl (Or.inl rfl)) (pgs_cons (pg_name (i := 5) scTpour.nd rfl (Or.inl rfl)) pgs_nil))))))
    (pss_cons (ps_fldaug (pv 0) (pv 3) in_add)
    (pss_cons (ps_fldaug (pv 0) (pv 4) in_add)
    (pss_cons (ps_for PassesOwn.never rfl (pi_tup (pv 5)) (pg_tup (by rfl) (pgs_cons (pg_name (i := 6) scTpour.nd rfl (Or.inl rfl)) (pgs_cons (pg_name (i := 7) scTpour.nd rfl (Or.inl rfl)) pgs_nil)))
      (pss_one (ps_dput hu (pe_fld (pv 0) rfl) (pv 6) (pe_op op_add (pe_dget2 hu (pe_fld (pv 0) rfl) (pv 6) pe_int ⟨rfl, rfl, rfl, rfl⟩) (pv 7)) rfl)))
    (pss_one (ps_if (pt_cmpR op_gt (pe_callB call_lenD (by rfl) T.n_len (by decide +kernel) (pa_cons (pe_fld (pv 0) rfl) pa_nil)) (pe_fld (pv 0) rfl) (nomark _))
      (pss_cons (ps_set (i := 8) scTpour.nd rfl (Or.inl rfl) (pe_callBK (cr_sortedVR (b := true) rfl) (by rfl) T.n_sorted (by decide +kernel) (pa_cons (pe_bm0 PySem.F.plainAttrs_dict PySem.F.slot_dict_values PySem.F.type_dict_values mt_valuesK (pe_fld (pv 0) rfl)) pa_nil) (pk_cons pe_bl pk_nil)))
      (pss_one (ps_expr (pe_meth (pv 0) L.cl L.mT G_take (hr.mono (by omega)) L.bT .nil pass0 (pa_cons (pe_ix ix_list (pv 8) (pe_fld (pv 0) rfl) (fun _ _ => rfl)) pa_nil)))))
      pss_nil)))))), ?_⟩
    obtain ⟨⟨dx, ht⟩, hd⟩ := id ta
    have td := ta.ne
    refine ⟨.ref s, rfl, s, _, rfl, hs, rfl, _, _, rfl, _, _, rfl, _, _, rfl, _, _, rfl, rfl, ?_⟩
    refine ⟨.ref t, rfl, t, L.C, dx, _, _, rfl, ht, L.cl, L.nM, g_many _ _ _ _, .int m2, rfl, _, _, rfl, rfl, dx, _, ht, (by show 4 < 1000; decide), ?_⟩
    rw [fl_many]
    refine ⟨.ref t, rfl, t, L.C, dx, _, _, rfl, upd_same, L.cl, L.nO, g_off _ _ _ _, .int o2, rfl, _, _, rfl, rfl, dx, _, upd_same, (by show 4 < 1000; decide), ?_⟩
    rw [fl_off, upd_upd]
    have ta1 : TalAt L.C (upd H t (.ins L.C dx (fl rn (m + m2) (o + o2) d))) t d rn (m + m2) (o + o2) kvs := ⟨⟨dx, upd_same⟩, by rw [upd_ne td.symm]; exact hd⟩
    have bt1 : But t d H (upd H t (.ins L.C dx (fl rn (m + m2) (o + o2) d))) := (But.refl t d H).upT
    generalize upd H t (.ins L.C dx (fl rn (m + m2) (o + o2) d)) = H1 at ta1 bt1
    refine ⟨.ref k, rfl, k, rfl, ⟨_, seqT_but hS ta bt1⟩, for_tup (xs := ts.map V.ref) (fun i σ H3 => ∃ y6 y7 : Option V, σ = [some (.ref t), some (.ref s), some (.int r2), some (.int m2), some (.int o2), some (.ref k), y6, y7, none] ∧ But t d H H3 ∧ TalAt L.C H3 t d rn (m + m2) (o + o2) (sumsZ (ks.take i) kvs))
      ⟨none, none, rfl, bt1, ta1⟩ (fun i σ H3 _ ⟨_, _, _, b3, _⟩ => seqT_but hS ta b3) ?_ ?_⟩
    · rintro i v σ H3 hi ⟨y6, y7, rfl, b3, ta3⟩
      obtain ⟨tp, htp, rfl⟩ := map_at hi
      obtain ⟨e, he, hat⟩ := paired_at hp htp
      obtain ⟨⟨dx3, ht3⟩, hd3⟩ := id ta3
      refine ⟨tp, _, rfl, seqT_but hat ta b3, rfl, _, _, rfl, _, _, rfl, rfl, ?_⟩
      refine ⟨.ref t, rfl, t, L.C, dx3, _, _, rfl, ht3, L.cl, L.nC, g_counts _ _ _ _, d, rfl, .inl ⟨_, .inl hd3⟩, .str e.1, rfl, _, DGet.k (k := Sum.inr e.1) hd3, ?_⟩
      rw [getZ_val]
      refine ⟨.int e.2, rfl, (getZ (sumsZ (ks.take i) kvs) e.1).getD 0, e.2, ?_, rfl, ?_⟩
      · cases getZ (sumsZ (ks.take i) kvs) e.1 <;> rfl
      · have hlen := sumsZ_len (more := ks.take i) (kvs := kvs)
        rw [List.length_take] at hlen
        refine ⟨.ref t, rfl, t, L.C, dx3, _, _, rfl, ht3, L.cl, L.nC, g_counts _ _ _ _, .str e.1, rfl, d, _, rfl, DPut.k (k := Sum.inr e.1) hd3 (by rw [List.length_map, sizeLine_eq]; omega), ?_⟩
        rw [putZ_put]
        refine ⟨some (.str e.1), some (.int e.2), rfl, b3.upD, ⟨dx3, by rw [upd_ne td]; exact ht3⟩, ?_⟩
        rw [upd_same, sumsZ_snoc he]
        rfl
    · rintro σ H3 ⟨y6, y7, rfl, b3, ta3⟩
      have e1 : ks.take (ts.map V.ref).length = ks := by rw [List.length_map, Paired.length hp, List.take_length]
      rw [e1] at ta3
      obtain ⟨⟨dx3, ht3⟩, hd3⟩ := id ta3
      have hlen := sumsZ_len (more := ks) (kvs := kvs)
      have hnd := sumsZ_nd (more := ks) nd
      unfold pourT at q
      dsimp only at q
      generalize sumsZ ks kvs = all at ta3 hd3 hlen hnd q
      refine ⟨.ref t, rfl, t, L.C, dx3, _, _, rfl, ht3, L.cl, L.nC, g_counts _ _ _ _, d, _, rfl, hd3, .ref t, rfl, t, L.C, dx3, _, _, rfl, ht3, L.cl, L.nR, g_room _ _ _ _, _, _, rfl, rfl, _, rfl, ?_⟩
      rw [List.length_map]
      refine ite2 (fun hgt => ?_) fun hgt => ?_
      · have hlt : (rn : Int) < (all.length : Int) := of_decide_eq_true hgt
        rw [if_pos hlt] at q
        refine ⟨.ref t, rfl, t, L.C, dx3, _, _, rfl, ht3, L.cl, L.nC, g_counts _ _ _ _, .inr (.inr (.inl ⟨rfl, .inl ⟨_, hd3⟩⟩)), d, _, rfl, rfl, hd3, fun p np => ?_⟩
        refine ⟨p, d, all, rfl, rfl, upd_same, (by rw [upd_ne (ne_of_none hd3 np)]; exact hd3), fun ns l pm hdesc nl => ?_⟩
        have eu := fall_uniq pm hdesc
        have ta4 : TalAt L.C (upd (upd H3 p (valuesO p d)) l (.lst (ns.map V.int))) t d rn (m + m2) (o + o2) all := (ta3.same (same_upd np)).same (same_upd nl)
        obtain ⟨⟨dx4, ht4⟩, _⟩ := id ta4
        have hln : ns.length = all.length := by rw [pm.length_eq, List.length_map]
        have hat : (ns.map V.int)[rn]? = some (.int (fallZ all rn)) := by
          have h1 : rn < ns.length := by omega
          rw [List.getElem?_map, List.getElem?_eq_getElem h1]
          show some (V.int ns[rn]) = _
          unfold fallZ
          rw [← eu]
          simp [List.getD, h1]
        refine ⟨.ref t, rfl, t, dx4, _, rfl, ht4, g_no _ _ _ _ (by decide +kernel) (by decide +kernel) (by decide +kernel) (by decide +kernel), .ref l, rfl, .ref t, rfl, t, L.C, dx4, _, _, rfl, ht4, L.cl, L.nR, g_room _ _ _ _, l, _, _, _, rfl, rfl, sql upd_same, atI_nat hat, t, d, rn, m + m2, o + o2, fallZ all rn, all, rfl, ta4, hnd, (by omega), fun H5 d5 b5 nd5 ta5 => ?_⟩
        refine q H5 d5 (((b3.new np).new nl).trans b5) (.inr ?_) ta5
        have nd6 : H3 d5 = none := Same.gone (same_upd np) (Same.gone (same_upd nl) nd5)
        cases e : H d5 with
        | none => rfl
        | some u =>
          by_cases e1 : d5 = t
          · subst e1
            rw [ht3] at nd6
            cases nd6
          · by_cases e2 : d5 = d
            · subst e2
              rw [hd3] at nd6
              cases nd6
            · have := b3 d5 u e1 e2 e
              rw [nd6] at this
              cases this
      · have hlt : ¬ (rn : Int) < (all.length : Int) := fun z => hgt (decide_eq_true z)
        rw [if_neg hlt] at q
        exact q H3 d b3 (.inl rfl) ta3
end
end Kb


namespace Kb
open PySem PySem.Spec PyProof.Rows L2 SrtZ SrtO
/-! what stays true of a tally -/
structure TlOk (r : Int) (x : Tl) : Prop where
  nd : NdZ x.c
  len : (x.c.length : Int) ≤ r
  pos : ∀ e ∈ x.c, 1 ≤ e.2
  nm : ∀ e ∈ x.c, Nm e.1
theorem getZ_pos {kvs : Ct} {n : Str} (pos : ∀ e ∈ kvs, 1 ≤ e.2) : 0 ≤ (getZ kvs n).getD 0 := by
  unfold getZ
  cases h : kvs.find? fun e => decide (e.1 = n) with
  | none => exact Int.le_refl _
  | some e =>
    have := pos e (List.mem_of_find?_eq_some h)
    show 0 ≤ e.2
    omega
theorem putZ_mem {kvs : Ct} {n : Str} {v : Int} {e : Str × Int} (h : e ∈ putZ kvs n v) : e ∈ kvs ∨ e = (n, v) := by
  unfold putZ at h
  split at h
  · obtain ⟨f, hf, rfl⟩ := List.mem_map.mp h
    by_cases hn : f.1 = n
    · rw [if_pos hn]
      exact .inr (by rw [hn])
    · rw [if_neg hn]
      exact .inl hf
  · rcases List.mem_append.mp h with h | h
    · exact .inl h
    · exact .inr (List.mem_singleton.mp h)
theorem addZ_pos {kvs : Ct} {n : Str} {c : Int} (pos : ∀ e ∈ kvs, 1 ≤ e.2) (hc : 1 ≤ c) : ∀ e ∈ addZ kvs n c, 1 ≤ e.2 := fun e he => by
  rcases putZ_mem he with h | h
  · exact pos e h
  · have := getZ_pos (n := n) pos
    rw [h]
    show 1 ≤ _ + c
    omega
theorem addZ_nm {kvs : Ct} {n : Str} {c : Int} (nm : ∀ e ∈ kvs, Nm e.1) (hn : Nm n) : ∀ e ∈ addZ kvs n c, Nm e.1 := fun e he => by
  rcases putZ_mem he with h | h
  · exact nm e h
  · rw [h]
    exact hn
theorem addZ_len_old {kvs : Ct} {n : Str} {c : Int} (h : (getZ kvs n).isSome = true) : (addZ kvs n c).length = kvs.length := by
  have := congrArg List.length (putZ_keys_old (v := (getZ kvs n).getD 0 + c) h)
  rwa [List.length_map, List.length_map] at this
theorem takeZ_mem {a : Int} {kvs : Ct} {e : Str × Int} (h : e ∈ takeZ a kvs) : ∃ f ∈ kvs, a < f.2 ∧ e = (f.1, f.2 - a) := by
  unfold takeZ at h
  obtain ⟨f, hf, rfl⟩ := List.mem_map.mp h
  obtain ⟨h1, h2⟩ := List.mem_filter.mp hf
  exact ⟨f, h1, of_decide_eq_true h2, rfl⟩
theorem takeZ_pos {a : Int} {kvs : Ct} : ∀ e ∈ takeZ a kvs, 1 ≤ e.2 := fun e he => by
  obtain ⟨f, _, h, rfl⟩ := takeZ_mem he
  show 1 ≤ f.2 - a
  omega
theorem takeZ_nm {a : Int} {kvs : Ct} (nm : ∀ e ∈ kvs, Nm e.1) : ∀ e ∈ takeZ a kvs, Nm e.1 := fun e he => by
  obtain ⟨f, hf, _, rfl⟩ := takeZ_mem he
  exact nm f hf
/-- the least one goes when it is taken off -/
theorem takeZ_less {kvs : Ct} (ne : kvs ≠ []) : (takeZ (mnC kvs) kvs).length < kvs.length := by
  obtain ⟨h1, _⟩ := mnC_spec ne
  obtain ⟨e, he, h⟩ := List.mem_map.mp h1
  unfold takeZ
  rw [List.length_map]
  have h2 : (kvs.filter fun e => decide (mnC kvs < e.2)).length ≤ kvs.length := List.length_filter_le _ _
  rcases Nat.lt_or_ge (kvs.filter fun e => decide (mnC kvs < e.2)).length kvs.length with h3 | h3
  · exact h3
  · have h4 : (kvs.filter fun e => decide (mnC kvs < e.2)) = kvs := List.filter_sublist.eq_of_length (by omega)
    rw [← h4] at he
    have := of_decide_eq_true (List.mem_filter.mp he).2
    omega
theorem feedT_ok {r c : Int} {n : Str} {x : Tl} (h : TlOk r x) (hr : 1 ≤ r) (hn : Nm n) (hc : 0 ≤ c) : TlOk r (feedT r n c x) := by
  obtain ⟨nd, len, pos, nm⟩ := h
  unfold feedT
  cases hf : full r n x.c with
  | true =>
    have hfull : (x.c.length : Int) = r := by
      unfold full at hf
      rw [Bool.and_eq_true] at hf
      exact of_decide_eq_true hf.2
    have ne : x.c ≠ [] := by
      intro e
      rw [e] at hfull
      have : (0 : Int) = r := hfull
      omega
    rw [if_pos rfl]
    dsimp only
    generalize ha : (if mnC x.c < c then mnC x.c else c) = a
    by_cases hp : 0 < c - a
    · have ea : a = mnC x.c := by
        by_cases hm : mnC x.c < c
        · rw [if_pos hm] at ha
          exact ha.symm
        · rw [if_neg hm] at ha
          omega
      have hl := takeZ_less ne
      have hl2 := addZ_len (kvs := takeZ a x.c) (n := n) (c := c - a)
      refine ⟨?_, ?_, ?_, ?_⟩ <;> dsimp only <;> rw [if_pos hp]
      · exact addZ_nd (takeZ_nd nd)
      · rw [ea] at hl2 ⊢
        omega
      · exact addZ_pos takeZ_pos (by omega)
      · exact addZ_nm (takeZ_nm nm) hn
    · refine ⟨?_, ?_, ?_, ?_⟩ <;> dsimp only <;> rw [if_neg hp]
      · exact takeZ_nd nd
      · have := takeZ_len (a := a) (kvs := x.c)
        omega
      · exact takeZ_pos
      · exact takeZ_nm nm
  | false =>
    rw [if_neg (by decide)]
    by_cases hp : 0 < c
    · refine ⟨?_, ?_, ?_, ?_⟩ <;> dsimp only <;> rw [if_pos hp]
      · exact addZ_nd nd
      · cases hg : getZ x.c n with
        | some v =>
          rw [addZ_len_old (by rw [hg]; rfl)]
          exact len
        | none =>
          have h1 := addZ_len (kvs := x.c) (n := n) (c := c)
          unfold full at hf
          rw [hg] at hf
          have h2 : ¬ (x.c.length : Int) = r := by
            intro e
            rw [decide_eq_true e] at hf
            cases hf
          omega
      · exact addZ_pos pos (by omega)
      · exact addZ_nm nm hn
    · refine ⟨?_, ?_, ?_, ?_⟩ <;> dsimp only <;> rw [if_neg hp]
      · exact nd
      · exact len
      · exact pos
      · exact nm
def feedsT (r : Int) (zs : List Str) (x : Tl) : Tl := zs.foldl (fun x n => feedT r n 1 x) x
theorem feedsT_snoc {r : Int} {zs : List Str} {x : Tl} {i : Nat} {n : Str} (h : zs[i]? = some n) : feedsT r (zs.take (i + 1)) x = feedT r n 1 (feedsT r (zs.take i) x) := by
  unfold feedsT
  rw [List.take_add_one, h, List.foldl_append]
  rfl
theorem feedsT_ok {r : Int} (hr : 1 ≤ r) : ∀ {zs : List Str} {x : Tl}, TlOk r x → (∀ z ∈ zs, Nm z) → TlOk r (feedsT r zs x)
  | [], _, h, _ => h
  | z :: zs, x, h, hn => feedsT_ok (zs := zs) hr (feedT_ok h hr (hn z List.mem_cons_self) (by decide)) fun y hy => hn y (List.mem_cons_of_mem _ hy)
def tl0 : Tl := ⟨0, 0, []⟩
theorem tl0_ok {r : Int} (hr : 1 ≤ r) : TlOk r tl0 := ⟨List.nodup_nil, (by show (0 : Int) ≤ r; omega), (fun _ h => nomatch h), (fun _ h => nomatch h)⟩
theorem sumsZ_pos : ∀ {more kvs : Ct}, (∀ e ∈ more, 1 ≤ e.2) → (∀ e ∈ kvs, 1 ≤ e.2) → ∀ e ∈ sumsZ more kvs, 1 ≤ e.2
  | [], _, _, h => h
  | f :: r, kvs, hm, h => sumsZ_pos (more := r) (fun e he => hm e (List.mem_cons_of_mem _ he)) (addZ_pos h (hm f List.mem_cons_self))
theorem sumsZ_nm : ∀ {more kvs : Ct}, (∀ e ∈ more, Nm e.1) → (∀ e ∈ kvs, Nm e.1) → ∀ e ∈ sumsZ more kvs, Nm e.1
  | [], _, _, h => h
  | f :: r, kvs, hm, h => sumsZ_nm (more := r) (fun e he => hm e (List.mem_cons_of_mem _ he)) (addZ_nm h (hm f List.mem_cons_self))
/-- what is above the count at place r is at most r names -/
theorem fall_len {kvs : Ct} {r : Nat} (h : r < kvs.length) : (takeZ (fallZ kvs r) kvs).length ≤ r := by
  unfold takeZ
  rw [List.length_map]
  have hp := List.mergeSort_perm (kvs.map (·.2)) (fun a b => decide (b ≤ a))
  have hs := List.pairwise_mergeSort (le := fun (a b : Int) => decide (b ≤ a)) (fun a b c h1 h2 => by simp at *; omega) (fun a b => by simp; omega) (kvs.map (·.2))
  have e1 : (kvs.filter fun e => decide (fallZ kvs r < e.2)).length = ((kvs.map (·.2)).filter fun c => decide (fallZ kvs r < c)).length := by
    rw [List.filter_map, List.length_map]
    rfl
  rw [e1, ← (hp.filter _).length_eq]
  unfold fallZ
  rw [Int.toNat_natCast]
  generalize (kvs.map (·.2)).mergeSort (fun a b => decide (b ≤ a)) = s at hp hs
  have hl : r < s.length := by rw [hp.length_eq, List.length_map]; exact h
  have eg : s.getD r 0 = s[r] := by simp [List.getD, hl]
  rw [eg]
  generalize hv : s[r] = v
  have h1 : ((s.take r).filter fun c => decide (v < c)).length ≤ r := by
    have := List.length_filter_le (fun c => decide (v < c)) (s.take r)
    rw [List.length_take] at this
    omega
  have h2 : ((s.drop r).filter fun c => decide (v < c)) = [] := by
    rw [List.filter_eq_nil_iff]
    intro c hc z
    have z := of_decide_eq_true z
    have hd : (s.drop r).Pairwise fun a b => decide (b ≤ a) = true := hs.sublist (List.drop_sublist _ _)
    rw [List.drop_eq_getElem_cons hl] at hc hd
    rcases List.mem_cons.mp hc with e | hc
    · omega
    · have := of_decide_eq_true ((List.pairwise_cons.mp hd).1 c hc)
      omega
  have e3 : (s.filter fun c => decide (v < c)) = ((s.take r).filter fun c => decide (v < c)) ++ ((s.drop r).filter fun c => decide (v < c)) := by
    rw [← List.filter_append, List.take_append_drop]
  rw [e3, h2, List.append_nil]
  exact h1
theorem pourT_ok {r : Int} {x y : Tl} (hx : TlOk r x) (hy : TlOk r y) (hr : 0 ≤ r) : TlOk r (pourT r y x) := by
  obtain ⟨rn, rfl⟩ := Int.eq_ofNat_of_zero_le hr
  unfold pourT
  dsimp only
  have nd := sumsZ_nd (more := y.c) hx.nd
  have pos := sumsZ_pos hy.pos hx.pos
  have nm := sumsZ_nm hy.nm hx.nm
  generalize sumsZ y.c x.c = all at nd pos nm
  by_cases h : (rn : Int) < (all.length : Int)
  · rw [if_pos h]
    refine ⟨takeZ_nd nd, ?_, takeZ_pos, takeZ_nm nm⟩
    have := fall_len (kvs := all) (r := rn) (by omega)
    dsimp only
    omega
  · rw [if_neg h]
    exact ⟨nd, (by dsimp only; omega), pos, nm⟩
/-! the order of names -/
def srtZ (kvs : Ct) : Ct := kvs.mergeSort fun a b => !ltZ b.1 a.1
theorem srtZ_perm (kvs : Ct) : (srtZ kvs).Perm kvs := List.mergeSort_perm _ _
theorem srtZ_asc {kvs : Ct} (nd : NdZ kvs) : Asc (srtZ kvs) := by
  have hs := List.pairwise_mergeSort (le := fun (a b : Str × Int) => !ltZ b.1 a.1) (fun a b c h1 h2 => ?_) (fun a b => ?_) kvs
  · have nd2 : ((srtZ kvs).map (·.1)).Nodup := ((srtZ_perm kvs).map (·.1)).nodup_iff.mpr nd
    rw [List.Nodup, List.pairwise_map] at nd2
    refine List.Pairwise.imp₂ (fun {a b} h1 h2 => ?_) hs nd2
    rcases bcase (ltZ a.1 b.1) with q | q
    · exact q
    · have h3 : ltZ b.1 a.1 = false := by simpa using h1
      exact absurd (ltZ_tri q h3) h2
  · have h1 : ltZ b.1 a.1 = false := by simpa using h1
    have h2 : ltZ c.1 b.1 = false := by simpa using h2
    show (!ltZ c.1 a.1) = true
    rcases bcase (ltZ c.1 a.1) with q | q
    · rcases bcase (ltZ a.1 b.1) with p | p
      · have := ltZ_trans q p
        rw [h2] at this
        cases this
      · have e := ltZ_tri p h1
        rw [e, h2] at q
        cases q
    · rw [q]
      rfl
  · show ((!ltZ b.1 a.1) || (!ltZ a.1 b.1)) = true
    rcases bcase (ltZ b.1 a.1) with q | q
    · rw [ltZ_asym q]
      simp
    · rw [q]
      rfl
theorem srtZ_of {ys kvs : Ct} (h : Asc ys) (p : ys.Perm kvs) (nd : NdZ kvs) : ys = srtZ kvs := asc_uniq h (srtZ_asc nd) (p.trans (srtZ_perm kvs).symm)
def skT (x : Tl) : Tl := ⟨x.m, x.o, srtZ x.c⟩
theorem skT_ok {r : Int} {x : Tl} (h : TlOk r x) : TlOk r (skT x) := by
  have p := srtZ_perm x.c
  refine ⟨(p.map (·.1)).nodup_iff.mpr h.nd, ?_, fun e he => h.pos e (p.mem_iff.mp he), fun e he => h.nm e (p.mem_iff.mp he)⟩
  show ((srtZ x.c).length : Int) ≤ r
  rw [p.length_eq]
  exact h.len
/-! a tree's pile, the uppermost first -/
def stepT (r : Int) (st : List Tl) : Stp → List Tl
  | .put zs => feedsT r zs tl0 :: st
  | .pour => match st with
    | x :: y :: st => pourT r (skT x) y :: st
    | st => st
def runT (r : Int) (l : List Stp) : List Tl := l.foldl (stepT r) []
theorem runT_snoc {r : Int} {l : List Stp} {i : Nat} {t : Stp} (h : l[i]? = some t) : runT r (l.take (i + 1)) = stepT r (runT r (l.take i)) t := by
  unfold runT
  rw [List.take_add_one, h, List.foldl_append]
  rfl
end Kb


namespace Kb
open PySem PySem.Spec PyProof.Rows L2 SrtZ SrtO
abbrev sP_sketch_of : Stmt := topS 25
abbrev NP_sketch_of : List Str := ["room", "tree", "pile", "step", "tally", "name", "above"]
theorem scP_sketch_of : FnScope ["room", "tree", "pile", "step", "tally", "name", "above"] ["room", "tree"] (defScope sP_sketch_of) := ⟨rfl, rfl, rfl, by decide +kernel, rfl, by decide +kernel, by decide +kernel⟩
abbrev DnSketchOf (K : PySem.W.Frag) (mg : Str → Option Value) := Dn K mg "sketch_of" sP_sketch_of ["room", "tree"]
/-- a tally on the pile: its instance, its dict, what it holds -/
structure Pe where
  t : Addr
  d : Addr
  x : Tl
structure PileAt (C : Addr) (r : Int) (H : Hp) (l : List Pe) : Prop where
  at_ : ∀ e ∈ l, TalAt C H e.t e.d r e.x.m e.x.o e.x.c
  ok : ∀ e ∈ l, TlOk r e.x
  nt : (l.map (·.t)).Nodup
  nd : (l.map (·.d)).Nodup
theorem PileAt.same {C : Addr} {r : Int} {H H' : Hp} {l : List Pe} (h : PileAt C r H l) (s : Same H H') : PileAt C r H' l := ⟨fun e he => (h.at_ e he).same s, h.ok, h.nt, h.nd⟩
theorem TalAt.keep {C : Addr} {H H' : Hp} {t d : Addr} {r m o : Int} {kvs : Ct} (h : TalAt C H t d r m o kvs) (k : ∀ b u, (b = t ∨ b = d) → H b = some u → H' b = some u) : TalAt C H' t d r m o kvs := by
  obtain ⟨⟨dx, e⟩, e2⟩ := h
  exact ⟨⟨dx, k _ _ (.inl rfl) e⟩, k _ _ (.inr rfl) e2⟩
theorem run_len {r : Int} {l : List Stp} (two : ∀ i, l[i]? = some .pour → 2 ≤ hgt (l.take i)) : ∀ i, i ≤ l.length → ((runT r (l.take i)).length : Int) = hgt (l.take i)
  | 0, _ => rfl
  | i + 1, h => by
    have ih := run_len (r := r) two i (by omega)
    obtain ⟨t, ht⟩ : ∃ t, l[i]? = some t := ⟨l[i], List.getElem?_eq_getElem (by omega)⟩
    rw [runT_snoc ht, hgt_snoc ht]
    cases t with
    | put zs =>
      show (((feedsT r zs tl0 :: runT r (l.take i)).length : Nat) : Int) = _ + 1
      rw [List.length_cons]
      omega
    | pour =>
      have h2 := two i ht
      match hr : runT r (l.take i) with
      | [] => rw [hr] at ih; simp at ih; omega
      | [x] => rw [hr] at ih; simp at ih; omega
      | x :: y :: st =>
        rw [hr] at ih
        show (((pourT r (skT x) y :: st).length : Nat) : Int) = _ - 1
        rw [List.length_cons] at ih ⊢
        rw [List.length_cons] at ih
        omega
theorem run_short {r : Int} (l : List Stp) : (runT r l).length ≤ l.length := by
  have gen : ∀ (l : List Stp) (st : List Tl), (l.foldl (stepT r) st).length ≤ st.length + l.length := by
    intro l
    induction l with
    | nil => exact fun st => Nat.le_refl _
    | cons t l ih =>
      intro st
      have h := ih (stepT r st t)
      have h2 : (stepT r st t).length ≤ st.length + 1 := by
        cases t with
        | put zs => exact Nat.le_refl _
        | pour =>
          match st with
          | [] => exact Nat.zero_le _
          | [_] => show 1 ≤ 1 + 1; omega
          | _ :: _ :: st => show st.length + 1 ≤ st.length + 1 + 1 + 1; omega
      show (l.foldl (stepT r) (stepT r st t)).length ≤ st.length + (l.length + 1)
      omega
  have := gen l []
  simpa [runT] using this
theorem refs_rev (l : List Pe) (e : Pe) : ((e :: l).reverse.map fun e => V.ref e.t) = (l.reverse.map fun e => V.ref e.t) ++ [V.ref e.t] := by
  rw [List.reverse_cons, List.map_append]
  rfl
section
variable {P : Program} {w : World} {K : PySem.W.Frag} {mg : Str → Option Value} {base : Heap}
def spSketchOf (K : PySem.W.Frag) : Sp := fun vs H Q _ => ∃ (a : Addr) (r : Int) (l : List Stp) (x : Tl), vs = [.int r, .ref a] ∧ 1 ≤ r ∧ r ≤ 64 ∧ TreeAt K H a l ∧ Tree l ∧ (∀ zs, .put zs ∈ l → ∀ z ∈ zs, Nm z) ∧ runT r l = [x] ∧
  (TlOk r x → ∀ H' s k (ts : List Addr), Same H H' → H s = none → H' s = some (.tup [.int r, .int x.m, .int x.o, .ref k]) → Ptp H' k (ts.map V.ref) → Paired (fun (t : Addr) (y : Str × Int) => H' t = some (.tup [.str y.1, .int y.2])) ts (srtZ x.c) → Q (.ref s) H')
theorem ok_sketch_of (T : Blt mg) (cM : Cst mg "MOST_ROOM" (.int 64)) (cL : Cst mg "LONGEST_NAME" (.int 8)) (cS' : Cst mg "MOST_STEPS" (.int 5000)) (cI : Cst mg "MOST_ITEMS" (.int 50000)) (dP_is_int : DnIsInt K mg) (dP_is_room : DnIsRoom K mg) (dP_is_name : DnIsName K mg) (dP_is_stream : DnIsStream K mg)
    (dP_is_put : DnIsPut K mg) (dP_is_pour : DnIsPour K mg) (dP_is_tree : DnIsTree K mg) (dP_bare : DnBare K mg) (L : Tal K mg) (d : DnSketchOf K mg) : FnOk P w K mg base CX0 5 d.f d.fd ["room", "tree"] (spSketchOf K) := by
  have GP_is_room : FnOk P w K mg base CX0 2 dP_is_room.f dP_is_room.fd ["thing"] spIsRoom := ok_is_room T cM dP_is_int dP_is_room
  have GP_is_tree : FnOk P w K mg base CX0 4 dP_is_tree.f dP_is_tree.fd ["thing"] (spIsTree K) := ok_is_tree T cL cS' cI dP_is_name dP_is_stream dP_is_put dP_is_pour dP_is_tree
  have GP_bare : FnOk P w K mg base CX0 3 dP_bare.f dP_bare.fd ["room"] spBare := ok_bare T cM dP_is_int dP_is_room dP_bare
  have GI : FnOk P w K mg base CX0 1 L.fI L.dI ["self", "sketch"] (spTinit K L.C) := ok_Tinit T L
  have Gsketch : FnOk P w K mg base CX0 1 L.fS L.dS ["self"] (spTsketch L.C) := ok_Tsketch T L
  have Gfeed : FnOk P w K mg base CX0 2 L.fF L.dF ["self", "name", "times"] (spTfeed L.C) := ok_Tfeed T L
  have Gpour : FnOk P w K mg base CX0 2 L.fP L.dP ["self", "sketch"] (spTpour K L.C) := ok_Tpour T L
  refine d.F.ok scP_sketch_of (fun vs H Q E h => ?_) (fun cdv A outer s H vs Q E hr h => ?_)
  · obtain ⟨a, r, l, x, rfl, _⟩ := h
    rfl
  · obtain ⟨a, r, l, xe, rfl, hr1, hr2, ht, tr, hN, hrun, q⟩ := h
    refine ⟨_, (pss_cons (ps_if (pt_not (pt_val (pe_call GP_is_room (hr.mono (by omega)) (by rfl) dP_is_room.g dP_is_room.F.kp dP_is_room.b .nil pass0 (pa_cons (pv 0) pa_nil))))
      (pss_one ps_never)
      pss_nil)
    (pss_cons (ps_if (pt_not (pt_val (pe_call GP_is_tree (hr.mono (by omega)) (by rfl) dP_is_tree.g dP_is_tree.F.kp dP_is_tree.b .nil pass0 (pa_cons (pv 1) pa_nil))))
      (pss_one ps_never)
      pss_nil)
    (pss_cons (ps_set (i := 2) scP_sketch_of.nd rfl (Or.inl rfl) (pe_lst pa_nil))
    (pss_cons (ps_for PassesOwn.never rfl (pi_tup (pv 1)) (pg_name (i := 3) scP_sketch_of.nd rfl (Or.inl rfl))
      (pss_one (ps_if (pt_cmpR op_eq (pe_ix ix_tup (pv 3) pe_int (fun _ _ => rfl)) pe_str (nomark _))
        (pss_cons (ps_set (i := 4) scP_sketch_of.nd rfl (Or.inl rfl) (pe_make L.mI GI (hr.mono (by omega)) (by rfl) L.g L.bI .nil pass0 (pa_cons (pe_call GP_bare (hr.mono (by omega)) (by rfl) dP_bare.g dP_bare.F.kp dP_bare.b .nil pass0 (pa_cons (pv 0) pa_nil)) pa_nil)))
        (pss_cons (ps_for PassesOwn.never rfl (pi_tup (pe_ix ix_tup (pv 3) pe_int (fun _ _ => rfl))) (pg_name (i := 5) scP_sketch_of.nd rfl (Or.inl rfl))
          (pss_one (ps_expr (pe_meth (pv 4) L.cl L.mF Gfeed (hr.mono (by omega)) L.bF .nil pass0 (pa_cons (pv 5) (pa_cons pe_int pa_nil))))))
        (pss_one (ps_expr (pe_bm PySem.F.plainAttrs_list PySem.F.slot_list_append PySem.F.type_list_append mt_append (pv 2) (pa_cons (pv 4) pa_nil))))))
        (pss_cons (ps_set (i := 6) scP_sketch_of.nd rfl (Or.inl rfl) (pe_bm0 PySem.F.plainAttrs_list PySem.F.slot_list_pop PySem.F.type_list_pop mt_pop (pv 2)))
        (pss_one (ps_expr (pe_meth (pe_ix ix_list (pv 2) (pe_un un_neg pe_int) (fun _ _ => rfl)) L.cl L.mP Gpour (hr.mono (by omega)) L.bP .nil pass0 (pa_cons (pe_meth0 (pv 6) L.cl L.mS Gsketch (hr.mono (by omega)) L.bS .nil pass0) pa_nil))))))))
    (pss_one (ps_ret (pe_meth0 (pe_ix ix_list (pv 2) pe_int (fun _ _ => rfl)) L.cl L.mS Gsketch (hr.mono (by omega)) L.bS .nil pass0))))))), ?_⟩
    refine ⟨.int r, rfl, r, rfl, true, ?_, iteF ?_⟩
    · rw [decide_eq_true hr1, decide_eq_true hr2]
      rfl
    refine ⟨.ref a, rfl, a, l, rfl, ht, tr, fun H1 s1 => ⟨true, rfl, iteF ⟨(by show 0 ≤ sizeLine; decide), fun p np => ?_⟩⟩⟩
    have np0 : H p = none := Same.gone s1 np
    have s2 : Same H (upd H1 p (.lst [])) := Same.new s1 np
    obtain ⟨vs, hS, hp⟩ := ht
    have hl : vs.length = l.length := Paired.length hp
    refine ⟨.ref a, rfl, a, rfl, ⟨_, seqT hS s2⟩, for_tup (xs := vs) (fun i σ H3 => ∃ (pl : List Pe) (y3 y4 y5 y6 : Option V), σ = [some (.int r), some (.ref a), some (.ref p), y3, y4, y5, y6] ∧ Same H H3 ∧
      H3 p = some (.lst (pl.reverse.map fun e => V.ref e.t)) ∧ PileAt L.C r H3 pl ∧ pl.map (·.x) = runT r (l.take i) ∧ (∀ e ∈ pl, H e.t = none ∧ H e.d = none))
      ⟨[], none, none, none, none, rfl, s2, upd_same, ⟨(fun _ h => nomatch h), (fun _ h => nomatch h), List.nodup_nil, List.nodup_nil⟩, rfl, (fun _ h => nomatch h)⟩ (fun i σ H3 _ ⟨_, _, _, _, _, _, s3, _⟩ => seqT hS s3) ?_ ?_⟩
    · rintro i v σ H3 hi ⟨pl, y3, y4, y5, y6, rfl, s3, hpl, pa, hrn, hfr⟩
      obtain ⟨st, hst, hat⟩ := paired_at hp hi
      have hat3 := hat.same s3
      have hrs := runT_snoc (r := r) hst
      have hi2 : i < l.length := (List.getElem?_eq_some_iff.mp hst).1
      cases st with
      | put zs =>
        have hNz := hN zs (List.mem_of_getElem? hst)
        obtain ⟨b, c, rfl, h1, h2, _, hzl⟩ := hat3
        refine ⟨.ref b, rfl, b, _, _, _, rfl, rfl, h1, atI_nat (j := 0) rfl, rfl, true, congrArg V.bl (decide_eq_true rfl), iteT ?_⟩
        refine ⟨.int r, rfl, r, rfl, hr1, hr2, fun H4 sk k s4 nsk hsk hk t dx nt ndx hne => ?_⟩
        have s5 : Same H4 (upd (upd H4 dx (.own t)) t (.ins L.C dx [])) := Same.new (same_upd ndx) (by rw [upd_ne hne.symm]; exact nt)
        refine ⟨t, dx, sk, k, r, 0, 0, [], [], rfl, upd_same, .inl (.inl (s5 _ _ hsk)), hk.same s5, .nil, List.nodup_nil, fun H5 d5 kp5 nd5 ta5 => ⟨rfl, ?_⟩⟩
        have nt3 : H3 t = none := Same.gone s4 nt
        have s35 : Same H3 H5 := fun q u e => kp5 q u (ne_of_none e nt3) (s5 q u (s4 q u e))
        have nd53 : H3 d5 = none := Same.gone s4 (Same.gone s5 nd5)
        refine ⟨.ref b, rfl, b, _, _, _, rfl, rfl, seqT h1 s35, atI_nat (j := 1) rfl, c, rfl, ⟨_, seqT h2 s35⟩, for_tup (xs := zs.map V.str) (fun j σ H6 => ∃ (d6 : Addr) (z5 : Option V), σ = [some (.int r), some (.ref a), some (.ref p), some (.ref b), some (.ref t), z5, y6] ∧ Same H3 H6 ∧ H3 d6 = none ∧ TlOk r (feedsT r (zs.take j) tl0) ∧
          TalAt L.C H6 t d6 r (feedsT r (zs.take j) tl0).m (feedsT r (zs.take j) tl0).o (feedsT r (zs.take j) tl0).c) ⟨d5, y5, rfl, s35, nd53, tl0_ok hr1, ta5⟩ (fun j σ H6 _ ⟨_, _, _, s6, _⟩ => seqT h2 s6) ?_ ?_⟩
        · rintro j v σ H6 hj ⟨d6, z5, rfl, s6, nd6, ok6, ta6⟩
          obtain ⟨z, hz, rfl⟩ := map_at hj
          have hfs := feedsT_snoc (r := r) (x := tl0) hz
          have hok7 := feedT_ok ok6 hr1 (hNz z (List.mem_of_getElem? hz)) (c := 1) (by decide)
          rw [← hfs] at hok7
          obtain ⟨⟨dx6, ht6⟩, _⟩ := id ta6
          have hle := ok6.len
          refine ⟨.ref t, rfl, t, dx6, _, rfl, ht6, g_no _ _ _ _ (by decide +kernel) (by decide +kernel) (by decide +kernel) (by decide +kernel), .str z, rfl, t, d6, r, 1, z, feedsT r (zs.take j) tl0, rfl, ta6, ok6.nd, (by omega), hr1, fun H7 d7 b7 hd7 ta7 => ?_⟩
          rw [← hfs] at ta7
          refine ⟨d7, some (.str z), rfl, fun q u e => b7 q u (ne_of_none e nt3) (ne_of_none e nd6) (s6 q u e), ?_, hok7, ta7⟩
          rcases hd7 with rfl | hd7
          · exact nd6
          · exact Same.gone s6 hd7
        · rintro σ H6 ⟨d6, z5, rfl, s6, nd6, ok6, ta6⟩
          rw [List.length_map, List.take_length] at ok6 ta6
          have hp6 := s6 _ _ hpl
          have hplen : pl.length ≤ 5000 := by
            have h1 : (pl.map (·.x)).length = (runT r (l.take i)).length := by rw [hrn]
            rw [List.length_map] at h1
            have h2 := run_short (r := r) (l.take i)
            rw [List.length_take] at h2
            have := tr.len
            omega
          refine ⟨.ref p, rfl, .inl ⟨rfl, _, sql hp6⟩, .ref t, rfl, p, _, _, rfl, rfl, hp6, (by rw [List.length_map, List.length_reverse, sizeLine_eq]; omega), ?_⟩
          have keepT : ∀ {t d : Addr} {r m o : Int} {kvs : Ct} {u : HO}, TalAt L.C H6 t d r m o kvs → TalAt L.C (upd H6 p u) t d r m o kvs := fun {t d r m o kvs u} h => by
            obtain ⟨⟨dx, e⟩, e2⟩ := h
            exact ⟨⟨dx, by rw [upd_ne (ne_of e hp6 (by intro z; cases z))]; exact e⟩, by rw [upd_ne (ne_of e2 hp6 (by intro z; cases z))]; exact e2⟩
          have hnt : ∀ e ∈ pl, e.t ≠ t := fun e he => by
            obtain ⟨⟨dxe, e1⟩, _⟩ := pa.at_ e he
            exact ne_of_none e1 nt3
          have hndd : ∀ e ∈ pl, e.d ≠ d6 := fun e he => ne_of_none (pa.at_ e he).dc nd6
          refine ⟨⟨t, d6, feedsT r zs tl0⟩ :: pl, some (.ref b), some (.ref t), z5, y6, rfl, fun q u e => ?_, ?_, ⟨fun e he => ?_, fun e he => ?_, ?_, ?_⟩, ?_, fun e he => ?_⟩
          · rw [upd_ne (ne_of_none e np0)]
            exact s6 q u (s3 q u e)
          · rw [upd_same, refs_rev]
          · rcases List.mem_cons.mp he with rfl | he
            · exact keepT ta6
            · exact keepT ((pa.at_ e he).same s6)
          · rcases List.mem_cons.mp he with rfl | he
            · exact ok6
            · exact pa.ok e he
          · rw [List.map_cons, List.nodup_cons]
            refine ⟨fun z => ?_, pa.nt⟩
            obtain ⟨e, he, h⟩ := List.mem_map.mp z
            exact hnt e he h
          · rw [List.map_cons, List.nodup_cons]
            refine ⟨fun z => ?_, pa.nd⟩
            obtain ⟨e, he, h⟩ := List.mem_map.mp z
            exact hndd e he h
          · rw [List.map_cons, hrn, hrs]
            rfl
          · rcases List.mem_cons.mp he with rfl | he
            · exact ⟨Same.gone s3 nt3, Same.gone s3 nd6⟩
            · exact hfr e he
      | pour =>
        obtain ⟨b, rfl, h1⟩ := hat3
        have h2 := tr.two i hst
        have hlen := run_len (r := r) tr.two i (Nat.le_of_lt hi2)
        rw [← hrn, List.length_map] at hlen
        match pl, hlen, pa, hpl, hrn, hfr with
        | [], hlen, _, _, _, _ => simp at hlen; omega
        | [_], hlen, _, _, _, _ => simp at hlen; omega
        | e1 :: e2 :: pl, hlen, pa, hpl, hrn, hfr =>
          refine ⟨.ref b, rfl, b, _, _, _, rfl, rfl, h1, atI_nat (j := 0) rfl, rfl, false, congrArg V.bl (decide_eq_false stream_ne), iteF ?_⟩
          rw [refs_rev] at hpl
          refine ⟨.ref p, rfl, .inl ⟨rfl, _, sql hpl⟩, p, _, .ref e1.t, rfl, rfl, hpl, by simp, ?_⟩
          rw [List.dropLast_concat, refs_rev]
          have keepT : ∀ {t d : Addr} {r m o : Int} {kvs : Ct} {u : HO}, TalAt L.C H3 t d r m o kvs → TalAt L.C (upd H3 p u) t d r m o kvs := fun {t d r m o kvs u} h => by
            obtain ⟨⟨dx, e⟩, e2⟩ := h
            exact ⟨⟨dx, by rw [upd_ne (ne_of e hpl (by intro z; cases z))]; exact e⟩, by rw [upd_ne (ne_of e2 hpl (by intro z; cases z))]; exact e2⟩
          have m1 : e1 ∈ e1 :: e2 :: pl := List.mem_cons_self
          have m2 : e2 ∈ e1 :: e2 :: pl := List.mem_cons_of_mem _ List.mem_cons_self
          have ta1 := keepT (u := .lst ((pl.reverse.map fun e => V.ref e.t) ++ [V.ref e2.t])) (pa.at_ e1 m1)
          have ta2 := keepT (u := .lst ((pl.reverse.map fun e => V.ref e.t) ++ [V.ref e2.t])) (pa.at_ e2 m2)
          have taR : ∀ e ∈ pl, TalAt L.C (upd H3 p (.lst ((pl.reverse.map fun e => V.ref e.t) ++ [V.ref e2.t]))) e.t e.d r e.x.m e.x.o e.x.c := fun e he => keepT (pa.at_ e (List.mem_cons_of_mem _ (List.mem_cons_of_mem _ he)))
          have hp4 : (upd H3 p (.lst ((pl.reverse.map fun e => V.ref e.t) ++ [V.ref e2.t]))) p = some (.lst ((pl.reverse.map fun e => V.ref e.t) ++ [V.ref e2.t])) := upd_same
          have s4 : Same H (upd H3 p (.lst ((pl.reverse.map fun e => V.ref e.t) ++ [V.ref e2.t]))) := Same.put s3 np0
          generalize upd H3 p (.lst ((pl.reverse.map fun e => V.ref e.t) ++ [V.ref e2.t])) = H4 at ta1 ta2 taR hp4 s4
          obtain ⟨⟨dx1, ht1⟩, _⟩ := id ta1
          obtain ⟨⟨dx2, ht2⟩, hdd2⟩ := id ta2
          have ok1 := pa.ok e1 m1
          have ok2 := pa.ok e2 m2
          have l1 := ok1.len
          have l2 := ok2.len
          refine ⟨.ref p, rfl, _, rfl, p, _, _, _, rfl, rfl, sql hp4, atI_last _ _, e2.t, dx2, _, rfl, ht2, g_no _ _ _ _ (by decide +kernel) (by decide +kernel) (by decide +kernel) (by decide +kernel), ?_⟩
          refine ⟨.ref e1.t, rfl, e1.t, dx1, _, rfl, ht1, g_no _ _ _ _ (by decide +kernel) (by decide +kernel) (by decide +kernel) (by decide +kernel), e1.t, e1.d, r, e1.x.m, e1.x.o, e1.x.c, rfl, ta1, ok1.nd, (by omega), fun H5 s5 k5 ys ts sm5 ns5 hs5 hk5 hpr pm asc => ?_⟩
          have eys := srtZ_of asc pm ok1.nd
          have hpr2 : Paired (PrAt K H5) ts ys := by
            have gen : ∀ {ts : List Addr} {ys : Ct}, Paired (fun (t : Addr) (y : Str × Int) => H5 t = some (.tup [.str y.1, .int y.2])) ts ys → Paired (PrAt K H5) ts ys := by
              intro ts ys h
              induction h with
              | nil => exact .nil
              | cons h _ ih => exact .cons (.inl (.inl h)) ih
            exact gen hpr
          refine ⟨e2.t, e2.d, s5, k5, r, r, e2.x, ⟨e1.x.m, e1.x.o, ys⟩, rfl, ta2.same sm5, ok2.nd, (by omega), .inl (.inl hs5), ⟨ts, hk5.seq, hpr2⟩, (by dsimp only; rw [pm.length_eq]; omega), (by omega), fun H6 d6 b6 hd6 ta6 => ?_⟩
          subst eys
          have skeq : (⟨e1.x.m, e1.x.o, srtZ e1.x.c⟩ : Tl) = skT e1.x := rfl
          rw [skeq] at ta6
          have okp := pourT_ok ok2 (skT_ok ok1) (by omega)
          have np2 : p ≠ e2.t := ne_of hp4 ht2 (by intro z; cases z)
          have npd2 : p ≠ e2.d := ne_of hp4 hdd2 (by intro z; cases z)
          have nt' := pa.nt
          have nd' := pa.nd
          rw [List.map_cons, List.map_cons, List.nodup_cons, List.nodup_cons] at nt' nd'
          have fr2 := hfr e2 m2
          have nd6 : H d6 = none := by
            rcases hd6 with rfl | hd6
            · exact fr2.2
            · exact Same.gone s4 (Same.gone sm5 hd6)
          refine ⟨⟨e2.t, d6, pourT r (skT e1.x) e2.x⟩ :: pl, some (.ref b), y4, y5, some (.ref e1.t), rfl, fun q u e => b6 q u (ne_of_none e fr2.1) (ne_of_none e fr2.2) (sm5 q u (s4 q u e)), ?_, ⟨fun e he => ?_, fun e he => ?_, ?_, ?_⟩, ?_, fun e he => ?_⟩
          · rw [refs_rev]
            exact b6 p _ np2 npd2 (sm5 _ _ hp4)
          · rcases List.mem_cons.mp he with rfl | he
            · exact ta6
            · have te := (taR e he).same sm5
              obtain ⟨⟨dxe, hte⟩, hde⟩ := id te
              have n1 : e.t ≠ e2.t := fun z => nt'.2.1 (List.mem_map.mpr ⟨e, he, z⟩)
              have n2 : e.t ≠ e2.d := ne_of hte (sm5 _ _ hdd2) (by intro z; cases z)
              have n3 : e.d ≠ e2.t := ne_of hde (sm5 _ _ ht2) (by intro z; cases z)
              have n4 : e.d ≠ e2.d := fun z => nd'.2.1 (List.mem_map.mpr ⟨e, he, z⟩)
              exact ⟨⟨dxe, b6 _ _ n1 n2 hte⟩, b6 _ _ n3 n4 hde⟩
          · rcases List.mem_cons.mp he with rfl | he
            · exact okp
            · exact pa.ok e (List.mem_cons_of_mem _ (List.mem_cons_of_mem _ he))
          · rw [List.map_cons, List.nodup_cons]
            exact nt'.2
          · rw [List.map_cons, List.nodup_cons]
            refine ⟨fun z => ?_, nd'.2.2⟩
            obtain ⟨e, he, h⟩ := List.mem_map.mp z
            rcases hd6 with rfl | hd6
            · exact nd'.2.1 (List.mem_map.mpr ⟨e, he, h⟩)
            · have := ((taR e he).same sm5).dc
              rw [show e.d = d6 from h, hd6] at this
              cases this
          · rw [List.map_cons, hrs, ← hrn]
            rfl
          · rcases List.mem_cons.mp he with rfl | he
            · exact ⟨fr2.1, nd6⟩
            · exact hfr e (List.mem_cons_of_mem _ (List.mem_cons_of_mem _ he))
    · rintro σ H3 ⟨pl, y3, y4, y5, y6, rfl, s3, hpl, pa, hrn, hfr⟩
      rw [hl, List.take_length, hrun] at hrn
      match pl, pa, hpl, hrn, hfr with
      | [e], pa, hpl, hrn, hfr =>
        have ex : e.x = xe := by simpa using hrn
        have m1 : e ∈ [e] := List.mem_cons_self
        have ta := pa.at_ e m1
        have ok := pa.ok e m1
        obtain ⟨⟨dx, hte⟩, _⟩ := id ta
        have l1 := ok.len
        refine ⟨.ref p, rfl, p, _, _, _, rfl, rfl, sql hpl, atI_nat (j := 0) rfl, e.t, dx, _, rfl, hte, g_no _ _ _ _ (by decide +kernel) (by decide +kernel) (by decide +kernel) (by decide +kernel), e.t, e.d, r, e.x.m, e.x.o, e.x.c, rfl, ta, ok.nd, (by omega), fun H5 s5 k5 ys ts sm5 ns5 hs5 hk5 hpr pm asc => ?_⟩
        have eys := srtZ_of asc pm ok.nd
        subst eys
        rw [ex] at ok hs5 hpr
        exact q ok H5 s5 k5 ts (fun b u z => sm5 b u (s3 b u z)) (Same.gone s3 ns5) hs5 hk5 hpr
end
end Kb


namespace Kb
open PySem PySem.Spec PyProof.Rows L2 SrtZ SrtO
abbrev smixed : Stmt := topS 27
abbrev Nmixed : List Str := ["_law_number_here"]
theorem scmixed : FnScope ["_law_number_here"] ["_law_number_here"] (defScope smixed) := ⟨rfl, rfl, rfl, by decide +kernel, rfl, by decide +kernel, by decide +kernel⟩
abbrev swell : Stmt := topS 28
abbrev Nwell : List Str := ["_law_script", "_law_cell"]
theorem scwell : FnScope ["_law_script", "_law_cell"] ["_law_script"] (defScope swell) := ⟨rfl, rfl, rfl, by decide +kernel, rfl, by decide +kernel, by decide +kernel⟩
abbrev sfilled : Stmt := topS 29
abbrev Nfilled : List Str := ["_law_well_here", "_law_cell"]
theorem scfilled : FnScope ["_law_well_here", "_law_cell"] ["_law_well_here"] (defScope sfilled) := ⟨rfl, rfl, rfl, by decide +kernel, rfl, by decide +kernel, by decide +kernel⟩
abbrev sdraw : Stmt := topS 30
abbrev Ndraw : List Str := ["_law_well_here", "_law_many", "_law_told"]
theorem scdraw : FnScope ["_law_well_here", "_law_many", "_law_told"] ["_law_well_here", "_law_many"] (defScope sdraw) := ⟨rfl, rfl, rfl, by decide +kernel, rfl, by decide +kernel, by decide +kernel⟩
abbrev Dnmixed (K : PySem.W.Frag) (mg : Str → Option Value) := Dn K mg "_law_mixed" smixed ["_law_number_here"]
abbrev Dnwell (K : PySem.W.Frag) (mg : Str → Option Value) := Dn K mg "_law_well" swell ["_law_script"]
abbrev Dnfilled (K : PySem.W.Frag) (mg : Str → Option Value) := Dn K mg "_law_filled" sfilled ["_law_well_here"]
abbrev Dndraw (K : PySem.W.Frag) (mg : Str → Option Value) := Dn K mg "_law_draw" sdraw ["_law_well_here", "_law_many"]
/-- the well that is drawn from: its list, its cells -/
structure Wl (a c : Addr) (H : Hp) : Prop where
  ac : a ≠ c
  ex : ∃ (ns : List Int) (t u z : Int), H a = some (.lst [.ref c, .int t, .int u, .int z]) ∧ H c = some (.lst (ns.map V.int)) ∧ 0 ≤ t ∧ 0 ≤ u ∧ 0 ≤ z ∧ z < 2147483629
/-- all but the well stays -/
def Exw (a : Addr) (H H' : Hp) : Prop := ∀ b o, b ≠ a → H b = some o → H' b = some o
theorem Exw.refl (a : Addr) (H : Hp) : Exw a H H := fun _ _ _ h => h
theorem Exw.trans {a : Addr} {H H1 H2 : Hp} (x : Exw a H H1) (y : Exw a H1 H2) : Exw a H H2 := fun b o n h => y b o n (x b o n h)
theorem Exw.up {a : Addr} {H H1 : Hp} {u : HO} (x : Exw a H H1) : Exw a H (upd H1 a u) := fun b o n h => by
  rw [upd_ne n]
  exact x b o n h
theorem Exw.same {a : Addr} {H H1 H2 : Hp} (x : Exw a H H1) (y : Same H1 H2) : Exw a H H2 := fun b o n h => y b o (x b o n h)
theorem Same.exw {a : Addr} {H H1 : Hp} (x : Same H H1) : Exw a H H1 := fun b o _ h => x b o h
theorem Wl.same {a c : Addr} {H H' : Hp} (h : Wl a c H) (y : Same H H') : Wl a c H' := by
  obtain ⟨n1, ns, t, u, z, e1, e2, r⟩ := h
  exact ⟨n1, ns, t, u, z, y _ _ e1, y _ _ e2, r⟩
theorem Wl.nea {a c p : Addr} {H : Hp} (h : Wl a c H) (hp : H p = none) : p ≠ a := by
  obtain ⟨_, ns, t, u, z, e1, e2, _⟩ := h
  exact (ne_of_none e1 hp).symm
/-- what is no list of the well's form stays -/
theorem Exw.at {a c b : Addr} {H H' : Hp} {o : HO} (x : Exw a H H') (h : Wl a c H) (hb : H b = some o) (hl : ∀ xs, o ≠ .lst xs) : H' b = some o := by
  obtain ⟨_, ns, t, u, z, e1, e2, _⟩ := h
  exact x b o (ne_of hb e1 (hl _)) hb
/-- a list of texts is not the well's -/
theorem Exw.strs {a c b : Addr} {H H' : Hp} {zs : List Str} (x : Exw a H H') (h : Wl a c H) (hb : H b = some (.lst (zs.map V.str))) : H' b = some (.lst (zs.map V.str)) := by
  obtain ⟨_, ns, t, u, z, e1, e2, _⟩ := h
  refine x b _ (fun e => ?_) hb
  subst e
  rw [hb] at e1
  have := HO.lst.inj (Option.some.inj e1)
  cases zs with
  | nil => cases this
  | cons y ys => cases this
theorem Exw.tup {K : PySem.W.Frag} {a c b : Addr} {H H' : Hp} {xs : List V} (x : Exw a H H') (h : Wl a c H) (hb : SqT K H b xs) : SqT K H' b xs := by
  rcases hb with (hb | ⟨o, hb⟩) | hb
  · exact .inl (.inl (x.at h hb (by intro _ z; cases z)))
  · exact .inl (.inr ⟨o, x.at h hb (by intro _ z; cases z)⟩)
  · exact .inr hb
theorem Exw.new {a p : Addr} {H H1 : Hp} {u : HO} (x : Exw a H H1) (h : H1 p = none) : Exw a H (upd H1 p u) := x.same (same_upd h)
theorem Exw.gone {a p : Addr} {H H1 : Hp} (x : Exw a H H1) (ne : p ≠ a) (h : H1 p = none) : H p = none := by
  cases e : H p with
  | none => rfl
  | some o => rw [x _ _ ne e] at h; cases h
/-- an object that was new is stored anew -/
theorem Exw.put {a p : Addr} {H H1 : Hp} {u : HO} (x : Exw a H H1) (h : H p = none) : Exw a H (upd H1 p u) := fun b o n e => by
  rw [upd_ne (ne_of_none e h)]
  exact x b o n e
theorem rd_ix {K : PySem.W.Frag} {σ : L2.St} {H : Hp} {Q : VK} {a : Addr} {xs : List V} {v : V} {n : Nat} (k : Nat) (h0 : σ[n]? = some (some (.ref a))) (hS : SqL K H a xs) (hv : xs[k]? = some v) (q : Q v H) :
    tOp (rIxL K) (tVar n) (tC (.int (k : Int))) σ H Q := ⟨.ref a, h0, a, xs, k, v, rfl, rfl, hS, atI_nat hv, q⟩
theorem rd_set {H : Hp} {σ : L2.St} {a : Addr} {xs : List V} {v : V} {n : Nat} (k : Nat) {R : L2.St → Hp → Prop} (h0 : σ[n]? = some (some (.ref a))) (h : H a = some (.lst xs)) (hk : k < xs.length) (q : R σ (upd H a (.lst (xs.set k v)))) :
    gSub (tVar n) (tC (.int (k : Int))) rSetL v σ H R := ⟨.ref a, h0, a, xs, k, k, rfl, rfl, h, by unfold ixN; rw [if_pos (by omega), if_pos (by omega)]; simp, q⟩
theorem cut63 {xs : List V} (h : xs.length ≤ 63) : cutV xs none (some 63) = xs := by
  unfold cutV
  rw [show HT.sIx xs.length xs.length (some 63) = min 63 xs.length from HT.sIx_nat xs.length xs.length 63, HT.sIx_none, List.drop_zero, Nat.sub_zero]
  exact List.take_of_length_le (by omega)
section
variable {P : Program} {w : World} {K : PySem.W.Frag} {mg : Str → Option Value} {base : Heap}
/-! _law_mixed -/
def spMixed : Sp := fun vs H Q _ => ∃ n : Int, vs = [.int n] ∧ ∀ r : Int, 0 ≤ r → Q (.int r) H
theorem ok_mixed (T : Blt mg) (d : Dnmixed K mg) : FnOk P w K mg base CX0 1 d.f d.fd ["_law_number_here"] spMixed := by
  refine d.F.ok scmixed (fun vs H Q E h => ?_) (fun cdv A outer s H vs Q E hr h => ?_)
  · obtain ⟨n, rfl, _⟩ := h
    rfl
  · obtain ⟨n, rfl, q⟩ := h
    refine ⟨_, (pss_cons (ps_set (i := 0) scmixed.nd rfl (Or.inl rfl) (pe_op op_modB (pe_callTy call_int1 (by rfl) T.n_int (by decide +kernel) (pa_cons (pe_op op_add (pe_op op_mul (pv 0) pe_int) pe_int) pa_nil)) pe_int))
    (pss_cons (ps_set (i := 0) scmixed.nd rfl (Or.inl rfl) (pe_op op_modB (pe_callTy call_int1 (by rfl) T.n_int (by decide +kernel) (pa_cons (pe_op op_add (pe_op op_mul (pv 0) (pe_op op_add (pe_op op_fdiv (pv 0) pe_int) pe_int)) pe_int) pa_nil)) pe_int))
    (pss_one (ps_ret (pe_op op_add (pe_op op_mul (pv 0) pe_int) (pe_op op_modB (pe_callTy call_int1 (by rfl) T.n_int (by decide +kernel) (pa_cons (pe_op op_add (pe_op op_mul (pv 0) (pe_op op_add (pe_op op_fdiv (pv 0) pe_int) pe_int)) pe_int) pa_nil)) pe_int)))))), ?_⟩
    refine ⟨.int n, rfl, _, _, rfl, rfl, cmulR (by decide) (by decide), _, _, rfl, rfl, .inl ⟨_, rfl, _, _, rfl, rfl, (by show (0 : Int) < 2147483647; decide), fun x1 a0 a1 _ => ?_⟩⟩
    refine ⟨.int x1, rfl, .int x1, rfl, _, _, rfl, rfl, ⟨by decide, by decide⟩, _, _, rfl, rfl, _, _, rfl, rfl, cmulL a0 (by omega), _, _, rfl, rfl, .inl ⟨_, rfl, _, _, rfl, rfl, (by show (0 : Int) < 2147483647; decide), fun x2 b0 b1 _ => ?_⟩⟩
    refine ⟨.int x2, rfl, _, _, rfl, rfl, cmulL b0 (by omega), .int x2, rfl, .int x2, rfl, _, _, rfl, rfl, ⟨by decide, by decide⟩, _, _, rfl, rfl, _, _, rfl, rfl, cmulL b0 (by omega), _, _, rfl, rfl, .inl ⟨_, rfl, _, _, rfl, rfl, (by show (0 : Int) < 2147483399; decide), fun x3 c0 c1 _ => ?_⟩⟩
    exact ⟨_, _, rfl, rfl, q _ (by have : 0 ≤ x2 * 2147483399 := Int.mul_nonneg b0 (by decide); omega)⟩
/-! _law_well -/
def spWell (K : PySem.W.Frag) : Sp := fun vs H Q _ => ∃ (a : Addr) (ns : List Int), vs = [.ref a] ∧ SqL K H a (ns.map V.int) ∧ ns.length ≤ 63 ∧ ∀ H' p c, Same H H' → H p = none → Wl p c H' → Q (.ref p) H'
theorem ok_well (T : Blt mg) (d : Dnwell K mg) : FnOk P w K mg base CX0 1 d.f d.fd ["_law_script"] (spWell K) := by
  refine d.F.ok scwell (fun vs H Q E h => ?_) (fun cdv A outer s H vs Q E hr h => ?_)
  · obtain ⟨a, ns, rfl, _⟩ := h
    rfl
  · obtain ⟨a, ns, rfl, hS, hlen, q⟩ := h
    refine ⟨_, (pss_one (ps_ret (pe_lst (pa_cons (pe_lc (own := [("_law_cell", 1)]) (g := gName 1) (tt := tYes) rfl scwell.nd (pi_list (pe_slice sl_list (pv 0) po_none (po_some pe_int))) (blkOk_by (N := Nwell) (sc := defScope swell) (by decide +kernel)) (fun _ _ _ _ _ => pg_name (i := 1) scwell.nd rfl (Or.inl rfl)) (fun _ _ _ _ _ => pts_nil) (fun _ _ _ _ _ => (pe_callTy call_int1 (by rfl) T.n_int (by decide +kernel) (pa_cons (pv 1) pa_nil)))) (pa_cons pe_int (pa_cons pe_int (pa_cons pe_int pa_nil))))))), ?_⟩
    refine ⟨.ref a, rfl, 63, rfl, a, _, rfl, hS, fun c nc => ?_⟩
    rw [cut63 (by rw [List.length_map]; exact hlen)]
    refine ⟨c, rfl, ⟨_, sql upd_same⟩, fun D nD => lc_list (xs := ns.map V.int) (fun i H3 => Same H H3 ∧ H3 c = some (.lst (ns.map V.int)) ∧ H3 D = some (.lst ((ns.take i).map V.int)))
      ⟨Same.new (same_upd nc) nD, by rw [upd_ne (ne_of_none upd_same nD)]; exact upd_same, upd_same⟩ (fun i H3 _ h3 => sql h3.2.1) (fun i x H3 hx h3 => ?_) (fun H3 h3 => ?_)⟩
    · obtain ⟨x, hx', rfl⟩ := map_at hx
      have cD : c ≠ D := ne_of_none upd_same nD
      have nD0 : H D = none := Same.gone (same_upd nc) nD
      refine ⟨rfl, .int x, rfl, .inl ⟨_, rfl, _, h3.2.2, ?_, Same.put h3.1 nD0, by rw [upd_ne cD]; exact h3.2.1, ?_⟩⟩
      · rw [List.length_map, List.length_take, sizeLine_eq]
        omega
      · rw [upd_same, List.take_add_one, hx', List.map_append]
        rfl
    · obtain ⟨s3, hc3, hD3⟩ := h3
      rw [List.length_map, List.take_length] at hD3
      refine ⟨(by show 4 ≤ sizeLine; decide), fun p np => ?_⟩
      have Dp : D ≠ p := ne_of_none hD3 np
      exact q _ p D (Same.new s3 np) (Same.gone s3 np) ⟨Dp.symm, ns, 0, 0, 1, upd_same, by rw [upd_ne Dp]; exact hD3, by decide, by decide, by decide, by decide⟩
/-! _law_filled -/
def spFilled : Sp := fun vs H Q _ => ∃ (a c : Addr), vs = [.ref a] ∧ Wl a c H ∧ ∀ H' (r : Int), Exw a H H' → Wl a c H' → 0 ≤ r → Q (.int r) H'
theorem ok_filled (T : Blt mg) (dmixed : Dnmixed K mg) (d : Dnfilled K mg) : FnOk P w K mg base CX0 2 d.f d.fd ["_law_well_here"] spFilled := by
  have Gmixed : FnOk P w K mg base CX0 1 dmixed.f dmixed.fd ["_law_number_here"] spMixed := ok_mixed T dmixed
  refine d.F.ok scfilled (fun vs H Q E h => ?_) (fun cdv A outer s H vs Q E hr h => ?_)
  · obtain ⟨a, c, rfl, _⟩ := h
    rfl
  · obtain ⟨a, c, rfl, ⟨nac, ns, t, u, z, ea, ec, t0, u0, z0, z1⟩, q⟩ := h
    refine ⟨_, (pss_cons (ps_asg (pe_op op_add (pe_ix ix_list (pv 0) pe_int (fun _ _ => rfl)) pe_int) (pg_sub (pv 0) pe_int set_list))
    (pss_cons (ps_if (pt_cmpR op_le (pe_ix ix_list (pv 0) pe_int (fun _ _ => rfl)) (pe_callB call_len_seq (by rfl) T.n_len (by decide +kernel) (pa_cons (pe_ix ix_list (pv 0) pe_int (fun _ _ => rfl)) pa_nil)) (nomark _))
      (pss_cons (ps_set (i := 1) scfilled.nd rfl (Or.inl rfl) (pe_ix ix_list (pe_ix ix_list (pv 0) pe_int (fun _ _ => rfl)) (pe_op op_sub (pe_ix ix_list (pv 0) pe_int (fun _ _ => rfl)) pe_int) (fun _ _ => rfl)))
      (pss_cons (ps_asg (pe_op op_modB (pe_callTy call_int1 (by rfl) T.n_int (by decide +kernel) (pa_cons (pe_op op_add (pe_op op_add (pe_op op_mul (pe_ix ix_list (pv 0) pe_int (fun _ _ => rfl)) pe_int) (pv 1)) pe_int) pa_nil)) pe_int) (pg_sub (pv 0) pe_int set_list))
      (pss_cons (ps_if (pt_cmpR op_ge (pv 1) (pe_op op_pow pe_int pe_int) (nomark _))
        (pss_one (ps_ret (pv 1)))
        pss_nil)
      (pss_one (ps_ret (pe_call Gmixed (hr.mono (by omega)) (by rfl) dmixed.g dmixed.F.kp dmixed.b .nil pass0 (pa_cons (pe_op op_add (pv 1) (pe_op op_mul pe_int (pe_ix ix_list (pv 0) pe_int (fun _ _ => rfl)))) pa_nil)))))))
      pss_nil)
    (pss_one (ps_ret (pe_call Gmixed (hr.mono (by omega)) (by rfl) dmixed.g dmixed.F.kp dmixed.b .nil pass0 (pa_cons (pe_op op_add (pe_ix ix_list (pv 0) pe_int (fun _ _ => rfl)) (pe_op op_mul pe_int (pe_ix ix_list (pv 0) pe_int (fun _ _ => rfl)))) pa_nil)))))), ?_⟩
    refine rd_ix 1 rfl (sql ea) rfl ⟨_, _, rfl, rfl, rd_set 1 rfl ea (by decide : 1 < 4) ?_⟩
    have ea1 : (upd H a (.lst ([V.ref c, V.int t, V.int u, V.int z].set 1 (V.int (t + 1))))) a = some (.lst [.ref c, .int (t + 1), .int u, .int z]) := upd_same
    have ec1 : (upd H a (.lst ([V.ref c, V.int t, V.int u, V.int z].set 1 (V.int (t + 1))))) c = some (.lst (ns.map V.int)) := by rw [upd_ne nac.symm]; exact ec
    have ex1 : Exw a H (upd H a (.lst ([V.ref c, V.int t, V.int u, V.int z].set 1 (V.int (t + 1))))) := (Exw.refl a H).up
    generalize upd H a (.lst ([V.ref c, V.int t, V.int u, V.int z].set 1 (V.int (t + 1)))) = H1 at ea1 ec1 ex1
    refine rd_ix 1 rfl (sql ea1) rfl (rd_ix 0 rfl (sql ea1) rfl ⟨c, _, rfl, .inl (sql ec1), _, _, rfl, rfl, _, rfl, ite2 (fun hp => ?_) fun _ => ?_⟩)
    · have hl := of_decide_eq_true hp
      rw [List.length_map] at hl
      obtain ⟨k, rfl⟩ := Int.eq_ofNat_of_zero_le t0
      have hk : k < ns.length := by omega
      have hx : (ns.map V.int)[k]? = some (.int ns[k]) := by rw [List.getElem?_map, List.getElem?_eq_getElem hk]; rfl
      refine rd_ix 0 rfl (sql ea1) rfl (rd_ix 1 rfl (sql ea1) rfl ⟨_, _, rfl, rfl, c, _, _, _, rfl, rfl, sql ec1, (by rw [show (k : Int) + 1 - 1 = (k : Int) by omega]; exact atI_nat hx), ?_⟩)
      refine rd_ix 3 rfl (sql ea1) rfl ⟨_, _, rfl, rfl, cmulR (by decide) (by decide), .int ns[k], rfl, _, _, rfl, rfl, _, _, rfl, rfl, .inl ⟨_, rfl, _, _, rfl, rfl, (by show (0 : Int) < 2147483629; decide), fun z2 z20 z21 _ => ?_⟩⟩
      refine rd_set 3 rfl ea1 (by decide : 3 < 4) ?_
      have ea2 : (upd H1 a (.lst ([V.ref c, V.int (k + 1), V.int u, V.int z].set 3 (V.int z2)))) a = some (.lst [.ref c, .int (k + 1), .int u, .int z2]) := upd_same
      have ec2 : (upd H1 a (.lst ([V.ref c, V.int (k + 1), V.int u, V.int z].set 3 (V.int z2)))) c = some (.lst (ns.map V.int)) := by rw [upd_ne nac.symm]; exact ec1
      have ex2 : Exw a H (upd H1 a (.lst ([V.ref c, V.int (k + 1), V.int u, V.int z].set 3 (V.int z2)))) := ex1.up
      generalize upd H1 a (.lst ([V.ref c, V.int (k + 1), V.int u, V.int z].set 3 (V.int z2))) = H2 at ea2 ec2 ex2
      have wl2 : Wl a c H2 := ⟨nac, ns, k + 1, u, z2, ea2, ec2, by omega, u0, z20, z21⟩
      refine ⟨.int ns[k], rfl, _, _, rfl, rfl, ⟨by decide, by decide, by decide⟩, _, _, rfl, rfl, _, rfl, ite2 (fun hb => ?_) fun _ => ?_⟩
      · exact ⟨.int ns[k], rfl, q H2 _ ex2 wl2 (by have h := of_decide_eq_true hb; simp at h; omega)⟩
      · refine ⟨.int ns[k], rfl, rd_ix 1 rfl (sql ea2) rfl ⟨_, _, rfl, rfl, cmulL (by decide) (by decide), _, _, rfl, rfl, _, rfl, fun r r0 => q H2 r ex2 wl2 r0⟩⟩
    · have wl1 : Wl a c H1 := ⟨nac, ns, t + 1, u, z, ea1, ec1, by omega, u0, z0, z1⟩
      exact rd_ix 3 rfl (sql ea1) rfl (rd_ix 1 rfl (sql ea1) rfl ⟨_, _, rfl, rfl, cmulL (by decide) (by decide), _, _, rfl, rfl, _, rfl, fun r r0 => q H1 r ex1 wl1 r0⟩)
/-! _law_draw -/
def spDraw : Sp := fun vs H Q _ => ∃ (a c : Addr) (n : Int), vs = [.ref a, .int n] ∧ Wl a c H ∧ 0 < n ∧ n < 1073741824 ∧ ∀ H' (r : Int), Exw a H H' → Wl a c H' → 0 ≤ r → r < n → Q (.int r) H'
theorem ok_draw (T : Blt mg) (dmixed : Dnmixed K mg) (dfilled : Dnfilled K mg) (d : Dndraw K mg) : FnOk P w K mg base CX0 3 d.f d.fd ["_law_well_here", "_law_many"] spDraw := by
  have Gfilled : FnOk P w K mg base CX0 2 dfilled.f dfilled.fd ["_law_well_here"] spFilled := ok_filled T dmixed dfilled
  refine d.F.ok scdraw (fun vs H Q E h => ?_) (fun cdv A outer s H vs Q E hr h => ?_)
  · obtain ⟨a, c, n, rfl, _⟩ := h
    rfl
  · obtain ⟨a, c, n, rfl, hw, hn0, hn1, q⟩ := h
    refine ⟨_, (C8.pss_cut (ps_if (pt_cmpR op_eq (pe_ix ix_list (pv 0) pe_int (fun _ _ => rfl)) pe_int (nomark _))
      (pss_one (ps_asg (pe_call Gfilled (hr.mono (by omega)) (by rfl) dfilled.g dfilled.F.kp dfilled.b .nil pass0 (pa_cons (pv 0) pa_nil)) (pg_sub (pv 0) pe_int set_list)))
      pss_nil)
    (pss_cons (ps_set (i := 2) scdraw.nd rfl (Or.inl rfl) (pe_op op_modB (pe_callTy call_int1 (by rfl) T.n_int (by decide +kernel) (pa_cons (pe_ix ix_list (pv 0) pe_int (fun _ _ => rfl)) pa_nil)) (pv 1)))
    (pss_cons (ps_asg (pe_op op_fdiv (pe_callTy call_int1 (by rfl) T.n_int (by decide +kernel) (pa_cons (pe_ix ix_list (pv 0) pe_int (fun _ _ => rfl)) pa_nil)) (pv 1)) (pg_sub (pv 0) pe_int set_list))
    (pss_one (ps_ret (pv 2)))))), ?_⟩
    refine ⟨fun σ H3 => σ = [some (.ref a), some (.int n), none] ∧ Exw a H H3 ∧ Wl a c H3, ?_, ?_⟩
    · obtain ⟨nac, ns, t, u, z, ea, ec, t0, u0, z0, z1⟩ := id hw
      refine rd_ix 2 rfl (sql ea) rfl ⟨rfl, _, rfl, ite2 (fun _ => ?_) fun _ => ?_⟩
      · refine ⟨.ref a, rfl, a, c, rfl, hw, fun H1 r x1 w1 r0 => ?_⟩
        obtain ⟨nac, ns, t, u, z, ea, ec, t0, u0, z0, z1⟩ := w1
        refine rd_set 2 rfl ea (by decide : 2 < 4) ⟨rfl, x1.up, nac, ns, t, r, z, upd_same, by rw [upd_ne nac.symm]; exact ec, t0, r0, z0, z1⟩
      · exact ⟨rfl, Exw.refl a H, hw⟩
    · rintro σ H3 ⟨rfl, x3, nac, ns, t, u, z, ea, ec, t0, u0, z0, z1⟩
      refine rd_ix 2 rfl (sql ea) rfl (.inl ⟨_, rfl, .int n, rfl, _, _, rfl, rfl, hn0, fun r r0 r1 _ => ?_⟩)
      refine rd_ix 2 rfl (sql ea) rfl (.inl ⟨_, rfl, .int n, rfl, _, _, rfl, rfl, ⟨hn0, hn1⟩, ?_⟩)
      refine rd_set 2 rfl ea (by decide : 2 < 4) ⟨.int r, rfl, ?_⟩
      exact q _ r x3.up ⟨nac, ns, t, u / n, z, upd_same, by rw [upd_ne nac.symm]; exact ec, t0, Int.ediv_nonneg u0 (by omega), z0, z1⟩ r0 r1
end
end Kb


namespace Kb
open PySem PySem.Spec PyProof.Rows L2 SrtZ SrtO
abbrev sname : Stmt := topS 34
abbrev Nname : List Str := ["_law_well_here", "_law_many", "_law_k"]
theorem scname : FnScope ["_law_well_here", "_law_many", "_law_k"] ["_law_well_here"] (defScope sname) := ⟨rfl, rfl, rfl, by decide +kernel, rfl, by decide +kernel, by decide +kernel⟩
abbrev sunlike : Stmt := topS 35
abbrev Nunlike : List Str := ["_law_things", "_law_found", "_law_thing_here"]
theorem scunlike : FnScope ["_law_things", "_law_found", "_law_thing_here"] ["_law_things"] (defScope sunlike) := ⟨rfl, rfl, rfl, by decide +kernel, rfl, by decide +kernel, by decide +kernel⟩
abbrev snames : Stmt := topS 40
abbrev Nnames : List Str := ["_law_well_here", "_law_most", "_law_k"]
theorem scnames : FnScope ["_law_well_here", "_law_most", "_law_k"] ["_law_well_here", "_law_most"] (defScope snames) := ⟨rfl, rfl, rfl, by decide +kernel, rfl, by decide +kernel, by decide +kernel⟩
abbrev sroom : Stmt := topS 41
abbrev Nroom : List Str := ["_law_well_here"]
theorem scroom : FnScope ["_law_well_here"] ["_law_well_here"] (defScope sroom) := ⟨rfl, rfl, rfl, by decide +kernel, rfl, by decide +kernel, by decide +kernel⟩
abbrev Dnname (K : PySem.W.Frag) (mg : Str → Option Value) := Dn K mg "_law_name" sname ["_law_well_here"]
abbrev Dnunlike (K : PySem.W.Frag) (mg : Str → Option Value) := Dn K mg "_law_unlike" sunlike ["_law_things"]
abbrev Dnnames (K : PySem.W.Frag) (mg : Str → Option Value) := Dn K mg "_law_names" snames ["_law_well_here", "_law_most"]
abbrev Dnroom (K : PySem.W.Frag) (mg : Str → Option Value) := Dn K mg "_law_room" sroom ["_law_well_here"]
/-! texts by their signs -/
def S (l : List Nat) : Str := ⟨l.toArray⟩
theorem cs_S (l : List Nat) : cs (S l) = l := by simp [cs, S]
theorem S_cs (z : Str) : S (cs z) = z := by cases z; simp [cs, S]
theorem S_len (l : List Nat) : (S l).length = l.length := by simp [S, Str.length]
theorem cs_app (a b : Str) : cs (a ++ b) = cs a ++ cs b := by
  show (a.cps ++ b.cps).toList = _
  simp [cs]
theorem join0 : ∀ ys : List Str, Str.join (S []) ys = S (ys.map cs).flatten
  | [] => rfl
  | [x] => by
    show x = _
    simp [S_cs]
  | x :: y :: r => by
    show x ++ S [] ++ Str.join (S []) (y :: r) = _
    rw [join0 (y :: r)]
    apply cs_inj
    rw [cs_app, cs_app, cs_S, cs_S, cs_S]
    simp
theorem join_signs (l : List Nat) : Txt.join (S []) (l.map fun c => S [c]) = S l := by
  rw [show Txt.join (S []) (l.map fun c => S [c]) = Str.join (S []) (l.map fun c => S [c]) from PySem.StrLaws.glued_eq_join _ _, join0]
  congr 1
  induction l with
  | nil => rfl
  | cons c l ih =>
    rw [List.map_cons, List.map_cons, List.flatten_cons, ih, cs_S]
    rfl
theorem signs_len (l : List Nat) : ((List.map ((fun x => x.length) ∘ fun c => S [c]) l)).sum = l.length := by
  induction l with
  | nil => rfl
  | cons x r ih =>
    rw [List.map_cons, List.sum_cons, ih, List.length_cons]
    show 1 + _ = _
    omega
theorem abc_at : ∀ m : Fin 26, (Str.ofString "abcdefghijklmnopqrstuvwxyz").cps.toList[m.val]? = some (97 + m.val) := by decide +kernel
theorem Wl.ne2 {a c p : Addr} {H : Hp} (h : Wl a c H) (hp : H p = none) : p ≠ a ∧ p ≠ c := by
  obtain ⟨_, ns, t, u, z, e1, e2, _⟩ := h
  exact ⟨(ne_of_none e1 hp).symm, (ne_of_none e2 hp).symm⟩
theorem Wl.put {a c p : Addr} {H : Hp} {u : HO} (h : Wl a c H) (n : p ≠ a ∧ p ≠ c) : Wl a c (upd H p u) := by
  obtain ⟨n1, ns, t, v, z, e1, e2, r⟩ := h
  exact ⟨n1, ns, t, v, z, by rw [upd_ne n.1.symm]; exact e1, by rw [upd_ne n.2.symm]; exact e2, r⟩
theorem inV_str {z : Str} {fs : List Str} : inV (V.str z) (fs.map V.str) = decide (z ∈ fs) := by
  unfold inV
  rw [List.any_map]
  by_cases h : z ∈ fs
  · rw [decide_eq_true h]
    refine List.any_eq_true.mpr ⟨z, h, ?_⟩
    show (z == z) = true
    exact beq_self_eq_true z
  · rw [decide_eq_false h]
    refine List.any_eq_false.mpr fun y hy => ?_
    show ¬ (y == z) = true
    intro e
    exact h (eq_of_beq e ▸ hy)
theorem flat_strs (fs : List Str) : (fs.map V.str).all flatV = true := List.all_eq_true.mpr fun v hv => by
  obtain ⟨z, _, rfl⟩ := List.mem_map.mp hv
  rfl
theorem asc_strs {ys : List Str} (h : Srtd ltZ ys) (nd : ys.Nodup) : ys.Pairwise fun a b => ltZ a b = true := by
  refine List.Pairwise.imp₂ (fun a b (h1 : ltZ b a = false) (h2 : a ≠ b) => ?_) h nd
  rcases bcase (ltZ a b) with q | q
  · exact q
  · exact absurd (ltZ_tri q h1) h2
section
variable {P : Program} {w : World} {K : PySem.W.Frag} {mg : Str → Option Value} {base : Heap}
/-! _law_name -/
def spName : Sp := fun vs H Q _ => ∃ (a c : Addr), vs = [.ref a] ∧ Wl a c H ∧ ∀ H' z, Exw a H H' → Wl a c H' → Nm z → Q (.str z) H'
theorem ok_name (T : Blt mg) (dmixed : Dnmixed K mg) (dfilled : Dnfilled K mg) (ddraw : Dndraw K mg) (d : Dnname K mg) : FnOk P w K mg base CX0 4 d.f d.fd ["_law_well_here"] spName := by
  have Gdraw : FnOk P w K mg base CX0 3 ddraw.f ddraw.fd ["_law_well_here", "_law_many"] spDraw := ok_draw T dmixed dfilled ddraw
  refine d.F.ok scname (fun vs H Q E h => ?_) (fun cdv A outer s H vs Q E hr h => ?_)
  · obtain ⟨a, c, rfl, _⟩ := h
    rfl
  · obtain ⟨a, c, rfl, hw, q⟩ := h
    refine ⟨_, (pss_cons (ps_set (i := 1) scname.nd rfl (Or.inl rfl) (pe_op op_add pe_int (pe_call Gdraw (hr.mono (by omega)) (by rfl) ddraw.g ddraw.F.kp ddraw.b .nil pass0 (pa_cons (pv 0) (pa_cons pe_int pa_nil)))))
    (C8.pss_cut (ps_if (pt_cmpR op_eq (pe_call Gdraw (hr.mono (by omega)) (by rfl) ddraw.g ddraw.F.kp ddraw.b .nil pass0 (pa_cons (pv 0) (pa_cons pe_int pa_nil))) pe_int (nomark _))
      (pss_one (ps_set (i := 1) scname.nd rfl (Or.inl rfl) (pe_op op_add pe_int (pe_call Gdraw (hr.mono (by omega)) (by rfl) ddraw.g ddraw.F.kp ddraw.b .nil pass0 (pa_cons (pv 0) (pa_cons pe_int pa_nil))))))
      pss_nil)
    (pss_one (ps_ret (pe_join pe_str (pe_lc (own := [("_law_k", 2)]) (g := gName 2) (tt := tYes) rfl scname.nd (pi_range1 (by rfl) T.n_range (pa_cons (pv 1) pa_nil)) (blkOk_by (N := Nname) (sc := defScope sname) (by decide +kernel)) (fun _ _ _ _ _ => pg_name (i := 2) scname.nd rfl (Or.inl rfl)) (fun _ _ _ _ _ => pts_nil) (fun _ _ _ _ _ => (pe_ix ix_str pe_str (pe_call Gdraw (hr.mono (by omega)) (by rfl) ddraw.g ddraw.F.kp ddraw.b .nil pass0 (pa_cons (pv 0) (pa_cons pe_int pa_nil))) (fun _ _ => rfl))))))))), ?_⟩
    refine ⟨.ref a, rfl, a, c, 2, rfl, hw, (by decide), (by decide), fun H1 k x1 w1 k0 k1 => ⟨_, _, rfl, rfl, ?_⟩⟩
    refine ⟨fun σ H3 => ∃ m : Nat, 1 ≤ m ∧ m ≤ 8 ∧ σ = [some (.ref a), some (.int (m : Int)), none] ∧ Exw a H H3 ∧ Wl a c H3, ?_, ?_⟩
    · refine ⟨.ref a, rfl, a, c, 4, rfl, w1, (by decide), (by decide), fun H2 j x2 w2 j0 j1 => ⟨rfl, _, rfl, ite2 (fun _ => ?_) fun _ => ?_⟩⟩
      · refine ⟨.ref a, rfl, a, c, 8, rfl, w2, (by decide), (by decide), fun H3 i x3 w3 i0 i1 => ⟨_, _, rfl, rfl, ?_⟩⟩
        obtain ⟨n, rfl⟩ := Int.eq_ofNat_of_zero_le i0
        exact ⟨1 + n, by omega, by omega, by push_cast; rfl, (x1.trans x2).trans x3, w3⟩
      · obtain ⟨n, rfl⟩ := Int.eq_ofNat_of_zero_le k0
        exact ⟨1 + n, by omega, by omega, by push_cast; rfl, x1.trans x2, w2⟩
    · rintro σ H3 ⟨m, m1, m8, rfl, x3, w3⟩
      refine ⟨⟨_, rfl⟩, .int (m : Int), rfl, (m : Int), rfl, (by omega), (by omega), fun D nD => ?_⟩
      rw [Int.toNat_natCast]
      have hD := w3.ne2 nD
      refine lc_range (lo := 0) (n := m) (fun i H8 => Exw a H3 H8 ∧ Wl a c H8 ∧ ∃ l : List Nat, H8 D = some (.lst (l.map fun c => V.str (S [c]))) ∧ l.length = i ∧ ∀ c ∈ l, nmC c = true) ⟨(Exw.refl a H3).put nD, w3.same (same_upd nD), [], upd_same, rfl, fun _ h => nomatch h⟩ (fun i H8 hi h8 => ?_) (fun H8 h8 => ?_)
      · obtain ⟨x8, p8, l, hD8, hl, hc⟩ := h8
        refine ⟨rfl, .ref a, rfl, a, c, 26, rfl, p8, (by decide), (by decide), fun H9 c' x9 p9 c0 c26 => ?_⟩
        obtain ⟨c', rfl⟩ := Int.eq_ofNat_of_zero_le c0
        have hc26 : c' < 26 := by omega
        have hz : (Str.ofString "abcdefghijklmnopqrstuvwxyz").length ≤ sizeLine := by
          rw [show (Str.ofString "abcdefghijklmnopqrstuvwxyz").length = 26 by decide +kernel, sizeLine_eq]
          decide
        refine ⟨_, _, _, rfl, rfl, hz, atI_nat (abc_at ⟨c', hc26⟩), _, x9 D _ hD.1 hD8, ?_, (x8.trans x9).put nD, p9.put hD, l ++ [97 + c'], ?_, ?_, fun u hu => ?_⟩
        · rw [List.length_map, hl, sizeLine_eq]
          omega
        · rw [upd_same, List.map_append]
          rfl
        · rw [List.length_append, hl]
          rfl
        · rcases List.mem_append.mp hu with hu | hu
          · exact hc u hu
          · rw [List.mem_singleton.mp hu]
            unfold nmC
            simp
            omega
      obtain ⟨x8, p8, l, hD8, hl, hc⟩ := h8
      have ej : Txt.join (Str.ofString "") (l.map fun c => S [c]) = S l := join_signs l
      refine ⟨_, D, l.map fun c => S [c], rfl, rfl, .inl (sql (by rw [hD8, List.map_map]; rfl)), ?_, ?_⟩
      · rw [List.map_map, List.length_map, signs_len]
        show l.length + l.length * 0 ≤ 16777216
        omega
      · rw [ej]
        exact q H8 _ (x3.trans x8) p8 ⟨by rw [S_len]; omega, by rw [S_len]; omega, by rw [cs_S]; exact hc⟩
/-! _law_unlike -/
def spUnlike : Sp := fun vs H Q _ => ∃ (l : Addr) (zs : List Str), vs = [.ref l] ∧ H l = some (.lst (zs.map V.str)) ∧ zs.length ≤ 1000 ∧
  ∀ H' p (ys : List Str), Same H H' → H p = none → H' p = some (.lst (ys.map V.str)) → (ys.Pairwise fun a b => ltZ a b = true) → (∀ y, y ∈ ys ↔ y ∈ zs) → ys.length ≤ zs.length → Q (.ref p) H'
theorem ok_unlike (T : Blt mg) (d : Dnunlike K mg) : FnOk P w K mg base CX0 1 d.f d.fd ["_law_things"] spUnlike := by
  refine d.F.ok scunlike (fun vs H Q E h => ?_) (fun cdv A outer s H vs Q E hr h => ?_)
  · obtain ⟨l, zs, rfl, _⟩ := h
    rfl
  · obtain ⟨l, zs, rfl, hl, hlen, q⟩ := h
    refine ⟨_, (pss_cons (ps_set (i := 1) scunlike.nd rfl (Or.inl rfl) (pe_lst pa_nil))
    (pss_cons (ps_for PassesOwn.never rfl (pi_list (pv 0)) (pg_name (i := 2) scunlike.nd rfl (Or.inl rfl))
      (pss_one (ps_if (pt_cmpR op_notIn_seq (pv 2) (pv 1) rfl)
        (pss_one (ps_expr (pe_bm PySem.F.plainAttrs_list PySem.F.slot_list_append PySem.F.type_list_append mt_append (pv 1) (pa_cons (pv 2) pa_nil))))
        pss_nil)))
    (pss_one (ps_ret (pe_callB cr_sortedSL (by rfl) T.n_sorted (by decide +kernel) (pa_cons (pv 1) pa_nil)))))), ?_⟩
    refine ⟨(by show 0 ≤ sizeLine; exact Nat.zero_le _), fun D nD => ?_⟩
    have lD : l ≠ D := ne_of_none hl nD
    refine ⟨.ref l, rfl, l, rfl, ⟨_, sql (same_upd nD _ _ hl)⟩, for_list (xs := zs.map V.str) (fun i σ H3 => ∃ x, σ = [some (.ref l), some (.ref D), x] ∧ Same H H3 ∧ ∃ fs : List Str, H3 D = some (.lst (fs.map V.str)) ∧ fs.Nodup ∧ fs.length ≤ i ∧ ∀ y, y ∈ fs ↔ y ∈ zs.take i) ⟨none, rfl, same_upd nD, [], upd_same, List.nodup_nil, Nat.le_refl _, fun y => by simp⟩ (fun i σ H3 _ ⟨_, _, s3, _⟩ => sql (s3 _ _ hl)) ?_ ?_⟩
    · rintro i v σ H3 hi ⟨x, rfl, s3, fs, hD3, nd, fl, mem⟩
      obtain ⟨z, hz, rfl⟩ := map_at hi
      have hil := (List.getElem?_eq_some_iff.mp hz).1
      refine ⟨.str z, rfl, .ref D, rfl, D, _, rfl, .inl (sql hD3), rfl, flat_strs fs, _, rfl, ?_⟩
      rw [inV_str]
      by_cases h : z ∈ fs
      · rw [decide_eq_true h]
        refine iteF ⟨some (.str z), rfl, s3, fs, hD3, nd, by omega, fun y => ?_⟩
        rw [List.take_add_one, hz, mem y]
        constructor
        · intro hy
          exact List.mem_append.mpr (.inl hy)
        · intro hy
          rcases List.mem_append.mp hy with hy | hy
          · exact hy
          · rw [List.mem_singleton.mp hy]
            exact (mem z).mp h
      · rw [decide_eq_false h]
        refine iteT ⟨.ref D, rfl, .inl ⟨rfl, _, sql hD3⟩, .str z, rfl, D, _, _, rfl, rfl, hD3, ?_, some (.str z), rfl, Same.put s3 nD, fs ++ [z], ?_, ?_, ?_, fun y => ?_⟩
        · rw [List.length_map, sizeLine_eq]
          omega
        · rw [upd_same, List.map_append]
          rfl
        · exact List.nodup_append.mpr ⟨nd, (by simp), fun a ha b hb e => by rw [List.mem_singleton.mp hb] at e; exact h (e ▸ ha)⟩
        · rw [List.length_append]
          show fs.length + 1 ≤ i + 1
          omega
        · rw [List.take_add_one, hz]
          constructor
          · intro hy
            rcases List.mem_append.mp hy with hy | hy
            · exact List.mem_append.mpr (.inl ((mem y).mp hy))
            · exact List.mem_append.mpr (.inr hy)
          · intro hy
            rcases List.mem_append.mp hy with hy | hy
            · exact List.mem_append.mpr (.inl ((mem y).mpr hy))
            · exact List.mem_append.mpr (.inr hy)
    · rintro σ H3 ⟨x, rfl, s3, fs, hD3, nd, fl, mem⟩
      rw [List.length_map] at fl mem
      rw [List.take_length] at mem
      refine ⟨.ref D, rfl, D, fs, rfl, sql hD3, fun ys p pm so np => ?_⟩
      exact q _ p ys (Same.new s3 np) (Same.gone s3 np) upd_same (asc_strs so (pm.nodup_iff.mpr nd)) (fun y => (pm.mem_iff).trans (mem y)) (by rw [pm.length_eq]; exact fl)
/-! _law_names -/
def spNames : Sp := fun vs H Q _ => ∃ (a c : Addr) (n : Int), vs = [.ref a, .int n] ∧ Wl a c H ∧ 0 < n ∧ n ≤ 900 ∧
  ∀ H' p (ys : List Str), Exw a H H' → Wl a c H' → H p = none → p ≠ a → p ≠ c → H' p = some (.lst (ys.map V.str)) → (ys.Pairwise fun a b => ltZ a b = true) → (∀ y ∈ ys, Nm y) → 0 < ys.length → (ys.length : Int) ≤ n → Q (.ref p) H'
theorem ok_names (T : Blt mg) (dmixed : Dnmixed K mg) (dfilled : Dnfilled K mg) (ddraw : Dndraw K mg) (dname : Dnname K mg) (dunlike : Dnunlike K mg) (d : Dnnames K mg) : FnOk P w K mg base CX0 5 d.f d.fd ["_law_well_here", "_law_most"] spNames := by
  have Gdraw : FnOk P w K mg base CX0 3 ddraw.f ddraw.fd ["_law_well_here", "_law_many"] spDraw := ok_draw T dmixed dfilled ddraw
  have Gname : FnOk P w K mg base CX0 4 dname.f dname.fd ["_law_well_here"] spName := ok_name T dmixed dfilled ddraw dname
  have Gunlike : FnOk P w K mg base CX0 1 dunlike.f dunlike.fd ["_law_things"] spUnlike := ok_unlike T dunlike
  refine d.F.ok scnames (fun vs H Q E h => ?_) (fun cdv A outer s H vs Q E hr h => ?_)
  · obtain ⟨a, c, n, rfl, _⟩ := h
    rfl
  · obtain ⟨a, c, n, rfl, hw, n0, n1, q⟩ := h
    refine ⟨_, (pss_one (ps_ret (pe_call Gunlike (hr.mono (by omega)) (by rfl) dunlike.g dunlike.F.kp dunlike.b .nil pass0 (pa_cons (pe_lc (own := [("_law_k", 2)]) (g := gName 2) (tt := tYes) rfl scnames.nd (pi_range1 (by rfl) T.n_range (pa_cons (pe_op op_add pe_int (pe_call Gdraw (hr.mono (by omega)) (by rfl) ddraw.g ddraw.F.kp ddraw.b .nil pass0 (pa_cons (pv 0) (pa_cons (pv 1) pa_nil)))) pa_nil)) (blkOk_by (N := Nnames) (sc := defScope snames) (by decide +kernel)) (fun _ _ _ _ _ => pg_name (i := 2) scnames.nd rfl (Or.inl rfl)) (fun _ _ _ _ _ => pts_nil) (fun _ _ _ _ _ => (pe_call Gname (hr.mono (by omega)) (by rfl) dname.g dname.F.kp dname.b .nil pass0 (pa_cons (pv 0) pa_nil)))) pa_nil)))), ?_⟩
    refine ⟨.ref a, rfl, .int n, rfl, a, c, n, rfl, hw, n0, (by omega), fun H1 k x1 w1 k0 k1 => ⟨_, _, rfl, rfl, 1 + k, rfl, (by omega), (by omega), fun D nD => ?_⟩⟩
    have hD := w1.ne2 nD
    obtain ⟨kn, rfl⟩ := Int.eq_ofNat_of_zero_le k0
    rw [show (1 + (kn : Int)).toNat = 1 + kn by omega]
    refine lc_range (lo := 0) (n := 1 + kn) (fun i H8 => Exw a H1 H8 ∧ Wl a c H8 ∧ ∃ zs : List Str, H8 D = some (.lst (zs.map V.str)) ∧ zs.length = i ∧ ∀ z ∈ zs, Nm z) ⟨(Exw.refl a H1).put nD, w1.same (same_upd nD), [], upd_same, rfl, fun _ h => nomatch h⟩ (fun i H8 hi h8 => ?_) (fun H8 h8 => ?_)
    · obtain ⟨x8, p8, zs, hD8, hl, hc⟩ := h8
      refine ⟨rfl, .ref a, rfl, a, c, rfl, p8, fun H9 z x9 p9 hz => ⟨_, x9 D _ hD.1 hD8, ?_, (x8.trans x9).put nD, p9.put hD, zs ++ [z], ?_, ?_, fun u hu => ?_⟩⟩
      · rw [List.length_map, hl, sizeLine_eq]
        omega
      · rw [upd_same, List.map_append]
        rfl
      · rw [List.length_append, hl]
        rfl
      · rcases List.mem_append.mp hu with hu | hu
        · exact hc u hu
        · rw [List.mem_singleton.mp hu]
          exact hz
    · obtain ⟨x8, p8, zs, hD8, hl, hc⟩ := h8
      refine ⟨D, zs, rfl, hD8, by omega, fun H9 p ys s9 np hp9 so mem len => ?_⟩
      have hp := p8.ne2 np
      refine q H9 p ys ((x1.trans x8).same s9) (p8.same s9) (Exw.gone (x1.trans x8) hp.1 np) hp.1 hp.2 hp9 so (fun y hy => hc y ((mem y).mp hy)) ?_ (by omega)
      cases ys with
      | cons _ _ => exact Nat.succ_pos _
      | nil =>
        cases zs with
        | nil => exact absurd hl (by simp; omega)
        | cons z r => exact nomatch (mem z).mpr List.mem_cons_self
/-! _law_room -/
def spRoom : Sp := fun vs H Q _ => ∃ (a c : Addr), vs = [.ref a] ∧ Wl a c H ∧ ∀ H' (r : Int), Exw a H H' → Wl a c H' → 1 ≤ r → r ≤ 64 → Q (.int r) H'
theorem ok_room (T : Blt mg) (dmixed : Dnmixed K mg) (dfilled : Dnfilled K mg) (ddraw : Dndraw K mg) (d : Dnroom K mg) : FnOk P w K mg base CX0 4 d.f d.fd ["_law_well_here"] spRoom := by
  have Gdraw : FnOk P w K mg base CX0 3 ddraw.f ddraw.fd ["_law_well_here", "_law_many"] spDraw := ok_draw T dmixed dfilled ddraw
  refine d.F.ok scroom (fun vs H Q E h => ?_) (fun cdv A outer s H vs Q E hr h => ?_)
  · obtain ⟨a, c, rfl, _⟩ := h
    rfl
  · obtain ⟨a, c, rfl, hw, q⟩ := h
    refine ⟨_, (pss_one (ps_ret (pe_op op_add pe_int (pe_call Gdraw (hr.mono (by omega)) (by rfl) ddraw.g ddraw.F.kp ddraw.b .nil pass0 (pa_cons (pv 0) (pa_cons (pe_ix ix_list (pe_lst (pa_cons pe_int (pa_cons pe_int (pa_cons pe_int (pa_cons pe_int pa_nil))))) (pe_call Gdraw (hr.mono (by omega)) (by rfl) ddraw.g ddraw.F.kp ddraw.b .nil pass0 (pa_cons (pv 0) (pa_cons pe_int pa_nil))) (fun _ _ => rfl)) pa_nil)))))), ?_⟩
    refine ⟨.ref a, rfl, (by show 4 ≤ sizeLine; decide), fun l nl => ?_⟩
    have hl := hw.ne2 nl
    refine ⟨.ref a, rfl, a, c, 4, rfl, hw.same (same_upd nl), (by decide), (by decide), fun H1 k x1 w1 k0 k1 => ?_⟩
    obtain ⟨kn, rfl⟩ := Int.eq_ofNat_of_zero_le k0
    have hk : kn < 4 := by omega
    obtain ⟨m, hm, m0, m1⟩ : ∃ m : Int, [V.int 4, V.int 4, V.int 8, V.int 64][kn]? = some (.int m) ∧ 0 < m ∧ m ≤ 64 := by
      match kn, hk with
      | 0, _ => exact ⟨4, rfl, by decide, by decide⟩
      | 1, _ => exact ⟨4, rfl, by decide, by decide⟩
      | 2, _ => exact ⟨8, rfl, by decide, by decide⟩
      | 3, _ => exact ⟨64, rfl, by decide, by decide⟩
      | n + 4, h => exact absurd h (by omega)
    refine ⟨l, _, _, _, rfl, rfl, sql (x1 _ _ hl.1 upd_same), atI_nat hm, a, c, m, rfl, w1, m0, (by omega), fun H2 r x2 w2 r0 r1 => ⟨_, _, rfl, rfl, ?_⟩⟩
    exact q H2 _ (((Same.exw (same_upd nl)).trans x1).trans x2) w2 (by omega) (by omega)
end
end Kb


namespace Kb
open PySem PySem.Spec PyProof.Rows L2 SrtZ SrtO
abbrev salike : Stmt := topS 54
abbrev Nalike : List Str := ["_law_told", "_law_due", "_law_k"]
theorem scalike : FnScope ["_law_told", "_law_due", "_law_k"] ["_law_told", "_law_due"] (defScope salike) := ⟨rfl, rfl, rfl, by decide +kernel, rfl, by decide +kernel, by decide +kernel⟩
abbrev Dnalike (K : PySem.W.Frag) (mg : Str → Option Value) := Dn K mg "_law_alike" salike ["_law_told", "_law_due"]
/-! data that are alike -/
def Leq (x y : V) : Prop := (∃ i : Int, x = .int i ∧ y = .int i) ∨ ∃ z : Str, x = .str z ∧ y = .str z
def Eqv (K : PySem.W.Frag) : Nat → Hp → V → V → Prop
  | 0, _, x, y => Leq x y
  | n + 1, H, x, y => Leq x y ∨ ∃ (a b : Addr) (xs ys : List V), x = .ref a ∧ y = .ref b ∧ SqT K H a xs ∧ SqT K H b ys ∧ xs.length = ys.length ∧ xs.length ≤ 60000 ∧ ∀ (i : Nat) (u v : V), xs[i]? = some u → ys[i]? = some v → Eqv K n H u v
theorem Eqv.same {K : PySem.W.Frag} {H H' : Hp} (s : Same H H') : ∀ {n : Nat} {x y : V}, Eqv K n H x y → Eqv K n H' x y
  | 0, _, _, h => h
  | n + 1, x, y, h => by
    rcases h with h | ⟨a, b, xs, ys, e1, e2, h1, h2, h3, h4, h5⟩
    · exact .inl h
    · exact .inr ⟨a, b, xs, ys, e1, e2, seqT h1 s, seqT h2 s, h3, h4, fun i u v hu hv => Eqv.same s (h5 i u v hu hv)⟩
def spAlike (K : PySem.W.Frag) (n : Nat) : Sp := fun vs H Q _ => ∃ x y : V, vs = [x, y] ∧ Eqv K n H x y ∧ ∀ H', Same H H' → Q (.bl true) H'
def spAlike' (K : PySem.W.Frag) : Nat → Sp
  | 0 => fun _ _ _ _ => False
  | n + 1 => spAlike K n
theorem Eqv.cases {K : PySem.W.Frag} {n : Nat} {H : Hp} {x y : V} (h : Eqv K n H x y) : Leq x y ∨ ∃ m, n = m + 1 ∧ ∃ (a b : Addr) (xs ys : List V), x = .ref a ∧ y = .ref b ∧ SqT K H a xs ∧ SqT K H b ys ∧ xs.length = ys.length ∧ xs.length ≤ 60000 ∧ ∀ (i : Nat) (u v : V), xs[i]? = some u → ys[i]? = some v → Eqv K m H u v := by
  cases n with
  | zero => exact .inl h
  | succ n =>
    rcases h with h | h
    · exact .inl h
    · exact .inr ⟨n, rfl, h⟩
section
variable {P : Program} {w : World} {K : PySem.W.Frag} {mg : Str → Option Value} {base : Heap}
theorem ok_alike' (T : Blt mg) (dalike : Dnalike K mg) (n : Nat) (Galike : FnOk P w K mg base CX0 (n + 1) dalike.f dalike.fd ["_law_told", "_law_due"] (spAlike' K n)) : FnOk P w K mg base CX0 (n + 2) dalike.f dalike.fd ["_law_told", "_law_due"] (spAlike K n) := by
  refine dalike.F.ok scalike (fun vs H Q E h => ?_) (fun cdv A outer s H vs Q E hr h => ?_)
  · obtain ⟨x, y, rfl, _⟩ := h
    rfl
  · obtain ⟨x, y, rfl, he, q⟩ := h
    refine ⟨_, (pss_cons (ps_if (pt_val (pe_callB call_isi (by rfl) T.n_isinstance (by decide +kernel) (pa_cons (pv 1) (pa_cons (pe_bltn (v := .ty "tuple") (by rfl) T.n_tuple (by decide +kernel) rfl) pa_nil))))
      (pss_cons (ps_if (PW.pt (pw_or (pt_not (pt_val (pe_callB call_isi (by rfl) T.n_isinstance (by decide +kernel) (pa_cons (pv 0) (pa_cons (pe_bltn (v := .ty "tuple") (by rfl) T.n_tuple (by decide +kernel) rfl) pa_nil))))) (pw_or1 (pt_cmpR op_ne (pe_callB call_len_seq (by rfl) T.n_len (by decide +kernel) (pa_cons (pv 0) pa_nil)) (pe_callB call_len_seq (by rfl) T.n_len (by decide +kernel) (pa_cons (pv 1) pa_nil)) (nomark _)))))
        (pss_one (ps_ret pe_bl))
        pss_nil)
      (pss_one (ps_ret (pe_callB (cr_all rfl) (by rfl) T.n_all (by decide +kernel) (pa_cons (pe_lc (own := [("_law_k", 2)]) (g := gName 2) (tt := tYes) rfl scalike.nd (pi_range1 (by rfl) T.n_range (pa_cons (pe_callB call_len_seq (by rfl) T.n_len (by decide +kernel) (pa_cons (pv 1) pa_nil)) pa_nil)) (blkOk_by (N := Nalike) (sc := defScope salike) (by decide +kernel)) (fun _ _ _ _ _ => pg_name (i := 2) scalike.nd rfl (Or.inl rfl)) (fun _ _ _ _ _ => pts_nil) (fun _ _ _ _ _ => (pe_call Galike (hr.mono (by omega)) (by rfl) dalike.g dalike.F.kp dalike.b .nil pass0 (pa_cons (pe_ix (r := rIxT K) ix_tup (pv 0) (pv 2) (fun _ _ => rfl)) (pa_cons (pe_ix (r := rIxT K) ix_tup (pv 1) (pv 2) (fun _ _ => rfl)) pa_nil))))) pa_nil)))))
      pss_nil)
    (pss_cons (ps_if (pt_cmpR op_isN (pv 1) pe_non (nomark _))
      (pss_one (ps_ret (pe_cmpR op_isN (pv 0) pe_non (nomark _))))
      pss_nil)
    (pss_cons (ps_if (pt_val (pe_callB call_isi (by rfl) T.n_isinstance (by decide +kernel) (pa_cons (pv 1) (pa_cons (pe_bltn (v := .ty "str") (by rfl) T.n_str (by decide +kernel) rfl) pa_nil))))
      (pss_one (ps_ret (pe_and (pe_callB call_isi (by rfl) T.n_isinstance (by decide +kernel) (pa_cons (pv 0) (pa_cons (pe_bltn (v := .ty "str") (by rfl) T.n_str (by decide +kernel) rfl) pa_nil))) (pe_one (pe_cmpR op_eq (pv 0) (pv 1) (nomark _))))))
      pss_nil)
    (pss_one (ps_ret (pe_and (pe_callB call_isi (by rfl) T.n_isinstance (by decide +kernel) (pa_cons (pv 0) (pa_cons (pe_bltn (v := .ty "int") (by rfl) T.n_int (by decide +kernel) rfl) pa_nil))) (pe_and (pe_not (pe_callB call_isi (by rfl) T.n_isinstance (by decide +kernel) (pa_cons (pv 0) (pa_cons (pe_bltn (v := .ty "bool") (by rfl) T.n_bool (by decide +kernel) rfl) pa_nil)))) (pe_one (pe_cmpR op_eq (pv 0) (pv 1) (nomark _)))))))))), ?_⟩
    rcases he.cases with (⟨i, rfl, rfl⟩ | ⟨z, rfl, rfl⟩) | ⟨m, rfl, a, b, xs, ys, rfl, rfl, g1, g2, hl, hl2, h5⟩
    · refine ⟨.int i, rfl, .int i, _, _, _, false, rfl, .ty "tuple", .base (.int i), kit_ty (by decide +kernel), false, rfl, iteF ?_⟩
      refine ⟨.int i, rfl, rfl, false, rfl, iteF ?_⟩
      refine ⟨.int i, rfl, .int i, _, _, _, false, rfl, .ty "str", .base (.int i), kit_ty (by decide +kernel), false, rfl, iteF ?_⟩
      refine ⟨.int i, rfl, .int i, _, _, _, true, rfl, .ty "int", .base (.int i), kit_ty (by decide +kernel), true, rfl, iteT ?_⟩
      refine ⟨.int i, rfl, .int i, _, _, _, false, rfl, .ty "bool", .base (.int i), kit_ty (by decide +kernel), false, rfl, true, rfl, iteT ⟨.int i, rfl, .int i, rfl, rfl, ?_⟩⟩
      rw [decide_eq_true rfl]
      exact q _ (Same.refl H)
    · refine ⟨.str z, rfl, .str z, _, _, _, false, rfl, .ty "tuple", .base (.str z), kit_ty (by decide +kernel), false, rfl, iteF ?_⟩
      refine ⟨.str z, rfl, rfl, false, rfl, iteF ?_⟩
      refine ⟨.str z, rfl, .str z, _, _, _, true, rfl, .ty "str", .base (.str z), kit_ty (by decide +kernel), true, rfl, iteT ?_⟩
      refine ⟨.str z, rfl, .str z, _, _, _, true, rfl, .ty "str", .base (.str z), kit_ty (by decide +kernel), true, rfl, iteT ⟨.str z, rfl, .str z, rfl, rfl, ?_⟩⟩
      rw [decide_eq_true rfl]
      exact q _ (Same.refl H)
    · refine ⟨.ref b, rfl, .ref b, _, _, _, true, rfl, .ty "tuple", tyT g2, kit_ty (by decide +kernel), true, rfl, iteT ?_⟩
      refine ⟨.ref a, rfl, .ref a, _, _, _, true, rfl, .ty "tuple", tyT g1, kit_ty (by decide +kernel), true, rfl, iteF ?_⟩
      refine ⟨.ref a, rfl, a, _, rfl, .inr g1, .ref b, rfl, b, _, rfl, .inr g2, rfl, false, congrArg V.bl (by rw [hl]; simp), iteF ?_⟩
      refine ⟨.ref b, rfl, b, _, rfl, .inr g2, ys.length, rfl, by omega, by omega, fun D nD => ?_⟩
      rw [Int.toNat_natCast]
      refine lc_range (lo := 0) (n := ys.length) (fun i H3 => Same H H3 ∧ H3 D = some (.lst ((List.range i).map fun _ => V.bl true))) ⟨same_upd nD, upd_same⟩ (fun i H3 hi h3 => ?_) (fun H3 h3 => ?_)
      · have hxi : xs[i]? = some (xs[i]'(by omega)) := List.getElem?_eq_getElem (by omega)
        have hyi : ys[i]? = some ys[i] := List.getElem?_eq_getElem hi
        have ev := Eqv.same h3.1 (h5 i _ _ hxi hyi)
        refine ⟨rfl, .ref a, rfl, .int (0 + (i : Int)), rfl, a, _, _, _, rfl, rfl, seqT g1 h3.1, (by rw [Int.zero_add]; exact atI_nat hxi), .ref b, rfl, .int (0 + (i : Int)), rfl, b, _, _, _, rfl, rfl, seqT g2 h3.1, (by rw [Int.zero_add]; exact atI_nat hyi), _, _, rfl, ev, fun H4 s4 => ⟨_, s4 _ _ h3.2, ?_, ?_, ?_⟩⟩
        · rw [List.length_map, List.length_range, sizeLine_eq]
          omega
        · exact Same.put (fun b u e => s4 b u (h3.1 b u e)) nD
        · rw [upd_same, List.range_succ, List.map_append]
          rfl
      · refine ⟨D, (List.range ys.length).map fun _ => true, rfl, sql (by rw [h3.2, List.map_map]; rfl), ?_⟩
        rw [show (((List.range ys.length).map fun _ => true).all id) = true by simp]
        exact q H3 h3.1
theorem ok_alike (T : Blt mg) (dalike : Dnalike K mg) : ∀ n : Nat, FnOk P w K mg base CX0 (n + 1) dalike.f dalike.fd ["_law_told", "_law_due"] (spAlike' K n)
  | 0 => dalike.F.ok scalike (fun _ _ _ _ h => h.elim) (fun _ _ _ _ _ _ _ _ _ h => h.elim)
  | n + 1 => ok_alike' T dalike n (ok_alike T dalike n)
end
end Kb


namespace Kb
open PySem PySem.Spec PyProof.Rows L2 SrtZ SrtO
abbrev sitem : Stmt := topS 42
abbrev Nitem : List Str := ["_law_well_here", "_law_names_here"]
theorem scitem : FnScope ["_law_well_here", "_law_names_here"] ["_law_well_here", "_law_names_here"] (defScope sitem) := ⟨rfl, rfl, rfl, by decide +kernel, rfl, by decide +kernel, by decide +kernel⟩
abbrev Dnitem (K : PySem.W.Frag) (mg : Str → Option Value) := Dn K mg "_law_item" sitem ["_law_well_here", "_law_names_here"]
section
variable {P : Program} {w : World} {K : PySem.W.Frag} {mg : Str → Option Value} {base : Heap}
def spItem : Sp := fun vs H Q _ => ∃ (a c l : Addr) (ys : List Str), vs = [.ref a, .ref l] ∧ Wl a c H ∧ H l = some (.lst (ys.map V.str)) ∧ 0 < ys.length ∧ ys.length ≤ 1000 ∧ ∀ H' z, Exw a H H' → Wl a c H' → z ∈ ys → Q (.str z) H'
theorem ok_item (T : Blt mg) (dmixed : Dnmixed K mg) (dfilled : Dnfilled K mg) (ddraw : Dndraw K mg) (d : Dnitem K mg) : FnOk P w K mg base CX0 4 d.f d.fd ["_law_well_here", "_law_names_here"] spItem := by
  have Gdraw : FnOk P w K mg base CX0 3 ddraw.f ddraw.fd ["_law_well_here", "_law_many"] spDraw := ok_draw T dmixed dfilled ddraw
  refine d.F.ok scitem (fun vs H Q E h => ?_) (fun cdv A outer s H vs Q E hr h => ?_)
  · obtain ⟨a, c, l, ys, rfl, _⟩ := h
    rfl
  · obtain ⟨a, c, l, ys, rfl, hw, hl, y0, y1, q⟩ := h
    refine ⟨_, (pss_one (ps_ret (pe_ix ix_list (pv 1) (pe_callB (call_min2 rfl) (by rfl) T.n_min (by decide +kernel) (pa_cons (pe_call Gdraw (hr.mono (by omega)) (by rfl) ddraw.g ddraw.F.kp ddraw.b .nil pass0 (pa_cons (pv 0) (pa_cons (pe_callB call_len_seq (by rfl) T.n_len (by decide +kernel) (pa_cons (pv 1) pa_nil)) pa_nil))) (pa_cons (pe_call Gdraw (hr.mono (by omega)) (by rfl) ddraw.g ddraw.F.kp ddraw.b .nil pass0 (pa_cons (pv 0) (pa_cons (pe_callB call_len_seq (by rfl) T.n_len (by decide +kernel) (pa_cons (pv 1) pa_nil)) pa_nil))) pa_nil))) (fun _ _ => rfl)))), ?_⟩
    refine ⟨.ref l, rfl, .ref a, rfl, .ref l, rfl, l, _, rfl, .inl (sql hl), a, c, _, rfl, hw, (by rw [List.length_map]; omega), (by rw [List.length_map]; omega), fun H1 i x1 w1 i0 i1 => ?_⟩
    have hl1 := x1.strs hw hl
    refine ⟨.ref a, rfl, .ref l, rfl, l, _, rfl, .inl (sql hl1), a, c, _, rfl, w1, (by rw [List.length_map]; omega), (by rw [List.length_map]; omega), fun H2 j x2 w2 j0 j1 => ?_⟩
    have hl2 := x2.strs w1 hl1
    rw [List.length_map] at i1 j1
    obtain ⟨m, hm, m1⟩ : ∃ m : Nat, (if j < i then j else i) = (m : Int) ∧ m < ys.length := by
      obtain ⟨i', rfl⟩ := Int.eq_ofNat_of_zero_le i0
      obtain ⟨j', rfl⟩ := Int.eq_ofNat_of_zero_le j0
      split
      · exact ⟨j', rfl, by omega⟩
      · exact ⟨i', rfl, by omega⟩
    refine ⟨_, _, rfl, l, _, _, .str ys[m], rfl, rfl, sql hl2, (by rw [hm]; exact atI_nat (by rw [List.getElem?_map, List.getElem?_eq_getElem m1]; rfl)), q H2 _ (x1.trans x2) w2 (List.getElem_mem m1)⟩
end
end Kb


namespace Kb
open PySem PySem.Spec PyProof.Rows L2 SrtZ SrtO
/-- the pair that a tuple of the heap holds -/
def rdP (H : Hp) (t : Addr) : Str × Int := match H t with
  | some (.tup [.str x, .int y]) => (x, y)
  | _ => (⟨#[]⟩, 0)
theorem rdP_of {H : Hp} {t : Addr} {e : Str × Int} (h : H t = some (.tup [.str e.1, .int e.2])) : rdP H t = e := by
  unfold rdP
  rw [h]
theorem paired_snoc {α β : Type} {F : α → β → Prop} : ∀ {xs : List α} {ys : List β} {x : α} {y : β}, Paired F xs ys → F x y → Paired F (xs ++ [x]) (ys ++ [y])
  | _, _, _, _, .nil, h => .cons h .nil
  | _, _, _, _, .cons h t, k => .cons h (paired_snoc t k)
theorem paired_imp {α β : Type} {F G : α → β → Prop} (h : ∀ a b, F a b → G a b) : ∀ {xs : List α} {ys : List β}, Paired F xs ys → Paired G xs ys
  | _, _, .nil => .nil
  | _, _, .cons a t => .cons (h _ _ a) (paired_imp h t)
theorem paired_rd {H : Hp} : ∀ {ts : List Addr} {kvs : Ct}, Paired (fun (t : Addr) (e : Str × Int) => H t = some (.tup [.str e.1, .int e.2])) ts kvs → ts.map (rdP H) = kvs ∧ ∀ t ∈ ts, H t = some (.tup [.str (rdP H t).1, .int (rdP H t).2])
  | _, _, .nil => ⟨rfl, fun _ h => nomatch h⟩
  | _, _, .cons h t => by
    obtain ⟨h1, h2⟩ := paired_rd t
    have e := rdP_of h
    refine ⟨by rw [List.map_cons, h1, e], fun u hu => ?_⟩
    rcases List.mem_cons.mp hu with rfl | hu
    · rw [e]
      exact h
    · exact h2 u hu
theorem paired_map {H : Hp} {k : Addr → Str × Int} : ∀ {ts : List Addr}, (∀ t ∈ ts, H t = some (.tup [.str (k t).1, .int (k t).2])) → Paired (fun (t : Addr) (e : Str × Int) => H t = some (.tup [.str e.1, .int e.2])) ts (ts.map k)
  | [], _ => .nil
  | t :: ts, h => .cons (h t List.mem_cons_self) (paired_map fun u hu => h u (List.mem_cons_of_mem _ hu))
theorem getZ_self {kvs : Ct} {i : Nat} {e : Str × Int} (nd : NdZ kvs) (h : kvs[i]? = some e) : getZ kvs e.1 = some e.2 := by
  have hm := List.mem_of_getElem? h
  clear h
  unfold getZ
  induction kvs with
  | nil => cases hm
  | cons f r ih =>
    unfold NdZ at nd
    rw [List.map_cons, List.nodup_cons] at nd
    rcases List.mem_cons.mp hm with rfl | hm
    · simp
    · have : ¬ f.1 = e.1 := fun z => nd.1 (List.mem_map.mpr ⟨e, hm, z.symm⟩)
      rw [List.find?_cons_of_neg (by simpa using this)]
      exact ih nd.2 hm
theorem getZ_mem {kvs : Ct} {e : Str × Int} (nd : NdZ kvs) (h : e ∈ kvs) : getZ kvs e.1 = some e.2 := by
  obtain ⟨i, hi⟩ := List.mem_iff_getElem?.mp h
  exact getZ_self nd hi
theorem getZ_in {kvs : Ct} {n : Str} {v : Int} (h : getZ kvs n = some v) : (n, v) ∈ kvs := by
  unfold getZ at h
  cases e : kvs.find? fun e => decide (e.1 = n) with
  | none => rw [e] at h; cases h
  | some x =>
    rw [e] at h
    have h1 := List.mem_of_find?_eq_some e
    have h2 : x.1 = n := of_decide_eq_true (List.find?_some (p := fun e : Str × Int => decide (e.1 = n)) e)
    have h3 : x.2 = v := Option.some.inj h
    rw [← h2, ← h3]
    exact h1
end Kb



namespace Kb
open PySem PySem.Spec PyProof.Rows L2 SrtZ SrtO
/-! sketches on the heap -/
abbrev PrT (H : Hp) (t : Addr) (y : Str × Int) : Prop := H t = some (.tup [.str y.1, .int y.2])
theorem eqv_pair {K : PySem.W.Frag} {H : Hp} {t t2 : Addr} {e : Str × Int} (h1 : PrT H t e) (h2 : PrT H t2 e) : Eqv K 1 H (.ref t) (.ref t2) :=
  .inr ⟨t, t2, _, _, rfl, rfl, .inl (.inl h1), .inl (.inl h2), rfl, (by show 2 ≤ 60000; decide), fun i u v hu hv => by
    match i, hu, hv with
    | 0, hu, hv =>
      cases hu
      cases hv
      exact .inr ⟨_, rfl, rfl⟩
    | 1, hu, hv =>
      cases hu
      cases hv
      exact .inl ⟨_, rfl, rfl⟩
    | i + 2, hu, hv => simp at hu⟩
theorem eqv_counts {K : PySem.W.Frag} {H : Hp} {k k2 : Addr} {ts ts2 : List Addr} {ys : Ct} (h1 : SqT K H k (ts.map V.ref)) (h2 : SqT K H k2 (ts2.map V.ref)) (p1 : Paired (PrT H) ts ys) (p2 : Paired (PrT H) ts2 ys) (hl : ys.length ≤ 60000) : Eqv K 2 H (.ref k) (.ref k2) :=
  .inr ⟨k, k2, _, _, rfl, rfl, h1, h2, (by rw [List.length_map, List.length_map, Paired.length p1, Paired.length p2]), (by rw [List.length_map, Paired.length p1]; exact hl), fun i u v hu hv => by
    obtain ⟨t, ht, rfl⟩ := map_at hu
    obtain ⟨t2, ht2, rfl⟩ := map_at hv
    obtain ⟨e, he, f⟩ := paired_at p1 ht
    obtain ⟨e2, he2, f2⟩ := paired_at p2 ht2
    rw [he] at he2
    cases he2
    exact eqv_pair f f2⟩
theorem eqv_sketch {K : PySem.W.Frag} {H : Hp} {s s2 k k2 : Addr} {r m o : Int} {ts ts2 : List Addr} {ys : Ct} (g1 : H s = some (.tup [.int r, .int m, .int o, .ref k])) (g2 : H s2 = some (.tup [.int r, .int m, .int o, .ref k2])) (h1 : SqT K H k (ts.map V.ref)) (h2 : SqT K H k2 (ts2.map V.ref)) (p1 : Paired (PrT H) ts ys) (p2 : Paired (PrT H) ts2 ys) (hl : ys.length ≤ 60000) : Eqv K 3 H (.ref s) (.ref s2) :=
  .inr ⟨s, s2, _, _, rfl, rfl, .inl (.inl g1), .inl (.inl g2), rfl, (by show 4 ≤ 60000; decide), fun i u v hu hv => by
    match i, hu, hv with
    | 0, hu, hv =>
      cases hu
      cases hv
      exact .inl (.inl ⟨_, rfl, rfl⟩)
    | 1, hu, hv =>
      cases hu
      cases hv
      exact .inl (.inl ⟨_, rfl, rfl⟩)
    | 2, hu, hv =>
      cases hu
      cases hv
      exact .inl (.inl ⟨_, rfl, rfl⟩)
    | 3, hu, hv =>
      cases hu
      cases hv
      exact eqv_counts h1 h2 p1 p2 hl
    | i + 4, hu, hv => simp at hu⟩
def SkAt (H : Hp) (s : Addr) (r : Int) (x : Tl) : Prop := ∃ (k : Addr) (ts : List Addr), H s = some (.tup [.int r, .int x.m, .int x.o, .ref k]) ∧ Ptp H k (ts.map V.ref) ∧ Paired (PrT H) ts (srtZ x.c)
theorem SkAt.same {H H' : Hp} {s : Addr} {r : Int} {x : Tl} (h : SkAt H s r x) (y : Same H H') : SkAt H' s r x := by
  obtain ⟨k, ts, h1, h2, h3⟩ := h
  exact ⟨k, ts, y _ _ h1, h2.same y, paired_imp (fun t e h => y _ _ h) h3⟩
theorem SkAt.congr {H : Hp} {s : Addr} {r : Int} {x y : Tl} (h : SkAt H s r x) (e : skT x = skT y) : SkAt H s r y := by
  obtain ⟨m, o, c⟩ := x
  obtain ⟨m2, o2, c2⟩ := y
  unfold skT at e
  injection e with e1 e2 e3
  dsimp only at e1 e2 e3
  subst e1 e2
  obtain ⟨k, ts, h1, h2, h3⟩ := h
  exact ⟨k, ts, h1, h2, by dsimp only at h3 ⊢; rw [← e3]; exact h3⟩
theorem eqv_sk {K : PySem.W.Frag} {H : Hp} {s s2 : Addr} {r : Int} {x : Tl} (h : SkAt H s r x) (h2 : SkAt H s2 r x) (hl : x.c.length ≤ 60000) : Eqv K 3 H (.ref s) (.ref s2) := by
  obtain ⟨k, ts, a1, a2, a3⟩ := h
  obtain ⟨k2, ts2, b1, b2, b3⟩ := h2
  exact eqv_sketch a1 b1 a2.seq b2.seq a3 b3 (by rw [(srtZ_perm x.c).length_eq]; exact hl)
/-! the order in which counts stand means nothing -/
theorem getZ_perm {a b : Ct} (p : a.Perm b) (nd : NdZ a) (n : Str) : getZ a n = getZ b n := by
  have ndb : NdZ b := by
    unfold NdZ
    exact (p.map (·.1)).nodup_iff.mp nd
  cases ha : getZ a n with
  | none =>
    have := getZ_none.mp ha
    exact (getZ_none.mpr fun h => this ((p.map (·.1)).mem_iff.mpr h)).symm
  | some v =>
    have : ∃ e ∈ a, e.1 = n ∧ e.2 = v := by
      unfold getZ at ha
      cases h : a.find? fun e => decide (e.1 = n) with
      | none => rw [h] at ha; cases ha
      | some e =>
        rw [h] at ha
        exact ⟨e, List.mem_of_find?_eq_some h, of_decide_eq_true (List.find?_some (p := fun e : Str × Int => decide (e.1 = n)) h), Option.some.inj ha⟩
    obtain ⟨e, he, rfl, rfl⟩ := this
    obtain ⟨i, hi⟩ := List.mem_iff_getElem?.mp (p.mem_iff.mp he)
    exact (getZ_self ndb hi).symm
theorem putZ_perm {a b : Ct} (p : a.Perm b) (n : Str) (v : Int) : (putZ a n v).Perm (putZ b n v) := by
  have e : (a.any fun e => decide (e.1 = n)) = (b.any fun e => decide (e.1 = n)) := by
    rw [Bool.eq_iff_iff, List.any_eq_true, List.any_eq_true]
    exact ⟨fun ⟨x, h, k⟩ => ⟨x, p.mem_iff.mp h, k⟩, fun ⟨x, h, k⟩ => ⟨x, p.mem_iff.mpr h, k⟩⟩
  unfold putZ
  rw [e]
  split
  · exact p.map _
  · exact p.append_right _
theorem addZ_perm {a b : Ct} (p : a.Perm b) (nd : NdZ a) (n : Str) (c : Int) : (addZ a n c).Perm (addZ b n c) := by
  unfold addZ
  rw [getZ_perm p nd]
  exact putZ_perm p _ _
theorem takeZ_perm {a b : Ct} (p : a.Perm b) (k : Int) : (takeZ k a).Perm (takeZ k b) := (p.filter _).map _
theorem mnC_perm {a b : Ct} (p : a.Perm b) : mnC a = mnC b := by
  by_cases h : a = []
  · subst h
    have := p.symm.eq_nil
    subst this
    rfl
  · obtain ⟨h1, h2⟩ := mnC_spec h
    have q := p.map (·.2)
    exact mnC_uniq (q.mem_iff.mp h1) fun y hy => h2 y (q.mem_iff.mpr hy)
theorem full_perm {a b : Ct} (p : a.Perm b) (nd : NdZ a) (r : Int) (n : Str) : full r n a = full r n b := by
  unfold full
  rw [getZ_perm p nd, p.length_eq]
theorem srtZ_eq {a b : Ct} (p : a.Perm b) (nd : NdZ a) : srtZ a = srtZ b := by
  have ndb : NdZ b := by
    unfold NdZ
    exact (p.map (·.1)).nodup_iff.mp nd
  exact srtZ_of (srtZ_asc nd) ((srtZ_perm a).trans p) ndb
theorem feed_skT {r c : Int} {n : Str} {x : Tl} (nd : NdZ x.c) : skT (feedT r n c (skT x)) = skT (feedT r n c x) := by
  obtain ⟨m, o, kvs⟩ := x
  have p := srtZ_perm kvs
  have nds : NdZ (srtZ kvs) := (p.map (·.1)).nodup_iff.mpr nd
  unfold feedT skT
  dsimp only
  rw [full_perm p nds, mnC_perm p]
  by_cases hf : full r n kvs = true
  · rw [if_pos hf, if_pos hf]
    dsimp only
    generalize (if mnC kvs < c then mnC kvs else c) = a
    have e : srtZ (if 0 < c - a then addZ (takeZ a (srtZ kvs)) n (c - a) else takeZ a (srtZ kvs)) = srtZ (if 0 < c - a then addZ (takeZ a kvs) n (c - a) else takeZ a kvs) := by
      have pt := takeZ_perm p a
      have ndt : NdZ (takeZ a (srtZ kvs)) := takeZ_nd nds
      split
      · exact srtZ_eq (addZ_perm pt ndt _ _) (addZ_nd ndt)
      · exact srtZ_eq pt ndt
    rw [e]
  · rw [if_neg hf, if_neg hf]
    dsimp only
    have e : srtZ (if 0 < c then addZ (srtZ kvs) n c else srtZ kvs) = srtZ (if 0 < c then addZ kvs n c else kvs) := by
      split
      · exact srtZ_eq (addZ_perm p nds _ _) (addZ_nd nds)
      · exact srtZ_eq p nds
    rw [e]
theorem skT_skT {x : Tl} (nd : NdZ x.c) : skT (skT x) = skT x := by
  obtain ⟨m, o, kvs⟩ := x
  unfold skT
  dsimp only
  rw [srtZ_eq (srtZ_perm kvs) ((srtZ_perm kvs).map (·.1) |>.nodup_iff.mpr nd)]
end Kb


namespace Kb
open PySem PySem.Spec PyProof.Rows L2 SrtZ SrtO
/-! counts, read behind a change -/
theorem getZ_cons (e : Str × Int) (kvs : Ct) (k : Str) : getZ (e :: kvs) k = if e.1 = k then some e.2 else getZ kvs k := by
  unfold getZ
  by_cases h : e.1 = k
  · rw [List.find?_cons_of_pos (by simpa using h), if_pos h]
    rfl
  · rw [List.find?_cons_of_neg (by simpa using h), if_neg h]
theorem getZ_app (a b : Ct) (k : Str) : getZ (a ++ b) k = (getZ a k).or (getZ b k) := by
  induction a with
  | nil => simp [getZ]
  | cons e a ih =>
    rw [List.cons_append, getZ_cons, getZ_cons, ih]
    split <;> rfl
theorem getZ_repl (kvs : Ct) (n : Str) (v : Int) (k : Str) : getZ (kvs.map fun e => if e.1 = n then (e.1, v) else e) k = if k = n then (getZ kvs n).map fun _ => v else getZ kvs k := by
  induction kvs with
  | nil => simp [getZ]
  | cons e r ih =>
    rw [List.map_cons, getZ_cons, getZ_cons, ih, getZ_cons]
    by_cases h1 : e.1 = n
    · rw [if_pos h1]
      dsimp only
      by_cases h2 : e.1 = k
      · rw [if_pos h2, if_pos (h2.symm.trans h1), if_pos h1]
        rfl
      · rw [if_neg h2, if_neg h2]
        by_cases h3 : k = n
        · exact absurd (h1.trans h3.symm) h2
        · rw [if_neg h3, if_neg h3]
    · rw [if_neg h1]
      by_cases h2 : e.1 = k
      · rw [if_pos h2, if_neg (fun z => h1 (h2.trans z)), if_pos h2]
      · rw [if_neg h2, if_neg h2, if_neg h1]
theorem getZ_put (kvs : Ct) (n : Str) (v : Int) (k : Str) : getZ (putZ kvs n v) k = if k = n then some v else getZ kvs k := by
  unfold putZ
  rw [any_getZ]
  cases h : getZ kvs n with
  | some u =>
    rw [if_pos (show (some u).isSome = true from rfl), getZ_repl, h]
    rfl
  | none =>
    rw [if_neg (show ¬ (none : Option Int).isSome = true by decide), getZ_app]
    by_cases e : k = n
    · subst e
      rw [h, if_pos rfl, getZ_cons, if_pos rfl]
      rfl
    · rw [if_neg e, getZ_cons, if_neg (Ne.symm e)]
      cases getZ kvs k <;> rfl
theorem getZ_take {a : Int} : ∀ {kvs : Ct}, NdZ kvs → ∀ k, getZ (takeZ a kvs) k = (getZ kvs k).bind fun v => if a < v then some (v - a) else none
  | [], _, k => rfl
  | e :: r, nd, k => by
    unfold NdZ at nd
    rw [List.map_cons, List.nodup_cons] at nd
    have ih := getZ_take (a := a) (kvs := r) nd.2 k
    have hno : e.1 = k → getZ r k = none := fun h => getZ_none.mpr (h ▸ nd.1)
    unfold takeZ at ih ⊢
    by_cases h : a < e.2
    · rw [List.filter_cons_of_pos (by simpa using h), List.map_cons, getZ_cons, getZ_cons]
      by_cases h2 : e.1 = k
      · rw [if_pos h2, if_pos h2]
        show some (e.2 - a) = if a < e.2 then _ else _
        rw [if_pos h]
      · rw [if_neg h2, if_neg h2]
        exact ih
    · rw [List.filter_cons_of_neg (by simpa using h), ih, getZ_cons]
      by_cases h2 : e.1 = k
      · rw [if_pos h2, hno h2]
        show none = if a < e.2 then _ else _
        rw [if_neg h]
      · rw [if_neg h2]
theorem putZ_putZ (kvs : Ct) (n : Str) (u v : Int) : putZ (putZ kvs n u) n v = putZ kvs n v := by
  cases h : getZ kvs n with
  | some g =>
    have e : ∀ w : Int, putZ kvs n w = kvs.map fun e => if e.1 = n then (e.1, w) else e := fun w => by
      unfold putZ
      rw [any_getZ, h, if_pos (show (some g).isSome = true from rfl)]
    rw [e u, e v]
    unfold putZ
    rw [any_getZ, getZ_repl, if_pos rfl, h, if_pos (show ((some g).map fun _ => u).isSome = true from rfl), List.map_map]
    refine List.map_congr_left fun e _ => ?_
    show (if (if e.1 = n then (e.1, u) else e).1 = n then ((if e.1 = n then (e.1, u) else e).1, v) else (if e.1 = n then (e.1, u) else e)) = _
    by_cases h1 : e.1 = n
    · rw [if_pos h1, if_pos h1, if_pos h1]
    · rw [if_neg h1, if_neg h1]
  | none =>
    rw [putZ_new h, putZ_new h]
    have hz := getZ_none.mp h
    unfold putZ
    rw [any_getZ, getZ_app, h, getZ_cons, if_pos rfl, if_pos (show ((none : Option Int).or (some u)).isSome = true from rfl), List.map_append]
    congr 1
    · have : ∀ e ∈ kvs, (if e.1 = n then (e.1, v) else e) = e := fun e he => by
        rw [if_neg (fun q => hz (List.mem_map.mpr ⟨e, he, q⟩))]
      rw [List.map_congr_left this, List.map_id']
    · show [if n = n then (n, v) else (n, u)] = _
      rw [if_pos rfl]
theorem addZ_addZ (kvs : Ct) (n : Str) (c e : Int) : addZ (addZ kvs n c) n e = addZ kvs n (c + e) := by
  unfold addZ
  rw [getZ_put, if_pos rfl, putZ_putZ]
  show putZ kvs n ((getZ kvs n).getD 0 + c + e) = _
  rw [Int.add_assoc]
theorem takeZ_takeZ {a b : Int} (hb : 0 ≤ b) : ∀ kvs : Ct, takeZ b (takeZ a kvs) = takeZ (a + b) kvs
  | [] => rfl
  | e :: r => by
    have ih := takeZ_takeZ hb (a := a) r
    unfold takeZ at ih ⊢
    by_cases h : a < e.2
    · rw [List.filter_cons_of_pos (by simpa using h), List.map_cons]
      by_cases h2 : a + b < e.2
      · rw [List.filter_cons_of_pos (by simp; omega), List.map_cons, ih, List.filter_cons_of_pos (by simpa using h2), List.map_cons]
        congr 2
        show e.2 - a - b = e.2 - (a + b)
        omega
      · rw [List.filter_cons_of_neg (by simp; omega), ih, List.filter_cons_of_neg (by simpa using h2)]
    · rw [List.filter_cons_of_neg (by simpa using h), ih, List.filter_cons_of_neg (by simp; omega)]
theorem takeZ_zero : ∀ {kvs : Ct}, (∀ e ∈ kvs, 1 ≤ e.2) → takeZ 0 kvs = kvs
  | [], _ => rfl
  | e :: r, h => by
    have ih := takeZ_zero (kvs := r) fun f hf => h f (List.mem_cons_of_mem _ hf)
    have h1 := h e List.mem_cons_self
    unfold takeZ at ih ⊢
    rw [List.filter_cons_of_pos (by simp; omega), List.map_cons, ih]
    congr 1
    show (e.1, e.2 - 0) = e
    rw [Int.sub_zero]
/-- less than the least is taken off: all stay -/
theorem takeZ_all : ∀ {kvs : Ct} {c : Int}, (∀ e ∈ kvs, c < e.2) → takeZ c kvs = kvs.map fun e => (e.1, e.2 - c)
  | [], _, _ => rfl
  | e :: r, c, h => by
    have ih := takeZ_all (kvs := r) (c := c) fun f hf => h f (List.mem_cons_of_mem _ hf)
    unfold takeZ at ih ⊢
    rw [List.filter_cons_of_pos (by simpa using h e List.mem_cons_self), List.map_cons, ih]
    rfl
theorem sumC_cons' (e : Str × Int) (kvs : Ct) : sumC (e :: kvs) = e.2 + sumC kvs := by
  unfold sumC
  rw [List.map_cons, List.sum_cons]
theorem sumC_perm' {a b : Ct} (p : a.Perm b) : sumC a = sumC b := by
  induction p with
  | nil => rfl
  | cons x _ ih => rw [sumC_cons', sumC_cons', ih]
  | swap x y l =>
    rw [sumC_cons', sumC_cons', sumC_cons', sumC_cons']
    omega
  | trans _ _ ih1 ih2 => rw [ih1, ih2]
theorem sumC_app : ∀ a b : Ct, sumC (a ++ b) = sumC a + sumC b
  | [], b => by show sumC b = 0 + sumC b; omega
  | e :: a, b => by
    rw [List.cons_append, sumC_cons', sumC_cons', sumC_app a b]
    omega
theorem sumC_repl {n : Str} {v : Int} : ∀ {kvs : Ct} {g : Int}, NdZ kvs → getZ kvs n = some g → sumC (kvs.map fun e => if e.1 = n then (e.1, v) else e) = sumC kvs + (v - g)
  | [], _, _, h => by cases h
  | e :: r, g, nd, h => by
    unfold NdZ at nd
    rw [List.map_cons, List.nodup_cons] at nd
    rw [getZ_cons] at h
    rw [List.map_cons, sumC_cons', sumC_cons']
    by_cases h1 : e.1 = n
    · rw [if_pos h1] at h ⊢
      have : ∀ f ∈ r, (if f.1 = n then (f.1, v) else f) = f := fun f hf => by
        rw [if_neg (fun q => nd.1 (List.mem_map.mpr ⟨f, hf, q.trans h1.symm⟩))]
      rw [List.map_congr_left this, List.map_id']
      have := Option.some.inj h
      show v + _ = _
      omega
    · rw [if_neg h1] at h ⊢
      rw [sumC_repl nd.2 h]
      omega
theorem sumC_add {kvs : Ct} {n : Str} {c : Int} (nd : NdZ kvs) : sumC (addZ kvs n c) = sumC kvs + c := by
  unfold addZ putZ
  rw [any_getZ]
  cases h : getZ kvs n with
  | some g =>
    rw [if_pos (show (some g).isSome = true from rfl), sumC_repl nd h]
    show _ + (g + c - g) = _
    omega
  | none =>
    rw [if_neg (show ¬ (none : Option Int).isSome = true by decide), sumC_app]
    show sumC kvs + (0 + c + 0) = _
    omega
theorem sumC_take1 : ∀ {kvs : Ct}, (∀ e ∈ kvs, 1 ≤ e.2) → sumC (takeZ 1 kvs) = sumC kvs - (kvs.length : Int)
  | [], _ => rfl
  | e :: r, h => by
    have ih := sumC_take1 (kvs := r) fun f hf => h f (List.mem_cons_of_mem _ hf)
    have h1 := h e List.mem_cons_self
    rw [sumC_cons', List.length_cons]
    unfold takeZ at ih ⊢
    by_cases h2 : 1 < e.2
    · rw [List.filter_cons_of_pos (by simpa using h2), List.map_cons, sumC_cons', ih]
      show e.2 - 1 + _ = _
      omega
    · rw [List.filter_cons_of_neg (by simpa using h2), ih]
      omega
theorem full_of {r : Int} {n : Str} {kvs : Ct} (h : full r n kvs = true) : getZ kvs n = none ∧ (kvs.length : Int) = r := by
  unfold full at h
  rw [Bool.and_eq_true] at h
  refine ⟨?_, of_decide_eq_true h.2⟩
  cases e : getZ kvs n with
  | none => rfl
  | some _ =>
    rw [e] at h
    exact absurd h.1 (by intro z; cases z)
theorem full_yes {r : Int} {n : Str} {kvs : Ct} (h : getZ kvs n = none) (h2 : (kvs.length : Int) = r) : full r n kvs = true := by
  unfold full
  rw [h, decide_eq_true h2]
  rfl
theorem full_no' {r : Int} {n : Str} {kvs : Ct} (h : (getZ kvs n).isSome = true ∨ ¬ (kvs.length : Int) = r) : full r n kvs = false := by
  unfold full
  rcases h with h | h
  · rw [h]
    rfl
  · rw [decide_eq_false h, Bool.and_false]
theorem mn_pos {kvs : Ct} (ne : kvs ≠ []) (pos : ∀ e ∈ kvs, 1 ≤ e.2) : 1 ≤ mnC kvs := by
  obtain ⟨h, _⟩ := mnC_spec ne
  obtain ⟨e, he, h⟩ := List.mem_map.mp h
  rw [← h]
  exact pos e he
theorem ne_of_full {r : Int} {kvs : Ct} (hr : 1 ≤ r) (h : (kvs.length : Int) = r) : kvs ≠ [] := by
  rintro rfl
  have : (0 : Int) = r := h
  omega
theorem feed_lt {r c m o : Int} {n : Str} {kvs : Ct} (hf : full r n kvs = true) (hc : c ≤ mnC kvs) : feedT r n c ⟨m, o, kvs⟩ = ⟨m + c, o + c, takeZ c kvs⟩ := by
  unfold feedT
  dsimp only
  rw [hf, if_pos rfl, if_neg (show ¬ mnC kvs < c by omega), if_neg (show ¬ 0 < c - c by omega)]
theorem feed_gt {r c m o : Int} {n : Str} {kvs : Ct} (hf : full r n kvs = true) (hc : mnC kvs < c) : feedT r n c ⟨m, o, kvs⟩ = ⟨m + c, o + mnC kvs, addZ (takeZ (mnC kvs) kvs) n (c - mnC kvs)⟩ := by
  unfold feedT
  dsimp only
  rw [hf, if_pos rfl, if_pos hc, if_pos (show 0 < c - mnC kvs by omega)]
theorem feed_add {r c m o : Int} {n : Str} {kvs : Ct} (hf : full r n kvs = false) (hc : 0 < c) : feedT r n c ⟨m, o, kvs⟩ = ⟨m + c, o, addZ kvs n c⟩ := by
  unfold feedT
  dsimp only
  rw [hf, if_neg (by decide), if_pos hc]
theorem feed_zero {r : Int} {n : Str} {x : Tl} (ok : TlOk r x) (hr : 1 ≤ r) : feedT r n 0 x = x := by
  obtain ⟨m, o, kvs⟩ := x
  cases hf : full r n kvs with
  | true =>
    obtain ⟨_, hl⟩ := full_of hf
    have h1 := mn_pos (ne_of_full hr hl) ok.pos
    rw [feed_lt hf (by omega), takeZ_zero ok.pos, Int.add_zero, Int.add_zero]
  | false =>
    unfold feedT
    dsimp only
    rw [hf, if_neg (by decide), if_neg (by decide), Int.add_zero]
theorem full_added {r c : Int} {n : Str} {kvs : Ct} : full r n (addZ kvs n c) = false := full_no' (.inl (by unfold addZ; rw [getZ_put, if_pos rfl]; rfl))
theorem full_less {r : Int} {n : Str} {kvs : Ct} (hr : 1 ≤ r) (hl : (kvs.length : Int) = r) : full r n (takeZ (mnC kvs) kvs) = false := full_no' (.inr (by have := takeZ_less (ne_of_full hr hl); omega))
theorem feed_iter {r c : Int} {n : Str} {x : Tl} (ok : TlOk r x) (hr : 1 ≤ r) (hc : 0 ≤ c) : feedT r n (c + 1) x = feedT r n 1 (feedT r n c x) := by
  obtain ⟨m, o, kvs⟩ := x
  have ok0 := ok
  obtain ⟨nd, len, pos, nm⟩ := ok
  dsimp only at nd len pos nm
  have e0 : m + (c + 1) = m + c + 1 := by omega
  by_cases h0 : 0 < c
  · cases hf : full r n kvs with
    | false => rw [feed_add hf (by omega), feed_add hf h0, feed_add full_added (by decide), addZ_addZ, e0]
    | true =>
      obtain ⟨hg, hl⟩ := full_of hf
      have ne := ne_of_full hr hl
      obtain ⟨hm, hle⟩ := mnC_spec ne
      by_cases hcm : c < mnC kvs
      · have hall : ∀ e ∈ kvs, c < e.2 := fun e he => by
          have := hle e.2 (List.mem_map.mpr ⟨e, he, rfl⟩)
          omega
        have ht := takeZ_all hall
        have hy : full r n (takeZ c kvs) = true := full_yes (by rw [getZ_take nd, hg]; rfl) (by rw [ht, List.length_map]; exact hl)
        have hmn : mnC (takeZ c kvs) = mnC kvs - c := by
          refine (mnC_uniq ?_ fun y hy => ?_).symm
          · rw [ht, List.map_map]
            obtain ⟨e, he, h⟩ := List.mem_map.mp hm
            exact List.mem_map.mpr ⟨e, he, by show e.2 - c = _; rw [h]⟩
          · rw [ht, List.map_map] at hy
            obtain ⟨e, he, rfl⟩ := List.mem_map.mp hy
            have := hle e.2 (List.mem_map.mpr ⟨e, he, rfl⟩)
            show mnC kvs - c ≤ e.2 - c
            omega
        rw [feed_lt hf (by omega), feed_lt hf (by omega), feed_lt hy (by omega), takeZ_takeZ (by decide), e0, Int.add_assoc o c 1]
      · by_cases hcm2 : c = mnC kvs
        · rw [feed_gt hf (by omega), feed_lt hf (by omega), hcm2, feed_add (full_less hr hl) (by decide), ← hcm2, e0]
          congr 2
          omega
        · rw [feed_gt hf (by omega), feed_gt hf (by omega), feed_add full_added (by decide), addZ_addZ, e0]
          congr 2
          omega
  · have : c = 0 := by omega
    subst this
    rw [feed_zero ok0 hr]
    rfl
/-! what feeding leaves true -/
/-- of an exact stream: so much was taken off -/
structure Fd (r : Int) (x : Tl) : Prop where
  lost : x.m - sumC x.c = (r + 1) * x.o
  off : 0 ≤ x.o
theorem fd0 (r : Int) : Fd r tl0 := ⟨by show (0 : Int) - 0 = (r + 1) * 0; rw [Int.mul_zero]; rfl, Int.le_refl _⟩
theorem fd_feed {r : Int} {n : Str} {x : Tl} (ok : TlOk r x) (hr : 1 ≤ r) (h : Fd r x) : Fd r (feedT r n 1 x) := by
  obtain ⟨m, o, kvs⟩ := x
  obtain ⟨hl, ho⟩ := h
  dsimp only at hl ho
  cases hf : full r n kvs with
  | false =>
    rw [feed_add hf (by decide)]
    refine ⟨?_, ho⟩
    show m + 1 - sumC (addZ kvs n 1) = _
    rw [sumC_add (show NdZ kvs from ok.nd)]
    show _ = (r + 1) * o
    omega
  | true =>
    obtain ⟨hg, hlen⟩ := full_of hf
    have m1 := mn_pos (ne_of_full hr hlen) ok.pos
    rw [feed_lt hf (by omega)]
    refine ⟨?_, by dsimp only; omega⟩
    show m + 1 - sumC (takeZ 1 kvs) = (r + 1) * (o + 1)
    rw [sumC_take1 (show ∀ e ∈ kvs, 1 ≤ e.2 from ok.pos), Int.mul_add, ← hl, hlen]
    omega
theorem fd_sk {r : Int} {x : Tl} (ok : TlOk r x) (hr1 : 1 ≤ r) (hr2 : r ≤ 64) (h : Fd r x) (hm : 0 ≤ x.m) : skB r x.m x.o (srtZ x.c) = true := by
  have p := srtZ_perm x.c
  have es : sumC (srtZ x.c) = sumC x.c := sumC_perm' p
  have hl := h.lost
  have ho := h.off
  have h2 : (r + 1) * x.o ≤ 2 * r * x.o := Int.mul_le_mul_of_nonneg_right (by omega) ho
  have hlen : ((srtZ x.c).length : Int) ≤ r := by rw [p.length_eq]; exact ok.len
  unfold skB
  rw [es, hl, decide_eq_true hr1, decide_eq_true hr2, decide_eq_true hm, decide_eq_true ho, decide_eq_true hlen, decide_eq_true (Int.le_refl _), decide_eq_true h2]
  rfl
def gd (kvs : Ct) (k : Str) : Int := (getZ kvs k).getD 0
theorem gd_add (kvs : Ct) (n : Str) (c : Int) (k : Str) : gd (addZ kvs n c) k = gd kvs k + if k = n then c else 0 := by
  unfold gd addZ
  rw [getZ_put]
  by_cases h : k = n
  · subst h
    rw [if_pos rfl, if_pos rfl]
    rfl
  · rw [if_neg h, if_neg h, Int.add_zero]
theorem gd_take1 {kvs : Ct} (nd : NdZ kvs) (pos : ∀ e ∈ kvs, 1 ≤ e.2) (k : Str) : gd (takeZ 1 kvs) k = if 0 < gd kvs k then gd kvs k - 1 else 0 := by
  unfold gd
  rw [getZ_take nd]
  cases h : getZ kvs k with
  | none => rfl
  | some v =>
    have hv : 1 ≤ v := by
      have := getZ_pos (n := k) pos
      unfold getZ at h
      cases hh : kvs.find? fun e => decide (e.1 = k) with
      | none => rw [hh] at h; cases h
      | some e =>
        rw [hh] at h
        have h1 := pos e (List.mem_of_find?_eq_some hh)
        have h2 := Option.some.inj h
        have h3 : e.2 = v := h2
        omega
    show (if 1 < v then some (v - 1) else none).getD 0 = if 0 < v then v - 1 else 0
    rw [if_pos (show 0 < v by omega)]
    by_cases h1 : 1 < v
    · rw [if_pos h1]
      rfl
    · rw [if_neg h1]
      show (0 : Int) = v - 1
      omega
/-- the true counts lie from the kept ones to off above -/
def Tru (kc : Ct) (x : Tl) : Prop := ∀ k, 0 ≤ gd kc k - gd x.c k ∧ gd kc k - gd x.c k ≤ x.o
theorem tru0 : Tru [] tl0 := fun k => ⟨Int.le_refl _, Int.le_refl _⟩
theorem tru_feed {r : Int} {n : Str} {x : Tl} {kc : Ct} (ok : TlOk r x) (hr : 1 ≤ r) (h : Tru kc x) : Tru (addZ kc n 1) (feedT r n 1 x) := by
  obtain ⟨m, o, kvs⟩ := x
  intro k
  obtain ⟨a, b⟩ := h k
  dsimp only at a b
  rw [gd_add]
  cases hf : full r n kvs with
  | false =>
    rw [feed_add hf (by decide)]
    dsimp only
    rw [gd_add]
    omega
  | true =>
    obtain ⟨hg, hlen⟩ := full_of hf
    have m1 := mn_pos (ne_of_full hr hlen) ok.pos
    rw [feed_lt hf (by omega)]
    dsimp only
    rw [gd_take1 (show NdZ kvs from ok.nd) (show ∀ e ∈ kvs, 1 ≤ e.2 from ok.pos)]
    have hp : 0 ≤ gd kvs k := getZ_pos ok.pos
    by_cases hk : k = n
    · subst hk
      have : gd kvs k = 0 := by
        unfold gd
        rw [hg]
        rfl
      rw [if_pos rfl, this, if_neg (by decide)]
      omega
    · rw [if_neg hk]
      split <;> omega
end Kb


namespace Kb
open PySem PySem.Spec PyProof.Rows L2 SrtZ SrtO
abbrev sP_counts_of : Stmt := topS 20
theorem scP_counts_of : FnScope ["tree", "many", "step", "name"] ["tree"] (defScope sP_counts_of) := ⟨rfl, rfl, rfl, by decide +kernel, rfl, by decide +kernel, by decide +kernel⟩
abbrev DnCountsOf (K : PySem.W.Frag) (mg : Str → Option Value) := Dn K mg "counts_of" sP_counts_of ["tree"]
/-- how often each name stands in the streams -/
def cntZ (zs : List Str) (kc : Ct) : Ct := zs.foldl (fun k n => addZ k n 1) kc
def cntS (kc : Ct) : Stp → Ct
  | .put zs => cntZ zs kc
  | .pour => kc
def cntT (l : List Stp) : Ct := l.foldl cntS []
theorem cntZ_snoc {zs : List Str} {kc : Ct} {i : Nat} {n : Str} (h : zs[i]? = some n) : cntZ (zs.take (i + 1)) kc = addZ (cntZ (zs.take i) kc) n 1 := by
  unfold cntZ
  rw [List.take_add_one, h, List.foldl_append]
  rfl
theorem cntT_snoc {l : List Stp} {i : Nat} {t : Stp} (h : l[i]? = some t) : cntT (l.take (i + 1)) = cntS (cntT (l.take i)) t := by
  unfold cntT
  rw [List.take_add_one, h, List.foldl_append]
  rfl
theorem cntZ_nd : ∀ {zs : List Str} {kc : Ct}, NdZ kc → NdZ (cntZ zs kc)
  | [], _, h => h
  | z :: zs, kc, h => cntZ_nd (zs := zs) (addZ_nd (n := z) (c := 1) h)
theorem cntZ_len : ∀ {zs : List Str} {kc : Ct}, (cntZ zs kc).length ≤ kc.length + zs.length
  | [], _ => Nat.le_refl _
  | z :: zs, kc => by
    have h := cntZ_len (zs := zs) (kc := addZ kc z 1)
    have h2 := addZ_len (kvs := kc) (n := z) (c := 1)
    show (cntZ zs (addZ kc z 1)).length ≤ kc.length + (zs.length + 1)
    omega
theorem cntS_nd {kc : Ct} {t : Stp} (h : NdZ kc) : NdZ (cntS kc t) := by
  cases t with
  | put zs => exact cntZ_nd h
  | pour => exact h
theorem cntT_nd (l : List Stp) : NdZ (cntT l) := by
  have gen : ∀ (l : List Stp) (kc : Ct), NdZ kc → NdZ (l.foldl cntS kc) := by
    intro l
    induction l with
    | nil => exact fun _ h => h
    | cons t l ih => exact fun kc h => ih _ (cntS_nd h)
  exact gen l [] List.nodup_nil
theorem mny_mono (l : List Stp) (i : Nat) : mny (l.take i) ≤ mny l := by
  have gen : ∀ (l : List Stp) (m : Int), m ≤ l.foldl cS m := by
    intro l
    induction l with
    | nil => exact fun m => Int.le_refl _
    | cons t l ih =>
      intro m
      have h := ih (cS m t)
      have h2 : m ≤ cS m t := by
        cases t with
        | put zs => show m ≤ m + (zs.length : Nat); omega
        | pour => exact Int.le_refl _
      exact Int.le_trans h2 h
  unfold mny
  have := gen (l.drop i) ((l.take i).foldl cS 0)
  rw [← List.foldl_append, List.take_append_drop] at this
  exact this
theorem cntT_len : ∀ l : List Stp, ((cntT l).length : Int) ≤ mny l := by
  have gen : ∀ (l : List Stp) (kc : Ct) (m : Int), (kc.length : Int) ≤ m → ((l.foldl cntS kc).length : Int) ≤ l.foldl cS m := by
    intro l
    induction l with
    | nil => exact fun _ _ h => h
    | cons t l ih =>
      intro kc m h
      refine ih _ _ ?_
      cases t with
      | put zs =>
        have := cntZ_len (zs := zs) (kc := kc)
        show ((cntZ zs kc).length : Int) ≤ m + (zs.length : Nat)
        omega
      | pour => exact h
  exact fun l => gen l [] 0 (Int.le_refl _)
theorem cts_of {r : Int} {x : Tl} (ok : TlOk r x) : Cts (srtZ x.c) := by
  have p := srtZ_perm x.c
  exact ⟨fun e he => ok.nm e (p.mem_iff.mp he), fun e he => ok.pos e (p.mem_iff.mp he), srtZ_asc ok.nd⟩
section
variable {P : Program} {w : World} {K : PySem.W.Frag} {mg : Str → Option Value} {base : Heap}
/-! counts_of -/
def spCountsOf (K : PySem.W.Frag) : Sp := fun vs H Q _ => ∃ (a : Addr) (l : List Stp), vs = [.ref a] ∧ TreeAt K H a l ∧ Tree l ∧
  ∀ H' k (ts : List Addr), Same H H' → Ptp H' k (ts.map V.ref) → Paired (PrT H') ts (srtZ (cntT l)) → Q (.ref k) H'
theorem ok_counts_of (T : Blt mg) (cL : Cst mg "LONGEST_NAME" (.int 8)) (cS' : Cst mg "MOST_STEPS" (.int 5000)) (cI : Cst mg "MOST_ITEMS" (.int 50000)) (dP_is_name : DnIsName K mg) (dP_is_stream : DnIsStream K mg) (dP_is_put : DnIsPut K mg) (dP_is_pour : DnIsPour K mg) (dP_is_tree : DnIsTree K mg) (d : DnCountsOf K mg) :
    FnOk P w K mg base CX0 5 d.f d.fd ["tree"] (spCountsOf K) := by
  have GP_is_tree : FnOk P w K mg base CX0 4 dP_is_tree.f dP_is_tree.fd ["thing"] (spIsTree K) := ok_is_tree T cL cS' cI dP_is_name dP_is_stream dP_is_put dP_is_pour dP_is_tree
  refine d.F.ok scP_counts_of (fun vs H Q E h => ?_) (fun cdv A outer s H vs Q E hr h => ?_)
  · obtain ⟨a, l, rfl, _⟩ := h
    rfl
  · obtain ⟨a, l, rfl, ht, tr, q⟩ := h
    have hu := hu_of hr
    refine ⟨_, (pss_cons (ps_if (pt_not (pt_val (pe_call GP_is_tree (hr.mono (by omega)) (by rfl) dP_is_tree.g dP_is_tree.F.kp dP_is_tree.b .nil pass0 (pa_cons (pv 0) pa_nil))))
      (pss_one ps_never)
      pss_nil)
    (pss_cons (ps_set (i := 1) scP_counts_of.nd rfl (Or.inl rfl) pe_dnewK)
    (pss_cons (ps_for PassesOwn.never rfl (pi_tup (pv 0)) (pg_name (i := 2) scP_counts_of.nd rfl (Or.inl rfl))
      (pss_one (ps_if (pt_cmpR op_eq (pe_ix ix_tup (pv 2) pe_int (fun _ _ => rfl)) pe_str (nomark _))
        (pss_one (ps_for PassesOwn.never rfl (pi_tup (pe_ix ix_tup (pv 2) pe_int (fun _ _ => rfl))) (pg_name (i := 3) scP_counts_of.nd rfl (Or.inl rfl))
          (pss_one (ps_dput hu (pv 1) (pv 3) (pe_op op_add (pe_dget2 hu (pv 1) (pv 3) pe_int ⟨rfl, rfl, rfl, rfl⟩) pe_int) rfl))))
        pss_nil)))
    (pss_one (ps_ret (pe_callTy call_tupleF (by rfl) T.n_tuple (by decide +kernel) (pa_cons (pe_callB (cr_sortedIZ rfl) (by rfl) T.n_sorted (by decide +kernel) (pa_cons (pe_bm0 PySem.F.plainAttrs_dict PySem.F.slot_dict_items PySem.F.type_dict_items mt_itemsK (pv 1)) pa_nil)) pa_nil))))))), ?_⟩
    refine ⟨.ref a, rfl, a, l, rfl, ht, tr, fun H1 s1 => ⟨true, rfl, iteF fun c nc => ?_⟩⟩
    obtain ⟨vs, hS, hp⟩ := ht
    have hl : vs.length = l.length := Paired.length hp
    have nc0 : H c = none := Same.gone s1 nc
    have s2 : Same H (upd H1 c (.dK [])) := Same.new s1 nc
    have few := tr.few
    refine ⟨.ref a, rfl, a, rfl, ⟨_, seqT hS s2⟩, for_tup (xs := vs) (fun i σ H3 => ∃ y2 y3 : Option V, σ = [some (.ref a), some (.ref c), y2, y3] ∧ Same H H3 ∧ H3 c = some (.dK ((cntT (l.take i)).map entZ))) ⟨none, none, rfl, s2, upd_same⟩ (fun i σ H3 _ ⟨_, _, _, s3, _⟩ => seqT hS s3) ?_ ?_⟩
    · rintro i v σ H3 hi ⟨y2, y3, rfl, s3, hc3⟩
      obtain ⟨st, hst, hat⟩ := paired_at hp hi
      have hat3 := hat.same s3
      have snoc := cntT_snoc hst
      have l0 := cntT_len (l.take i)
      have m0 := mny_mono l i
      have m1 := mny_mono l (i + 1)
      cases st with
      | put zs =>
        obtain ⟨b, t, rfl, h1, h2, _, hzl⟩ := hat3
        refine ⟨.ref b, rfl, b, _, _, _, rfl, rfl, h1, atI_nat (j := 0) rfl, rfl, true, congrArg V.bl (decide_eq_true rfl), iteT ?_⟩
        refine ⟨.ref b, rfl, b, _, _, _, rfl, rfl, h1, atI_nat (j := 1) rfl, t, rfl, ⟨_, h2⟩, for_tup (xs := zs.map V.str) (fun j σ H6 => ∃ z5 : Option V, σ = [some (.ref a), some (.ref c), some (.ref b), z5] ∧ Same H H6 ∧ SqT K H6 t (zs.map V.str) ∧ H6 c = some (.dK ((cntZ (zs.take j) (cntT (l.take i))).map entZ))) ⟨y3, rfl, s3, h2, hc3⟩ (fun j σ H6 _ ⟨_, _, _, h, _⟩ => h) ?_ ?_⟩
        · rintro j v σ H6 hj ⟨z5, rfl, s6, h6, hc6⟩
          obtain ⟨z, hz, rfl⟩ := map_at hj
          have lj := cntZ_len (zs := zs.take j) (kc := cntT (l.take i))
          rw [List.length_take] at lj
          refine ⟨.ref c, rfl, c, rfl, .inl ⟨_, .inl hc6⟩, .str z, rfl, _, DGet.k (k := Sum.inr z) hc6, ?_⟩
          rw [getZ_val]
          refine ⟨(getZ (cntZ (zs.take j) (cntT (l.take i))) z).getD 0, 1, ?_, rfl, ?_⟩
          · cases getZ (cntZ (zs.take j) (cntT (l.take i))) z <;> rfl
          refine ⟨.ref c, rfl, .str z, rfl, c, _, rfl, DPut.k (k := Sum.inr z) hc6 (by rw [List.length_map, sizeLine_eq]; omega), ?_⟩
          rw [putZ_put]
          refine ⟨some (.str z), rfl, Same.put s6 nc0, ?_, ?_⟩
          · rcases h6 with (h | ⟨o', h⟩) | h
            · exact .inl (.inl (by rw [upd_ne (ne_of h hc6 (by intro z; cases z))]; exact h))
            · exact .inl (.inr ⟨o', by rw [upd_ne (ne_of h hc6 (by intro z; cases z))]; exact h⟩)
            · exact .inr h
          · rw [upd_same, cntZ_snoc hz]
            rfl
        · rintro σ H6 ⟨z5, rfl, s6, h6, hc6⟩
          rw [List.length_map, List.take_length] at hc6
          refine ⟨_, _, rfl, s6, ?_⟩
          rw [snoc]
          exact hc6
      | pour =>
        obtain ⟨b, rfl, h1⟩ := hat3
        refine ⟨.ref b, rfl, b, _, _, _, rfl, rfl, h1, atI_nat (j := 0) rfl, rfl, false, congrArg V.bl (decide_eq_false stream_ne), iteF ?_⟩
        refine ⟨_, _, rfl, s3, ?_⟩
        rw [snoc]
        exact hc3
    · rintro σ H3 ⟨y2, y3, rfl, s3, hc3⟩
      rw [hl, List.take_length] at hc3
      refine ⟨.ref c, rfl, .inr (.inr (.inl ⟨rfl, .inl ⟨_, hc3⟩⟩)), c, _, rfl, rfl, hc3, fun p np => ?_⟩
      refine ⟨p, c, cntT l, rfl, upd_same, (by rw [upd_ne (ne_of_none hc3 np)]; exact hc3), fun H4 l4 ys ts s4 nl nts lts pm so hl4 hts => ?_⟩
      refine ⟨l4, _, rfl, sql hl4, fun k ob nk ho => ?_⟩
      have s5 : Same H H4 := fun b u e => s4 b u (Same.new s3 np b u e)
      have eys := srtZ_of (asc_of so pm (cntT_nd l)) pm (cntT_nd l)
      subst eys
      exact q _ k ts (Same.new s5 nk) ⟨ob, upd_same, ho⟩ (paired_imp (fun t e h => same_upd nk _ _ h) hts)
/-! need_two, poured -/
def spNeedTwo : Sp := fun vs H Q _ => ∃ (s1 s2 : Addr) (r : Int) (x y : Tl), vs = [.ref s1, .ref s2] ∧ SkAt H s1 r x ∧ SkAt H s2 r y ∧ r ≤ 64 ∧ TlOk r x ∧ TlOk r y ∧ skB r x.m x.o (srtZ x.c) = true ∧ skB r y.m y.o (srtZ y.c) = true ∧ ∀ H', Same H H' → Q .non H'
def spPoured : Sp := fun vs H Q _ => ∃ (s1 s2 : Addr) (r : Int) (x y : Tl), vs = [.ref s1, .ref s2] ∧ SkAt H s1 r x ∧ SkAt H s2 r y ∧ 1 ≤ r ∧ r ≤ 64 ∧ TlOk r x ∧ TlOk r y ∧ skB r x.m x.o (srtZ x.c) = true ∧ skB r y.m y.o (srtZ y.c) = true ∧
  ∀ H' s', Same H H' → H s' = none → SkAt H' s' r (pourT r (skT y) (skT x)) → Q (.ref s') H'
end
end Kb


namespace Kb
open PySem PySem.Spec PyProof.Rows L2 SrtZ SrtO
abbrev Nturned : List Str := ["_law_well_here", "_law_items_here", "_law_rest", "_law_found", "_law_k"]
abbrev scounted : Stmt := topS 44
abbrev Ncounted : List Str := ["_law_items_here", "_law_found", "_law_name_here"]
theorem sccounted : FnScope ["_law_items_here", "_law_found", "_law_name_here"] ["_law_items_here"] (defScope scounted) := ⟨rfl, rfl, rfl, by decide +kernel, rfl, by decide +kernel, by decide +kernel⟩
abbrev Dncounted (K : PySem.W.Frag) (mg : Str → Option Value) := Dn K mg "_law_counted" scounted ["_law_items_here"]
theorem erase_map {α β : Type} (f : α → β) : ∀ (xs : List α) (k : Nat), (xs.map f).eraseIdx k = (xs.eraseIdx k).map f
  | [], _ => rfl
  | x :: xs, 0 => rfl
  | x :: xs, k + 1 => by
    show f x :: (xs.map f).eraseIdx k = f x :: (xs.eraseIdx k).map f
    rw [erase_map f xs k]
theorem erase_perm {α : Type} : ∀ {xs : List α} {k : Nat} {x : α}, xs[k]? = some x → (x :: xs.eraseIdx k).Perm xs
  | y :: xs, 0, x, h => by
    cases h
    exact List.Perm.refl _
  | y :: xs, k + 1, x, h => by
    show (x :: y :: xs.eraseIdx k).Perm (y :: xs)
    exact (List.Perm.swap y x _).trans (List.Perm.cons y (erase_perm (xs := xs) (k := k) h))
section
variable {P : Program} {w : World} {K : PySem.W.Frag} {mg : Str → Option Value} {base : Heap}
/-! _law_turned -/
def spTurned : Sp := fun vs H Q _ => ∃ (a c l : Addr) (zs : List Str), vs = [.ref a, .ref l] ∧ Wl a c H ∧ H l = some (.lst (zs.map V.str)) ∧ zs.length ≤ 1000 ∧
  ∀ H' p (ys : List Str), Exw a H H' → Wl a c H' → H p = none → p ≠ a → H' p = some (.lst (ys.map V.str)) → ys.Perm zs → Q (.ref p) H'
/-! _law_counted -/
def spCounted : Sp := fun vs H Q _ => ∃ (l : Addr) (zs : List Str), vs = [.ref l] ∧ H l = some (.lst (zs.map V.str)) ∧ zs.length ≤ 60000 ∧
  ∀ H' d, Same H H' → H d = none → H' d = some (.dK ((cntZ zs []).map entZ)) → Q (.ref d) H'
theorem ok_counted (T : Blt mg) (d : Dncounted K mg) : FnOk P w K mg base CX0 1 d.f d.fd ["_law_items_here"] spCounted := by
  refine d.F.ok sccounted (fun vs H Q E h => ?_) (fun cdv A outer s H vs Q E hr h => ?_)
  · obtain ⟨l, zs, rfl, _⟩ := h
    rfl
  · obtain ⟨l, zs, rfl, hl, hz, q⟩ := h
    have hu := hu_of hr
    refine ⟨_, (pss_cons (ps_set (i := 1) sccounted.nd rfl (Or.inl rfl) pe_dnewK)
    (pss_cons (ps_for PassesOwn.never rfl (pi_list (pv 0)) (pg_name (i := 2) sccounted.nd rfl (Or.inl rfl))
      (pss_one (ps_dput hu (pv 1) (pv 2) (pe_op op_add (pe_dget2 hu (pv 1) (pv 2) pe_int ⟨rfl, rfl, rfl, rfl⟩) pe_int) rfl)))
    (pss_one (ps_ret (pv 1))))), ?_⟩
    refine fun d nd => ?_
    have s2 : Same H (upd H d (.dK [])) := same_upd nd
    have hl2 := s2 _ _ hl
    refine ⟨.ref l, rfl, l, rfl, ⟨_, sql hl2⟩, for_list (xs := zs.map V.str) (fun j σ H6 => ∃ z5 : Option V, σ = [some (.ref l), some (.ref d), z5] ∧ Same H H6 ∧ H6 l = some (.lst (zs.map V.str)) ∧ H6 d = some (.dK ((cntZ (zs.take j) []).map entZ))) ⟨none, rfl, s2, hl2, upd_same⟩ (fun j σ H6 _ ⟨_, _, _, h, _⟩ => sql h) ?_ ?_⟩
    · rintro j v σ H6 hj ⟨z5, rfl, s6, h6, hc6⟩
      obtain ⟨z, hz', rfl⟩ := map_at hj
      have lj := cntZ_len (zs := zs.take j) (kc := [])
      rw [List.length_take] at lj
      have l0 : ([] : Ct).length = 0 := rfl
      refine ⟨.ref d, rfl, d, rfl, .inl ⟨_, .inl hc6⟩, .str z, rfl, _, DGet.k (k := Sum.inr z) hc6, ?_⟩
      rw [getZ_val]
      refine ⟨(getZ (cntZ (zs.take j) []) z).getD 0, 1, ?_, rfl, ?_⟩
      · cases getZ (cntZ (zs.take j) []) z <;> rfl
      refine ⟨.ref d, rfl, .str z, rfl, d, _, rfl, DPut.k (k := Sum.inr z) hc6 (by rw [List.length_map, sizeLine_eq]; omega), ?_⟩
      rw [putZ_put]
      refine ⟨some (.str z), rfl, Same.put s6 nd, ?_, ?_⟩
      · rw [upd_ne (ne_of h6 hc6 (by intro z; cases z))]
        exact h6
      · rw [upd_same, cntZ_snoc hz']
        rfl
    · rintro σ H6 ⟨z5, rfl, s6, h6, hc6⟩
      rw [List.length_map, List.take_length] at hc6
      exact ⟨.ref d, rfl, q H6 d s6 nd hc6⟩
end
theorem cntT_put (l : List Stp) (zs : List Str) : cntT (l ++ [.put zs]) = cntZ zs (cntT l) := by
  unfold cntT
  rw [List.foldl_append]
  rfl
theorem cntT_pours (l : List Stp) (n : Nat) : cntT (l ++ List.replicate n .pour) = cntT l := by
  unfold cntT
  rw [List.foldl_append]
  induction n with
  | zero => rfl
  | succ n ih => exact ih
theorem mem_getZ {kvs : Ct} (nd : NdZ kvs) (e : Str × Int) : e ∈ kvs ↔ getZ kvs e.1 = some e.2 := by
  constructor
  · intro h
    obtain ⟨i, hi⟩ := List.mem_iff_getElem?.mp h
    exact getZ_self nd hi
  · intro h
    unfold getZ at h
    cases hf : kvs.find? fun f => decide (f.1 = e.1) with
    | none => rw [hf] at h; cases h
    | some f =>
      rw [hf] at h
      have h1 : f.1 = e.1 := of_decide_eq_true (List.find?_some (p := fun f : Str × Int => decide (f.1 = e.1)) hf)
      have h2 : f.2 = e.2 := Option.some.inj h
      have : f = e := Prod.ext h1 h2
      rw [← this]
      exact List.mem_of_find?_eq_some hf
theorem nd_nodup {kvs : Ct} (nd : NdZ kvs) : kvs.Nodup := by
  unfold NdZ at nd
  rw [List.Nodup, List.pairwise_map] at nd
  exact nd.imp fun h e => h (by rw [e])
theorem perm_of_getZ {a b : Ct} (na : NdZ a) (nb : NdZ b) (h : ∀ k, getZ a k = getZ b k) : a.Perm b :=
  (List.perm_ext_iff_of_nodup (nd_nodup na) (nd_nodup nb)).mpr fun e => by rw [mem_getZ na, mem_getZ nb, h]
theorem names_srt {kvs : Ct} {ys : List Str} (nd : NdZ kvs) (p : ys.Perm (kvs.map (·.1))) (h : Srtd ltZ ys) : ys = (srtZ kvs).map (·.1) := by
  have p2 := (srtZ_perm kvs).map (·.1)
  have ndy : ys.Nodup := p.nodup_iff.mpr nd
  refine List.Perm.eq_of_pairwise (le := fun (a b : Str) => ltZ b a = false) (fun a b _ _ h1 h2 => ltZ_tri h2 h1) h ?_ (p.trans p2.symm)
  rw [List.pairwise_map]
  exact (srtZ_asc nd).imp fun h => ltZ_asym h
theorem nd_perm {a b : Ct} (p : a.Perm b) (nd : NdZ a) : NdZ b := (p.map (·.1)).nodup_iff.mp nd
theorem getZ_add (kvs : Ct) (n : Str) (c : Int) (k : Str) : getZ (addZ kvs n c) k = if k = n then some (gd kvs n + c) else getZ kvs k := getZ_put _ _ _ _
theorem cntZ_same : ∀ {zs : List Str} {a b : Ct}, a.Perm b → NdZ a → (cntZ zs a).Perm (cntZ zs b)
  | [], _, _, p, _ => p
  | z :: zs, a, b, p, nd => cntZ_same (zs := zs) (addZ_perm p nd z 1) (addZ_nd nd)
theorem add_swap {a : Ct} (nd : NdZ a) (x y : Str) : (addZ (addZ a y 1) x 1).Perm (addZ (addZ a x 1) y 1) :=
  perm_of_getZ (addZ_nd (addZ_nd nd)) (addZ_nd (addZ_nd nd)) fun k => by
    rw [getZ_add, getZ_add, getZ_add, getZ_add, gd_add, gd_add]
    by_cases h1 : k = x
    · by_cases h2 : k = y
      · subst h1
        subst h2
        rfl
      · subst h1
        rw [if_pos rfl, if_neg h2, if_pos rfl, if_neg h2, Int.add_zero]
    · by_cases h2 : k = y
      · subst h2
        rw [if_neg h1, if_pos rfl, if_pos rfl, if_neg h1, Int.add_zero]
      · rw [if_neg h1, if_neg h2, if_neg h2, if_neg h1]
theorem cntZ_perm {zs zs' : List Str} (p : zs.Perm zs') : ∀ {a : Ct}, NdZ a → (cntZ zs a).Perm (cntZ zs' a) := by
  induction p with
  | nil => exact fun _ => List.Perm.refl _
  | cons z p ih => exact fun nd => ih (addZ_nd nd)
  | swap x y l => exact fun {a} nd => cntZ_same (zs := l) (add_swap nd x y) (addZ_nd (addZ_nd nd))
  | trans p q ih1 ih2 => exact fun nd => (ih1 nd).trans (ih2 nd)
theorem cntZ_val : ∀ {zs : List Str} {kc : Ct} {m : Int}, (∀ k v, getZ kc k = some v → 0 ≤ v ∧ v ≤ m) → 0 ≤ m → ∀ k v, getZ (cntZ zs kc) k = some v → 0 ≤ v ∧ v ≤ m + (zs.length : Int)
  | [], _, m, h, _, k, v, e => by
    have := h k v e
    show 0 ≤ v ∧ v ≤ m + ((0 : Nat) : Int)
    omega
  | z :: zs, kc, m, h, hm, k, v, e => by
    have := cntZ_val (zs := zs) (kc := addZ kc z 1) (m := m + 1) (fun k v e => by
      rw [getZ_add] at e
      by_cases hk : k = z
      · rw [if_pos hk] at e
        cases e
        unfold gd
        cases hg : getZ kc z with
        | none =>
          show 0 ≤ (0 : Int) + 1 ∧ (0 : Int) + 1 ≤ m + 1
          omega
        | some u =>
          have := h z u hg
          show 0 ≤ u + 1 ∧ u + 1 ≤ m + 1
          omega
      · rw [if_neg hk] at e
        have := h k v e
        omega) (by omega) k v e
    rw [List.length_cons]
    push_cast
    omega
theorem cntZ_vals {zs : List Str} (h : zs.length ≤ 1000) : ∀ e ∈ cntZ zs [], 0 ≤ e.2 ∧ e.2 ≤ 1000 := fun e he => by
  have := cntZ_val (zs := zs) (kc := []) (m := 0) (fun _ _ h => nomatch h) (Int.le_refl _) e.1 e.2 ((mem_getZ (cntZ_nd (show NdZ [] from List.nodup_nil)) e).mp he)
  omega
theorem sumC_perm2 {a b : Ct} (p : a.Perm b) : sumC a = sumC b := sumC_perm' p
end Kb

namespace L2
open PySem PySem.Spec PyProof.Rows
section
variable {X : Cx}
/-- repr of data: what it shows -/
def rRepr (K : PySem.W.Frag) : List V → Hp → VK → Prop := fun vs H Q => ∃ (v : V) (d : PyData), vs = [v] ∧ Dp K H v d ∧ d.showable = true ∧ d.hasDict = false ∧ d.depth ≤ 60 ∧ (∀ i, v = .int i → i.natAbs.log2 < 1920) ∧ d.shown.length ≤ sizeLine ∧ Q (.str d.shown) H
theorem call_reprD (hg : X.A.guards = some []) (hu : X.A.units + 64 < cLine) : CallR X (.builtin "repr") (rRepr X.K) := by
  intro pins s σ H xs us Q I r h
  obtain ⟨v, d, rfl, hd, hs, hn, hz, hi, hl, q⟩ := h
  obtain ⟨u, rfl, ru⟩ := vals1 r
  obtain ⟨as, rd⟩ := Dp.reads I d v u hd ru
  cases hd with
  | non =>
    cases ru
    rw [PyData.shown_none] at q
    exact PySem.P.repr_of_none ⟨.str _, H, I.tok _, ⟨_, rfl⟩, q⟩
  | bl b =>
    cases ru
    rw [PyData.shown_bool] at q
    exact PySem.P.repr_of_bool ⟨.str _, H, I.tok _, ⟨_, rfl⟩, by cases b <;> exact q⟩
  | int i =>
    obtain ⟨t, rfl⟩ := ru
    rw [PyData.shown_int] at q
    exact PySem.P.repr_of_int (hi i rfl) ⟨.str _, H, I.tok _, ⟨_, rfl⟩, q⟩
  | str x =>
    obtain ⟨t, rfl⟩ := ru
    rw [PyData.shown_str] at q hl
    exact PySem.P.repr_of_str ⟨.str _, H, I.tok _, ⟨_, rfl⟩, q⟩ hl
  | lst h1 h2 =>
    cases ru
    exact repr_of_reads' rd hs (fun z => by rw [hn] at z; cases z) hg (by omega) (fun _ _ e => e) (fun h' u tk hk => ⟨.str _, H, I.kept hk, ⟨_, rfl⟩, q⟩) hl
  | tup h1 h2 =>
    cases ru
    exact repr_of_reads' rd hs (fun z => by rw [hn] at z; cases z) hg (by omega) (fun _ _ e => e) (fun h' u tk hk => ⟨.str _, H, I.kept hk, ⟨_, rfl⟩, q⟩) hl
end
end L2

namespace PySem.SeqAt
open Builtin
open AutoSeq1 (wpAny_loadPart')
/-! a dict is no text and no tuple -/
theorem dict_no_str (l : Addr) (es : Array DictEntry) (n : Nat) (dd : Option Addr) (sl : Array (Option Value)) (i : Str) (u : Tok) :
    Meets (Builtin.«dict.__eq__» ⟨[.ref l, .str i u], []⟩) (fun _ R s => s.heap.get? l = some { cls := .type "dict", dict := dd, data := .dict es n, slots := sl } ∧ R (.ok (.ret .notImplemented)) s) := by
  refine .of_wp fun prog w A R s h => ?_
  obtain ⟨hp, g, d, tk, os⟩ := s
  obtain ⟨hl, h⟩ := h
  have f1 := F.sub_str_dict
  wp_walk using wpAny_loadPart' hl
  exact ⟨_, rfl, h⟩
theorem str_no_dict (l : Addr) (es : Array DictEntry) (n : Nat) (dd : Option Addr) (sl : Array (Option Value)) (i : Str) (u : Tok) :
    Meets (Builtin.«str.__eq__» ⟨[.str i u, .ref l], []⟩) (fun _ R s => s.heap.get? l = some { cls := .type "dict", dict := dd, data := .dict es n, slots := sl } ∧ R (.ok (.ret .notImplemented)) s) := by
  refine .of_wp fun prog w A R s h => ?_
  obtain ⟨hp, g, d, tk, os⟩ := s
  obtain ⟨hl, h⟩ := h
  wp_walk using wpAny_loadPart' hl, wpAny_load hl
  exact ⟨_, rfl, h⟩
theorem dict_no_tuple (l b : Addr) (es : Array DictEntry) (items2 : Array Value) (n n2 : Nat) (dd dd2 : Option Addr) (sl sl2 : Array (Option Value)) :
    Meets (Builtin.«dict.__eq__» ⟨[.ref l, .ref b], []⟩) (fun _ R s => s.heap.get? l = some { cls := .type "dict", dict := dd, data := .dict es n, slots := sl } ∧ s.heap.get? b = some { cls := .type "tuple", dict := dd2, data := .seq items2 n2, slots := sl2 } ∧ R (.ok (.ret .notImplemented)) s) := by
  refine .of_wp fun prog w A R s h => ?_
  obtain ⟨hp, g, d, tk, os⟩ := s
  obtain ⟨hl, hb, h⟩ := h
  have f1 := F.sub_tuple_dict
  wp_walk using wpAny_loadPart' hl, wpAny_loadPart' hb
  exact ⟨_, rfl, h⟩
theorem tuple_no_dict (l b : Addr) (items : Array Value) (es : Array DictEntry) (n n2 : Nat) (dd dd2 : Option Addr) (sl sl2 : Array (Option Value)) :
    Meets (Builtin.«tuple.__eq__» ⟨[.ref l, .ref b], []⟩) (fun _ R s => s.heap.get? l = some { cls := .type "tuple", dict := dd, data := .seq items n, slots := sl } ∧ s.heap.get? b = some { cls := .type "dict", dict := dd2, data := .dict es n2, slots := sl2 } ∧ R (.ok (.ret .notImplemented)) s) := by
  refine .of_wp fun prog w A R s h => ?_
  obtain ⟨hp, g, d, tk, os⟩ := s
  obtain ⟨hl, hb, h⟩ := h
  have f1 := F.sub_dict_tuple
  wp_walk using wpAny_loadPart' hl, wpAny_loadPart' hb
  exact ⟨_, rfl, h⟩
section
variable {A : Around} {s : Shared}
theorem RcAt.dict_str {l : Addr} {es : Array DictEntry} {n : Nat} {dd : Option Addr} {sl : Array (Option Value)} (b : Str) (u : Tok) (ho : s.heap.get? l = some { cls := .type "dict", dict := dd, data := .dict es n, slots := sl }) (hu : A.units < cLine) : RcAt A s (.ref l) (.str b u) false := fun prog w E Q h =>
  rc_eq_decline_or (k := false) ⟨_, ho, rfl⟩ (typeIs_str s b u) (by decide) F.sub_str_dict F.slot_dict_eq F.slot_str_eq_refl
    (fun _ hq => call_meets F.slot_dict_eq ⟨_, ho, rfl⟩ F.entry_dict_eq (F.args_dict_eq_2 _ _) (dict_no_str l es n dd sl b u) ⟨ho, hq⟩)
    (fun _ hq => call_meets F.slot_str_eq_refl (typeIs_str s b u) F.entry_str_eq (F.args_str_eq_2 _ _) (str_no_dict l es n dd sl b u) ⟨ho, hq⟩)
    (fun _ hq => wpAny_of_eq (rfl : isSame (.ref l) (.str b u) = pure false) hq) (.inr hu) h
theorem EqAt.dict_str {l : Addr} {es : Array DictEntry} {n : Nat} {dd : Option Addr} {sl : Array (Option Value)} (b : Str) (u : Tok) (ho : s.heap.get? l = some { cls := .type "dict", dict := dd, data := .dict es n, slots := sl }) (hu : A.units < cLine) : EqAt A s (.ref l) (.str b u) false := fun prog w E Q h => by
  unfold eqBool
  refine wpAny_holding ?_
  refine wpAny_ite_split (fun hab => absurd (eq_of_beq hab) nofun) (fun _ => ?_)
  exact wpAny_bind (RcAt.dict_str b u ho hu prog w E _ (wpAny_truthy_bool h))
theorem RcAt.dict_tuple {l b : Addr} {es : Array DictEntry} {n : Nat} {dd : Option Addr} {sl : Array (Option Value)} {items2 : Array Value} (ho : s.heap.get? l = some { cls := .type "dict", dict := dd, data := .dict es n, slots := sl }) (hb : s.heap.IsTuple b items2) (hu : A.units < cLine) : RcAt A s (.ref l) (.ref b) false := fun prog w E Q h => by
  obtain ⟨⟨cls2, dd2, data2, sl2⟩, ho2, hc2, n2, hd2⟩ := id hb
  simp only at hc2 hd2
  subst hc2 hd2
  have hne : l ≠ b := fun e => by
    subst e
    rw [ho] at ho2
    exact absurd ho2 (by simp)
  exact (rc_eq_decline_or (k := false) ⟨_, ho, rfl⟩ ⟨_, ho2, rfl⟩ (by decide) F.sub_tuple_dict F.slot_dict_eq F.slot_tuple_eq_refl
    (fun _ hq => call_meets F.slot_dict_eq ⟨_, ho, rfl⟩ F.entry_dict_eq (F.args_dict_eq_2 _ _) (dict_no_tuple l b es items2 n n2 dd dd2 sl sl2) ⟨ho, ho2, hq⟩)
    (fun _ hq => call_meets F.slot_tuple_eq_refl ⟨_, ho2, rfl⟩ F.entry_tuple_eq (F.args_tuple_eq_2 _ _) (tuple_no_dict b l items2 es n2 n dd2 dd sl2 sl) ⟨ho2, ho, hq⟩)
    (fun _ hq => wpAny_isSame_ref_other hne ho ho2 (by simp) hq) (.inr hu) h)
end
end PySem.SeqAt
namespace L2
open PySem PySem.Spec PyProof.Rows Builtin
variable {X : Cx} {pins : List (Addr × Obj)} {σ : St} {H : Hp} {s : Shared}
/-! anything against a text -/
def EqS (K : PySem.W.Frag) (H : Hp) (x : V) (z : Str) (c : Bool) : Prop :=
  (x = .non ∧ c = false) ∨ (∃ i, x = .int i ∧ c = false) ∨ (∃ b, x = .bl b ∧ c = false) ∨ (∃ y, x = .str y ∧ c = decide (y = z)) ∨
  ∃ a, x = .ref a ∧ c = false ∧ ((∃ xs, SqL K H a xs) ∨ (∃ xs, SqT K H a xs) ∨ ∃ k, H a = some (.dK k))
theorem dict_at (I : Inv X pins σ H s) {a : Addr} {k : List (Key × V)} (e : H a = some (.dK k)) : ∃ es n dd sl, s.heap.get? a = some { cls := .type "dict", dict := dd, data := .dict es n, slots := sl } := by
  obtain ⟨_, low, vs, _, dd⟩ := (show ObjOk X.prog X.w H s.heap a (.dK k) from I.hok a _ e)
  obtain ⟨o, es, n, ho, shape, r⟩ := dd
  obtain ⟨cls, dct, data, sl⟩ := o
  obtain ⟨c1, c2, c3⟩ := shape
  obtain ⟨c4, _⟩ := r
  simp only at c1 c4
  subst c1 c4
  exact ⟨es, n, dct, sl, ho⟩
theorem str_dec (y z : Str) : (y == z) = decide (y = z) := by
  by_cases h : y = z
  · rw [decide_eq_true h, h]
    exact beq_self_eq_true z
  · rw [decide_eq_false h]
    exact beq_eq_false_iff_ne.mpr h
theorem EqS.rc (I : Inv X pins σ H s) {A : Around} (hu : A.units < cLine) {x : V} {v : Value} {z : Str} {t : Tok} {c : Bool} (h : EqS X.K H x z c) (r : RelV x v) : SeqAt.RcAt A s v (.str z t) c := by
  rcases h with ⟨rfl, rfl⟩ | ⟨i, rfl, rfl⟩ | ⟨b, rfl, rfl⟩ | ⟨y, rfl, rfl⟩ | ⟨a, rfl, rfl, h⟩
  · cases (show v = Value.none from r)
    exact SeqAt.RcAt.none_str z t
  · obtain ⟨t', rfl⟩ := r
    exact SeqAt.RcAt.int_str i t' z t
  · cases (show v = Value.bool b from r)
    exact SeqAt.RcAt.bool_str b z t
  · obtain ⟨t', rfl⟩ := r
    rw [← str_dec]
    exact SeqAt.RcAt.str_str y t' z t
  · cases (show v = Value.ref a from r)
    rcases h with ⟨xs, h⟩ | ⟨xs, h⟩ | ⟨k, h⟩
    · obtain ⟨its, _, p, _⟩ := I.list h
      exact SeqAt.RcAt.list_str z t p.isList hu
    · obtain ⟨its, _, p, _⟩ := I.tuple h
      exact SeqAt.RcAt.tuple_str z t p hu
    · obtain ⟨es, n, dd, sl, ho⟩ := dict_at I h
      exact SeqAt.RcAt.dict_str z t ho hu
theorem EqS.eq (I : Inv X pins σ H s) {A : Around} (hu : A.units < cLine) {x : V} {v : Value} {z : Str} {t : Tok} {c : Bool} (h : EqS X.K H x z c) (r : RelV x v) : SeqAt.EqAt A s v (.str z t) c := by
  rcases h with ⟨rfl, rfl⟩ | ⟨i, rfl, rfl⟩ | ⟨b, rfl, rfl⟩ | ⟨y, rfl, rfl⟩ | ⟨a, rfl, rfl, h⟩
  · cases (show v = Value.none from r)
    exact SeqAt.EqAt.none_str z t
  · obtain ⟨t', rfl⟩ := r
    exact SeqAt.EqAt.int_str i t' z t
  · cases (show v = Value.bool b from r)
    exact SeqAt.EqAt.bool_str b z t
  · obtain ⟨t', rfl⟩ := r
    rw [← str_dec]
    exact SeqAt.EqAt.str_str y t' z t
  · cases (show v = Value.ref a from r)
    rcases h with ⟨xs, h⟩ | ⟨xs, h⟩ | ⟨k, h⟩
    · obtain ⟨its, _, p, _⟩ := I.list h
      exact SeqAt.EqAt.list_str z t p.isList hu
    · obtain ⟨its, _, p, _⟩ := I.tuple h
      exact SeqAt.EqAt.tuple_str z t p hu
    · obtain ⟨es, n, dd, sl, ho⟩ := dict_at I h
      exact SeqAt.EqAt.dict_str z t ho hu
/-- anything == a text -/
theorem op_eqS {K : PySem.W.Frag} (hK : X.K = K) (hu : X.A.units + 64 < cLine) : OpR X (compareOp .Eq) (fun x y H Q => ∃ z c, y = .str z ∧ EqS K H x z c ∧ Q (.bl c) H) := by
  subst hK
  intro pins s σ H x y v u Q I rx ry h
  obtain ⟨z, c, rfl, e, q⟩ := h
  obtain ⟨t, rfl⟩ := ry
  exact EqS.rc I (by omega) e rx _ _ _ _ ⟨.bl c, H, I, rfl, q⟩
/-! anything against a tuple of one text -/
def EqT (K : PySem.W.Frag) (H : Hp) (x : V) (z : Str) (c : Bool) : Prop :=
  (c = false ∧ (x = .non ∨ (∃ i, x = .int i) ∨ (∃ b, x = .bl b) ∨ ∃ y, x = .str y)) ∨
  ∃ a, x = .ref a ∧ ((c = false ∧ ((∃ xs, SqL K H a xs) ∨ ∃ k, H a = some (.dK k))) ∨ (∃ xs, SqT K H a xs ∧ ((xs = [] ∧ c = false) ∨ ∃ x0 r c0, xs = x0 :: r ∧ EqS K H x0 z c0 ∧ c = (c0 && decide (r = []))))) 
theorem vals_nil {its : List Value} (h : Vals [] its) : its = [] := by cases h; rfl
theorem vals_cons {x : V} {xs : List V} {its : List Value} (h : Vals (x :: xs) its) : ∃ v r, its = v :: r ∧ RelV x v ∧ Vals xs r := by
  cases h with
  | cons h t => exact ⟨_, _, rfl, h, t⟩
theorem EqT.rc (I : Inv X pins σ H s) {A : Around} (hu : A.units + 64 < cLine) (hu1 : A.in1.units < cLine) {x : V} {v : Value} {b : Addr} {z : Str} {c : Bool} (h : EqT X.K H x z c) (r : RelV x v) (hb : SqT X.K H b [.str z]) : SeqAt.RcAt A s v (.ref b) c := by
  obtain ⟨its2, rv2, p2, _⟩ := I.tuple hb
  have hu0 : A.units < cLine := by omega
  obtain ⟨w2, r2, rfl, rz, rr⟩ := vals_cons rv2
  obtain rfl := vals_nil rr
  obtain ⟨t, rfl⟩ := rz
  rcases h with ⟨rfl, h⟩ | ⟨a, rfl, h⟩
  · rcases h with rfl | ⟨i, rfl⟩ | ⟨j, rfl⟩ | ⟨y, rfl⟩
    · cases (show v = Value.none from r)
      exact SeqAt.RcAt.none_tuple p2 hu0
    · obtain ⟨t', rfl⟩ := r
      exact SeqAt.RcAt.int_tuple i t' p2 hu0
    · cases (show v = Value.bool j from r)
      exact SeqAt.RcAt.bool_tuple j p2 hu0
    · obtain ⟨t', rfl⟩ := r
      exact SeqAt.RcAt.str_tuple y t' p2 hu0
  · cases (show v = Value.ref a from r)
    rcases h with ⟨rfl, ⟨xs, h⟩ | ⟨k, h⟩⟩ | ⟨xs, hx, h⟩
    · obtain ⟨its, _, p, _⟩ := I.list h
      exact SeqAt.RcAt.list_tuple p.isList p2 hu0
    · obtain ⟨es, n, dd, sl, ho⟩ := dict_at I h
      exact SeqAt.RcAt.dict_tuple ho p2 hu0
    · obtain ⟨its, rv, p, _⟩ := I.tuple hx
      rcases h with ⟨rfl, rfl⟩ | ⟨x0, rs, c0, rfl, e0, rfl⟩
      · obtain rfl := vals_nil rv
        have := SeqAt.RcAt.tuples (e := fun _ => false) p p2 hu0 (fun j j1 j2 => absurd j1 (by simp))
        exact this
      · obtain ⟨v0, r0, rfl, rel0, rrs⟩ := vals_cons rv
        have := SeqAt.RcAt.tuples (A := A) (e := fun _ => c0) p p2 hu0 (fun j j1 j2 => by
          have j0 : j = 0 := by simpa using j2
          subst j0
          exact EqS.eq I hu1 e0 rel0)
        have l1 : rs.length = r0.length := Paired.length rrs
        have e2 : ((List.range (min (v0 :: r0).toArray.size [Value.str z t].toArray.size)).all (fun _ => c0) && (v0 :: r0).toArray.size == [Value.str z t].toArray.size) = (c0 && decide (rs = [])) := by
          cases rs with
          | nil =>
            cases r0 with
            | nil => simp
            | cons _ _ => simp at l1
          | cons y ys =>
            cases r0 with
            | nil => simp at l1
            | cons _ _ => simp
        rw [e2] at this
        exact this
/-- anything == a tuple of one text -/
theorem op_eqT {K : PySem.W.Frag} (hK : X.K = K) (hu : X.A.units + 64 < cLine) : OpR X (compareOp .Eq) (fun x y H Q => ∃ b z c, y = .ref b ∧ SqT K H b [.str z] ∧ EqT K H x z c ∧ Q (.bl c) H) := by
  subst hK
  intro pins s σ H x y v u Q I rx ry h
  obtain ⟨b, z, c, rfl, hb, e, q⟩ := h
  cases (show u = Value.ref b from ry)
  exact EqT.rc I hu (by have : X.A.in1.units ≤ X.A.units + 1 := by simp [Around.in1, Around.units]
                        omega) e rx hb _ _ _ _ ⟨.bl c, H, I, rfl, q⟩
end L2

namespace Kb
open PySem PySem.Spec PyProof.Rows L2
/-! try: .. except A as n: .. except ..: where each error of the body is A's -/
def wFirst (K : PySem.W.Frag) (c : Value) (i : Nat) (ts : Addr → Value → Option Addr → TS) (D : Ends) : WX := fun cls d σ H =>
  PySem.W.exmOne K cls c = some true ∧ ∀ a, H a = none → ts a cls d { nx := fun σ' H' => D.nx (σ'.set i none) H', rt := D.rt, bk := fun σ' H' => D.bk (σ'.set i none) H', ct := fun σ' H' => D.ct (σ'.set i none) H' } (σ.set i (some (.ref a))) H
section
variable {X : Cx} {x n : Str} {c : Value} {i : Nat} {body rest : List Stmt} {first : Stmt} {more : List ExceptHandler} {np pos hpos : Pos} {tb : WX → TS} {ts : Addr → Value → Option Addr → TS}
theorem ps_try_first (stk : X.stack = X.env :: X.outer) (frm : X.env.frame = some X.env.locals) (nd : X.N.Nodup) (at_ : X.N[i]? = some n) (loc : X.env.kindOf n = some .local) (nam : Names X x c)
    (runs : ∀ (W : WX) (pn : List (Addr × Obj)) (way : Value → Shared → Prop), L2.Takes (X.tr pn way) W → PassesOwn (model X.prog X.w) X.A X.env way → PSs (X.tr pn way) body (tb W))
    (caught : ∀ (a : Addr) (oe : Obj) (cls : Value) (d : Option Addr) (pn : List (Addr × Obj)), Zc cls d oe → (∃ vs, oe.data = .fields vs) → PSs (X.suite a ((a, oe) :: pn)) (first :: rest) (ts a cls d)) :
    PS X (.Try body (.ExceptHandler (some (.Name x np)) (some n) (first :: rest) hpos :: more) [] [] pos) (fun D σ H => tb (wFirst X.K c i ts D) D σ H) := by
  refine ⟨fun pins s σ H D I reads => ?_⟩
  have good := I.ok
  have fr : X.A.frames = some (X.env :: X.outer) := by rw [good.frames, stk]
  refine wpAny_Try_except ?_
  have whole := (runs (wFirst X.K c i ts D) (X.pn ++ pins) (fun e t1 => wpAny (model X.prog X.w) X.A (noteFrame e X.env) (fun _ t2 => wpAny (model X.prog X.w) X.A (setFlight e none) (fun _ t3 =>
    wpAny (model X.prog X.w) X.A (handleBy e X.env (.ExceptHandler (some (.Name x np)) (some n) (first :: rest) hpos :: more)) (SP X pins D) X.xe t3) X.xe t2) X.xe t1) (fun u s' air => ?_) PassesOwn.looking).run [] s σ H D (I.toTry _) reads
  · refine wpAny_mono whole (fun fl s1 got => ?_) fun _ _ z => z
    cases fl with
    | next => exact wpAny_execs_nil (let ⟨σ', H', J, q⟩ := got; ⟨σ', H', J.ofTry good, q⟩)
    | brk => exact let ⟨σ', H', J, q⟩ := got; ⟨σ', H', J.ofTry good, q⟩
    | cont => exact let ⟨σ', H', J, q⟩ := got; ⟨σ', H', J.ofTry good, q⟩
    | ret u => exact let ⟨v, σ', H', J, r, q⟩ := got; ⟨v, σ', H', J.ofTry good, r, q⟩
  · obtain ⟨a, B, sI, pins1, σ1, H1, cls, d, eu, J0, ground, up, sky, na, os, ag, yes, suite⟩ := air
    subst eu
    have J : L2.Inv X pins σ1 H1 sI := J0.ofTry good
    have sky : Sky B X.stack a (Zc cls d) X.env.locals s'.heap := sky
    rw [stk] at sky
    show wpAny (model X.prog X.w) X.A (noteFrame (.ref a) X.env) _ _ s'
    refine Sky.land Zc.steady fr frm sky fun g3 fly3 up3 => ?_
    have J3 : L2.Inv X pins σ1 H1 { s' with heap := g3 } := J.landed ground fly3.1 (up.trans up3) os ag
    obtain ⟨o3, v3, e3, z3, d3⟩ := fly3.there
    have offFrames : a ∉ frs (X.env :: X.outer) := fun hm => by
      obtain ⟨_, o', e', nofields⟩ := fly3.2.2.1.mem hm
      rw [e3] at e'
      cases e'
      exact nofields _ d3
    have offL : a ≠ X.env.locals := fun z => offFrames (List.mem_filterMap.mpr ⟨X.env, List.mem_cons_self, by rw [frm, z]⟩)
    have offF : a ∉ X.fs := fun hm => by
      obtain ⟨e, he, q⟩ := List.mem_filterMap.mp hm
      exact offFrames (List.mem_filterMap.mpr ⟨e, List.mem_cons_of_mem _ he, q⟩)
    have in3 := J3.suite e3 d3 na offL offF
    refine wpAny_handleBy_cons (codeAny_handlers_test ?_) (by intro q; cases q)
    have its : PySem.W.Looks (model X.prog X.w) g3 (typeOf (.ref a)) cls := fun _ _ _ _ keep q => wpAny_typeOf_ref (keep _ _ e3) (by rw [z3.1]; exact q)
    have asks := PySem.W.exm_one (M := model X.prog X.w) J3.kIn its yes
    have named : ∀ {R : Value → Shared → Prop} {way : Value → Shared → Prop}, R c { s' with heap := g3 } → wpAny (model X.prog X.w) (X.A.mark (some (.ref a))) (eval (.Name x np) X.env) R way { s' with heap := g3 } := fun {R way} q =>
      match nam with
      | ⟨gl, nodebug, .inl own⟩ => ld_glob (X := X.suite a ((a, o3) :: (X.pn ++ pins))) in3 gl own q nodebug
      | ⟨gl, nodebug, .inr ⟨none_, boot, nonm⟩⟩ => ld_blt (X := X.suite a ((a, o3) :: (X.pn ++ pins))) in3 gl none_ boot q nonm nodebug
    refine named (asks.here (codeAny_handlers_suite_as (HandSPX.lands_againZ fly3 fun g4 fly4 up4 => ?_)))
    have J4 : L2.Inv X pins σ1 H1 { s' with heap := g4 } := J.landed ground fly4.1 ((up.trans up3).trans up4) os ag
    obtain ⟨o4, v4, e4, z4, d4⟩ := fly4.there
    refine store_ok (X := X.suite a ((a, o4) :: (X.pn ++ pins))) (v := .ref a) (J4.suite e4 d4 na offL offF) nd at_ (.inl loc) rfl (fun s5 in5 => ?_) (.inr loc)
    refine wpAny_mono ((caught a o4 cls d (X.pn ++ pins) z4 ⟨_, d4⟩).run [] s5 _ H1 _ in5 (suite a na)) (fun fl s6 got => ?_) fun _ _ z => z.elim
    have over : ∀ {σ6 : L2.St} {H6 : Hp} {R : Shared → Prop}, L2.Inv (X.suite a ((a, o4) :: (X.pn ++ pins))) [] σ6 H6 s6 → (∀ s7, L2.Inv X pins (σ6.set i none) H6 s7 → R s7) →
        wpAny (model X.prog X.w) X.A (do bindName X.env n .none; unbindBehindTheSuite X.env n hpos) (fun _ s7 => R s7) X.xe s6 := fun in6 q => gone_ok (in6.unsuite good) nd at_ loc q
    cases fl with
    | next => exact let ⟨_, _, in6, q6⟩ := got; over in6 fun _ J7 => ⟨_, _, J7, q6⟩
    | brk => exact let ⟨_, _, in6, q6⟩ := got; over in6 fun _ J7 => ⟨_, _, J7, q6⟩
    | cont => exact let ⟨_, _, in6, q6⟩ := got; over in6 fun _ J7 => ⟨_, _, J7, q6⟩
    | ret u => exact let ⟨_, _, _, in6, r6, q6⟩ := got; over in6 fun _ J7 => ⟨_, _, _, J7, r6, q6⟩
end
end Kb

namespace PySem.SeqAt
open Builtin
section
variable {A : Around} {s : Shared}
theorem RcAt.str_dict {l : Addr} {es : Array DictEntry} {n : Nat} {dd : Option Addr} {sl : Array (Option Value)} (b : Str) (u : Tok) (ho : s.heap.get? l = some { cls := .type "dict", dict := dd, data := .dict es n, slots := sl }) (hu : A.units < cLine) : RcAt A s (.str b u) (.ref l) false := fun prog w E Q h =>
  rc_eq_decline_or (k := false) (typeIs_str s b u) ⟨_, ho, rfl⟩ (by decide) F.sub_dict_str F.slot_str_eq F.slot_dict_eq
    (fun _ hq => call_meets F.slot_str_eq (typeIs_str s b u) F.entry_str_eq (F.args_str_eq_2 _ _) (str_no_dict l es n dd sl b u) ⟨ho, hq⟩)
    (fun _ hq => call_meets F.slot_dict_eq ⟨_, ho, rfl⟩ F.entry_dict_eq (F.args_dict_eq_2 _ _) (dict_no_str l es n dd sl b u) ⟨ho, hq⟩)
    (fun _ hq => wpAny_of_eq (rfl : isSame (.str b u) (.ref l) = pure false) hq) (.inr hu) h
theorem EqAt.str_dict {l : Addr} {es : Array DictEntry} {n : Nat} {dd : Option Addr} {sl : Array (Option Value)} (b : Str) (u : Tok) (ho : s.heap.get? l = some { cls := .type "dict", dict := dd, data := .dict es n, slots := sl }) (hu : A.units < cLine) : EqAt A s (.str b u) (.ref l) false := fun prog w E Q h => by
  unfold eqBool
  refine wpAny_holding ?_
  refine wpAny_ite_split (fun hab => absurd (eq_of_beq hab) nofun) (fun _ => ?_)
  exact wpAny_bind (RcAt.str_dict b u ho hu prog w E _ (wpAny_truthy_bool h))
end
end PySem.SeqAt
namespace L2
open PySem PySem.Spec PyProof.Rows Builtin
variable {X : Cx} {pins : List (Addr × Obj)} {σ : St} {H : Hp} {s : Shared}
/-- a list, tuple or dict in a tuple of texts -/
theorem op_inO {K : PySem.W.Frag} (hK : X.K = K) (hu : X.A.units + 64 < cLine) : OpR X (compareOp .In) (fun x y H Q => ∃ (a p : Addr) (zs : List Str), x = .ref a ∧ y = .ref p ∧ ((∃ xs, SqL K H a xs) ∨ (∃ xs, SqT K H a xs) ∨ ∃ k, H a = some (.dK k)) ∧ SqT K H p (zs.map V.str) ∧ Q (.bl false) H) := by
  subst hK
  intro pins s σ H x y v u Q I rx ry h
  obtain ⟨a, p, zs, rfl, rfl, ha, hp, q⟩ := h
  cases (show v = Value.ref a from rx)
  cases (show u = Value.ref p from ry)
  obtain ⟨its, r, pl, hz⟩ := I.tuple hp
  have hu1 : X.A.in1.units < cLine := by
    have : X.A.in1.units ≤ X.A.units + 1 := by simp [Around.in1, Around.units]
    omega
  have all : ∀ {zs : List Str} {its : List Value}, Vals (zs.map V.str) its → ∀ y ∈ its, ∃ z t, y = Value.str z t := by
    intro zs
    induction zs with
    | nil =>
      intro its r y hy
      cases r
      cases hy
    | cons z zs ih =>
      intro its r y hy
      cases r with
      | cons h t =>
        obtain ⟨tk, rfl⟩ := h
        rcases List.mem_cons.mp hy with rfl | hy
        · exact ⟨z, tk, rfl⟩
        · exact ih t y hy
  refine SeqAt.in_tupleAt (fun _ => false) pl (fun y hy => ?_) ⟨.bl false, H, I, ?_, q⟩
  · obtain ⟨z, t, rfl⟩ := all r y (by simpa using hy)
    rcases ha with ⟨xs, h⟩ | ⟨xs, h⟩ | ⟨k, h⟩
    · obtain ⟨its, _, p, _⟩ := I.list h
      exact SeqAt.EqAt.str_list z t p.isList hu1
    · obtain ⟨its, _, p, _⟩ := I.tuple h
      exact SeqAt.EqAt.str_tuple z t p hu1
    · obtain ⟨es, n, dd, sl, ho⟩ := dict_at I h
      exact SeqAt.EqAt.str_dict z t ho hu1
  · show Value.bool _ = Value.bool false
    congr 1
    simp
/-- a tuple != () -/
theorem op_neT0 {K : PySem.W.Frag} (hK : X.K = K) (hu : X.A.units + 64 < cLine) : OpR X (compareOp .NotEq) (fun x y H Q => ∃ (a b : Addr) (xs : List V), x = .ref a ∧ y = .ref b ∧ SqT K H a xs ∧ SqT K H b [] ∧ Q (.bl (!decide (xs = []))) H) := by
  subst hK
  intro pins s σ H x y v u Q I rx ry h
  obtain ⟨a, b, xs, rfl, rfl, ha, hb, q⟩ := h
  cases (show v = Value.ref a from rx)
  cases (show u = Value.ref b from ry)
  obtain ⟨its, r, p, _⟩ := I.tuple ha
  obtain ⟨its2, r2, p2, _⟩ := I.tuple hb
  obtain rfl := vals_nil r2
  have := SeqAt.RcNeAt.tuples (A := X.A) (e := fun _ => false) p p2 (by omega) (fun j j1 j2 => absurd j2 (by simp))
  have e : (!((List.range (min its.toArray.size ([] : List Value).toArray.size)).all (fun _ => false) && its.toArray.size == ([] : List Value).toArray.size)) = !decide (xs = []) := by
    have hl := r.length
    cases xs with
    | nil =>
      cases its with
      | nil => simp
      | cons _ _ => simp at hl
    | cons _ _ =>
      cases its with
      | nil => simp at hl
      | cons _ _ => simp
  rw [e] at this
  exact this _ _ _ _ ⟨.bl _, H, I, rfl, q⟩
end L2

namespace L2
open PySem PySem.Spec PyProof.Rows
/-! errors as values beside other data -/
/-- a value's type, errors too -/
def TyD (K : PySem.W.Frag) (H : Hp) (v : V) (t : Value) : Prop := TyX K H v t ∨ ∃ a C, v = .ref a ∧ t = .ref C ∧ H a = some (ExO (.ref C) a) ∧ ExcC K C
def rIsD (K : PySem.W.Frag) : List V → Hp → VK → Prop := fun xs H Q => ∃ (x c : V) (t u : Value) (b : Bool), xs = [x, c] ∧ ClsV c u ∧ TyD K H x t ∧ PySem.W.kitOne K t u = some b ∧ Q (.bl b) H
section
variable {X : Cx}
theorem call_isD {K : PySem.W.Frag} (hK : X.K = K) : CallR X (.builtin "isinstance") (rIsD K) := by
  subst hK
  intro pins s σ H xs us Q I r h
  obtain ⟨x, c, t, u, b, rfl, k, ty | ⟨a, C, rfl, rfl, ha, hC⟩, e, q⟩ := h
  · exact call_isi pins s σ H _ us Q I r ⟨x, c, t, u, b, rfl, k, ty, e, q⟩
  · obtain ⟨u1, u2, rfl, r1, r2⟩ := vals2 r
    have e2 := k.eq r2
    subst e2
    cases r1
    obtain ⟨⟨oe, vs, ho, hz, hd, _⟩, _, _⟩ := I.hok a _ ha
    have J : PySem.W.InstAt s.heap a oe C none := by
      obtain ⟨oc, od, oda, osl⟩ := oe
      obtain ⟨h1, h2⟩ := hz
      dsimp only at h1 h2 hd
      subst h1 h2 hd
      exact ⟨ho, rfl, rfl, trivial⟩
    exact PySem.W.kia_one (PySem.W.handS_kitx_exc hC.hg hC.hk hC.hs hC.hd hC.ha hC.hn hC.ht hC.hm) I.kIn J e (fun z => nomatch z) fun tk => ⟨.bl b, H, I.kept (t' := tk) fun _ _ z => z, rfl, q⟩
/-- C(), an own class of errors without own __init__, as a value -/
theorem pe_exc0 {C : Addr} {bmB : List Value} {B newId initId : String} {x : Str} {p pos : Pos} (F : ExcBaseFacts B newId initId bmB) (q : PySem.W.excIn X.K C bmB newId = true) (gC : X.mg x = some (.ref C)) (kC : PySem.W.keepIn X.K (.ref C) = true) (hg : Gl X x) (hdb : (x == ("__debug__" : Str)) = false := by decide) :
    PE X (.Call (.Name x p) [] [] pos) (fun σ H Q => ∀ a, H a = none → Q (.ref a) (upd H a (ExO (.ref C) a))) := by
  refine ⟨fun pins s σ H Q I h => ?_⟩
  refine wpAny_Call_Name_kw (ld_glob I hg gC ?_ hdb)
  refine PySem.W.callWith_K0 I.kIn kC ?_
  obtain ⟨bm, N, nm, qn, bs, hdct, sn, sub, ab, col, dd, k0, k1, k2, k3, k5, mN, hC, hN, hni, T⟩ := exc_obj I.kIn q
  refine wpAny_call_exc_subT F T hC hN hni (fun h' a hm => ?_) (Nat.zero_le _)
  have hn : H a = none := I.hok.gone hm.new
  obtain ⟨t, ht, _, _⟩ := hm.there
  exact ⟨.ref a, upd H a (ExO (.ref C) a), I.laidN hm.keeps hm.new hn (exO_ok ht ⟨rfl, rfl⟩ rfl rfl rfl (show 4 < 6 by decide)), rfl, h a hn⟩
/-- what a raising call wishes, where the store isn't told -/
def EL (n : Nat) (W : WX) : XK := fun c d H => ∀ σ : L2.St, σ.length = n → W c d σ H
theorem passEL {W : WX} {n : Nat} (hn : X.N.length = n) (tk : Takes X W) : Passes (L2.CX X.prog X.w) X (EL n W) := fun pins σ H s e s' I c => tk e s' (XE.of_call I (fun _ _ _ h => h σ (I.len.trans hn)) c)
end
end L2

namespace L2
open PySem PySem.Spec PyProof.Rows
/-! a law's own def, called from the top: nothing is being shown there -/
abbrev AllTrue : VK := fun r _ => r = .bl true
abbrev NoErr : XK := fun _ _ _ => False
/-- the def f keeps its promise where the claim's caller calls it with one thing -/
def TopOk (P : Program) (w : World) (K : PySem.W.Frag) (mg : Str → Option Value) (f : Addr) (fd : FuncData) (x : Str) (sp : Sp) : Prop :=
  ∀ (base : Heap) (s : Shared) (H : Hp) (u : Value) (v : V), Env0 P w K mg base callerA [] s H → RelV v u →
    BindsTo s fd ⟨[u], []⟩ [(x, u)] → sp [v] H AllTrue NoErr → codeAny (model P w) callerA (.call (.ref f) ⟨[u], []⟩) (CR CX0 [] P w H s AllTrue NoErr) s
/-- .. out of its body, read where no guard stands -/
theorem top_of {P : Program} {w : World} {K : PySem.W.Frag} {mg : Str → Option Value} {f : Addr} {fd : FuncData} {nm qual x : Str} {st : Stmt} {N : List Str} {k : Nat} {sp : Sp}
    (F : Fun K nm qual st f fd) (S : FnScope N [x] (defScope st)) (room : Room (k + 1) callerA)
    (body : ∀ (base : Heap) (cdv : Value) (A : Around) (s : Shared) (H : Hp) (v : V), A.guards = some [] → Room k (A.deeper (envOfC qual (defScope st) s.heap.objs.size f cdv)) → sp [v] H AllTrue NoErr →
      ∃ t, PSs (cxOf CX0 P w K mg base N qual (defScope st) f cdv A [] s H NoErr).nox (defBody st) t ∧
        t { nx := fun _ H1 => AllTrue .non H1, rt := AllTrue } (start N [v]) H) :
    TopOk P w K mg f fd x sp := by
  intro base s H u v e0 rv binds hsp
  obtain ⟨oc, od, kV, doc, pm, an, cdv, ct, osl, rfl, lk, known⟩ := F.ex
  have inH : ∀ b o, base.get? b = some o → s.heap.get? b = some o := fun b o q => (e0.bs b o q).1
  have lim := e0.mod.nolimit.keeps inH
  have here := e0.mod.kin.keeps inH
  obtain ⟨t, reads, ends⟩ := body base cdv callerA s H v rfl (room.deeper _) hsp
  refine codeAny_call_function room.depth (here _ _ lk) rfl S.co S.gen rfl (PySem.W.codeRec_of here known) (binds _ _ _ _ ?_)
  refine wpAny_newFunctionEnv_cells S.kind (fun y hy => ?_) fun env same s1 entered => ?_
  · cases List.mem_singleton.mp hy
    refine (S.par x List.mem_cons_self).imp id fun q => ⟨q, ?_⟩
    exact PySem.W.cellsFrom_some _ _ _ (.inl q)
  · cases same
    have I := inv_start (CX := CX0) (E := NoErr) (us := [u]) (vs := [v]) S room.hd e0 rfl (.cons rv .nil) entered
    refine ⟨lim.keeps entered.toInCall.keep, codeAny_func ?_⟩
    refine wpAny_mono (reads.nox.run [] s1 (start N [v]) H _ I ends) (fun fl s2 got => ?_) fun _ _ z => z
    match fl, got with
    | .ret _, ⟨r, _, H2, J, rr, q⟩ => exact ⟨r, H2, J.os, J.bare, J.base, J.hok, rr, q⟩
    | .next, ⟨_, H2, J, q⟩ => exact ⟨.non, H2, J.os, J.bare, J.base, J.hok, rfl, q⟩
    | .brk, ⟨_, _, _, q⟩ => exact q.elim
    | .cont, ⟨_, _, _, q⟩ => exact q.elim
/-- the script, where the module doesn't have it itself -/
def oneS (a : Addr) (vs : List Value) (ns : List Int) : Hp := fun b => if b = a then some (.frz { cls := .type "list", data := .seq vs.toArray } (.lst (ns.map V.int))) else none
theorem oneS_is {a b : Addr} {vs : List Value} {ns : List Int} {u : HO} (h : oneS a vs ns b = some u) : b = a ∧ u = .frz { cls := .type "list", data := .seq vs.toArray } (.lst (ns.map V.int)) := by
  unfold oneS at h
  split at h
  · exact ⟨‹_›, (Option.some.inj h).symm⟩
  · cases h
/-- a start for the law's def: what it tracks is the script or nothing -/
theorem top_run {P : Program} {w : World} {K : PySem.W.Frag} {mg mb : Str → Option Value} {f a : Addr} {fd : FuncData} {x : Str} {sp : Sp} {s : Shared} {vs : List Value} {H : Hp}
    (inK : K.In s.heap) (globals : s.heap.Ns mainGlobals mg) (built : s.heap.Ns builtinsNs mb) (asBoot : ∀ y : Str, y ≠ "__name__" → mb y = bootBuiltins y) (lim : s.heap.NoLimit) (quiet : s.gens = #[])
    (script : s.heap.get? a = some { cls := .type "list", data := .seq vs.toArray }) (only : ∀ b u, H b = some u → b = a ∧ K.lookup a = none ∧ ∃ xs, u = .frz { cls := .type "list", data := .seq vs.toArray } (.lst xs))
    (hok : HOk P w H s.heap) (law : TopOk P w K mg f fd x sp) (binds : ∀ (s : Shared) (u : Value), BindsTo s fd ⟨[u], []⟩ [(x, u)]) (promise : sp [.ref a] H AllTrue NoErr) :
    codeAny (model P w) callerA (.call (.ref f) ⟨[.ref a], []⟩) (fun r s2 => r = .ok (.ret (.bool true)) ∧ OldK s.heap s2.heap ∧ s2.os = s.os ∧ AllBare s2.gens) s := by
  have free : ∀ {b : Addr} {o : Obj}, s.heap.get? b = some o → (b = a → K.lookup a = none → False) → H b = none := fun {b o} e no => by
    cases q : H b with
    | none => rfl
    | some u => exact (no (only b u q).1 (only b u q).2.1).elim
  have names : ∀ {b : Addr} {m : Str → Option Value}, s.heap.Ns b m → (hidT s.heap H).Ns b m := fun {b m} ⟨o, es, n, e, d, more⟩ => by
    refine ⟨o, es, n, hidT_get e (free e fun z _ => ?_), d, more⟩
    rw [z, script] at e
    cases e
    cases d
  have modK : K.In (hidT s.heap H) := fun b o e => hidT_get (inK b o e) (free (inK b o e) fun z no => by rw [z, no] at e; cases e)
  have start : Env0 P w K mg (hidT s.heap H) callerA [] s H :=
    { frames := rfl
      mod := ⟨modK, names globals, ⟨mb, names built, asBoot⟩, let ⟨m, l1, l2⟩ := lim; ⟨m, names l1, l2⟩⟩
      bs := fun _ _ e => of_hidT e
      bsz := by rw [hidT_size]; exact Nat.le_refl _
      funs := trivial
      frf := fun _ hb => nomatch hb
      hok := hok
      bare := .of_eq quiet }
  refine codeAny_mono (law _ s H (.ref a) (.ref a) start rfl (binds s _) promise) fun r s2 got => ?_
  match r, got with
  | .error _, z => exact z.elim
  | .ok .next, z => exact z.elim
  | .ok .brk, z => exact z.elim
  | .ok .cont, z => exact z.elim
  | .ok (.ret u), ⟨v, H2, os, bare, un, hok2, rv, yes⟩ =>
    subst yes
    cases rv
    refine ⟨rfl, OldK.of_keep fun b o e => ?_, os, bare⟩
    cases q : H b with
    | none => exact un.keep b o e q (fun z => nomatch z) (fun z => nomatch z)
    | some u0 =>
      obtain ⟨_, _, xs, rfl⟩ := only b u0 q
      have before := (hok b _ q).1
      have after := (hok2 b _ (un.frzs b _ _ q)).1
      rw [e] at before
      cases before
      exact after
/-- the law's promise, where the claim's caller asks it -/
theorem law_top {P : Program} {w : World} {K : PySem.W.Frag} {mg mb : Str → Option Value} {f a : Addr} {fd : FuncData} {x : Str} {sp : Sp} {s : Shared} {vs : List Value} {ns : List Int}
    (inK : K.In s.heap) (globals : s.heap.Ns mainGlobals mg) (built : s.heap.Ns builtinsNs mb) (asBoot : ∀ y : Str, y ≠ "__name__" → mb y = bootBuiltins y) (lim : s.heap.NoLimit) (quiet : s.gens = #[])
    (script : s.heap.get? a = some { cls := .type "list", data := .seq vs.toArray }) (inums : IntsAre vs ns) (short : ns.length ≤ sizeLine)
    (law : TopOk P w K mg f fd x sp) (binds : ∀ (s : Shared) (u : Value), BindsTo s fd ⟨[u], []⟩ [(x, u)]) (promise : ∀ H : Hp, SqL K H a (ns.map V.int) → sp [.ref a] H AllTrue NoErr) :
    codeAny (model P w) callerA (.call (.ref f) ⟨[.ref a], []⟩) (fun r s2 => r = .ok (.ret (.bool true)) ∧ OldK s.heap s2.heap ∧ s2.os = s.os ∧ AllBare s2.gens) s := by
  have items := vals_ints inums
  have long := inums.length
  by_cases own : ∃ o, K.lookup a = some o
  · obtain ⟨o, own⟩ := own
    have e := inK a o own
    rw [script] at e
    cases e
    refine top_run (H := fun _ => none) inK globals built asBoot lim quiet script (fun _ _ z => nomatch z) (fun _ _ z => nomatch z) law binds (promise _ (.inr ?_))
    exact ⟨_, vs.toArray, _, own, rfl, rfl, rfl, by rw [List.size_toArray, long]; exact short, by simpa using items⟩
  · have none_ : K.lookup a = none := by
      cases q : K.lookup a with
      | none => rfl
      | some o => exact absurd ⟨o, q⟩ own
    refine top_run (H := oneS a vs ns) inK globals built asBoot lim quiet script (fun b u z => ⟨(oneS_is z).1, none_, _, (oneS_is z).2⟩) (fun b u z => ?_) law binds (promise _ (.inl (.inr ⟨_, if_pos rfl⟩)))
    obtain ⟨rfl, rfl⟩ := oneS_is z
    exact ⟨script, by rw [List.length_map]; exact short, vs, _, items, script⟩
/-- the goal of a law's row, from a promise that the top alone asks for -/
theorem walk_top {l : PySem.W.OpenLaw} {n : Nat} {q : Program} {loose : List Str} {XP : (Str → Option Value) → Heap → Prop} {YP : World → Heap → Prop} {d : DefRec} {K : Params → PySem.W.Frag} {sp : World → Sp} {x : Str}
    (most : l.most = some n) (short : n ≤ sizeLine) (noDefaults : d.params.defaults = []) (inK : ∀ (w : World) (h : Heap), YP w h → (K w.params).In h)
    (law : ∀ (w : World) (mg : Str → Option Value) (f : Addr) (h : Heap), (K w.params).In h → h.Ns mainGlobals mg → mg d.name = some (.ref f) →
      ∃ fd : FuncData, (∀ (s : Shared) (u : Value), BindsTo s fd ⟨[u], []⟩ [(x, u)]) ∧ TopOk l.prog w (K w.params) mg f fd x (sp w))
    (promise : ∀ (w : World) (H : Hp) (a : Addr) (ns : List Int), ns.length ≤ n → SqL (K w.params) H a (ns.map V.int) → sp w [.ref a] H AllTrue NoErr) :
    PySem.W.WalkO q loose XP YP l.row.toRowW d [] (fun f vs => PySem.call f vs) := by
  refine Att.attach_call most noDefaults fun w s0 s1 mg mb f o pm cd doc a vs ns G Y there data codes at_ list inums few quiet => ?_
  obtain ⟨fd, binds, run⟩ := law w mg f _ (inK w _ Y) G.T.g at_
  exact law_top (inK w _ Y) G.T.g G.T.b G.T.builtins G.T.nolimit quiet list inums (Nat.le_trans few short) run binds fun H hS => promise w H a ns few hS
end L2

namespace PySem
open Sem (wp)
open Builtin Builtin.Str Builtin.BaseException Builtin.Exceptions
open PySem.W (Looks Frag findIn subIn clsIn looks_findIn looks_subIn looks_clsIn)
/-- what an own class of errors must say, so that repr shows its instances: its name and () -/
structure ExR (K : Frag) (C : Addr) (n : String) : Prop where
  hr : findIn K (.ref C) "__repr__" = some (some (.builtin "BaseException.__repr__"))
  hB : subIn K (.ref C) (.type "BaseException") = some true
  nm : ∃ cd, clsIn K C = some cd ∧ cd.name.toString = n
def exrText (n : String) : Str := Str.ofString ((n.cutAt '.').getLastD "") ++ tupleText []
section
variable {prog : Program} {w : World} {M : Model} {A : Around} {E : Value → Shared → Prop} {s : Shared} {K : Frag} {C e t0 : Addr} {n : String}
theorem typeNameOfWhole_C {Q : String → Shared → Prop} (x : ExcC K C e t0 s.heap) (R : ExR K C n) (q : Q n s) : wpAny M A (typeNameOfWhole (.ref e)) Q E s := by
  obtain ⟨cd, hcd, rfl⟩ := R.nm
  unfold typeNameOfWhole shownTypeOf
  refine wpAny_bind (wpAny_bind (x.LT.here ?_))
  rw [if_neg (by intro z; cases z)]
  refine wpAny_pure ?_
  show wpAny M A (typeNameWhole (.ref C)) _ _ _
  unfold typeNameWhole
  exact wpAny_bind ((looks_clsIn x.1 hcd).here (wpAny_pure q))
theorem bexcReprAt_C (b : Nat) {Q : Fin → Shared → Prop} (x : ExcC K C e t0 s.heap) (R : ExR K C n) (ht : s.heap.TupAt t0 [])
    (hsub : ∀ Q' : Str → Shared → Prop, (∀ h' tk, (∀ b o, s.heap.get? b = some o → h'.get? b = some o) → Q' (tupleText []) { s with heap := h', toks := tk }) → wpAny M A (pyReprUnder (b + (Str.ofString ((n.cutAt '.').getLastD "")).length) (.ref t0)) Q' E s)
    (hq : ∀ h' tk u, (∀ b o, s.heap.get? b = some o → h'.get? b = some o) → Q (.done (.ret (.str (exrText n) u))) { s with heap := h', toks := tk }) (hsz : (exrText n).length ≤ sizeLine) :
    wpAny M A (Builtin.bexcReprAt b ⟨[.ref e], []⟩) Q E s := by
  unfold Builtin.bexcReprAt
  refine wpAny_bind (m := slotArgs "__repr__" 0 _) (wpAny_pure ?_)
  refine wpAny_bind (typeNameOfWhole_C x R ?_)
  refine wpAny_bind (bexcArgs_C x ht ?_)
  dsimp only
  refine wpAny_bind (hsub _ fun h' tk hk => ?_)
  have hsz : (Str.ofString ((n.cutAt '.').getLastD "") ++ tupleText []).length ≤ sizeLine := hsz
  unfold retStr
  repeat wp_step
  exact hq _ _ _ hk
/-- its special, as repr asks it -/
theorem specialOf_C {name : Str} {i : String} {Q : Option Value → Shared → Prop} (x : ExcC K C e t0 s.heap) (hf : findIn K (.ref C) name = some (some (.builtin i))) (q : Q (some (.builtin i)) s) : wpAny M A (specialOf (.ref e) name) Q E s := by
  unfold specialOf
  exact wpAny_bind (x.LT.here ((looks_findIn x.1 hf).here q))
theorem ifBoundBy_C {last : Value → List Value → Sem Value} {name : Str} {i : String} {Q : Option Value → Shared → Prop} (x : ExcC K C e t0 s.heap) (hf : findIn K (.ref C) name = some (some (.builtin i))) (hb : bindSpecial (.builtin i) (.ref e) = pure (.builtin i, [.ref e]))
    (hc : wpAny M A (last (.builtin i) [.ref e]) (fun v => Q (some v)) E s) : wpAny M A (callSpecialIfBoundBy? last (.ref e) name) Q E s := by
  simp only [callSpecialIfBoundBy?, bindSpecialIfBound?]
  refine wpAny_holding (wpAny_bind (wpAny_bind (specialOf_C x hf ?_)))
  simp only [hb]
  refine wpAny_bind (wpAny_askSetting (wpAny_ite ?_))
  have fin : wpAny M A (last (.builtin i) [.ref e] >>= fun v => pure (some v)) Q E s :=
    wpAny_bind (wpAny_mono hc (fun v s' h' => wpAny_pure h') fun _ _ h' => h')
  split
  · exact wpAny_bind (wpAny_pure (wpAny_pure fin))
  · exact wpAny_tryCatch (wpAny_bind (wpAny_pure (wpAny_pure fin)))
theorem ifBound_C {name : Str} {i : String} {Q : Option Value → Shared → Prop} (x : ExcC K C e t0 s.heap) (hf : findIn K (.ref C) name = some (some (.builtin i))) (hb : bindSpecial (.builtin i) (.ref e) = pure (.builtin i, [.ref e]))
    (hc : wpAny M A (call (.builtin i) [.ref e]) (fun v => Q (some v)) E s) : wpAny M A (callSpecialIfBound? (.ref e) name) Q E s := by
  simp only [callSpecialIfBound?, bindSpecialIfBound?]
  refine wpAny_holding (wpAny_bind (wpAny_bind (specialOf_C x hf ?_)))
  simp only [hb]
  refine wpAny_bind (wpAny_askSetting (wpAny_ite ?_))
  have fin : wpAny M A (call (.builtin i) ([.ref e] ++ []) >>= fun v => pure (some v)) Q E s :=
    wpAny_bind (wpAny_mono hc (fun v s' h' => wpAny_pure h') fun _ _ h' => h')
  split
  · exact wpAny_bind (wpAny_pure (wpAny_pure fin))
  · exact wpAny_tryCatch (wpAny_bind (wpAny_pure (wpAny_pure fin)))
end
section
variable {prog : Program} {w : World} {K : Frag} {C e t0 : Addr} {n : String} {h₀ : Heap}
/-- its empty tuple, shown -/
theorem tup0_K {ot : Obj} {k : Nat} (ht : h₀.get? t0 = some ot) (hc : ot.cls = .type "tuple") (hd : ot.data = .seq #[] k) : ReprK prog w [t0] h₀ 1 (.ref t0) (tupleText []) :=
  ReprK.tuple (as := []) (d := 0) ht hc hd (fun h => nomatch h) .nil
theorem exc_bind (e : Addr) : bindSpecial (.builtin "BaseException.__repr__") (.ref e) = pure (.builtin "BaseException.__repr__", [.ref e]) := F.excStr_Exception.repr.bind _
/-- an own error without arguments, shown within others -/
theorem exc_K (x : ExcC K C e t0 h₀) (R : ExR K C n) {ot : Obj} {k : Nat} (ht : h₀.get? t0 = some ot) (hc : ot.cls = .type "tuple") (hd : ot.data = .seq #[] k) : ReprK prog w [t0] h₀ 2 (.ref e) (exrText n) := by
  intro base hb A g E s Q hg hcl hu hk0 hQ
  have xs : ExcC K C e t0 s.heap := by
    obtain ⟨kin, o, vs, ho, h1, h2, h3⟩ := x
    exact ⟨fun b o e => hk0 _ _ (kin b o e), o, vs, hk0 _ _ ho, h1, h2, h3⟩
  have ts : s.heap.TupAt t0 [] := ⟨ot, k, hk0 _ _ ht, hc, hd⟩
  have elen : (exrText n).length = (Str.ofString ((n.cutAt '.').getLastD "")).length + (tupleText []).length := by
    unfold exrText
    rw [strLen_append]
  refine wpAny_pyReprUnder_ref (by omega) ?_
  unfold pyReprObjUnder pyReprObjBy
  refine wpAny_bind (wpAny_cRoomFor (by omega) ?_)
  refine wpAny_bind (specialOf_C xs R.hr ?_)
  refine wpAny_bind (ifBoundBy_C xs R.hr (exc_bind e) ?_)
  show wpAny _ _ (call (.builtin "BaseException.__repr__.under") [.ref e, rawInt base]) _ _ _
  refine wpAny_call (codeAny_call_builtin F.plain_bexc_repr_under F.entry_bexc_repr_under ?_)
  rw [F.check_bexc_repr_under]
  refine wpAny_pure ?_
  show wpAny _ _ (reprTwin "BaseException.__repr__" Builtin.bexcReprAt ⟨[.ref e, rawInt base], []⟩) _ _ _
  rw [reprTwin_eq]
  refine wpAny_bind (@PySem.W.check_slot (model prog w) _ _ s "BaseException.__repr__" "BaseException" "__repr__" (.ref e) [] [] _ (by decide +kernel) (by decide +kernel) (xs.LI R.hB) (F.args_bexc_repr _) ?_)
  refine bexcReprAt_C base xs R ts (fun Q' q => tup0_K ht hc hd (base + _) (by omega) A.in1 g _ s Q' hg hcl (by show A.units + 1 + 1 < cLine; omega) hk0 q) (fun h' tk u hk => ?_) (by omega)
  exact wpAny_bind (wpAny_isInstance (T := "str") (b := true) rfl isSubtype_str_str (wpAny_pure ⟨_, _, rfl, hQ h' tk hk⟩))
/-- repr of an own error without arguments -/
theorem call_repr_C {A : Around} {E : Value → Shared → Prop} {s : Shared} {Q : Value → Shared → Prop} (x : ExcC K C e t0 s.heap) (R : ExR K C n) {ot : Obj} {k : Nat} (ht : s.heap.get? t0 = some ot) (hc : ot.cls = .type "tuple") (hd : ot.data = .seq #[] k)
    (hg : A.guards = some []) (hu : A.units + 4 < cLine) (hsz : (exrText n).length ≤ sizeLine)
    (hQ : ∀ h' u tk, (∀ b o, s.heap.get? b = some o → h'.get? b = some o) → Q (.str (exrText n) u) { s with heap := h', toks := tk }) : wpAny (model prog w) A (call (.builtin "repr") [.ref e]) Q E s := by
  have ts : s.heap.TupAt t0 [] := ⟨ot, k, ht, hc, hd⟩
  have elen : (exrText n).length = (Str.ofString ((n.cutAt '.').getLastD "")).length + (tupleText []).length := by
    unfold exrText
    rw [strLen_append]
  refine Calls.call_function_entry F.kind_repr F.plain_repr F.entry_repr (F.args_repr1 _) ?_
  unfold Builtin.«repr»
  refine wpAny_bind (m := oneArg "repr" _) (wpAny_pure ?_)
  refine wpAny_bind (m := cRoomFor _ _) (wpAny_cRoomFor (by show A.units + 1 < cLine; omega) ?_)
  refine wpAny_bind (specialOf_C x R.hr ?_)
  refine wpAny_bind (ifBound_C x R.hr (exc_bind e) ?_)
  refine wpAny_call (codeAny_call_builtin F.excStr_Exception.repr.plain F.entry_bexc_repr (@PySem.W.check_slot (model prog w) _ _ s "BaseException.__repr__" "BaseException" "__repr__" (.ref e) [] [] _ (by decide +kernel) (by decide +kernel) (x.LI R.hB) (F.args_bexc_repr _) ?_))
  refine bexcReprAt_C 0 x R ts (fun Q' q => tup0_K ht hc hd (0 + _) (by omega) A.in1.in1 [] _ s Q' hg (fun b _ => Clear.nil b) (by show A.units + 1 + 1 + 1 < cLine; omega) (fun _ _ e => e) q) (fun h' tk u hk => ?_) hsz
  refine wpAny_bind (wpAny_isInstance (T := "str") (b := true) rfl isSubtype_str_str ?_)
  exact wpAny_pure ⟨_, rfl, hQ h' u tk hk⟩
end
end PySem

namespace L2
open PySem PySem.Spec PyProof.Rows
/-- an own error without arguments, its empty tuple at t -/
def ExN (C : Addr) (a t : Addr) : HO := .ext fun h => ∃ (oe : Obj) (vs : Array Value), h.get? a = some oe ∧ Zc (.ref C) none oe ∧ oe.data = .fields vs ∧ vs[0]? = some (.ref t)
theorem exN_ok {P : Program} {w : World} {H : Hp} {h : Heap} {a t C : Addr} {oe : Obj} {vs : Array Value} (e : h.get? a = some oe) (z : Zc (.ref C) none oe) (d : oe.data = .fields vs) (h1 : vs[0]? = some (.ref t)) : ObjOk P w H h a (ExN C a t) :=
  ⟨⟨oe, vs, e, z, d, h1⟩, ⟨oe, e⟩, fun _ _ ⟨o, v, q, r⟩ k => ⟨o, v, k o q, r⟩⟩
theorem Un.laid2 {fs ex : List Addr} {H : Hp} {h h' : Heap} {a b : Addr} {o u : HO} (k : ∀ c x, h.get? c = some x → h'.get? c = some x) (ha : h.get? a = none) (hb : h.get? b = none) (na : H a = none) (nb : H b = none) (ne : a ≠ b) : Un fs ex H (upd (upd H b u) a o) h h' where
  keep := fun c x q _ _ _ => k c x q
  slot := fun c x q _ _ _ => ⟨x.slots, k c x q⟩
  free := fun c x q n _ => by rw [upd_ne (fun z => by rw [z, ha] at q; cases q), upd_ne (fun z => by rw [z, hb] at q; cases q)]; exact n
  there := fun c x q _ => ⟨x, k c x q⟩
  tups := fun c xs q => by rw [upd_ne (ne_of_none q na), upd_ne (ne_of_none q nb)]; exact q
  frzs := fun c x xs q => by rw [upd_ne (ne_of_none q na), upd_ne (ne_of_none q nb)]; exact q
  tbls := fun c ps q => ⟨#[], by rw [upd_ne (ne_of_none q na), upd_ne (ne_of_none q nb), q]; simp⟩
section
variable {X : Cx}
/-- C(), an own class of errors without own __init__, as a value with its tuple -/
theorem pe_excN {C : Addr} {bmB : List Value} {B newId initId : String} {x : Str} {p pos : Pos} (F : ExcBaseFacts B newId initId bmB) (q : PySem.W.excIn X.K C bmB newId = true) (gC : X.mg x = some (.ref C)) (kC : PySem.W.keepIn X.K (.ref C) = true) (hg : Gl X x) (hdb : (x == ("__debug__" : Str)) = false := by decide) :
    PE X (.Call (.Name x p) [] [] pos) (fun σ H Q => ∀ a t o, a ≠ t → H a = none → H t = none → o.dict = none → Q (.ref a) (upd (upd H t (.frz o (.tup []))) a (ExN C a t))) := by
  refine ⟨fun pins s σ H Q I h => ?_⟩
  refine wpAny_Call_Name_kw (ld_glob I hg gC ?_ hdb)
  refine PySem.W.callWith_K0 I.kIn kC ?_
  obtain ⟨bm, N, nm, qn, bs, hdct, sn, sub, ab, col, dd, k0, k1, k2, k3, k5, mN, hC, hN, hni, T⟩ := exc_obj I.kIn q
  refine wpAny_call_exc_subT F T hC hN hni (fun h' a hm => ?_) (Nat.zero_le _)
  have hn : H a = none := I.hok.gone hm.new
  obtain ⟨t, ht, htn, htt⟩ := hm.there
  have htn : s.heap.get? t = none := htn
  have nt : H t = none := I.hok.gone htn
  have ne : a ≠ t := fun z => by
    rw [z] at ht
    have := ht.symm.trans htt
    cases this
  have htt : h'.get? t = some ({ cls := .type "tuple", data := .seq #[] } : Obj) := htt
  have o1 : ∀ o : Obj, o = { cls := .type "tuple", data := .seq #[] } → ObjOk X.prog X.w (upd H t (.frz o (.tup []))) h' t (.frz o (.tup [])) := fun o e => by
    subst e
    exact ⟨htt, Nat.zero_le _, [], .nil, ⟨_, htt, rfl, _, rfl⟩⟩
  obtain ⟨o, eo⟩ : ∃ o : Obj, o = { cls := .type "tuple", data := .seq #[] } := ⟨_, rfl⟩
  have H1 : HOk X.prog X.w (upd H t (.frz o (.tup []))) h' := I.hok.laidN hm.keeps nt (o1 o eo)
  have hn1 : (upd H t (.frz o (.tup []))) a = none := (upd_ne ne).trans hn
  exact ⟨.ref a, upd (upd H t (.frz o (.tup []))) a (ExN C a t), I.un (Un.laid2 hm.keeps hm.new htn hn nt ne) (H1.laidN (fun _ _ z => z) hn1 (exN_ok ht ⟨rfl, rfl⟩ rfl rfl)), rfl, h a t o ne hn nt (by rw [eo])⟩
end
end L2

namespace L2
open PySem PySem.Spec PyProof.Rows
section
variable {X : Cx}
/-- name = {.. for ..} on one line, the name a local -/
theorem ps_setDc {i : Nat} {y : Str} {py : Pos} {kx vx tg iter : Expr} {ifs : List Expr} {scope : Scope} {own : List (Str × Nat)} {pos spos : Pos} {wi : TI} {g : TG} {tt : TT} {tk tv : TE} (hc : X.calm = true) (hN : X.N.Nodup) (hy : X.N[i]? = some y) (hyl : X.env.scope.names.lookup y = some .local)
    (hsw : swapsWith (.DictComp kx vx [⟨tg, iter, ifs, 0⟩] scope pos) (some (.Name y py)) spos.line X.env = pure true) (hi : PI X tg iter wi) (ok : BlkOk X.N X.env.scope scope own)
    (hg : ∀ (s : Shared) (H : Hp) (C : Addr) (cl : List (Str × Addr)) (fp : List Addr), PG (X.blk s H scope (compEnvC scope cl C X.env) fp) tg g) (ht : ∀ (s : Shared) (H : Hp) (C : Addr) (cl : List (Str × Addr)) (fp : List Addr), PTs (X.blk s H scope (compEnvC scope cl C X.env) fp) ifs tt)
    (hk : ∀ (s : Shared) (H : Hp) (C : Addr) (cl : List (Str × Addr)) (fp : List Addr), PE (X.blk s H scope (compEnvC scope cl C X.env) fp) kx tk)
    (he : ∀ (s : Shared) (H : Hp) (C : Addr) (cl : List (Str × Addr)) (fp : List Addr), PE (X.blk s H scope (compEnvC scope cl C X.env) fp) vx tv) (hs : ∀ x, foldedSetIterable iter X.env x = pure x := by intro _; rfl) :
    PS X (.Assign [.Name y py] (.DictComp kx vx [⟨tg, iter, ifs, 0⟩] scope pos) spos) (tAsg (tDc wi g tt tk tv (own.map (·.2))) (gName i)) := by
  refine ⟨fun pins s σ H D I h => ?_⟩
  rw [exec_Assign_Name_used _ _ _ _ hsw]
  refine wpAny_bind (wpAny_standAt (wpAny_bind ?_))
  show wpAny _ X.A (do let _ ← comprehension (.DictComp kx vx [⟨tg, iter, ifs, 0⟩] scope pos) scope X.env (firstIterPos [⟨tg, iter, ifs, 0⟩] pos) newDict false (eval iter X.env) (some (assign (.Name y py) X.env))) _ _ s
  have h : tDc wi g tt tk tv (own.map (·.2)) σ H (fun x H1 => gName i x σ H1 D.nx) := h
  refine wpAny_bind (thn (dc_core (Qf := fun _ s' => SP X pins D .next s') hc hN I hi ok hg ht hk he hs h fun L C s' m H' I' q hn f => ?_) fun _ s' hq => wpAny_pure (wpAny_pure hq))
  show wpAny _ _ (assign (.Name y py) X.env (.ref L)) _ _ _
  refine wpAny_assign_Name (store_ok2 (v := V.ref L) I' hN hy (.inl hyl) rfl (fun s2 I2 ⟨a, sb, ha⟩ => ?_) (.inr hyl))
  obtain ⟨f0, f1, f2, f3, f4, f5⟩ := f
  have haC : C ≠ a := by
    rcases ha with z | z
    · rw [z]; exact f1
    · exact fun e => f4 y a z e.symm
  refine ⟨m, hn.sameBut sb haC, fun h3 sb3 => ?_⟩
  exact ⟨_, H', I2.turned (t' := s2.toks) (fun b o hb e => (sb3.2 b hb).trans e) f0 f1 f3 f4 f5, q⟩
theorem sw_trueD {kx vx : Expr} {gs : List Comprehension} {scope : Scope} {pos py : Pos} {y : Str} {l : Nat} {env : Env} (hk : env.scope.kind = .function) (hy : env.scope.names.lookup y = some .local) (hl : (py.line == pos.line) = true)
    (ha : (scope.names.any fun (n, k) => n == y && (k == .local || k == .cell)) = false) : swapsWith (.DictComp kx vx gs scope pos) (some (.Name y py)) l env = pure true := by
  have ky : env.kindOf y = some .local := hy
  have hb : env.blockKind = .function := by unfold Env.blockKind; rw [hk]; rfl
  unfold swapsWith
  simp only [hb, ky, ha, Expr.pos, hl]
  rfl
/-- list.count of a text among texts -/
def rCntS (K : PySem.W.Frag) : V → List V → Hp → VK → Prop := fun x xs H Q => ∃ (p : Addr) (ns : List Str) (k : Str), x = .ref p ∧ xs = [.str k] ∧ SqL K H p (ns.map V.str) ∧ Q (.int (ns.count k : Nat)) H
theorem countS_in (k : Str) : ∀ ns : List Str, PySem.Spec.countIn (.str k) (ns.map PyData.str) = (ns.count k : Nat)
  | [] => rfl
  | n :: r => by
    rw [List.map_cons, PySem.Spec.countIn, countS_in k r, List.count_cons]
    simp only [PySem.Spec.same]
    rcases Bool.eq_false_or_eq_true (n == k) with hb | hb <;> simp only [hb, Bool.false_eq_true, if_true, if_false] <;> push_cast <;> omega
theorem mt_lcountS : MtR X "list.count" (rCntS X.K) := by
  intro pins s σ H x xs v us Q I rx rxs h
  obtain ⟨p, ns, k, rfl, rfl, hs, q⟩ := h
  cases rx
  obtain ⟨u, rfl, ru⟩ := rxs.one
  obtain ⟨t, rfl⟩ := ru
  obtain ⟨its, rv, pl, hlen⟩ := I.list hs
  refine count_list_strs (vs := its) pl.isList (strs_of_vals rv) ?_
  rw [countS_in]
  exact ⟨.int (ns.count k : Nat), H, I.tok _, ⟨s.toks, rfl⟩, q⟩
/-- a method within a comprehension: the written part by name -/
theorem pe_bmK {K : PySem.W.Frag} {o e : Expr} {es : List Expr} {to : TE} {t : TA} {name : Str} {apos cpos : Pos} {T id : String} {r : V → List V → Hp → VK → Prop} (pa : PlainAttrs T) (slot : Slot T name id) (hty : typeOf (.builtin id) = pure (.type "method_descriptor")) (hm : MtR X id r) (ho : PE X o to) (ha : PA X (e :: es) t) (hK : X.K = K := by rfl)
    (hbase : attributeBase o name X.env (eval o X.env) = eval o X.env := by rfl)
    (hfew : ((backTo cpos (starEach (e :: es) X.env)).all (fun x => !x.1) && (backToKw cpos (keywordEach [] X.env)).all (fun x => x.1.isSome)
      && decide ((e :: es).length + ([] : List Keyword).length + (if ([] : List Keyword).isEmpty then 0 else 1) < 30)) = true := by rfl)
    (hline : (apos.endLine == cpos.line) = true := by rfl) (hs : starEach (e :: es) X.env = (false, eval e X.env) :: starEach es X.env := by rfl) (hplain : (backTo cpos (starEach es X.env)).any (·.1) = false := by rfl) :
    PE X (.Call (.Attribute o name apos) (e :: es) [] cpos) (tBM K T r to t) := by
  subst hK
  exact pe_bm pa slot hty hm ho ha hbase hfew hline hs hplain
end
end L2

/-! plain tuples: slices of them, their sums, turned round -/
namespace L2
open PySem PySem.Spec PyProof.Rows HT
section
variable {prog : Program} {w : World} {A : Around} {E : Value → Shared → Prop} {s : Shared}
theorem rev_places (n : Nat) : Builtin.Slice.slicePlaces ((n : Int) - 1) (-1) (-1) = n := by
  unfold Builtin.Slice.slicePlaces
  have h1 : ¬ ((-1 : Int) > 0) := by decide
  simp only [h1, if_false, show (- -1 : Int) = 1 by decide, Int.ediv_one]
  split <;> omega
theorem rev_adjust (n : Nat) : Builtin.Slice.sliceAdjust none none (-1) (n : Int) = ((n : Int) - 1, -1) := by
  unfold Builtin.Slice.sliceAdjust
  simp
theorem sliceApplied_rev {sl : Addr} {vs : Value} {n : Nat} {Q : Int × Int × Nat → Shared → Prop} (hs : s.heap.IsSliceOf sl .none .none vs) (ps : IsPart vs (some (-1)))
    (h : Q (((n : Int) - 1), -1, n) s) : wpAny (model prog w) A (Builtin.Slice.sliceApplied (.ref sl) (pure (n : Int))) Q E s := by
  obtain ⟨os, hos, hcs, hds⟩ := id hs
  unfold Builtin.Slice.sliceApplied Builtin.Slice.sliceFields
  refine wpAny_bind (wpAny_bind (wpAny_field hos hds (x := .none) rfl (wpAny_bind (wpAny_field hos hds (x := .none) rfl (wpAny_bind (wpAny_field hos hds (x := vs) rfl (wpAny_pure ?_)))))))
  refine wpAny_bind (slicePart_ ps ?_)
  show wpAny _ _ (if ((-1 : Int) == 0) = true then _ else _) _ _ s
  rw [if_neg (by decide)]
  refine wpAny_bind (slicePart_none (wpAny_bind (slicePart_none (wpAny_bind (wpAny_pure ?_)))))
  show wpAny _ _ (match Builtin.Slice.sliceAdjust none none (-1) (n : Int) with | (lo, hi) => pure (lo, (-1 : Int), Builtin.Slice.slicePlaces lo hi (-1))) _ _ s
  rw [rev_adjust]
  show wpAny _ _ (pure (((n : Int) - 1), (-1 : Int), Builtin.Slice.slicePlaces ((n : Int) - 1) (-1) (-1))) _ _ s
  rw [rev_places]
  exact wpAny_pure h
theorem fm_congr {α β : Type} {f g : α → Option β} : ∀ {l : List α}, (∀ x ∈ l, f x = g x) → l.filterMap f = l.filterMap g
  | [], _ => rfl
  | x :: l, h => by
    rw [List.filterMap_cons, List.filterMap_cons, h x List.mem_cons_self, fm_congr (l := l) fun y hy => h y (List.mem_cons_of_mem _ hy)]
theorem same_fresh {H : Hp} {p : Addr} {u : HO} (h : H p = none) : Same H (upd H p u) := fun b o e => by
  rw [upd_ne (ne_of_none e h)]
  exact e
theorem rev_pick (xs : Array Value) : ((List.range xs.size).filterMap fun (m : Nat) => xs[(((xs.size : Nat) : Int) - 1 + (m : Int) * (-1)).toNat]?).toArray = xs.toList.reverse.toArray := by
  have e1 : ((List.range xs.size).filterMap fun (m : Nat) => xs[(((xs.size : Nat) : Int) - 1 + (m : Int) * (-1)).toNat]?) = (List.range xs.size).filterMap fun (m : Nat) => xs[xs.size - 1 - m]? := by
    refine fm_congr fun m hm => ?_
    have := List.mem_range.mp hm
    rw [show (((xs.size : Nat) : Int) - 1 + (m : Int) * (-1)).toNat = xs.size - 1 - m by omega]
  rw [e1]
  have e2 : ((List.range xs.size).filterMap fun (m : Nat) => xs[xs.size - 1 - m]?) = ((List.range xs.size).map fun k => xs.size - 1 - k).filterMap (xs[·]?) := by
    rw [List.filterMap_map]
    rfl
  rw [e2, PySem.W.krv_range, List.filterMap_reverse, PySem.W.krv_all]
/-- t[::-1] makes a new tuple: the slice is never the whole, for its step is -1 -/
theorem getItem_tuple_rev {t sl : Addr} {its : Array Value} {step : Value} {Q : Value → Shared → Prop} (isT : IsTup s.heap t its) (isSl : s.heap.IsSliceOf sl .none .none step) (minus : IsPart step (some (-1)))
    (q : Q (.ref s.heap.objs.size) { s with heap := s.heap.push { cls := .type "tuple", data := .seq its.toList.reverse.toArray } }) (small : its.size ≤ sizeLine) : wpAny (model prog w) A (getItem (.ref t) (.ref sl)) Q E s := by
  have fits : sizeOk (.seq its.toList.reverse.toArray) := by
    show its.toList.reverse.toArray.size ≤ _
    simpa using small
  have tySl : s.TypeIs (.ref sl) "slice" := let ⟨o, g, c, _⟩ := isSl; ⟨o, g, c⟩
  have notWhole : (((((its.size : Nat) : Int) - 1) == 0 && (-1 : Int) == 1) && its.size == its.size) = false := by simp
  unfold getItem
  try with_reducible refine wpAny_holding ?_
  try refine wpAny_bind (wpAny_pure ?_)
  refine wpAny_bind (wpAny_sequenceKey isT.typeIs (by decide) (wpAny_bind (wpAny_callSpecial?_slot (name := Str.ofString "__getitem__") isT.typeIs PyProof.Rows.slot_tuple_getitem (wpAny_call_entry PyProof.Rows.slot_tuple_getitem isT.typeIs entry_tuple_getitem ?_ (args_tuple_getitem _ _)))))
  show wpAny _ _ (Builtin.Tuple.tupleItemsOf (.ref t) >>= _) _ _ s
  refine wpAny_bind (tupleItemsOf_ isT (wpAny_bind (wpAny_typeOf tySl ?_)))
  rw [if_pos (by decide)]
  refine wpAny_bind (sliceApplied_rev isSl minus ?_)
  show wpAny _ _ (if ((((its.size : Nat) : Int) - 1) == 0 && (-1 : Int) == 1 && its.size == its.size) = true then _ else _) _ _ s
  rw [notWhole, if_neg (by decide), rev_pick]
  first
    | exact wpAny_bind (m := Builtin.Tuple.tupleExact _) (wpAny_newObj_type (wpAny_pure ⟨_, rfl, wpAny_pure q⟩) fits)
    | exact wpAny_bind (wpAny_bind (m := Builtin.Tuple.tupleExact _) (wpAny_newObj_type (wpAny_pure (wpAny_pure ⟨_, rfl, wpAny_pure q⟩)) fits))
    | exact wpAny_bind (wpAny_bind (m := Builtin.Tuple.tupleExact _) (wpAny_newObj_type (wpAny_pure ⟨_, rfl, wpAny_pure q⟩) fits))
end
section
variable {X : Cx}
/-- t[::-1], a plain tuple -/
def tRevP (K : PySem.W.Frag) (te : TE) : TE := fun σ H Q => te σ H fun x H1 => ∃ a xs, x = .ref a ∧ SqT K H1 a xs ∧ ∀ p H', Same H1 H' → Ptp H' p xs.reverse → Q (.ref p) H'
theorem pe_revP {e : Expr} {te : TE} {k : Nat} {p1 p2 p3 pos : Pos} (he : PE X e te) : PE X (.Subscript e (.Slice none none (some (.UnaryOp .USub (.Constant (.int 1) k p1) p2)) p3) pos) (tRevP X.K te) := by
  refine ⟨fun pins s σ H Q I h => ?_⟩
  refine Subscript_ (thn (he.run pins s σ H _ I h) fun v s1 ⟨x, H1, I1, r1, q1⟩ => ?_)
  obtain ⟨a, xs, ex, hx, q⟩ := q1
  subst ex
  cases r1
  have hst : PO X (some (.UnaryOp .USub (.Constant (.int 1) k p1) p2)) (tPart (tUn (rU fun i => .int (-i)) (tC (.int 1)))) := po_some (pe_un un_neg pe_int)
  refine wpAny_Slice (thn (po_none.run pins s1 σ H1 (fun o H2 => o = none ∧ H2 = H1) I1 ⟨rfl, rfl⟩) fun vl s2 ⟨l, H2, I2, pl, el, e2⟩ => ?_)
  subst el e2
  refine thn (po_none.run pins s2 σ H2 (fun o H3 => o = none ∧ H3 = H2) I2 ⟨rfl, rfl⟩) fun vu s3 ⟨u, H3, I3, pu, eu, e3⟩ => ?_
  subst eu e3
  refine thn (hst.run pins s3 σ H3 (fun o H4 => o = some (-1) ∧ H4 = H3) I3 ⟨1, rfl, -1, rfl, rfl, rfl⟩) fun vs s4 ⟨o, H4, I4, ps, eo, e4⟩ => ?_
  subst eo e4
  cases pl
  cases pu
  have I5 : Inv X pins σ H4 { s4 with heap := s4.heap.push { cls := .type "slice", data := .fields #[.none, .none, vs] } } := I4.kept (t' := s4.toks) fun b ob q => Heap.get?_push_of_some _ q
  obtain ⟨its, r, ht, hz⟩ := I5.tuple hx
  have hlen := r.length
  show wpAny (model X.prog X.w) X.A (subscriptTail e (.Slice none none (some (.UnaryOp .USub (.Constant (.int 1) k p1) p2)) p3) (.ref a) (.ref s4.heap.objs.size)) (EP X pins σ Q) X.xe { s4 with heap := s4.heap.push { cls := .type "slice", data := .fields #[.none, .none, vs] } }
  refine tail_any (ops := [.ref a, .ref s4.heap.objs.size]) ht.typeIs (PyProof.Rows.slot_tuple_getitem.lookup) ?_ (by with_unfolding_all rfl)
  refine getItem_tuple_rev ht (Heap.IsSliceOf.new _ .none .none vs) ps ?_ (by rw [List.size_toArray]; omega)
  have hf := I5.hok.fresh (Nat.le_refl _)
  refine ⟨.ref _, _, I5.laid (t' := s4.toks) (o := .frz { cls := .type "tuple", data := .seq its.reverse.toArray } (.tup xs.reverse)) (fun b ob q => Heap.get?_push_of_some _ q) (Nat.le_refl _) ?_, rfl, q _ _ (same_fresh hf) ⟨_, upd_same, rfl⟩⟩
  exact ⟨Heap.get?_push_size _ rfl, by rw [List.length_reverse]; exact hz, _, r.reverse, ⟨_, Heap.get?_push_size _ rfl, rfl, _, rfl⟩⟩
/-- t[lo:hi], t a plain tuple: a plain tuple -/
def rSlP (K : PySem.W.Frag) : V → Option Int → Option Int → Hp → VK → Prop := fun x lo hi H Q => ∃ a xs, x = .ref a ∧ Ptp H a xs ∧ ∀ p H', Same H H' → Ptp H' p (cutV xs lo hi) → Q (.ref p) H'
theorem cutV_whole {xs : List V} {lo hi : Option Int} (h : HT.sIx xs.length 0 lo = 0 ∧ HT.sIx xs.length xs.length hi = xs.length) : cutV xs lo hi = xs := by
  unfold cutV
  rw [h.1, h.2, List.drop_zero, Nat.sub_zero, List.take_length]
theorem sl_tupP : SlR X (rSlP X.K) := by
  intro pins s σ H x v vl vu lo hi sl Q I rx hs pl pu h
  obtain ⟨a, xs, rfl, hx, q⟩ := h
  by_cases hw : HT.sIx xs.length 0 lo = 0 ∧ HT.sIx xs.length xs.length hi = xs.length
  · exact sl_tupA pins s σ H _ v vl vu lo hi sl Q I rx hs pl pu ⟨a, xs, rfl, hx.seq, fun _ => q a H (Same.refl H) (by rw [cutV_whole hw]; exact hx), fun n => absurd hw n⟩
  · cases rx
    obtain ⟨its, r, ht, hz⟩ := I.tuple hx.seq
    have hlen : its.toArray.size = xs.length := by rw [List.size_toArray]; exact r.length.symm
    refine ⟨"tuple", _, PyProof.Rows.slot_tuple_getitem.lookup, ht.typeIs, ?_⟩
    refine HT.getItem_tuple_cut ht hs pl pu (by rw [hlen]; exact hw) ?_ (by rw [hlen]; exact hz)
    rw [hlen]
    have hf := I.hok.fresh (Nat.le_refl _)
    refine ⟨.ref s.heap.objs.size, _, I.laid (t' := s.toks) (o := .frz { cls := .type "tuple", data := .seq ((its.drop (HT.sIx xs.length 0 lo)).take (HT.sIx xs.length xs.length hi - HT.sIx xs.length 0 lo)).toArray } (.tup (cutV xs lo hi))) (fun b ob q => Heap.get?_push_of_some _ q) (Nat.le_refl _) ?_, rfl, q _ _ (same_fresh hf) ⟨_, upd_same, rfl⟩⟩
    exact ⟨Heap.get?_push_size _ rfl, Nat.le_trans (cutV_length xs lo hi) hz, _, (r.drop (HT.sIx xs.length 0 lo)).take (HT.sIx xs.length xs.length hi - HT.sIx xs.length 0 lo), ⟨_, Heap.get?_push_size _ rfl, rfl, _, rfl⟩⟩
/-- t + u, plain tuples: a plain tuple -/
def rCatP (K : PySem.W.Frag) : R2 := fun x y H Q => ∃ a b xs ys, x = .ref a ∧ y = .ref b ∧ Ptp H a xs ∧ Ptp H b ys ∧ xs.length + ys.length ≤ sizeLine ∧ ∀ p H', Same H H' → Ptp H' p (xs ++ ys) → Q (.ref p) H'
theorem op_catP : OpR X (binaryOp .Add) (rCatP X.K) := by
  intro pins s σ H x y v u Q I rx ry h
  obtain ⟨a, b, xs, ys, rfl, rfl, ha, hb, hz, q⟩ := h
  by_cases hx : xs = []
  · subst hx
    exact op_catA pins s σ H _ _ v u Q I rx ry ⟨a, b, [], ys, rfl, rfl, ha.seq, hb.seq, hz, fun _ => q b H (Same.refl H) hb, fun n => absurd rfl n, fun n => absurd rfl n⟩
  · cases rx
    cases ry
    obtain ⟨its, r1, p1, _⟩ := I.tuple ha.seq
    obtain ⟨its2, r2, p2, _⟩ := I.tuple hb.seq
    refine HT.cat_tup p1 p2 (fun z => hx (r1.nil_iff.mp z)) (fun z => ⟨.ref a, H, I, rfl, q a H (Same.refl H) (by rw [r2.nil_iff.mp z, List.append_nil]; exact ha)⟩) (fun z => ?_) (by rw [← r1.length, ← r2.length]; exact hz)
    have hf := I.hok.fresh (Nat.le_refl _)
    refine ⟨.ref s.heap.objs.size, _, I.laid (t' := s.toks) (o := .frz { cls := .type "tuple", data := .seq (its ++ its2).toArray } (.tup (xs ++ ys))) (fun b ob q => Heap.get?_push_of_some _ q) (Nat.le_refl _) ?_, rfl, q _ _ (same_fresh hf) ⟨_, upd_same, rfl⟩⟩
    exact ⟨Heap.get?_push_size _ rfl, by rw [List.length_append]; exact hz, _, r1.append r2, ⟨_, Heap.get?_push_size _ rfl, rfl, _, rfl⟩⟩
end
end L2

namespace Kb
open PySem PySem.Spec PyProof.Rows L2
/-! anything, with its contents -/
inductive Dat where
  | non
  | bl (b : Bool)
  | int (i : Int)
  | str (z : Str)
  | tup (xs : List Dat)
  | lst (xs : List Dat)
  | dic (xs : List Dat)
  | err
theorem paired_imp' {α β : Type} {F G : α → β → Prop} (h : ∀ a b, F a b → G a b) : ∀ {xs : List α} {ys : List β}, Paired F xs ys → Paired G xs ys
  | _, _, .nil => .nil
  | _, _, .cons a t => .cons (h _ _ a) (paired_imp' h t)
def ascB (z : Str) : Bool := z.cps.toList.all fun c => decide (c < 128)
def LfAt (C : Addr) (B L : Nat) (H : Hp) (v : V) : Dat → Prop
  | .non => v = .non
  | .bl b => v = .bl b
  | .int i => v = .int i ∧ i.natAbs ≤ B
  | .str z => v = .str z ∧ z.length ≤ L ∧ ascB z = true
  | .err => ∃ a t, v = .ref a ∧ H a = some (ExN C a t) ∧ Ptp H t []
  | .tup _ => False
  | .lst _ => False
  | .dic _ => False
/-- the value, thing by thing; its lists are none of F -/
def DatAt (F : Addr → Prop) (C : Addr) (B L : Nat) : Nat → Hp → V → Dat → Prop
  | 0, H, v, d => LfAt C B L H v d
  | n + 1, H, v, d => LfAt C B L H v d ∨ (∃ a xs ds, v = .ref a ∧ d = .tup ds ∧ Ptp H a xs ∧ xs.length ≤ L ∧ Paired (DatAt F C B L n H) xs ds) ∨
    (∃ a xs ds, v = .ref a ∧ d = .lst ds ∧ ¬ F a ∧ H a = some (.lst xs) ∧ xs.length ≤ L ∧ Paired (DatAt F C B L n H) xs ds) ∨
    (∃ a l xs ds, v = .ref a ∧ d = .dic ds ∧ H a = some (.dK [(.inr (Str.ofString "a"), .ref l), (.inl 1, .non)]) ∧ ¬ F l ∧ H l = some (.lst xs) ∧ xs.length ≤ L ∧ Paired (DatAt F C B L n H) xs ds)
/-- what keeps anything whose lists are none of F -/
structure DKeep (F : Addr → Prop) (C : Addr) (H H' : Hp) : Prop where
  t : ∀ a xs, Ptp H a xs → Ptp H' a xs
  l : ∀ a xs, ¬ F a → H a = some (.lst xs) → H' a = some (.lst xs)
  d : ∀ a k, H a = some (.dK k) → H' a = some (.dK k)
  e : ∀ a t, H a = some (ExN C a t) → H' a = some (ExN C a t)
theorem DKeep.refl {F : Addr → Prop} {C : Addr} (H : Hp) : DKeep F C H H := ⟨fun _ _ h => h, fun _ _ _ h => h, fun _ _ h => h, fun _ _ h => h⟩
theorem DKeep.trans {F : Addr → Prop} {C : Addr} {H H1 H2 : Hp} (x : DKeep F C H H1) (y : DKeep F C H1 H2) : DKeep F C H H2 :=
  ⟨fun a xs h => y.t a xs (x.t a xs h), fun a xs n h => y.l a xs n (x.l a xs n h), fun a k h => y.d a k (x.d a k h), fun a t h => y.e a t (x.e a t h)⟩
theorem dk_same {F : Addr → Prop} {C : Addr} {H H' : Hp} (s : Same H H') : DKeep F C H H' := ⟨fun a xs h => h.same s, fun a xs _ h => s _ _ h, fun a k h => s _ _ h, fun a t h => s _ _ h⟩
/-- a list of F is stored anew -/
theorem dk_put {F : Addr → Prop} {C : Addr} {p : Addr} {H : Hp} {xs ys : List V} (h : H p = some (.lst xs)) (f : F p) : DKeep F C H (upd H p (.lst ys)) :=
  ⟨fun b zs ⟨o, e, d⟩ => ⟨o, by rw [upd_ne (ne_of e h (by intro z; cases z))]; exact e, d⟩, fun b zs n e => by rw [upd_ne (show b ≠ p from fun z => n (by rw [z]; exact f))]; exact e, fun b k e => by rw [upd_ne (ne_of e h (by intro z; cases z))]; exact e, fun b t e => by rw [upd_ne (ne_of e h (by intro z; cases z))]; exact e⟩
theorem LfAt.keep {F : Addr → Prop} {C : Addr} {B L : Nat} {H H' : Hp} (k : DKeep F C H H') {v : V} : ∀ {d : Dat}, LfAt C B L H v d → LfAt C B L H' v d
  | .non, h => h
  | .bl _, h => h
  | .int _, h => h
  | .str _, h => h
  | .err, ⟨a, t, e, h1, h2⟩ => ⟨a, t, e, k.e a t h1, k.t t [] h2⟩
  | .tup _, h => h.elim
  | .lst _, h => h.elim
  | .dic _, h => h.elim
theorem DatAt.keep {F : Addr → Prop} {C : Addr} {B L : Nat} {H H' : Hp} (k : DKeep F C H H') : ∀ {n : Nat} {v : V} {d : Dat}, DatAt F C B L n H v d → DatAt F C B L n H' v d
  | 0, _, _, h => LfAt.keep k h
  | n + 1, v, d, h => by
    rcases h with h | ⟨a, xs, ds, e1, e2, h1, h2, h3⟩ | ⟨a, xs, ds, e1, e2, f, h1, h2, h3⟩ | ⟨a, l, xs, ds, e1, e2, h0, f, h1, h2, h3⟩
    · exact .inl (LfAt.keep k h)
    · exact .inr (.inl ⟨a, xs, ds, e1, e2, k.t a xs h1, h2, paired_imp' (fun _ _ h => DatAt.keep k h) h3⟩)
    · exact .inr (.inr (.inl ⟨a, xs, ds, e1, e2, f, k.l a xs f h1, h2, paired_imp' (fun _ _ h => DatAt.keep k h) h3⟩))
    · exact .inr (.inr (.inr ⟨a, l, xs, ds, e1, e2, k.d a _ h0, f, k.l l xs f h1, h2, paired_imp' (fun _ _ h => DatAt.keep k h) h3⟩))
theorem DatAt.same {F : Addr → Prop} {C : Addr} {B L n : Nat} {H H' : Hp} {v : V} {d : Dat} (h : DatAt F C B L n H v d) (s : Same H H') : DatAt F C B L n H' v d := h.keep (dk_same s)
theorem LfAt.wide {C : Addr} {B L B' L' : Nat} {H : Hp} (hB : B ≤ B') (hL : L ≤ L') {v : V} : ∀ {d : Dat}, LfAt C B L H v d → LfAt C B' L' H v d
  | .non, h => h
  | .bl _, h => h
  | .int _, h => ⟨h.1, Nat.le_trans h.2 hB⟩
  | .str _, h => ⟨h.1, Nat.le_trans h.2.1 hL, h.2.2⟩
  | .err, h => h
  | .tup _, h => h.elim
  | .lst _, h => h.elim
  | .dic _, h => h.elim
theorem DatAt.wide {F F' : Addr → Prop} {C : Addr} {B L B' L' : Nat} {H : Hp} (hF : ∀ a, F' a → F a) (hB : B ≤ B') (hL : L ≤ L') : ∀ {n m : Nat} {v : V} {d : Dat}, n ≤ m → DatAt F C B L n H v d → DatAt F' C B' L' m H v d
  | 0, 0, _, _, _, h => LfAt.wide hB hL h
  | 0, m + 1, _, _, _, h => .inl (LfAt.wide hB hL h)
  | n + 1, 0, _, _, hm, _ => absurd hm (by omega)
  | n + 1, m + 1, v, d, hm, h => by
    rcases h with h | ⟨a, xs, ds, e1, e2, h1, h2, h3⟩ | ⟨a, xs, ds, e1, e2, f, h1, h2, h3⟩ | ⟨a, l, xs, ds, e1, e2, h0, f, h1, h2, h3⟩
    · exact .inl (LfAt.wide hB hL h)
    · exact .inr (.inl ⟨a, xs, ds, e1, e2, h1, Nat.le_trans h2 hL, paired_imp' (fun _ _ h => DatAt.wide hF hB hL (by omega) h) h3⟩)
    · exact .inr (.inr (.inl ⟨a, xs, ds, e1, e2, fun z => f (hF a z), h1, Nat.le_trans h2 hL, paired_imp' (fun _ _ h => DatAt.wide hF hB hL (by omega) h) h3⟩))
    · exact .inr (.inr (.inr ⟨a, l, xs, ds, e1, e2, h0, fun z => f (hF l z), h1, Nat.le_trans h2 hL, paired_imp' (fun _ _ h => DatAt.wide hF hB hL (by omega) h) h3⟩))
theorem DatAt.leaf {F : Addr → Prop} {C : Addr} {B L : Nat} {H : Hp} {v : V} {d : Dat} (h : LfAt C B L H v d) : ∀ {n : Nat}, DatAt F C B L n H v d
  | 0 => h
  | _ + 1 => .inl h
section
variable {F : Addr → Prop} {C : Addr} {B L n : Nat} {H : Hp}
theorem DatAt.lint {i : Int} (h : i.natAbs ≤ B) : DatAt F C B L n H (.int i) (.int i) := .leaf (show LfAt C B L H (.int i) (.int i) from ⟨rfl, h⟩)
theorem DatAt.lstr {z : Str} (h : z.length ≤ L) (h2 : ascB z = true) : DatAt F C B L n H (.str z) (.str z) := .leaf (show LfAt C B L H (.str z) (.str z) from ⟨rfl, h, h2⟩)
theorem DatAt.lbl {b : Bool} : DatAt F C B L n H (.bl b) (.bl b) := .leaf (show LfAt C B L H (.bl b) (.bl b) from rfl)
theorem DatAt.lnon : DatAt F C B L n H .non .non := .leaf (show LfAt C B L H .non .non from rfl)
theorem DatAt.lerr {a t : Addr} (h : H a = some (ExN C a t)) (h2 : Ptp H t []) : DatAt F C B L n H (.ref a) .err := .leaf (show LfAt C B L H (.ref a) .err from ⟨a, t, rfl, h, h2⟩)
theorem DatAt.ltup {a : Addr} {xs : List V} {ds : List Dat} (h1 : Ptp H a xs) (h2 : xs.length ≤ L) (h3 : Paired (DatAt F C B L n H) xs ds) : DatAt F C B L (n + 1) H (.ref a) (.tup ds) := .inr (.inl ⟨a, xs, ds, rfl, rfl, h1, h2, h3⟩)
theorem DatAt.llst {a : Addr} {xs : List V} {ds : List Dat} (f : ¬ F a) (h1 : H a = some (.lst xs)) (h2 : xs.length ≤ L) (h3 : Paired (DatAt F C B L n H) xs ds) : DatAt F C B L (n + 1) H (.ref a) (.lst ds) := .inr (.inr (.inl ⟨a, xs, ds, rfl, rfl, f, h1, h2, h3⟩))
theorem DatAt.ldic {a l : Addr} {xs : List V} {ds : List Dat} (h0 : H a = some (.dK [(.inr (Str.ofString "a"), .ref l), (.inl 1, .non)])) (f : ¬ F l) (h1 : H l = some (.lst xs)) (h2 : xs.length ≤ L) (h3 : Paired (DatAt F C B L n H) xs ds) : DatAt F C B L (n + 1) H (.ref a) (.dic ds) := .inr (.inr (.inr ⟨a, l, xs, ds, rfl, rfl, h0, f, h1, h2, h3⟩))
end
mutual
/-- its repr -/
def sh (nm : String) : Dat → Str
  | .non => Str.ofString "None"
  | .bl b => Str.ofString (if b then "True" else "False")
  | .int i => Str.ofString (toString i)
  | .str z => reprText z
  | .tup xs => tupleText (shs nm xs)
  | .lst xs => listText (shs nm xs)
  | .dic xs => dictText [reprText (Str.ofString "a") ++ ": " ++ listText (shs nm xs), Str.ofString (toString (1 : Int)) ++ ": " ++ Str.ofString "None"]
  | .err => PySem.exrText nm
def shs (nm : String) : List Dat → List Str
  | [] => []
  | x :: xs => sh nm x :: shs nm xs
end
mutual
/-- no shorter than its repr -/
def wD : Dat → Nat
  | .non => 10
  | .bl _ => 10
  | .int _ => 60
  | .str z => 15 * z.length + 20
  | .tup xs => 10 + wDs xs
  | .lst xs => 10 + wDs xs
  | .dic xs => 60 + wDs xs
  | .err => 200
def wDs : List Dat → Nat
  | [] => 0
  | x :: xs => wD x + 2 + wDs xs
end
theorem shs_len (nm : String) : ∀ xs : List Dat, (shs nm xs).length = xs.length
  | [] => rfl
  | x :: xs => by
    show (shs nm xs).length + 1 = xs.length + 1
    rw [shs_len nm xs]
theorem wDs_app : ∀ xs ys : List Dat, wDs (xs ++ ys) = wDs xs + wDs ys
  | [], ys => by
    show wDs ys = 0 + wDs ys
    omega
  | x :: xs, ys => by
    show wD x + 2 + wDs (xs ++ ys) = wD x + 2 + wDs xs + wDs ys
    rw [wDs_app xs ys]
    omega
theorem wDs_mem : ∀ {xs : List Dat} {x : Dat}, x ∈ xs → wD x < wDs xs
  | y :: xs, x, h => by
    show wD x < wD y + 2 + wDs xs
    rcases List.mem_cons.mp h with rfl | h
    · omega
    · have := wDs_mem h
      omega
theorem nat_len {n : Nat} {k : Nat} (hk : 0 < k) (h : n < 10 ^ k) : (Str.ofString (toString ((n : Nat) : Int))).length ≤ k := by
  have e := congrArg List.length (TL.tl_num n)
  have l := TL.numL_len hk h
  have : (Str.ofString (toString ((n : Nat) : Int))).length = (TL.tl (Str.ofString (toString ((n : Nat) : Int)))).length := by
    show Array.size _ = List.length (Array.toList _)
    rw [Array.length_toList]
  omega
theorem int_len {i : Int} (h : i.natAbs ≤ 2 ^ 90) : (Str.ofString (toString i)).length ≤ 60 := by
  cases i with
  | ofNat n =>
    have h : n ≤ 2 ^ 90 := h
    exact nat_len (by decide) (Nat.lt_of_le_of_lt h (by decide))
  | negSucc n =>
    have h : n + 1 ≤ 2 ^ 90 := h
    have l := nat_len (n := n + 1) (k := 59) (by decide) (Nat.lt_of_le_of_lt h (by decide))
    have e : toString (Int.negSucc n) = "-" ++ toString (((n + 1 : Nat) : Int)) := rfl
    have e2 : ∀ x : String, (Str.ofString x).length = x.length := fun x => PySem.ofString_length x
    rw [e2] at l ⊢
    rw [e, String.length_append]
    have : "-".length = 1 := rfl
    omega
theorem list_len (ts : List Str) : (listText ts).length ≤ (ts.map (·.length)).sum + 2 * ts.length + 2 := by
  have h := textFrom_len_le ts 0 "["
  show (textFrom 0 "[" ts ++ "]").length ≤ _
  rw [strLen_append]
  have e1 : ("[" : Str).length = 1 := rfl
  have e2 : ("]" : Str).length = 1 := rfl
  omega
theorem tuple_len (ts : List Str) : (tupleText ts).length ≤ (ts.map (·.length)).sum + 2 * ts.length + 3 := by
  have h := StrLaws.join_length_le (", " : Str) ts
  have e0 : (", " : Str).length = 2 := rfl
  unfold tupleText
  rw [strLen_append, strLen_append]
  have e1 : ("(" : Str).length = 1 := rfl
  have e2 : ((if ts.length == 1 then ",)" else ")" : String) : Str).length ≤ 2 := by split <;> decide
  rw [e0] at h
  omega
theorem reprs_len {z : Str} (h : ascB z = true) : (reprText z).length ≤ 15 * z.length + 13 := by
  have lv : (PyData.str z).leavesShort 13 = true := by
    show (z.cps.toList.all fun c => decide (c < 16 ^ 8)) = true
    rw [List.all_eq_true]
    intro c hc
    have := of_decide_eq_true (List.all_eq_true.mp h c hc)
    exact decide_eq_true (Nat.lt_trans this (by decide))
  have := PyData.shown_le 13 (by decide) (.str z) lv
  rw [PyData.shown_str] at this
  exact this
theorem sum_sh {nm : String} {R : V → Dat → Prop} (h : ∀ v d, R v d → (sh nm d).length ≤ wD d) : ∀ {xs : List V} {ds : List Dat}, Paired R xs ds → ((shs nm ds).map (·.length)).sum + 2 * (shs nm ds).length ≤ wDs ds
  | _, _, .nil => Nat.le_refl _
  | _, d :: ds, .cons a t => by
    have h1 := h _ _ a
    have h2 := sum_sh (nm := nm) h t
    show (sh nm d).length + ((shs nm ds).map (·.length)).sum + 2 * ((shs nm ds).length + 1) ≤ wD d + 2 + wDs ds
    omega
theorem DatAt.shlen {nm : String} {F : Addr → Prop} {C : Addr} {L : Nat} {H : Hp} (hn : (PySem.exrText nm).length ≤ 200) : ∀ {n : Nat} {v : V} {d : Dat}, DatAt F C (2 ^ 90) L n H v d → (sh nm d).length ≤ wD d := by
  have lf : ∀ {v : V} {d : Dat}, LfAt C (2 ^ 90) L H v d → (sh nm d).length ≤ wD d := fun {v d} h => by
    cases d with
    | non => show (Str.ofString "None").length ≤ 10; decide +kernel
    | bl b => cases b; { show (Str.ofString "False").length ≤ 10; decide +kernel }; { show (Str.ofString "True").length ≤ 10; decide +kernel }
    | int i => exact int_len h.2
    | str z => have := reprs_len h.2.2; show (reprText z).length ≤ 15 * z.length + 20; omega
    | err => exact hn
    | _ => exact h.elim
  intro n
  induction n with
  | zero => exact fun h => lf h
  | succ n ih =>
    intro v d h
    rcases h with h | ⟨a, xs, ds, e1, rfl, h1, h2, h3⟩ | ⟨a, xs, ds, e1, rfl, f, h1, h2, h3⟩ | ⟨a, l, xs, ds, e1, rfl, h0, f, h1, h2, h3⟩
    · exact lf h
    · have s := sum_sh (nm := nm) (fun _ _ h => ih h) h3
      have := tuple_len (shs nm ds)
      show (tupleText (shs nm ds)).length ≤ 10 + wDs ds
      omega
    · have s := sum_sh (nm := nm) (fun _ _ h => ih h) h3
      have := list_len (shs nm ds)
      show (listText (shs nm ds)).length ≤ 10 + wDs ds
      omega
    · have s := sum_sh (nm := nm) (fun _ _ h => ih h) h3
      have := list_len (shs nm ds)
      show (dictText [reprText (Str.ofString "a") ++ ": " ++ listText (shs nm ds), Str.ofString (toString (1 : Int)) ++ ": " ++ Str.ofString "None"]).length ≤ 60 + wDs ds
      unfold dictText
      rw [strLen_append, strLen_append]
      show _ + ((reprText (Str.ofString "a") ++ ": " ++ listText (shs nm ds)) ++ (", " : Str) ++ (Str.ofString (toString (1 : Int)) ++ ": " ++ Str.ofString "None")).length + _ ≤ _
      rw [strLen_append, strLen_append, strLen_append, strLen_append]
      have a1 : (reprText (Str.ofString "a")).length = 3 := by decide +kernel
      have a2 : (": " : Str).length = 2 := rfl
      have a3 : (", " : Str).length = 2 := rfl
      have a4 : (Str.ofString (toString (1 : Int)) ++ ": " ++ Str.ofString "None").length = 7 := by decide +kernel
      have a5 : ("{" : Str).length = 1 := rfl
      have a6 : ("}" : Str).length = 1 := rfl
      omega
end Kb

namespace Kb
open PySem PySem.Spec PyProof.Rows L2
theorem pair_det {R R' : V → Dat → Prop} (h : ∀ v d d', R v d → R' v d' → d = d') : ∀ {xs : List V} {ds es : List Dat}, Paired R xs ds → Paired R' xs es → ds = es
  | _, _, _, .nil, .nil => rfl
  | _, _, _, .cons a t, .cons b u => by rw [h _ _ _ a b, pair_det h t u]
theorem LfAt.det {C : Addr} {B L B' L' : Nat} {H : Hp} {v : V} {d d' : Dat} (h : LfAt C B L H v d) (h' : LfAt C B' L' H v d') : d = d' := by
  cases d with
  | non => cases (show v = .non from h); cases d' with
    | non => rfl
    | bl b => cases (show V.non = .bl b from h')
    | int i => cases h'.1
    | str z => cases h'.1
    | err => obtain ⟨_, _, e, _⟩ := h'; cases e
    | _ => exact h'.elim
  | bl b => cases (show v = .bl b from h); cases d' with
    | non => cases (show V.bl b = .non from h')
    | bl b' => cases (show V.bl b = .bl b' from h'); rfl
    | int i => cases h'.1
    | str z => cases h'.1
    | err => obtain ⟨_, _, e, _⟩ := h'; cases e
    | _ => exact h'.elim
  | int i => cases h.1; cases d' with
    | non => cases (show V.int i = .non from h')
    | bl b' => cases (show V.int i = .bl b' from h')
    | int j => cases h'.1; rfl
    | str z => cases h'.1
    | err => obtain ⟨_, _, e, _⟩ := h'; cases e
    | _ => exact h'.elim
  | str z => cases h.1; cases d' with
    | non => cases (show V.str z = .non from h')
    | bl b' => cases (show V.str z = .bl b' from h')
    | int j => cases h'.1
    | str z' => cases h'.1; rfl
    | err => obtain ⟨_, _, e, _⟩ := h'; cases e
    | _ => exact h'.elim
  | err => obtain ⟨a, t, rfl, _⟩ := h; cases d' with
    | non => cases (show V.ref a = .non from h')
    | bl b' => cases (show V.ref a = .bl b' from h')
    | int j => cases h'.1
    | str z' => cases h'.1
    | err => rfl
    | _ => exact h'.elim
  | _ => exact h.elim
/-- a leaf is no container -/
theorem LfAt.no {C : Addr} {B L : Nat} {H : Hp} {a : Addr} {d : Dat} {o : HO} (h : LfAt C B L H (.ref a) d) (e : H a = some o) (no : ∀ φ, o ≠ .ext φ) : False := by
  cases d with
  | non => cases (show V.ref a = .non from h)
  | bl b => cases (show V.ref a = .bl b from h)
  | int i => cases h.1
  | str z => cases h.1
  | err =>
    obtain ⟨a', t, e1, h1, _⟩ := h
    cases e1
    rw [h1] at e
    exact no _ (by injection e with e; exact e.symm)
  | _ => exact h.elim
theorem DatAt.det {C : Addr} {H : Hp} : ∀ {n : Nat} {F F' : Addr → Prop} {B L B' L' m : Nat} {v : V} {d d' : Dat}, DatAt F C B L n H v d → DatAt F' C B' L' m H v d' → d = d' := by
  have lc : ∀ {F' : Addr → Prop} {B L B' L' m : Nat} {v : V} {d d' : Dat}, LfAt C B L H v d → DatAt F' C B' L' m H v d' → d = d' := fun {F' B L B' L' m v d d'} h h' => by
    cases m with
    | zero => exact h.det h'
    | succ m =>
      rcases h' with h' | ⟨a, xs, ds, rfl, e2, ⟨o, h1, _⟩, _⟩ | ⟨a, xs, ds, rfl, e2, f, h1, _⟩ | ⟨a, l, xs, ds, rfl, e2, h1, _⟩
      · exact h.det h'
      · exact (h.no h1 (fun _ z => nomatch z)).elim
      · exact (h.no h1 (fun _ z => nomatch z)).elim
      · exact (h.no h1 (fun _ z => nomatch z)).elim
  intro n
  induction n with
  | zero => exact fun h h' => lc h h'
  | succ n ih =>
    intro F F' B L B' L' m v d d' h h'
    rcases h with h | ⟨a, xs, ds, rfl, rfl, ⟨o, h1, _⟩, h2, h3⟩ | ⟨a, xs, ds, rfl, rfl, f, h1, h2, h3⟩ | ⟨a, l, xs, ds, rfl, rfl, h0, f, h1, h2, h3⟩
    · exact lc h h'
    · cases m with
      | zero => exact (LfAt.no (d := d') h' h1 (fun _ z => nomatch z)).elim
      | succ m =>
        rcases h' with h' | ⟨a', xs', ds', e1, rfl, ⟨o', k1, _⟩, _, k3⟩ | ⟨a', xs', ds', e1, rfl, _, k1, _⟩ | ⟨a', l', xs', ds', e1, rfl, k1, _⟩
        · exact (h'.no h1 (fun _ z => nomatch z)).elim
        · cases e1
          rw [h1] at k1
          injection k1 with k1
          injection k1 with _ k1
          injection k1 with k1
          subst k1
          rw [pair_det (R := DatAt F C B L n H) (R' := DatAt F' C B' L' m H) (fun _ _ _ x y => ih x y) h3 k3]
        · cases e1; rw [h1] at k1; cases k1
        · cases e1; rw [h1] at k1; cases k1
    · cases m with
      | zero => exact (LfAt.no (d := d') h' h1 (fun _ z => nomatch z)).elim
      | succ m =>
        rcases h' with h' | ⟨a', xs', ds', e1, rfl, ⟨o', k1, _⟩, _, k3⟩ | ⟨a', xs', ds', e1, rfl, _, k1, _, k3⟩ | ⟨a', l', xs', ds', e1, rfl, k1, _⟩
        · exact (h'.no h1 (fun _ z => nomatch z)).elim
        · cases e1; rw [h1] at k1; cases k1
        · cases e1
          rw [h1] at k1
          injection k1 with k1
          injection k1 with k1
          subst k1
          rw [pair_det (R := DatAt F C B L n H) (R' := DatAt F' C B' L' m H) (fun _ _ _ x y => ih x y) h3 k3]
        · cases e1; rw [h1] at k1; cases k1
    · cases m with
      | zero => exact (LfAt.no (d := d') h' h0 (fun _ z => nomatch z)).elim
      | succ m =>
        rcases h' with h' | ⟨a', xs', ds', e1, rfl, ⟨o', k1, _⟩, _, k3⟩ | ⟨a', xs', ds', e1, rfl, _, k1, _, k3⟩ | ⟨a', l', xs', ds', e1, rfl, k0, _, k1, _, k3⟩
        · exact (h'.no h0 (fun _ z => nomatch z)).elim
        · cases e1; rw [h0] at k1; cases k1
        · cases e1; rw [h0] at k1; cases k1
        · cases e1
          rw [h0] at k0
          injection k0 with k0
          injection k0 with k0
          injection k0 with k0
          injection k0 with _ k0
          injection k0 with k0
          subst k0
          rw [h1] at k1
          injection k1 with k1
          injection k1 with k1
          subst k1
          rw [pair_det (R := DatAt F C B L n H) (R' := DatAt F' C B' L' m H) (fun _ _ _ x y => ih x y) h3 k3]
/-- addresses of things that weigh at most so much -/
def Wn (H : Hp) (C : Addr) (W : Nat) (bs : List Addr) : Prop := ∀ b ∈ bs, ∃ F B L m d, DatAt F C B L m H (.ref b) d ∧ wD d ≤ W
theorem Wn.mono {H : Hp} {C : Addr} {W W' : Nat} {bs : List Addr} (h : Wn H C W bs) (le : W ≤ W') : Wn H C W' bs := fun b hb => by
  obtain ⟨F, B, L, m, d, h1, h2⟩ := h b hb
  exact ⟨F, B, L, m, d, h1, Nat.le_trans h2 le⟩
theorem Wn.app {H : Hp} {C : Addr} {W : Nat} {bs cs : List Addr} (h : Wn H C W bs) (k : Wn H C W cs) : Wn H C W (bs ++ cs) := fun b hb => (List.mem_append.mp hb).elim (h b) (k b)
theorem Wn.no {H : Hp} {C : Addr} {W : Nat} {bs : List Addr} {F : Addr → Prop} {B L m : Nat} {a : Addr} {d : Dat} (h : Wn H C W bs) (ha : DatAt F C B L m H (.ref a) d) (lt : W < wD d) : a ∉ bs := fun hb => by
  obtain ⟨F', B', L', m', d', h1, h2⟩ := h a hb
  have e := ha.det h1
  rw [← e] at h2
  omega
theorem listText_cons0 : listText [] = Str.ofString "[]" := listText_nil
section
variable {X : Cx} {pins : List (Addr × Obj)} {σ : L2.St} {H : Hp} {s : Shared} {C : Addr} {nm : String} {F : Addr → Prop} {L : Nat}
theorem show_list {n : Nat} {a : Addr} {xs : List V} {ds : List Dat} {bs : List Addr} {us : List Value} (pl : PlainL s.heap a us.toArray) (hna : a ∉ bs) (hk : ReprAllK X.prog X.w bs s.heap n us (shs nm ds)) : ReprK X.prog X.w (a :: bs) s.heap (n + 1) (.ref a) (listText (shs nm ds)) := by
  obtain ⟨o, k, h1, h2, _, h4⟩ := pl
  cases us with
  | nil =>
    have e : shs nm ds = [] := by
      have := hk.length_eq
      exact List.length_eq_zero_iff.mp this
    rw [e, listText_nil]
    exact ReprK.listEmpty h1 h2 h4
  | cons x l => exact ReprK.list h1 h2 h4 hna (by simpa using hk.length_eq) (fun i y e => hk.item i y (by simpa using e))
theorem show_dic {m : Nat} {a l : Addr} {bs : List Addr} {t : Str} (I : Inv X pins σ H s) (h0 : H a = some (.dK [(.inr (Str.ofString "a"), .ref l), (.inl 1, .non)])) (kl : ReprK X.prog X.w bs s.heap m (.ref l) t) :
    ∃ o es ep, s.heap.get? a = some o ∧ o.cls = .type "dict" ∧ o.data = .dict es ep ∧ (a == sysModules) = false ∧ ReprEntriesK X.prog X.w bs s.heap m es.toList [reprText (Str.ofString "a") ++ ": " ++ t, Str.ofString (toString (1 : Int)) ++ ": " ++ Str.ofString "None"] := by
  obtain ⟨_, hsys, vs0, r0, o, es, ep, d1, d2, d3, _, d4, _⟩ := dk_of I.hok h0
  obtain ⟨es⟩ := es
  cases r0 with
  | cons ra rb =>
    cases rb with
    | cons rb rc =>
      cases rc
      cases d4 with
      | cons x1 x2 x3 =>
        cases x3 with
        | cons y1 y2 y3 =>
          cases y3
          rename_i b1 b2 _ en1 en2 _
          have q1 : en1.val = Value.ref l := by
            rw [x2]
            exact ra.2
          have q2 : en2.val = Value.none := by
            rw [y2]
            exact rb.2
          obtain ⟨t1, q3⟩ : ∃ t, en1.key = Value.str (Str.ofString "a") t := by
            rw [← ra.1] at x1
            rcases keyIs_shape (show keyIs (.inr (Str.ofString "a")) en1.key = true from x1) with ⟨i, t, e, _⟩ | ⟨x, t, e, e2⟩
            · cases e
            · cases e; exact ⟨t, e2⟩
          obtain ⟨t2, q4⟩ : ∃ t, en2.key = Value.int 1 t := by
            rw [← rb.1] at y1
            rcases keyIs_shape (show keyIs (.inl 1) en2.key = true from y1) with ⟨i, t, e, e2⟩ | ⟨x, t, e, _⟩
            · cases e; exact ⟨t, e2⟩
            · cases e
          have r1 : ReprK X.prog X.w bs s.heap m en1.key (reprText (Str.ofString "a")) := by
            rw [q3]
            exact .of_is (ReprIs.str _ t1 (by decide +kernel)) _ _ _
          have r2 : ReprK X.prog X.w bs s.heap m en1.val t := by
            rw [q1]
            exact kl
          have r3 : ReprK X.prog X.w bs s.heap m en2.key (Str.ofString (toString (1 : Int))) := by
            rw [q4]
            exact .of_is (ReprIs.int t2 (by decide)) _ _ _
          have r4 : ReprK X.prog X.w bs s.heap m en2.val (Str.ofString "None") := by
            rw [q2]
            exact .of_is ReprIs.none _ _ _
          exact ⟨o, _, ep, d1, d2.1, d3, hsys, .cons r1 r2 (.cons r3 r4 .nil)⟩
theorem DatAt.showK (I : Inv X pins σ H s) (R : PySem.ExR X.K C nm) (hn : (PySem.exrText nm).length ≤ 200) : ∀ {n : Nat} {v : V} {d : Dat} {u : Value}, DatAt F C (2 ^ 90) L n H v d → wD d ≤ 10000000 → RelV v u →
    ∃ bs, Wn H C (wD d) bs ∧ ReprK X.prog X.w bs s.heap (2 * n + 2) u (sh nm d) := by
  have lf : ∀ {n : Nat} {v : V} {d : Dat} {u : Value}, LfAt C (2 ^ 90) L H v d → wD d ≤ 10000000 → RelV v u → ∃ bs, Wn H C (wD d) bs ∧ ReprK X.prog X.w bs s.heap (2 * n + 2) u (sh nm d) := fun {n v d u} h hw r => by
    cases d with
    | non =>
      cases (show v = .non from h)
      cases r
      exact ⟨[], (fun _ h => nomatch h), .of_is ReprIs.none _ _ _⟩
    | bl b =>
      cases (show v = .bl b from h)
      cases r
      exact ⟨[], (fun _ h => nomatch h), .of_is (by cases b <;> exact ReprIs.bool _) _ _ _⟩
    | int i =>
      cases h.1
      obtain ⟨t, rfl⟩ := r
      refine ⟨[], (fun _ h => nomatch h), .of_is (ReprIs.int t ?_) _ _ _⟩
      have h2 : i.natAbs ≤ 2 ^ 90 := h.2
      by_cases h0 : i.natAbs = 0
      · rw [h0]; decide
      · exact (Nat.log2_lt h0).mpr (Nat.lt_of_le_of_lt h2 (Nat.pow_lt_pow_right (by decide) (by decide)))
    | str z =>
      cases h.1
      obtain ⟨t, rfl⟩ := r
      refine ⟨[], (fun _ h => nomatch h), .of_is (ReprIs.str z t ?_) _ _ _⟩
      have := reprs_len h.2.2
      have hw : 15 * z.length + 20 ≤ 10000000 := hw
      rw [sizeLine_eq]
      omega
    | err =>
      obtain ⟨a, t, rfl, h1, h2⟩ := h
      cases r
      obtain ⟨⟨oe, vs, e1, e2, e3, e4⟩, _, _⟩ := I.hok a _ h1
      obtain ⟨its, rv, ⟨ot, t1, t2, k, t3⟩, _⟩ := I.tuple (h2.seq (K := X.K))
      cases rv
      have x : PySem.ExcC X.K C a t s.heap := ⟨I.kIn, oe, vs, e1, e2.1, e3, e4⟩
      refine ⟨[t], fun b hb => ?_, (PySem.exc_K x R t1 t2 t3).level_le (by omega)⟩
      rw [List.mem_singleton.mp hb]
      exact ⟨F, 0, 0, 1, .tup [], .ltup h2 (Nat.le_refl _) .nil, by show 10 ≤ 200; decide⟩
    | _ => exact h.elim
  intro n
  induction n with
  | zero => exact fun h hw r => lf h hw r
  | succ n ih =>
    intro v d u h hw r
    have all : ∀ {xs : List V} {ds : List Dat} {us : List Value}, Paired (DatAt F C (2 ^ 90) L n H) xs ds → wDs ds ≤ 10000000 → Vals xs us → ∃ bs, Wn H C (wDs ds) bs ∧ ReprAllK X.prog X.w bs s.heap (2 * n + 2) us (shs nm ds) := fun {xs ds us} hp => by
      induction hp generalizing us with
      | nil => intro _ r; cases r; exact ⟨[], (fun _ h => nomatch h), .nil⟩
      | @cons a b as bs' h t ih2 =>
        intro hw r
        have hw : wD b + 2 + wDs bs' ≤ 10000000 := hw
        cases r with
        | cons r1 r2 =>
          obtain ⟨b1, k1, k2⟩ := ih h (by omega) r1
          obtain ⟨b2, k3, k4⟩ := ih2 (by omega) r2
          have le : wDs (b :: bs') = wD b + 2 + wDs bs' := rfl
          exact ⟨b1 ++ b2, (k1.mono (by omega)).app (k3.mono (by omega)), .cons (k2.more fun c hc => List.mem_append_left _ hc) (k4.more_le (fun c hc => List.mem_append_right _ hc) (Nat.le_refl _))⟩
    have full := h
    rcases h with h | ⟨a, xs, ds, rfl, rfl, h1, h2, h3⟩ | ⟨a, xs, ds, rfl, rfl, f, h1, h2, h3⟩ | ⟨a, l, xs, ds, rfl, rfl, h0, f, h1, h2, h3⟩
    · exact lf h hw r
    · cases r
      have hw : 10 + wDs ds ≤ 10000000 := hw
      obtain ⟨its, rv, ⟨o, t1, t2, k, t3⟩, _⟩ := I.tuple (h1.seq (K := X.K))
      obtain ⟨bs, k1, k2⟩ := all h3 (by omega) rv
      have hna := k1.no full (show wDs ds < 10 + wDs ds by omega)
      refine ⟨a :: bs, fun b hb => ?_, (ReprK.tuple t1 t2 t3 hna (by simpa using k2)).level_le (by omega)⟩
      rcases List.mem_cons.mp hb with rfl | hb
      · exact ⟨_, _, _, _, _, full, Nat.le_refl _⟩
      · exact k1.mono (show wDs ds ≤ 10 + wDs ds by omega) b hb
    · cases r
      have hw : 10 + wDs ds ≤ 10000000 := hw
      obtain ⟨its, rv, pl, _⟩ := I.list (.inl (.inl h1))
      obtain ⟨bs, k1, k2⟩ := all h3 (by omega) rv
      have hna := k1.no full (show wDs ds < 10 + wDs ds by omega)
      refine ⟨a :: bs, fun b hb => ?_, (show_list (xs := xs) pl hna k2).level_le (by omega)⟩
      rcases List.mem_cons.mp hb with rfl | hb
      · exact ⟨_, _, _, _, _, full, Nat.le_refl _⟩
      · exact k1.mono (show wDs ds ≤ 10 + wDs ds by omega) b hb
    · cases r
      have hw : 60 + wDs ds ≤ 10000000 := hw
      obtain ⟨its, rv, pl, _⟩ := I.list (.inl (.inl h1))
      obtain ⟨bs, k1, k2⟩ := all h3 (by omega) rv
      have fl : DatAt F C (2 ^ 90) L (n + 1) H (.ref l) (.lst ds) := .llst f h1 h2 h3
      have hnl := k1.no fl (show wDs ds < 10 + wDs ds by omega)
      have kl := show_list (xs := xs) pl hnl k2
      have w1 : Wn H C (10 + wDs ds) (l :: bs) := fun b hb => by
        rcases List.mem_cons.mp hb with rfl | hb
        · exact ⟨_, _, _, _, _, fl, Nat.le_refl _⟩
        · exact k1.mono (show wDs ds ≤ 10 + wDs ds by omega) b hb
      have hna := w1.no full (show 10 + wDs ds < 60 + wDs ds by omega)
      obtain ⟨o, es, ep, d1, d2, d3, hsys, d4⟩ := show_dic I h0 kl
      refine ⟨a :: l :: bs, fun b hb => ?_, ReprK.dict d1 d2 d3 hsys hna d4⟩
      rcases List.mem_cons.mp hb with rfl | hb
      · exact ⟨_, _, _, _, _, full, Nat.le_refl _⟩
      · exact w1.mono (show 10 + wDs ds ≤ 60 + wDs ds by omega) b hb
theorem show_all (I : Inv X pins σ H s) (R : PySem.ExR X.K C nm) (hn : (PySem.exrText nm).length ≤ 200) {n : Nat} : ∀ {xs : List V} {ds : List Dat} {us : List Value}, Paired (DatAt F C (2 ^ 90) L n H) xs ds → wDs ds ≤ 10000000 → Vals xs us → ∃ bs, Wn H C (wDs ds) bs ∧ ReprAllK X.prog X.w bs s.heap (2 * n + 2) us (shs nm ds) := fun {xs ds us} hp => by
  induction hp generalizing us with
  | nil => intro _ r; cases r; exact ⟨[], (fun _ h => nomatch h), .nil⟩
  | @cons a b as bs' h t ih2 =>
    intro hw r
    have hw : wD b + 2 + wDs bs' ≤ 10000000 := hw
    cases r with
    | cons r1 r2 =>
      obtain ⟨b1, k1, k2⟩ := DatAt.showK I R hn h (by omega) r1
      obtain ⟨b2, k3, k4⟩ := ih2 (by omega) r2
      have le : wDs (b :: bs') = wD b + 2 + wDs bs' := rfl
      exact ⟨b1 ++ b2, (k1.mono (by omega)).app (k3.mono (by omega)), .cons (k2.more fun c hc => List.mem_append_left _ hc) (k4.more_le (fun c hc => List.mem_append_right _ hc) (Nat.le_refl _))⟩
end
section
variable {X : Cx}
/-- repr of anything: its text -/
def rReprA (C : Addr) (nm : String) : List V → Hp → VK → Prop := fun vs H Q => ∃ (v : V) (d : Dat) (F : Addr → Prop) (L n : Nat), vs = [v] ∧ DatAt F C (2 ^ 90) L n H v d ∧ n ≤ 20 ∧ wD d ≤ 10000000 ∧ Q (.str (sh nm d)) H
theorem call_reprA {C : Addr} {nm : String} (hg : X.A.guards = some []) (hu : X.A.units + 64 < cLine) (R : PySem.ExR X.K C nm) (hn : (PySem.exrText nm).length ≤ 200) : CallR X (.builtin "repr") (rReprA C nm) := by
  intro pins s σ H xs us Q I r h
  obtain ⟨v, d, F, L, n, rfl, hd, hn20, hw, q⟩ := h
  obtain ⟨u, rfl, ru⟩ := vals1 r
  have hle : (sh nm d).length ≤ sizeLine := by
    have := hd.shlen (nm := nm) hn
    rw [sizeLine_eq]
    omega
  have lf : LfAt C (2 ^ 90) L H v d → wpAny (model X.prog X.w) X.A (call (.builtin "repr") [u]) (EP X pins σ Q) X.xe s := fun h => by
    cases d with
    | non =>
      cases (show v = .non from h)
      cases ru
      exact PySem.P.repr_of_none ⟨.str _, H, I.tok _, ⟨_, rfl⟩, q⟩
    | bl b =>
      cases (show v = .bl b from h)
      cases ru
      exact PySem.P.repr_of_bool ⟨.str _, H, I.tok _, ⟨_, rfl⟩, by cases b <;> exact q⟩
    | int i =>
      cases h.1
      obtain ⟨t, rfl⟩ := ru
      have h2 : i.natAbs ≤ 2 ^ 90 := h.2
      refine PySem.P.repr_of_int ?_ ⟨.str _, H, I.tok _, ⟨_, rfl⟩, q⟩
      by_cases h0 : i.natAbs = 0
      · rw [h0]; decide
      · exact (Nat.log2_lt h0).mpr (Nat.lt_of_le_of_lt h2 (Nat.pow_lt_pow_right (by decide) (by decide)))
    | str z =>
      cases h.1
      obtain ⟨t, rfl⟩ := ru
      exact PySem.P.repr_of_str ⟨.str _, H, I.tok _, ⟨_, rfl⟩, q⟩ hle
    | err =>
      obtain ⟨a, t, rfl, h1, h2⟩ := h
      cases ru
      obtain ⟨⟨oe, vs, e1, e2, e3, e4⟩, _, _⟩ := I.hok a _ h1
      obtain ⟨its, rv, ⟨ot, t1, t2, k, t3⟩, _⟩ := I.tuple (h2.seq (K := X.K))
      cases rv
      have x : PySem.ExcC X.K C a t s.heap := ⟨I.kIn, oe, vs, e1, e2.1, e3, e4⟩
      exact PySem.call_repr_C x R t1 t2 t3 hg (by omega) hle fun h' u tk hk => ⟨.str _, H, I.kept hk, ⟨_, rfl⟩, q⟩
    | _ => exact h.elim
  cases n with
  | zero => exact lf hd
  | succ n =>
    have full := hd
    rcases hd with h | ⟨a, xs, ds, rfl, rfl, h1, h2, h3⟩ | ⟨a, xs, ds, rfl, rfl, f, h1, h2, h3⟩ | ⟨a, l, xs, ds, rfl, rfl, h0, f, h1, h2, h3⟩
    · exact lf h
    · cases ru
      have hw : 10 + wDs ds ≤ 10000000 := hw
      obtain ⟨its, rv, ⟨o, t1, t2, k, t3⟩, _⟩ := I.tuple (h1.seq (K := X.K))
      obtain ⟨bs, k1, k2⟩ := show_all I R hn h3 (by omega) rv
      have hna := k1.no full (show wDs ds < 10 + wDs ds by omega)
      exact call_repr_slot (by omega) ⟨o, t1, t2⟩ PySem.F.slot_tuple_repr (call_tuple_reprK t1 t2 t3 hna (by simpa using k2) hg (fun b _ => Clear.nil b) (by show X.A.units + 1 + (2 * n + 2 + 1) < cLine; omega) (fun _ _ e => e)
        (fun h' u tk hk => ⟨_, _, rfl, .str _, H, I.kept hk, ⟨_, rfl⟩, q⟩) hle)
    · cases ru
      have hw : 10 + wDs ds ≤ 10000000 := hw
      obtain ⟨its, rv, ⟨o, k, t1, t2, _, t3⟩, _⟩ := I.list (.inl (.inl h1))
      obtain ⟨bs, k1, k2⟩ := show_all I R hn h3 (by omega) rv
      have hna := k1.no full (show wDs ds < 10 + wDs ds by omega)
      refine call_repr_slot (by omega) ⟨o, t1, t2⟩ PySem.F.slot_list_repr.toG ?_
      cases its with
      | nil =>
        have e : shs nm ds = [] := List.length_eq_zero_iff.mp k2.length_eq
        have e2 : sh nm (.lst ds) = listText [] := by
          show listText (shs nm ds) = _
          rw [e]
        rw [e2, listText_nil] at q
        exact call_list_repr_empty ⟨o, t1, t2⟩ t1 t3 ⟨_, _, rfl, .str _, H, I.tok _, ⟨_, rfl⟩, q⟩
      | cons x its =>
        exact call_list_reprK t1 t2 t3 hna (by simpa using k2.length_eq) (fun i y e => k2.item i y (by simpa using e)) hg (fun b _ => Clear.nil b) (by show X.A.units + 1 + (2 * n + 2 + 1) < cLine; omega) (fun _ _ e => e)
          (fun h' u tk hk => ⟨_, _, rfl, .str _, H, I.kept hk, ⟨_, rfl⟩, q⟩) hle
    · cases ru
      have hw : 60 + wDs ds ≤ 10000000 := hw
      obtain ⟨its, rv, pl, _⟩ := I.list (.inl (.inl h1))
      obtain ⟨bs, k1, k2⟩ := show_all I R hn h3 (by omega) rv
      have fl : DatAt F C (2 ^ 90) L (n + 1) H (.ref l) (.lst ds) := .llst f h1 h2 h3
      have hnl := k1.no fl (show wDs ds < 10 + wDs ds by omega)
      have kl := show_list (xs := xs) pl hnl k2
      have w1 : Wn H C (10 + wDs ds) (l :: bs) := fun b hb => by
        rcases List.mem_cons.mp hb with rfl | hb
        · exact ⟨_, _, _, _, _, fl, Nat.le_refl _⟩
        · exact k1.mono (show wDs ds ≤ 10 + wDs ds by omega) b hb
      have hna := w1.no full (show 10 + wDs ds < 60 + wDs ds by omega)
      obtain ⟨o, es, ep, d1, d2, d3, hsys, d4⟩ := show_dic I h0 kl
      exact call_repr_slot (by omega) ⟨o, d1, d2⟩ PySem.F.slot_dict_repr (call_dict_reprK d1 d2 d3 hsys hna d4 hg (fun b _ => Clear.nil b) (by show X.A.units + 1 + (2 * n + 2 + 1 + 1) < cLine; omega) (fun _ _ e => e)
        (fun h' u tk hk => ⟨_, _, rfl, .str _, H, I.kept hk, ⟨_, rfl⟩, q⟩) hle)
end
end Kb

namespace PySem
open Sem (wp)
open Builtin Builtin.Str Builtin.BaseException Builtin.Exceptions
open PySem.W (Looks Frag findIn subIn clsIn looks_findIn looks_subIn looks_clsIn)
/-- what an own class of errors must say, so that == asks its instances nothing -/
structure ExQ (K : Frag) (C : Addr) : Prop where
  hq : findIn K (.ref C) "__eq__" = some (some (.builtin "object.__eq__"))
  ho : subIn K (.ref C) (.type "object") = some true
section
variable {prog : Program} {w : World} {M : Model} {A : Around} {E : Value → Shared → Prop} {s : Shared} {K : Frag} {C e t0 : Addr} {n : String}
theorem ifBoundA_C {name : Str} {i : String} {args : List Value} {Q : Option Value → Shared → Prop} (x : ExcC K C e t0 s.heap) (hf : findIn K (.ref C) name = some (some (.builtin i))) (hb : bindSpecial (.builtin i) (.ref e) = pure (.builtin i, [.ref e]))
    (hc : wpAny M A (call (.builtin i) ([.ref e] ++ args)) (fun v => Q (some v)) E s) : wpAny M A (callSpecialIfBound? (.ref e) name args) Q E s := by
  simp only [callSpecialIfBound?, bindSpecialIfBound?]
  refine wpAny_holding (wpAny_bind (wpAny_bind (specialOf_C x hf ?_)))
  simp only [hb]
  refine wpAny_bind (wpAny_askSetting (wpAny_ite ?_))
  have last : wpAny M A (call (.builtin i) ([.ref e] ++ args) >>= fun v => pure (some v)) Q E s :=
    wpAny_bind (wpAny_mono hc (fun v s' h' => wpAny_pure h') fun _ _ h' => h')
  split
  · exact wpAny_bind (wpAny_pure (wpAny_pure last))
  · exact wpAny_tryCatch (wpAny_bind (wpAny_pure (wpAny_pure last)))
theorem objEq_entry_str {z : Str} {t : Tok} {Q : Fin → Shared → Prop} (hq : Q (.done (.ret .notImplemented)) s) : wpAny M A (Builtin.«object.__eq__» ⟨[.ref e, .str z t], []⟩) Q E s := by
  unfold Builtin.«object.__eq__»
  repeat (first | with_reducible refine wpAny_of_eq (rfl : isSame (.ref e) (.str z t) = pure false) ?_ | wp_step)
  exact hq
theorem try_exc_str (x : ExcC K C e t0 s.heap) (q : ExQ K C) {z : Str} {t : Tok} {Q : Option Value → Shared → Prop} (h : Q none s) : wpAny (model prog w) A (tryCompare (.ref e) "__eq__" (.str z t)) Q E s := by
  simp only [tryCompare]
  refine wpAny_bind (ifBoundA_C x q.hq (F.cmp_object.eq.bind _) ?_)
  refine wpAny_call (codeAny_call_builtin F.cmp_object.eq.plain F.cmpEntry_eq (@PySem.W.check_slot (model prog w) _ _ s "object.__eq__" "object" "__eq__" (.ref e) [.str z t] [] _ F.cmpKind_eq F.cmpSplit_eq (x.LT.andThen (looks_subIn x.1 q.ho)) (F.cmpArgs_eq _ _) ?_))
  exact objEq_entry_str (wpAny_pure h)
end
namespace SeqAt
open Builtin
open AutoSeq1 (wpAny_loadPart')
theorem str_no_exc (l : Addr) (o : Obj) (i : Str) (u : Tok) (C : Addr) (hc : o.cls = .ref C) (vs : Array Value) (hd : o.data = .fields vs) :
    Meets (Builtin.«str.__eq__» ⟨[.str i u, .ref l], []⟩) (fun _ R s => s.heap.get? l = some o ∧ R (.ok (.ret .notImplemented)) s) := by
  refine .of_wp fun prog w A R s h => ?_
  obtain ⟨hp, g, d, tk, os⟩ := s
  obtain ⟨hl, h⟩ := h
  obtain ⟨oc, od, oda, osl⟩ := o
  simp only at hc hd
  subst hc hd
  wp_walk using wpAny_loadPart' hl, wpAny_load hl
  exact ⟨_, rfl, h⟩
section
variable {A : Around} {s : Shared} {K : Frag} {C e t0 : Addr}
theorem RcAt.exc_str (x : ExcC K C e t0 s.heap) (q : ExQ K C) (z : Str) (t : Tok) (hu : A.units < cLine) : RcAt A s (.ref e) (.str z t) false := fun prog w E Q h => by
  obtain ⟨o, vs, ho, hc, hd, _⟩ := x.2
  have sub : isSubtype (.type "str") (.ref C) = pure false := by
    rw [isSubtype_type]
    rfl
  simp only [richCompare, cmpInfo_Eq, oneThing_ref]
  refine wpAny_holding ?_
  refine wpAny_bind (wpAny_cRoomFor hu ?_)
  refine wpAny_bind (x.LT.here (wpAny_bind (wpAny_typeOf (typeIs_str s z t) ?_)))
  rw [if_pos (show (Value.ref C != Value.type "str") = true from rfl)]
  refine wpAny_bind (wpAny_of_eq sub ?_)
  simp only [Bool.false_eq_true, if_false, Bool.not_false, if_true]
  refine wpAny_bind (try_exc_str x q ?_)
  refine wpAny_bind (m := tryCompare (.str z t) _ (.ref e)) (wpAny_tryCompare_declines (typeIs_str s z t) F.slot_str_eq_refl (call_meets F.slot_str_eq_refl (typeIs_str s z t) F.entry_str_eq (F.args_str_eq_2 _ _) (str_no_exc e o z t C hc vs hd) ⟨ho, ⟨rfl, ?_⟩⟩))
  exact wpAny_bind (wpAny_rule (wpAny_bind (wpAny_of_eq (rfl : isSame (.ref e) (.str z t) = pure false) (wpAny_pure h))))
end
end SeqAt
end PySem

namespace L2
open PySem PySem.Spec PyProof.Rows Builtin
variable {X : Cx}
/-! anything, an own error too, against a text -/
def EqSE (K : PySem.W.Frag) (H : Hp) (x : V) (z : Str) (c : Bool) : Prop := EqS K H x z c ∨ (c = false ∧ ∃ a t0 C, x = .ref a ∧ H a = some (ExN C a t0) ∧ PySem.ExQ K C)
theorem op_eqSE {K : PySem.W.Frag} (hK : X.K = K) (hu : X.A.units + 64 < cLine) : OpR X (compareOp .Eq) (fun x y H Q => ∃ z c, y = .str z ∧ EqSE K H x z c ∧ Q (.bl c) H) := by
  subst hK
  intro pins s σ H x y v u Q I rx ry h
  obtain ⟨z, c, rfl, e | ⟨rfl, a, t0, C, rfl, ha, hq⟩, q⟩ := h
  · obtain ⟨t, rfl⟩ := ry
    exact EqS.rc I (by omega) e rx _ _ _ _ ⟨.bl c, H, I, rfl, q⟩
  · obtain ⟨t, rfl⟩ := ry
    cases (show v = Value.ref a from rx)
    obtain ⟨⟨oe, vs, e1, e2, e3, e4⟩, _, _⟩ := I.hok a _ ha
    have x : PySem.ExcC X.K C a t0 s.heap := ⟨I.kIn, oe, vs, e1, e2.1, e3, e4⟩
    exact SeqAt.RcAt.exc_str x hq z t (by omega) _ _ _ _ ⟨.bl false, H, I, rfl, q⟩
end L2

namespace Kb
open PySem PySem.Spec PyProof.Rows L2 SrtZ SrtO
/-- what its kinds say of an own class of errors -/
structure XcT (K : PySem.W.Frag) (C : Addr) : Prop where
  isC : L2.ExcC K C
  kI : PySem.W.kitOne K (.ref C) (.type "int") = some false
  kB : PySem.W.kitOne K (.ref C) (.type "bool") = some false
  kS : PySem.W.kitOne K (.ref C) (.type "str") = some false
  kT : PySem.W.kitOne K (.ref C) (.type "tuple") = some false
  eqQ : PySem.ExQ K C
/-- a value's type, errors too -/
def TyE (K : PySem.W.Frag) (H : Hp) (v : V) (t : Value) : Prop := TyX K H v t ∨ ∃ a t0 C, v = .ref a ∧ t = .ref C ∧ H a = some (ExN C a t0) ∧ L2.ExcC K C
def rIsE' (K : PySem.W.Frag) : List V → Hp → VK → Prop := fun xs H Q => ∃ (x c : V) (t u : Value) (b : Bool), xs = [x, c] ∧ ClsV c u ∧ TyE K H x t ∧ PySem.W.kitOne K t u = some b ∧ Q (.bl b) H
theorem call_isD {X : Cx} {K : PySem.W.Frag} (hK : X.K = K) : CallR X (.builtin "isinstance") (rIsE' K) := by
  subst hK
  intro pins s σ H xs us Q I r h
  obtain ⟨x, c, t, u, b, rfl, k, ty | ⟨a, t0, C, rfl, rfl, ha, hC⟩, e, q⟩ := h
  · exact call_isi pins s σ H _ us Q I r ⟨x, c, t, u, b, rfl, k, ty, e, q⟩
  · obtain ⟨u1, u2, rfl, r1, r2⟩ := vals2 r
    have e2 := k.eq r2
    subst e2
    cases r1
    obtain ⟨⟨oe, vs, ho, hz, hd, _⟩, _, _⟩ := I.hok a _ ha
    have J : PySem.W.InstAt s.heap a oe C none := by
      obtain ⟨oc, od, oda, osl⟩ := oe
      obtain ⟨h1, h2⟩ := hz
      dsimp only at h1 h2 hd
      subst h1 h2 hd
      exact ⟨ho, rfl, rfl, trivial⟩
    exact PySem.W.kia_one (PySem.W.handS_kitx_exc hC.hg hC.hk hC.hs hC.hd hC.ha hC.hn hC.ht hC.hm) I.kIn J e (fun z => nomatch z) fun tk => ⟨.bl b, H, I.kept (t' := tk) fun _ _ z => z, rfl, q⟩
def isI : Dat → Bool
  | .int _ => true
  | .bl _ => true
  | _ => false
def isBd : Dat → Bool
  | .bl _ => true
  | _ => false
def isS : Dat → Bool
  | .str _ => true
  | _ => false
def isT : Dat → Bool
  | .tup _ => true
  | _ => false
theorem DatAt.cases {F : Addr → Prop} {C : Addr} {B L n : Nat} {H : Hp} {v : V} {d : Dat} (h : DatAt F C B L n H v d) : LfAt C B L H v d ∨ (∃ m a xs ds, n = m + 1 ∧ v = .ref a ∧ d = .tup ds ∧ Ptp H a xs ∧ xs.length ≤ L ∧ Paired (DatAt F C B L m H) xs ds) ∨ (∃ m a xs ds, n = m + 1 ∧ v = .ref a ∧ d = .lst ds ∧ ¬ F a ∧ H a = some (.lst xs) ∧ xs.length ≤ L ∧ Paired (DatAt F C B L m H) xs ds) ∨
    (∃ m a l xs ds, n = m + 1 ∧ v = .ref a ∧ d = .dic ds ∧ H a = some (.dK [(.inr (Str.ofString "a"), .ref l), (.inl 1, .non)]) ∧ ¬ F l ∧ H l = some (.lst xs) ∧ xs.length ≤ L ∧ Paired (DatAt F C B L m H) xs ds) := by
  cases n with
  | zero => exact .inl h
  | succ n =>
    rcases h with h | ⟨a, xs, ds, e1, e2, h1, h2, h3⟩ | ⟨a, xs, ds, e1, e2, f, h1, h2, h3⟩ | ⟨a, l, xs, ds, e1, e2, h0, f, h1, h2, h3⟩
    · exact .inl h
    · exact .inr (.inl ⟨n, a, xs, ds, rfl, e1, e2, h1, h2, h3⟩)
    · exact .inr (.inr (.inl ⟨n, a, xs, ds, rfl, e1, e2, f, h1, h2, h3⟩))
    · exact .inr (.inr (.inr ⟨n, a, l, xs, ds, rfl, e1, e2, h0, f, h1, h2, h3⟩))
/-- the kinds of anything -/
theorem DatAt.ty {K : PySem.W.Frag} {F : Addr → Prop} {C : Addr} {B L n : Nat} {H : Hp} {v : V} {d : Dat} (c : XcT K C) (h : DatAt F C B L n H v d) : ∃ t, TyE K H v t ∧ PySem.W.kitOne K t (.type "int") = some (isI d) ∧ PySem.W.kitOne K t (.type "bool") = some (isBd d) ∧ PySem.W.kitOne K t (.type "str") = some (isS d) ∧ PySem.W.kitOne K t (.type "tuple") = some (isT d) := by
  rcases h.cases with h | ⟨m, a, xs, ds, rfl, rfl, rfl, h1, h2, h3⟩ | ⟨m, a, xs, ds, rfl, rfl, rfl, f, h1, h2, h3⟩ | ⟨m, a, l, xs, ds, rfl, rfl, rfl, h0, f, h1, h2, h3⟩
  · cases d with
    | non =>
      cases (show v = .non from h)
      exact ⟨.type "NoneType", .inl (.base .non), kit_ty (show kitB "NoneType" "int" = some false by decide +kernel), kit_ty (show kitB "NoneType" "bool" = some false by decide +kernel), kit_ty (show kitB "NoneType" "str" = some false by decide +kernel), kit_ty (show kitB "NoneType" "tuple" = some false by decide +kernel)⟩
    | bl b =>
      cases (show v = .bl b from h)
      exact ⟨.type "bool", .inl (.base (.bl b)), kit_ty (show kitB "bool" "int" = some true by decide +kernel), kit_ty (show kitB "bool" "bool" = some true by decide +kernel), kit_ty (show kitB "bool" "str" = some false by decide +kernel), kit_ty (show kitB "bool" "tuple" = some false by decide +kernel)⟩
    | int i =>
      cases h.1
      exact ⟨.type "int", .inl (.base (.int i)), kit_ty (show kitB "int" "int" = some true by decide +kernel), kit_ty (show kitB "int" "bool" = some false by decide +kernel), kit_ty (show kitB "int" "str" = some false by decide +kernel), kit_ty (show kitB "int" "tuple" = some false by decide +kernel)⟩
    | str z =>
      cases h.1
      exact ⟨.type "str", .inl (.base (.str z)), kit_ty (show kitB "str" "int" = some false by decide +kernel), kit_ty (show kitB "str" "bool" = some false by decide +kernel), kit_ty (show kitB "str" "str" = some true by decide +kernel), kit_ty (show kitB "str" "tuple" = some false by decide +kernel)⟩
    | err =>
      obtain ⟨a, t0, rfl, h1, h2⟩ := h
      exact ⟨.ref C, .inr ⟨a, t0, C, rfl, rfl, h1, c.isC⟩, c.kI, c.kB, c.kS, c.kT⟩
    | tup _ => exact h.elim
    | lst _ => exact h.elim
    | dic _ => exact h.elim
  · exact ⟨.type "tuple", .inl (tyT (K := K) h1.seq), kit_ty (show kitB "tuple" "int" = some false by decide +kernel), kit_ty (show kitB "tuple" "bool" = some false by decide +kernel), kit_ty (show kitB "tuple" "str" = some false by decide +kernel), kit_ty (show kitB "tuple" "tuple" = some true by decide +kernel)⟩
  · exact ⟨.type "list", .inl (.base (.lst h1)), kit_ty (show kitB "list" "int" = some false by decide +kernel), kit_ty (show kitB "list" "bool" = some false by decide +kernel), kit_ty (show kitB "list" "str" = some false by decide +kernel), kit_ty (show kitB "list" "tuple" = some false by decide +kernel)⟩
  · exact ⟨.type "dict", .inl (.base (.dK h0)), kit_ty (show kitB "dict" "int" = some false by decide +kernel), kit_ty (show kitB "dict" "bool" = some false by decide +kernel), kit_ty (show kitB "dict" "str" = some false by decide +kernel), kit_ty (show kitB "dict" "tuple" = some false by decide +kernel)⟩
theorem DatAt.int {F : Addr → Prop} {C : Addr} {B L n : Nat} {H : Hp} {v : V} {i : Int} (h : DatAt F C B L n H v (.int i)) : v = .int i ∧ i.natAbs ≤ B := by
  rcases h.cases with h | ⟨m, a, xs, ds, rfl, rfl, e, _⟩ | ⟨m, a, xs, ds, rfl, rfl, e, _⟩ | ⟨m, a, l, xs, ds, rfl, rfl, e, _⟩
  · exact h
  all_goals cases e
theorem DatAt.str {F : Addr → Prop} {C : Addr} {B L n : Nat} {H : Hp} {v : V} {z : Str} (h : DatAt F C B L n H v (.str z)) : v = .str z ∧ z.length ≤ L ∧ ascB z = true := by
  rcases h.cases with h | ⟨m, a, xs, ds, rfl, rfl, e, _⟩ | ⟨m, a, xs, ds, rfl, rfl, e, _⟩ | ⟨m, a, l, xs, ds, rfl, rfl, e, _⟩
  · exact h
  all_goals cases e
theorem DatAt.tup {F : Addr → Prop} {C : Addr} {B L n : Nat} {H : Hp} {v : V} {ds : List Dat} (h : DatAt F C B L n H v (.tup ds)) : ∃ m a xs, n = m + 1 ∧ v = .ref a ∧ Ptp H a xs ∧ xs.length ≤ L ∧ Paired (DatAt F C B L m H) xs ds := by
  rcases h.cases with h | ⟨m, a, xs, ds, rfl, rfl, e, h1, h2, h3⟩ | ⟨m, a, xs, ds, rfl, rfl, e, _⟩ | ⟨m, a, l, xs, ds, rfl, rfl, e, _⟩
  · exact h.elim
  · cases e
    exact ⟨m, a, xs, rfl, rfl, h1, h2, h3⟩
  all_goals cases e
/-- all but the well stays, and the well is forbidden -/
theorem dk_exw {F : Addr → Prop} {C a c : Addr} {H H' : Hp} (x : Exw a H H') (w : Wl a c H) (f : F a) : DKeep F C H H' :=
  ⟨fun b xs ⟨o, e, d⟩ => ⟨o, x.at w e (by intro _ z; cases z), d⟩, fun b xs n h => x b _ (fun z => n (by rw [z]; exact f)) h, fun b k h => x.at w h (by intro _ z; cases z), fun b t h => x.at w h (by intro _ z; cases z)⟩
/-- what was there is there -/
theorem Exw.dom {a c : Addr} {H H' : Hp} (x : Exw a H H') (w' : Wl a c H') : ∀ b, H b ≠ none → H' b ≠ none := fun b hb => by
  by_cases e : b = a
  · subst e
    obtain ⟨_, ns, t, u, z, e1, _⟩ := w'
    rw [e1]
    intro z
    cases z
  · cases h : H b with
    | none => exact absurd h hb
    | some o => rw [x b o e h]; intro z; cases z
theorem Wl.dom {a c : Addr} {H : Hp} (w : Wl a c H) : H a ≠ none := by
  obtain ⟨_, ns, t, u, z, e1, _⟩ := w
  rw [e1]
  intro z
  cases z
theorem Same.dom {H H' : Hp} (s : Same H H') : ∀ b, H b ≠ none → H' b ≠ none := fun b hb => by
  cases h : H b with
  | none => exact absurd h hb
  | some o => rw [s b o h]; intro z; cases z
/-- anything, as the judges meet it -/
def DtAt (K : PySem.W.Frag) (H : Hp) (v : V) (d : Dat) : Prop := ∃ (F : Addr → Prop) (C : Addr) (n : Nat), XcT K C ∧ DatAt F C (2 ^ 90) 60000 n H v d
theorem DtAt.same {K : PySem.W.Frag} {H H' : Hp} {v : V} {d : Dat} (h : DtAt K H v d) (s : Same H H') : DtAt K H' v d := let ⟨F, C, n, c, h⟩ := h; ⟨F, C, n, c, h.same s⟩
theorem DtAt.ty {K : PySem.W.Frag} {H : Hp} {v : V} {d : Dat} (h : DtAt K H v d) : ∃ t, TyE K H v t ∧ PySem.W.kitOne K t (.type "int") = some (isI d) ∧ PySem.W.kitOne K t (.type "bool") = some (isBd d) ∧ PySem.W.kitOne K t (.type "str") = some (isS d) ∧ PySem.W.kitOne K t (.type "tuple") = some (isT d) := let ⟨_, _, _, c, h⟩ := h; h.ty c
theorem DtAt.tup {K : PySem.W.Frag} {H : Hp} {v : V} {ds : List Dat} (h : DtAt K H v (.tup ds)) : ∃ a xs, v = .ref a ∧ Ptp H a xs ∧ xs.length ≤ 60000 ∧ Paired (DtAt K H) xs ds := by
  obtain ⟨F, C, n, c, h⟩ := h
  obtain ⟨m, a, xs, rfl, rfl, h1, h2, h3⟩ := h.tup
  exact ⟨a, xs, rfl, h1, h2, paired_imp (fun _ _ h => ⟨F, C, m, c, h⟩) h3⟩
theorem DtAt.int {K : PySem.W.Frag} {H : Hp} {v : V} {i : Int} (h : DtAt K H v (.int i)) : v = .int i ∧ i.natAbs ≤ 2 ^ 90 := by
  obtain ⟨F, C, n, c, h⟩ := h
  exact h.int
theorem DtAt.str {K : PySem.W.Frag} {H : Hp} {v : V} {z : Str} (h : DtAt K H v (.str z)) : v = .str z ∧ z.length ≤ 60000 := by
  obtain ⟨F, C, n, c, h⟩ := h
  exact ⟨h.str.1, h.str.2.1⟩
/-! the judges -/
def intD : Dat → Option Int
  | .int i => some i
  | _ => none
def geI (d : Dat) : Int := (intD d).getD 0
def isRB : Option Int → Bool
  | some i => decide (1 ≤ i) && decide (i ≤ 64)
  | none => false
def isNB : Option Int → Bool
  | some i => decide (0 ≤ i)
  | none => false
def isPB : Option Int → Bool
  | some i => decide (1 ≤ i)
  | none => false
def nmB (z : Str) : Bool := decide (1 ≤ z.length) && (decide (z.length ≤ 8) && (cs z).all nmC)
theorem nmB_nm {z : Str} : nmB z = true ↔ Nm z := by
  unfold nmB
  rw [Bool.and_eq_true, Bool.and_eq_true, decide_eq_true_eq, decide_eq_true_eq, List.all_eq_true]
  exact ⟨fun ⟨a, b, c⟩ => ⟨a, b, c⟩, fun ⟨a, b, c⟩ => ⟨a, b, c⟩⟩
def nameD : Dat → Bool
  | .str z => nmB z
  | _ => false
def cntB : Dat → Bool
  | .tup [d1, d2] => nameD d1 && isPB (intD d2)
  | _ => false
def nmOf : Dat → Str
  | .tup (.str z :: _) => z
  | _ => Str.ofString ""
def ctsB : Str → List Dat → Bool
  | _, [] => true
  | la, d :: ds => cntB d && (ltZ la (nmOf d) && ctsB (nmOf d) ds)
def ctD : Dat → Bool
  | .tup ks => ctsB (Str.ofString "") ks
  | _ => false
def lenD : Dat → Nat
  | .tup ks => ks.length
  | _ => 0
def kvO : Dat → Str × Int
  | .tup [.str z, .int i] => (z, i)
  | _ => (Str.ofString "", 0)
def kvD : Dat → Ct
  | .tup ks => ks.map kvO
  | _ => []
theorem cntB_is {d : Dat} (h : cntB d = true) : ∃ z i, d = .tup [.str z, .int i] ∧ Nm z ∧ 1 ≤ i := by
  match d, h with
  | .tup [d1, d2], h =>
    have h : (nameD d1 && isPB (intD d2)) = true := h
    rw [Bool.and_eq_true] at h
    obtain ⟨h1, h2⟩ := h
    cases d1 with
    | str z =>
      cases d2 with
      | int i => exact ⟨z, i, rfl, nmB_nm.mp h1, of_decide_eq_true h2⟩
      | _ => cases h2
    | _ => cases h1
theorem ctsB_cts : ∀ {ks : List Dat} {la : Str}, ctsB la ks = true → Cts (ks.map kvO) ∧ (∀ e ∈ ks.map kvO, ltZ la e.1 = true) ∧ ∀ d ∈ ks, cntB d = true
  | [], _, _ => ⟨⟨fun _ h => (nomatch h), fun _ h => (nomatch h), .nil⟩, fun _ h => (nomatch h), fun _ h => (nomatch h)⟩
  | d :: ds, la, h => by
    have h : (cntB d && (ltZ la (nmOf d) && ctsB (nmOf d) ds)) = true := h
    rw [Bool.and_eq_true, Bool.and_eq_true] at h
    obtain ⟨h1, h2, h3⟩ := h
    obtain ⟨c, l, al⟩ := ctsB_cts h3
    obtain ⟨z, i, rfl, hz, hi⟩ := cntB_is h1
    have h2 : ltZ la z = true := h2
    have l : ∀ e ∈ ds.map kvO, ltZ z e.1 = true := l
    refine ⟨⟨fun e he => ?_, fun e he => ?_, List.Pairwise.cons (fun e he => l e he) c.asc⟩, fun e he => ?_, fun d hd => ?_⟩
    · rcases List.mem_cons.mp he with rfl | he
      · exact hz
      · exact c.nm e he
    · rcases List.mem_cons.mp he with rfl | he
      · exact hi
      · exact c.pos e he
    · rcases List.mem_cons.mp he with rfl | he
      · exact h2
      · exact ltZ_trans h2 (l e he)
    · rcases List.mem_cons.mp hd with rfl | hd
      · exact h1
      · exact al d hd
/-- counts that are right, where they stand -/
theorem pr_of {K : PySem.W.Frag} {H : Hp} {v : V} {d : Dat} (h : DtAt K H v d) (c : cntB d = true) : ∃ t, v = .ref t ∧ PrAt K H t (kvO d) := by
  obtain ⟨z, i, rfl, hz, hi⟩ := cntB_is c
  obtain ⟨a, xs, rfl, h1, h2, h3⟩ := h.tup
  refine ⟨a, rfl, ?_⟩
  cases h3 with
  | cons e1 h3 =>
    cases h3 with
    | cons e2 h3 =>
      cases h3
      obtain ⟨rfl, _⟩ := e1.str
      obtain ⟨rfl, _⟩ := e2.int
      exact h1.seq
theorem prs_of {K : PySem.W.Frag} {H : Hp} : ∀ {xs : List V} {ks : List Dat}, Paired (DtAt K H) xs ks → (∀ d ∈ ks, cntB d = true) → ∃ ts : List Addr, xs = ts.map V.ref ∧ Paired (PrAt K H) ts (ks.map kvO)
  | _, _, .nil, _ => ⟨[], rfl, .nil⟩
  | _, _, .cons h t, c => by
    obtain ⟨a, rfl, ha⟩ := pr_of h (c _ List.mem_cons_self)
    obtain ⟨ts, rfl, hts⟩ := prs_of t fun d hd => c d (List.mem_cons_of_mem _ hd)
    exact ⟨a :: ts, rfl, .cons ha hts⟩
end Kb

namespace Kb
open PySem PySem.Spec PyProof.Rows L2 SrtZ SrtO
section
variable {P : Program} {w : World} {K : PySem.W.Frag} {mg : Str → Option Value} {base : Heap}
/-! is_int .. is_room, of anything -/
def spIsIntD (K : PySem.W.Frag) : Sp := fun vs H Q _ => ∃ (v : V) (d : Dat), vs = [v] ∧ DtAt K H v d ∧ Q (.bl (intD d).isSome) H
theorem ok_is_intD (T : Blt mg) (d : DnIsInt K mg) : FnOk P w K mg base CX0 1 d.f d.fd ["thing"] (spIsIntD K) := by
  refine d.F.ok scP_is_int (fun vs H Q E h => ?_) (fun cdv A outer s H vs Q E hr h => ?_)
  · obtain ⟨v, n, rfl, _⟩ := h
    rfl
  · obtain ⟨v, x, rfl, hx, q⟩ := h
    refine ⟨_, (pss_one (ps_ret (pe_and (pe_callB (call_isD (K := K) rfl) (by rfl) T.n_isinstance (by decide +kernel) (pa_cons (pv 0) (pa_cons (pe_bltn (v := .ty "int") (by rfl) T.n_int (by decide +kernel) rfl) pa_nil))) (pe_one (pe_not (pe_callB (call_isD (K := K) rfl) (by rfl) T.n_isinstance (by decide +kernel) (pa_cons (pv 0) (pa_cons (pe_bltn (v := .ty "bool") (by rfl) T.n_bool (by decide +kernel) rfl) pa_nil)))))))), ?_⟩
    obtain ⟨t, ty, kI, kB, kS, kT⟩ := hx.ty
    refine ⟨v, rfl, v, _, t, _, isI x, rfl, .ty "int", ty, kI, isI x, rfl, ?_⟩
    cases x with
    | int i => exact iteT ⟨_, rfl, _, _, t, _, false, rfl, .ty "bool", ty, kB, false, rfl, q⟩
    | bl b => exact iteT ⟨_, rfl, _, _, t, _, true, rfl, .ty "bool", ty, kB, true, rfl, q⟩
    | _ => exact iteF q
def spIsNumberD (K : PySem.W.Frag) : Sp := fun vs H Q _ => ∃ (v : V) (d : Dat), vs = [v] ∧ DtAt K H v d ∧ Q (.bl (isNB (intD d))) H
def spIsRoomD (K : PySem.W.Frag) : Sp := fun vs H Q _ => ∃ (v : V) (d : Dat), vs = [v] ∧ DtAt K H v d ∧ Q (.bl (isRB (intD d))) H
theorem ok_is_roomD (T : Blt mg) (cM : Cst mg "MOST_ROOM" (.int 64)) (dP_is_int : DnIsInt K mg) (d : DnIsRoom K mg) : FnOk P w K mg base CX0 2 d.f d.fd ["thing"] (spIsRoomD K) := by
  have GP_is_int : FnOk P w K mg base CX0 1 dP_is_int.f dP_is_int.fd ["thing"] (spIsIntD K) := ok_is_intD T dP_is_int
  refine d.F.ok scP_is_room (fun vs H Q E h => ?_) (fun cdv A outer s H vs Q E hr h => ?_)
  · obtain ⟨v, n, rfl, _⟩ := h
    rfl
  · obtain ⟨v, x, rfl, hx, q⟩ := h
    refine ⟨_, (pss_one (ps_ret (pe_and (pe_call GP_is_int (hr.mono (by omega)) (by rfl) dP_is_int.g dP_is_int.F.kp dP_is_int.b .nil pass0 (pa_cons (pv 0) pa_nil)) (pe_one (pe_chain op_le op_le pe_int (pv 0) (pe_glob rfl cM.g cM.r)))))), ?_⟩
    refine ⟨v, rfl, v, x, rfl, hx, (intD x).isSome, rfl, ?_⟩
    cases x with
    | int i =>
      obtain ⟨rfl, _⟩ := hx.int
      have q : Q (.bl (decide (1 ≤ i) && decide (i ≤ 64))) H := q
      refine iteT ⟨.int i, rfl, _, _, rfl, rfl, decide (1 ≤ i), rfl, ite2 (fun e => ⟨_, _, rfl, rfl, ?_⟩) (fun e => ?_)⟩
      · rw [e, Bool.true_and] at q
        exact q
      · rw [show decide (1 ≤ i) = false from by simpa using e, Bool.false_and] at q
        exact q
    | _ => exact iteF q
/-! is_name, of anything -/
def spIsNameD (K : PySem.W.Frag) : Sp := fun vs H Q _ => ∃ (v : V) (d : Dat), vs = [v] ∧ DtAt K H v d ∧ ∀ H', Same H H' → Q (.bl (nameD d)) H'
theorem ok_is_nameD (T : Blt mg) (cL : Cst mg "LONGEST_NAME" (.int 8)) (d : DnIsName K mg) : FnOk P w K mg base CX0 1 d.f d.fd ["thing"] (spIsNameD K) := by
  refine d.F.ok scP_is_name (fun vs H Q E h => ?_) (fun cdv A outer s H vs Q E hr h => ?_)
  · obtain ⟨v, n, rfl, _⟩ := h
    rfl
  · obtain ⟨v, x, rfl, hx, q⟩ := h
    refine ⟨_, (pss_cons (ps_if (PW.pt (pw_or (pt_not (pt_val (pe_callB (call_isD (K := K) rfl) (by rfl) T.n_isinstance (by decide +kernel) (pa_cons (pv 0) (pa_cons (pe_bltn (v := .ty "str") (by rfl) T.n_str (by decide +kernel) rfl) pa_nil))))) (pw_or1 (pt_not (pt_chain op_le op_le pe_int (pe_callB call_len_str (by rfl) T.n_len (by decide +kernel) (pa_cons (pv 0) pa_nil)) (pe_glob rfl cL.g cL.r))))))
      (pss_one (ps_ret pe_bl))
      pss_nil)
    (pss_one (ps_ret (pe_callB (cr_all rfl) (by rfl) T.n_all (by decide +kernel) (pa_cons (pe_lc (own := [("letter", 1)]) (g := gName 1) (tt := tYes) rfl scP_is_name.nd (pi_str (pv 0)) (blkOk_by (N := NP_is_name) (sc := defScope sP_is_name) (by decide +kernel)) (fun _ _ _ _ _ => pg_name (i := 1) scP_is_name.nd rfl (Or.inl rfl)) (fun _ _ _ _ _ => pts_nil) (fun _ _ _ _ _ => (pe_chain op_le_str op_le_str pe_str (pv 1) pe_str))) pa_nil))))), ?_⟩
    obtain ⟨t, ty, kI, kB, kS, kT⟩ := hx.ty
    refine ⟨v, rfl, v, _, t, _, isS x, rfl, .ty "str", ty, kS, isS x, rfl, ?_⟩
    cases x with
    | str z =>
      obtain ⟨rfl, hz⟩ := hx.str
      have q : ∀ H', Same H H' → Q (.bl (decide (1 ≤ z.length) && (decide (z.length ≤ 8) && (cs z).all nmC))) H' := q
      refine iteF ⟨.str z, rfl, z, rfl, (by rw [sizeLine_eq]; omega), _, _, rfl, rfl, ?_⟩
      by_cases h1 : 1 ≤ z.length
      · rw [decide_eq_true h1, Bool.true_and] at q
        refine ⟨true, congrArg V.bl (decide_eq_true (by omega)), iteT ⟨_, _, rfl, rfl, ?_⟩⟩
        by_cases h8 : z.length ≤ 8
        · rw [decide_eq_true h8, Bool.true_and] at q
          refine ⟨true, congrArg V.bl (decide_eq_true (by omega)), iteF ⟨.str z, rfl, z, rfl, fun D nD => ?_⟩⟩
          refine lc_it walk_str (fun i H3 => Same H H3 ∧ H3 D = some (.lst (((cs z).take i).map fun c => V.bl (nmC c)))) ⟨same_upd nD, upd_same⟩ (fun _ _ _ _ => trivial) (fun i x H3 H4 hi h3 y => ?_) (fun H3 h3 => ?_)
          · obtain ⟨rfl, c, hc, rfl⟩ := y
            have hc2 : (cs z)[i]? = some c := by
              rw [← hc]
              simp [cs]
            have fin : ∃ xs, H4 D = some (.lst xs) ∧ xs.length + 1 ≤ sizeLine ∧ (Same H (upd H4 D (.lst (xs ++ [V.bl (nmC c)]))) ∧ (upd H4 D (.lst (xs ++ [V.bl (nmC c)]))) D = some (.lst (((cs z).take (i + 1)).map fun c => V.bl (nmC c)))) := by
              refine ⟨_, h3.2, ?_, fun b o e => ?_, ?_⟩
              · rw [List.length_map, List.length_take, sizeLine_eq]
                have := cs_len z
                omega
              · rw [upd_ne (ne_of_none e nD)]
                exact h3.1 b o e
              · rw [upd_same, List.take_add_one, hc2, List.map_append]
                rfl
            have e1 : (!decide ((cs ⟨#[c]⟩) < (Str.ofString "a").cps.toList)) = !decide (c < 97) := by
              rw [show (Str.ofString "a").cps.toList = [97] by decide +kernel]
              show (!decide ([c] < [97])) = _
              rw [lt_one]
            have e2 : (!decide ((Str.ofString "z").cps.toList < cs ⟨#[c]⟩)) = !decide (122 < c) := by
              rw [show (Str.ofString "z").cps.toList = [122] by decide +kernel]
              show (!decide ([122] < [c])) = _
              rw [lt_one]
            refine ⟨rfl, .str ⟨#[c]⟩, rfl, _, _, rfl, rfl, !decide (c < 97), congrArg V.bl e1, ite2 (fun ea => ⟨_, _, rfl, rfl, ?_⟩) (fun ea => ?_)⟩
            · have en : nmC c = !decide (122 < c) := by
                unfold nmC
                rw [ea, Bool.true_and]
              rw [en] at fin
              show ∃ xs, _
              rw [show (!decide ((Str.ofString "z").cps.toList < ([c] : List Nat))) = !decide (122 < c) from e2]
              exact fin
            · have en : nmC c = false := by
                unfold nmC
                rw [show (!decide (c < 97)) = false by simpa using ea, Bool.false_and]
              rw [en] at fin
              exact fin
          · refine ⟨D, (cs z).map nmC, rfl, sql ?_, ?_⟩
            · rw [h3.2, List.map_map]
              rw [List.take_of_length_le (by
                show (cs z).length ≤ z.cps.size
                simp [cs])]
              rfl
            · rw [show ((cs z).map nmC).all id = (cs z).all nmC by rw [List.all_map]; rfl]
              exact q H3 h3.1
        · rw [decide_eq_false h8, Bool.false_and] at q
          exact ⟨false, congrArg V.bl (decide_eq_false (by omega)), iteT (q H (Same.refl H))⟩
      · rw [decide_eq_false h1, Bool.false_and] at q
        exact ⟨false, congrArg V.bl (decide_eq_false (by omega)), iteF ⟨false, rfl, iteT (q H (Same.refl H))⟩⟩
    | _ => exact iteT (iteT (q H (Same.refl H)))
end
end Kb

namespace Kb
open PySem PySem.Spec PyProof.Rows L2 SrtZ SrtO
section
variable {P : Program} {w : World} {K : PySem.W.Frag} {mg : Str → Option Value} {base : Heap}
/-! _is_counted, are_counts -/
def spIsCountedD (K : PySem.W.Frag) : Sp := fun vs H Q _ => ∃ (v : V) (d : Dat), vs = [v] ∧ DtAt K H v d ∧ ∀ H', Same H H' → Q (.bl (cntB d)) H'
theorem ok_is_countedD (T : Blt mg) (cL : Cst mg "LONGEST_NAME" (.int 8)) (dP_is_int : DnIsInt K mg) (dP_is_name : DnIsName K mg) (d : DnIsCounted K mg) : FnOk P w K mg base CX0 2 d.f d.fd ["pair"] (spIsCountedD K) := by
  have GP_is_int : FnOk P w K mg base CX0 1 dP_is_int.f dP_is_int.fd ["thing"] (spIsIntD K) := ok_is_intD T dP_is_int
  have GP_is_name : FnOk P w K mg base CX0 1 dP_is_name.f dP_is_name.fd ["thing"] (spIsNameD K) := ok_is_nameD T cL dP_is_name
  refine d.F.ok scP_is_counted (fun vs H Q E h => ?_) (fun cdv A outer s H vs Q E hr h => ?_)
  · obtain ⟨v, n, rfl, _⟩ := h
    rfl
  · obtain ⟨v, x, rfl, hx, q⟩ := h
    refine ⟨_, (pss_cons (ps_if (PW.pt (pw_or (pt_not (pt_val (pe_callB (call_isD (K := K) rfl) (by rfl) T.n_isinstance (by decide +kernel) (pa_cons (pv 0) (pa_cons (pe_bltn (v := .ty "tuple") (by rfl) T.n_tuple (by decide +kernel) rfl) pa_nil))))) (pw_or1 (pt_cmpR op_ne (pe_callB call_len_seq (by rfl) T.n_len (by decide +kernel) (pa_cons (pv 0) pa_nil)) pe_int (nomark _)))))
      (pss_one (ps_ret pe_bl))
      pss_nil)
    (pss_one (ps_ret (pe_and (pe_call GP_is_name (hr.mono (by omega)) (by rfl) dP_is_name.g dP_is_name.F.kp dP_is_name.b .nil pass0 (pa_cons (pe_ix ix_tup (pv 0) pe_int (fun _ _ => rfl)) pa_nil)) (pe_and (pe_call GP_is_int (hr.mono (by omega)) (by rfl) dP_is_int.g dP_is_int.F.kp dP_is_int.b .nil pass0 (pa_cons (pe_ix ix_tup (pv 0) pe_int (fun _ _ => rfl)) pa_nil)) (pe_one (pe_cmpR op_ge (pe_ix ix_tup (pv 0) pe_int (fun _ _ => rfl)) pe_int (nomark _)))))))), ?_⟩
    obtain ⟨t, ty, kI, kB, kS, kT⟩ := hx.ty
    refine ⟨v, rfl, v, _, t, _, isT x, rfl, .ty "tuple", ty, kT, isT x, rfl, ?_⟩
    cases x with
    | tup ds =>
      obtain ⟨a, xs, rfl, h1, h2, h3⟩ := hx.tup
      have hl := Paired.length h3
      refine iteF ⟨.ref a, rfl, a, _, rfl, .inr h1.seq, rfl, ?_⟩
      have long : ds.length ≠ 2 → cntB (.tup ds) = false := fun hn => by
        match ds, hn with
        | [], _ => rfl
        | [_], _ => rfl
        | [_, _], h => exact absurd rfl h
        | _ :: _ :: _ :: _, _ => rfl
      by_cases h2l : ds.length = 2
      · have hx2 : ((xs.length : Nat) : Int) = 2 := by omega
        refine ⟨false, congrArg V.bl (by rw [hx2]; rfl), iteF ?_⟩
        obtain ⟨d1, d2, rfl⟩ : ∃ d1 d2, ds = [d1, d2] := match ds, h2l with | [d1, d2], _ => ⟨d1, d2, rfl⟩
        obtain ⟨x1, x2, rfl⟩ : ∃ x1 x2, xs = [x1, x2] := match xs, hl with | [x1, x2], _ => ⟨x1, x2, rfl⟩
        have e1 : DtAt K H x1 d1 := by cases h3 with | cons e _ => exact e
        have e2 : DtAt K H x2 d2 := by cases h3 with | cons _ h => cases h with | cons e _ => exact e
        have q : ∀ H', Same H H' → Q (.bl (nameD d1 && isPB (intD d2))) H' := q
        refine ⟨.ref a, rfl, a, _, _, _, rfl, rfl, h1.seq, atI_nat (j := 0) rfl, x1, d1, rfl, e1, fun H1 s1 => ⟨nameD d1, rfl, ?_⟩⟩
        have h1' := h1.same s1
        cases c1 : nameD d1 with
        | false =>
          rw [c1, Bool.false_and] at q
          exact iteF (q H1 s1)
        | true =>
          rw [c1, Bool.true_and] at q
          refine iteT ⟨.ref a, rfl, a, _, _, _, rfl, rfl, h1'.seq, atI_nat (j := 1) rfl, x2, d2, rfl, e2.same s1, (intD d2).isSome, rfl, ?_⟩
          cases d2 with
          | int i =>
            obtain ⟨rfl, _⟩ := e2.int
            exact iteT ⟨.ref a, rfl, a, _, _, _, rfl, rfl, h1'.seq, atI_nat (j := 1) rfl, _, _, rfl, rfl, q H1 s1⟩
          | _ => exact iteF (q H1 s1)
      · rw [long h2l] at q
        refine ⟨true, congrArg V.bl ?_, iteT (q H (Same.refl H))⟩
        rw [decide_eq_false (by
          intro z
          injection z with z
          omega)]
        rfl
    | _ => exact iteT (iteT (q H (Same.refl H)))
def spAreCountsD (K : PySem.W.Frag) : Sp := fun vs H Q _ => ∃ (v : V) (d : Dat), vs = [v] ∧ DtAt K H v d ∧ ∀ H', Same H H' → Q (.bl (ctD d)) H'
theorem ok_are_countsD (T : Blt mg) (cL : Cst mg "LONGEST_NAME" (.int 8)) (dP_is_int : DnIsInt K mg) (dP_is_name : DnIsName K mg) (dP_is_counted : DnIsCounted K mg) (d : DnAreCounts K mg) : FnOk P w K mg base CX0 3 d.f d.fd ["thing"] (spAreCountsD K) := by
  have GP_is_counted : FnOk P w K mg base CX0 2 dP_is_counted.f dP_is_counted.fd ["pair"] (spIsCountedD K) := ok_is_countedD T cL dP_is_int dP_is_name dP_is_counted
  refine d.F.ok scP_are_counts (fun vs H Q E h => ?_) (fun cdv A outer s H vs Q E hr h => ?_)
  · obtain ⟨v, n, rfl, _⟩ := h
    rfl
  · obtain ⟨v, x, rfl, hx, q⟩ := h
    refine ⟨_, (pss_cons (ps_if (pt_not (pt_val (pe_callB (call_isD (K := K) rfl) (by rfl) T.n_isinstance (by decide +kernel) (pa_cons (pv 0) (pa_cons (pe_bltn (v := .ty "tuple") (by rfl) T.n_tuple (by decide +kernel) rfl) pa_nil)))))
      (pss_one (ps_ret pe_bl))
      pss_nil)
    (pss_cons (ps_set (i := 1) scP_are_counts.nd rfl (Or.inl rfl) pe_str)
    (pss_cons (ps_for PassesOwn.never rfl (pi_tup (pv 0)) (pg_name (i := 2) scP_are_counts.nd rfl (Or.inl rfl))
      (pss_cons (ps_if (PW.pt (pw_or (pt_not (pt_val (pe_call GP_is_counted (hr.mono (by omega)) (by rfl) dP_is_counted.g dP_is_counted.F.kp dP_is_counted.b .nil pass0 (pa_cons (pv 2) pa_nil)))) (pw_or1 (pt_cmpR op_le_str (pe_ix ix_tup (pv 2) pe_int (fun _ _ => rfl)) (pv 1) (nomark _)))))
        (pss_one (ps_ret pe_bl))
        pss_nil)
      (pss_one (ps_set (i := 1) scP_are_counts.nd rfl (Or.inl rfl) (pe_ix ix_tup (pv 2) pe_int (fun _ _ => rfl))))))
    (pss_one (ps_ret pe_bl))))), ?_⟩
    obtain ⟨t, ty, kI, kB, kS, kT⟩ := hx.ty
    refine ⟨v, rfl, v, _, t, _, isT x, rfl, .ty "tuple", ty, kT, isT x, rfl, ?_⟩
    cases x with
    | tup ds =>
      obtain ⟨a, xs, rfl, h1, h2, h3⟩ := hx.tup
      have hl := Paired.length h3
      have q : ∀ H', Same H H' → Q (.bl (ctsB (Str.ofString "") ds)) H' := q
      refine iteF ⟨.ref a, rfl, a, rfl, ⟨_, h1.seq⟩, for_tup (xs := xs) (fun i σ H3 => ∃ (la : Str) (x : Option V), σ = [some (.ref a), some (.str la), x] ∧ Same H H3 ∧ ctsB (Str.ofString "") ds = ctsB la (ds.drop i))
        ⟨Str.ofString "", none, rfl, Same.refl H, rfl⟩ (fun i σ H3 _ ⟨_, _, _, s3, _⟩ => (h1.same s3).seq) ?_ ?_⟩
      · rintro i v σ H3 hi ⟨la, x, rfl, s3, ee⟩
        obtain ⟨e, he, hat⟩ := paired_at h3 hi
        have hde : ds.drop i = e :: ds.drop (i + 1) := by
          obtain ⟨hlt, hg⟩ := List.getElem?_eq_some_iff.mp he
          rw [List.drop_eq_getElem_cons hlt, hg]
        rw [hde] at ee
        have ee : ctsB (Str.ofString "") ds = (cntB e && (ltZ la (nmOf e) && ctsB (nmOf e) (ds.drop (i + 1)))) := ee
        have hat3 := hat.same s3
        refine ⟨v, rfl, v, e, rfl, hat3, fun H4 s4 => ⟨cntB e, rfl, ?_⟩⟩
        have s04 := Same.trans s3 s4
        cases ce : cntB e with
        | false =>
          rw [ce, Bool.false_and] at ee
          rw [ee] at q
          exact iteT (iteT (q H4 s04))
        | true =>
          rw [ce, Bool.true_and] at ee
          obtain ⟨z, n, rfl, hz, hn⟩ := cntB_is ce
          obtain ⟨p, ys, rfl, g1, g2, g3⟩ := (hat3.same s4).tup
          have ee : ctsB (Str.ofString "") ds = (ltZ la z && ctsB z (ds.drop (i + 1))) := ee
          have iz : ys[0]? = some (.str z) := by
            cases g3 with
            | cons k _ =>
              obtain ⟨rfl, _⟩ := k.str
              rfl
          refine iteF ⟨.ref p, rfl, p, _, _, _, rfl, rfl, g1.seq, atI_nat (j := 0) iz, .str la, rfl, _, _, rfl, rfl, !ltZ la z, rfl, ?_⟩
          cases cl : ltZ la z with
          | false =>
            rw [cl, Bool.false_and] at ee
            rw [ee] at q
            exact iteT (q H4 s04)
          | true =>
            rw [cl, Bool.true_and] at ee
            exact iteF ⟨.ref p, rfl, p, _, _, _, rfl, rfl, g1.seq, atI_nat (j := 0) iz, z, some (.ref p), rfl, s04, ee⟩
      · rintro σ H3 ⟨la, x, rfl, s3, ee⟩
        rw [hl, List.drop_length] at ee
        have ee : ctsB (Str.ofString "") ds = true := ee
        rw [ee] at q
        exact q H3 s3
    | _ => exact iteT (q H (Same.refl H))
end
end Kb

namespace Kb
open PySem PySem.Spec PyProof.Rows L2 SrtZ SrtO
abbrev scount : Stmt := topS 47
theorem sccount : FnScope ["_law_thing_here"] ["_law_thing_here"] (defScope scount) := ⟨rfl, rfl, rfl, by decide +kernel, rfl, by decide +kernel, by decide +kernel⟩
abbrev Dncount (K : PySem.W.Frag) (mg : Str → Option Value) := Dn K mg "_law_count" scount ["_law_thing_here"]
abbrev slong : Stmt := topS 48
theorem sclong : FnScope ["_law_thing_here", "_law_many"] ["_law_thing_here", "_law_many"] (defScope slong) := ⟨rfl, rfl, rfl, by decide +kernel, rfl, by decide +kernel, by decide +kernel⟩
abbrev Dnlong (K : PySem.W.Frag) (mg : Str → Option Value) := Dn K mg "_law_long" slong ["_law_thing_here", "_law_many"]
abbrev sname_fits : Stmt := topS 49
abbrev Nname_fits : List Str := ["_law_thing_here", "_law_sign"]
theorem scname_fits : FnScope ["_law_thing_here", "_law_sign"] ["_law_thing_here"] (defScope sname_fits) := ⟨rfl, rfl, rfl, by decide +kernel, rfl, by decide +kernel, by decide +kernel⟩
abbrev Dnname_fits (K : PySem.W.Frag) (mg : Str → Option Value) := Dn K mg "_law_name_fits" sname_fits ["_law_thing_here"]
abbrev spair_fits : Stmt := topS 50
theorem scpair_fits : FnScope ["_law_thing_here"] ["_law_thing_here"] (defScope spair_fits) := ⟨rfl, rfl, rfl, by decide +kernel, rfl, by decide +kernel, by decide +kernel⟩
abbrev Dnpair_fits (K : PySem.W.Frag) (mg : Str → Option Value) := Dn K mg "_law_pair_fits" spair_fits ["_law_thing_here"]
theorem abc_mem (c : Nat) : decide (c ∈ (Str.ofString "abcdefghijklmnopqrstuvwxyz").cps.toList) = nmC c := by
  rw [show (Str.ofString "abcdefghijklmnopqrstuvwxyz").cps.toList = (List.range 26).map (97 + ·) by decide +kernel]
  unfold nmC
  by_cases h1 : c < 97
  · rw [decide_eq_true h1]
    refine decide_eq_false fun h => ?_
    obtain ⟨i, _, hi⟩ := List.mem_map.mp h
    omega
  · rw [decide_eq_false h1]
    by_cases h2 : 122 < c
    · rw [decide_eq_true h2]
      refine decide_eq_false fun h => ?_
      obtain ⟨i, h3, hi⟩ := List.mem_map.mp h
      have := List.mem_range.mp h3
      omega
    · rw [decide_eq_false h2]
      refine decide_eq_true (List.mem_map.mpr ⟨c - 97, List.mem_range.mpr (by omega), by omega⟩)
def lgB (n : Int) : Dat → Bool
  | .tup ds => decide ((ds.length : Int) = n)
  | _ => false
section
variable {P : Program} {w : World} {K : PySem.W.Frag} {mg : Str → Option Value} {base : Heap}
def spCountD (K : PySem.W.Frag) : Sp := fun vs H Q _ => ∃ (v : V) (d : Dat), vs = [v] ∧ DtAt K H v d ∧ Q (.bl (isNB (intD d))) H
theorem ok_countD (T : Blt mg) (d : Dncount K mg) : FnOk P w K mg base CX0 1 d.f d.fd ["_law_thing_here"] (spCountD K) := by
  refine d.F.ok sccount (fun vs H Q E h => ?_) (fun cdv A outer s H vs Q E hr h => ?_)
  · obtain ⟨v, n, rfl, _⟩ := h
    rfl
  · obtain ⟨v, x, rfl, hx, q⟩ := h
    refine ⟨_, (pss_one (ps_ret (pe_and (pe_callB (call_isD (K := K) rfl) (by rfl) T.n_isinstance (by decide +kernel) (pa_cons (pv 0) (pa_cons (pe_bltn (v := .ty "int") (by rfl) T.n_int (by decide +kernel) rfl) pa_nil))) (pe_and (pe_not (pe_callB (call_isD (K := K) rfl) (by rfl) T.n_isinstance (by decide +kernel) (pa_cons (pv 0) (pa_cons (pe_bltn (v := .ty "bool") (by rfl) T.n_bool (by decide +kernel) rfl) pa_nil)))) (pe_one (pe_cmpR op_ge (pv 0) pe_int (nomark _))))))), ?_⟩
    obtain ⟨t, ty, kI, kB, kS, kT⟩ := hx.ty
    refine ⟨v, rfl, v, _, t, _, isI x, rfl, .ty "int", ty, kI, isI x, rfl, ?_⟩
    cases x with
    | int i =>
      obtain ⟨rfl, _⟩ := hx.int
      exact iteT ⟨_, rfl, _, _, t, _, false, rfl, .ty "bool", ty, kB, false, rfl, true, rfl, iteT ⟨.int i, rfl, _, _, rfl, rfl, q⟩⟩
    | bl b => exact iteT ⟨_, rfl, _, _, t, _, true, rfl, .ty "bool", ty, kB, true, rfl, false, rfl, iteF q⟩
    | _ => exact iteF q
def spLongD (K : PySem.W.Frag) : Sp := fun vs H Q _ => ∃ (v : V) (d : Dat) (n : Int), vs = [v, .int n] ∧ DtAt K H v d ∧ Q (.bl (lgB n d)) H
theorem ok_longD (T : Blt mg) (d : Dnlong K mg) : FnOk P w K mg base CX0 1 d.f d.fd ["_law_thing_here", "_law_many"] (spLongD K) := by
  refine d.F.ok sclong (fun vs H Q E h => ?_) (fun cdv A outer s H vs Q E hr h => ?_)
  · obtain ⟨v, x, n, rfl, _⟩ := h
    rfl
  · obtain ⟨v, x, n, rfl, hx, q⟩ := h
    refine ⟨_, (pss_one (ps_ret (pe_and (pe_callB (call_isD (K := K) rfl) (by rfl) T.n_isinstance (by decide +kernel) (pa_cons (pv 0) (pa_cons (pe_bltn (v := .ty "tuple") (by rfl) T.n_tuple (by decide +kernel) rfl) pa_nil))) (pe_one (pe_cmpR op_eq (pe_callB call_len_seq (by rfl) T.n_len (by decide +kernel) (pa_cons (pv 0) pa_nil)) (pv 1) (nomark _)))))), ?_⟩
    obtain ⟨t, ty, kI, kB, kS, kT⟩ := hx.ty
    refine ⟨v, rfl, v, _, t, _, isT x, rfl, .ty "tuple", ty, kT, isT x, rfl, ?_⟩
    cases x with
    | tup ds =>
      obtain ⟨a, xs, rfl, h1, h2, h3⟩ := hx.tup
      have hl := Paired.length h3
      refine iteT ⟨.ref a, rfl, a, _, rfl, .inr h1.seq, .int n, rfl, rfl, ?_⟩
      have q : Q (.bl (decide ((ds.length : Int) = n))) H := q
      rw [← hl] at q
      by_cases e : (xs.length : Int) = n
      · rw [decide_eq_true e] at q
        rw [show decide (V.int (xs.length : Int) = V.int n) = true from decide_eq_true (by rw [e])]
        exact q
      · rw [decide_eq_false e] at q
        rw [show decide (V.int (xs.length : Int) = V.int n) = false from decide_eq_false (by intro z; injection z with z; exact e z)]
        exact q
    | _ => exact iteF q
def spNameFitsD (K : PySem.W.Frag) : Sp := fun vs H Q _ => ∃ (v : V) (d : Dat), vs = [v] ∧ DtAt K H v d ∧ ∀ H', Same H H' → Q (.bl (nameD d)) H'
theorem ok_name_fitsD (T : Blt mg) (d : Dnname_fits K mg) : FnOk P w K mg base CX0 1 d.f d.fd ["_law_thing_here"] (spNameFitsD K) := by
  refine d.F.ok scname_fits (fun vs H Q E h => ?_) (fun cdv A outer s H vs Q E hr h => ?_)
  · obtain ⟨v, n, rfl, _⟩ := h
    rfl
  · obtain ⟨v, x, rfl, hx, q⟩ := h
    refine ⟨_, (pss_cons (ps_if (PW.pt (pw_or (pt_not (pt_val (pe_callB (call_isD (K := K) rfl) (by rfl) T.n_isinstance (by decide +kernel) (pa_cons (pv 0) (pa_cons (pe_bltn (v := .ty "str") (by rfl) T.n_str (by decide +kernel) rfl) pa_nil))))) (pw_or (pt_cmpR op_lt (pe_callB call_len_str (by rfl) T.n_len (by decide +kernel) (pa_cons (pv 0) pa_nil)) pe_int (nomark _)) (pw_or1 (pt_cmpR op_gt (pe_callB call_len_str (by rfl) T.n_len (by decide +kernel) (pa_cons (pv 0) pa_nil)) pe_int (nomark _))))))
      (pss_one (ps_ret pe_bl))
      pss_nil)
    (pss_one (ps_ret (pe_callB (cr_all rfl) (by rfl) T.n_all (by decide +kernel) (pa_cons (pe_lc (own := [("_law_sign", 1)]) (g := gName 1) (tt := tYes) rfl scname_fits.nd (pi_str (pv 0)) (blkOk_by (N := Nname_fits) (sc := defScope sname_fits) (by decide +kernel)) (fun _ _ _ _ _ => pg_name (i := 1) scname_fits.nd rfl (Or.inl rfl)) (fun _ _ _ _ _ => pts_nil) (fun _ _ _ _ _ => (pe_cmpR op_in_sign (pv 1) pe_str rfl))) pa_nil))))), ?_⟩
    obtain ⟨t, ty, kI, kB, kS, kT⟩ := hx.ty
    refine ⟨v, rfl, v, _, t, _, isS x, rfl, .ty "str", ty, kS, isS x, rfl, ?_⟩
    cases x with
    | str z =>
      obtain ⟨rfl, hz⟩ := hx.str
      have q : ∀ H', Same H H' → Q (.bl (decide (1 ≤ z.length) && (decide (z.length ≤ 8) && (cs z).all nmC))) H' := q
      refine iteF ⟨.str z, rfl, z, rfl, (by rw [sizeLine_eq]; omega), _, _, rfl, rfl, ?_⟩
      by_cases h1 : 1 ≤ z.length
      · rw [decide_eq_true h1, Bool.true_and] at q
        refine ⟨false, congrArg V.bl (decide_eq_false (by omega)), iteF ⟨.str z, rfl, z, rfl, (by rw [sizeLine_eq]; omega), _, _, rfl, rfl, ?_⟩⟩
        by_cases h8 : z.length ≤ 8
        · rw [decide_eq_true h8, Bool.true_and] at q
          refine ⟨false, congrArg V.bl (decide_eq_false (by omega)), iteF ⟨.str z, rfl, z, rfl, fun D nD => ?_⟩⟩
          refine lc_it walk_str (fun i H3 => Same H H3 ∧ H3 D = some (.lst (((cs z).take i).map fun c => V.bl (nmC c)))) ⟨same_upd nD, upd_same⟩ (fun _ _ _ _ => trivial) (fun i x H3 H4 hi h3 y => ?_) (fun H3 h3 => ?_)
          · obtain ⟨rfl, c, hc, rfl⟩ := y
            have hc2 : (cs z)[i]? = some c := by
              rw [← hc]
              simp [cs]
            refine ⟨rfl, .str ⟨#[c]⟩, rfl, c, _, rfl, rfl, ?_⟩
            rw [abc_mem]
            refine ⟨_, h3.2, ?_, fun b o e => ?_, ?_⟩
            · rw [List.length_map, List.length_take, sizeLine_eq]
              have := cs_len z
              omega
            · rw [upd_ne (ne_of_none e nD)]
              exact h3.1 b o e
            · rw [upd_same, List.take_add_one, hc2, List.map_append]
              rfl
          · refine ⟨D, (cs z).map nmC, rfl, sql ?_, ?_⟩
            · rw [h3.2, List.map_map]
              rw [List.take_of_length_le (by
                show (cs z).length ≤ z.cps.size
                simp [cs])]
              rfl
            · rw [show ((cs z).map nmC).all id = (cs z).all nmC by rw [List.all_map]; rfl]
              exact q H3 h3.1
        · rw [decide_eq_false h8, Bool.false_and] at q
          exact ⟨true, congrArg V.bl (decide_eq_true (by omega)), iteT (q H (Same.refl H))⟩
      · rw [decide_eq_false h1, Bool.false_and] at q
        exact ⟨true, congrArg V.bl (decide_eq_true (by omega)), iteT (iteT (q H (Same.refl H)))⟩
    | _ => exact iteT (iteT (q H (Same.refl H)))
def spPairFitsD (K : PySem.W.Frag) : Sp := fun vs H Q _ => ∃ (v : V) (d : Dat), vs = [v] ∧ DtAt K H v d ∧ ∀ H', Same H H' → Q (.bl (cntB d)) H'
theorem ok_pair_fitsD (T : Blt mg) (dcount : Dncount K mg) (dlong : Dnlong K mg) (dname_fits : Dnname_fits K mg) (d : Dnpair_fits K mg) : FnOk P w K mg base CX0 2 d.f d.fd ["_law_thing_here"] (spPairFitsD K) := by
  have Gcount : FnOk P w K mg base CX0 1 dcount.f dcount.fd ["_law_thing_here"] (spCountD K) := ok_countD T dcount
  have Glong : FnOk P w K mg base CX0 1 dlong.f dlong.fd ["_law_thing_here", "_law_many"] (spLongD K) := ok_longD T dlong
  have Gname_fits : FnOk P w K mg base CX0 1 dname_fits.f dname_fits.fd ["_law_thing_here"] (spNameFitsD K) := ok_name_fitsD T dname_fits
  refine d.F.ok scpair_fits (fun vs H Q E h => ?_) (fun cdv A outer s H vs Q E hr h => ?_)
  · obtain ⟨v, n, rfl, _⟩ := h
    rfl
  · obtain ⟨v, x, rfl, hx, q⟩ := h
    refine ⟨_, (pss_one (ps_ret (pe_and (pe_call Glong (hr.mono (by omega)) (by rfl) dlong.g dlong.F.kp dlong.b .nil pass0 (pa_cons (pv 0) (pa_cons pe_int pa_nil))) (pe_and (pe_call Gname_fits (hr.mono (by omega)) (by rfl) dname_fits.g dname_fits.F.kp dname_fits.b .nil pass0 (pa_cons (pe_ix ix_tup (pv 0) pe_int (fun _ _ => rfl)) pa_nil)) (pe_and (pe_call Gcount (hr.mono (by omega)) (by rfl) dcount.g dcount.F.kp dcount.b .nil pass0 (pa_cons (pe_ix ix_tup (pv 0) pe_int (fun _ _ => rfl)) pa_nil)) (pe_one (pe_cmpR op_ge (pe_ix ix_tup (pv 0) pe_int (fun _ _ => rfl)) pe_int (nomark _)))))))), ?_⟩
    refine ⟨v, rfl, v, x, 2, rfl, hx, lgB 2 x, rfl, ?_⟩
    cases x with
    | tup ds =>
      obtain ⟨a, xs, rfl, h1, h2, h3⟩ := hx.tup
      have hl := Paired.length h3
      have long : ds.length ≠ 2 → cntB (.tup ds) = false := fun hn => by
        match ds, hn with
        | [], _ => rfl
        | [_], _ => rfl
        | [_, _], h => exact absurd rfl h
        | _ :: _ :: _ :: _, _ => rfl
      by_cases h2l : ds.length = 2
      · rw [show lgB 2 (.tup ds) = true from decide_eq_true (by omega)]
        obtain ⟨d1, d2, rfl⟩ : ∃ d1 d2, ds = [d1, d2] := match ds, h2l with | [d1, d2], _ => ⟨d1, d2, rfl⟩
        obtain ⟨x1, x2, rfl⟩ : ∃ x1 x2, xs = [x1, x2] := match xs, hl with | [x1, x2], _ => ⟨x1, x2, rfl⟩
        have e1 : DtAt K H x1 d1 := by cases h3 with | cons e _ => exact e
        have e2 : DtAt K H x2 d2 := by cases h3 with | cons _ h => cases h with | cons e _ => exact e
        have q : ∀ H', Same H H' → Q (.bl (nameD d1 && isPB (intD d2))) H' := q
        refine iteT ⟨.ref a, rfl, a, _, _, _, rfl, rfl, h1.seq, atI_nat (j := 0) rfl, x1, d1, rfl, e1, fun H1 s1 => ⟨nameD d1, rfl, ?_⟩⟩
        have h1' := h1.same s1
        cases c1 : nameD d1 with
        | false =>
          rw [c1, Bool.false_and] at q
          exact iteF (q H1 s1)
        | true =>
          rw [c1, Bool.true_and] at q
          refine iteT ⟨.ref a, rfl, a, _, _, _, rfl, rfl, h1'.seq, atI_nat (j := 1) rfl, x2, d2, rfl, e2.same s1, isNB (intD d2), rfl, ?_⟩
          cases d2 with
          | int i =>
            obtain ⟨rfl, _⟩ := e2.int
            have q : Q (.bl (decide (1 ≤ i))) H1 := q H1 s1
            show (if decide (0 ≤ i) = true then _ else _)
            by_cases h0 : 0 ≤ i
            · rw [decide_eq_true h0]
              exact iteT ⟨.ref a, rfl, a, _, _, _, rfl, rfl, h1'.seq, atI_nat (j := 1) rfl, _, _, rfl, rfl, q⟩
            · rw [decide_eq_false h0]
              rw [decide_eq_false (by omega : ¬ 1 ≤ i)] at q
              exact iteF q
          | _ => exact iteF (q H1 s1)
      · rw [long h2l] at q
        rw [show lgB 2 (.tup ds) = false from decide_eq_false (by omega)]
        exact iteF (q H (Same.refl H))
    | _ => exact iteF (q H (Same.refl H))
end
end Kb

namespace Kb
open PySem PySem.Spec PyProof.Rows L2 SrtZ SrtO
theorem three {α : Type} {xs : List α} (h : xs.length = 3) : ∃ a b c, xs = [a, b, c] := match xs, h with | [a, b, c], _ => ⟨a, b, c, rfl⟩
theorem paired3 {α β : Type} {F : α → β → Prop} {a b c : α} {e f g : β} (p : Paired F [a, b, c] [e, f, g]) : F a e ∧ F b f ∧ F c g := by
  cases p with | cons h1 p =>
  cases p with | cons h2 p =>
  cases p with | cons h3 p =>
  exact ⟨h1, h2, h3⟩
section
variable {K : PySem.W.Frag}
/-- counts that are right, as they stand -/
theorem ct_of {H : Hp} {v : V} {d : Dat} (h : DtAt K H v d) (c : ctD d = true) : ∃ k, v = .ref k ∧ CtAt K H k (kvD d) ∧ Cts (kvD d) ∧ (kvD d).length = lenD d := by
  cases d with
  | tup ks =>
    obtain ⟨k, ys, rfl, g1, g2, g3⟩ := h.tup
    obtain ⟨cc, _, al⟩ := ctsB_cts (show ctsB (Str.ofString "") ks = true from c)
    obtain ⟨ts, rfl, hts⟩ := prs_of g3 al
    exact ⟨k, rfl, ⟨ts, g1.seq, hts⟩, cc, by
      show (ks.map kvO).length = ks.length
      rw [List.length_map]⟩
  | _ => cases c
end
theorem isSm_is {d : Dat} (h : (intD d).isSome = true) : ∃ r, d = .int r := by
  cases d with
  | int r => exact ⟨r, rfl⟩
  | _ => cases h
theorem isNB_is {d : Dat} (h : isNB (intD d) = true) : ∃ r, d = .int r ∧ 0 ≤ r := by
  cases d with
  | int r => exact ⟨r, rfl, of_decide_eq_true h⟩
  | _ => cases h
def Dat.at0 : Dat → Dat
  | .tup (d :: _) => d
  | _ => .non
theorem cts_nd {kvs : Ct} (c : Cts kvs) : NdZ kvs := List.pairwise_map.mpr (c.asc.imp fun h e => by rw [e, ltZ_irr] at h; cases h)
end Kb

namespace Kb
open PySem PySem.Spec PyProof.Rows L2 SrtZ SrtO
abbrev scounts_fit : Stmt := topS 51
abbrev Ncounts_fit : List Str := ["_law_thing_here", "_law_k", "_law_one"]
theorem sccounts_fit : FnScope ["_law_thing_here", "_law_k", "_law_one"] ["_law_thing_here"] (defScope scounts_fit) := ⟨rfl, rfl, rfl, by decide +kernel, rfl, by decide +kernel, by decide +kernel⟩
abbrev Dncounts_fit (K : PySem.W.Frag) (mg : Str → Option Value) := Dn K mg "_law_counts_fit" scounts_fit ["_law_thing_here"]
def chainR (ns : List Str) : Bool := (List.range (ns.length - 1)).all fun k => ltZ (ns.getD k (Str.ofString "")) (ns.getD (k + 1) (Str.ofString ""))
theorem chainR_cons (a b : Str) (r : List Str) : chainR (a :: b :: r) = (ltZ a b && chainR (b :: r)) := by
  unfold chainR
  rw [show (a :: b :: r).length - 1 = r.length + 1 from rfl, show (b :: r).length - 1 = r.length from rfl, List.range_succ_eq_map, List.all_cons, List.all_map]
  rfl
theorem cts_eq : ∀ (ks : List Dat) (la : Str), ctsB la ks = (ks.all cntB && chainR (la :: ks.map nmOf))
  | [], la => rfl
  | d :: ds, la => by
    show (cntB d && (ltZ la (nmOf d) && ctsB (nmOf d) ds)) = _
    rw [cts_eq ds (nmOf d), List.map_cons, chainR_cons, List.all_cons]
    cases cntB d <;> cases ltZ la (nmOf d) <;> cases ds.all cntB <;> rfl
theorem cts_eq0 (ks : List Dat) : ctsB (Str.ofString "") ks = (ks.all cntB && chainR (ks.map nmOf)) := by
  rw [cts_eq]
  cases ks with
  | nil => rfl
  | cons d ds =>
    rw [List.map_cons, chainR_cons, List.all_cons]
    cases hc : cntB d with
    | false => rfl
    | true =>
      obtain ⟨z, i, rfl, hz, _⟩ := cntB_is hc
      have : ltZ (Str.ofString "") z = true := by
        have h1 := hz.pos
        show decide _ = true
        rw [show (Str.ofString "").cps.toList = [] by decide +kernel]
        refine decide_eq_true ?_
        cases hz : z.cps.toList with
        | nil =>
          have : z.length = 0 := by rw [← cs_len]; unfold cs; rw [hz]; rfl
          omega
        | cons c r => exact List.nil_lt_cons c r
      rw [show nmOf (.tup [.str z, .int i]) = z from rfl, this, Bool.true_and, Bool.true_and]
theorem nm_at {K : PySem.W.Frag} {H : Hp} {v : V} {d : Dat} (h : DtAt K H v d) (c : cntB d = true) : ∃ p ys, v = .ref p ∧ Ptp H p ys ∧ ys[0]? = some (.str (nmOf d)) := by
  obtain ⟨z, i, rfl, hz, _⟩ := cntB_is c
  obtain ⟨p, ys, rfl, g1, g2, g3⟩ := h.tup
  refine ⟨p, ys, rfl, g1, ?_⟩
  cases g3 with
  | cons k _ =>
    obtain ⟨rfl, _⟩ := k.str
    rfl
theorem atI_cast {xs : List V} {n : Nat} {j : Int} {v : V} (e : j = (n : Int)) (h : xs[n]? = some v) : atI xs j = some v := by
  subst e
  exact atI_nat h
theorem isPB_cnt {i : Int} (h : 1 ≤ i) : isPB (some i) = true := decide_eq_true h
abbrev snumber : Stmt := topS 31
theorem scnumber : FnScope ["_law_well_here", "_law_kind"] ["_law_well_here"] (defScope snumber) := ⟨rfl, rfl, rfl, by decide +kernel, rfl, by decide +kernel, by decide +kernel⟩
abbrev ssum : Stmt := topS 52
abbrev Nsum : List Str := ["_law_counts", "_law_pair"]
theorem scsum : FnScope ["_law_counts", "_law_pair"] ["_law_counts"] (defScope ssum) := ⟨rfl, rfl, rfl, by decide +kernel, rfl, by decide +kernel, by decide +kernel⟩
abbrev Dnnumber (K : PySem.W.Frag) (mg : Str → Option Value) := Dn K mg "_law_number" snumber ["_law_well_here"]
abbrev Dnsum (K : PySem.W.Frag) (mg : Str → Option Value) := Dn K mg "_law_sum" ssum ["_law_counts"]
section
variable {P : Program} {w : World} {K : PySem.W.Frag} {mg : Str → Option Value} {base : Heap}
def spCountsFitD (K : PySem.W.Frag) : Sp := fun vs H Q _ => ∃ (v : V) (d : Dat), vs = [v] ∧ DtAt K H v d ∧ ∀ H', Same H H' → Q (.bl (ctD d)) H'
theorem ok_counts_fitD (T : Blt mg) (dcount : Dncount K mg) (dlong : Dnlong K mg) (dname_fits : Dnname_fits K mg) (dpair_fits : Dnpair_fits K mg) (d : Dncounts_fit K mg) : FnOk P w K mg base CX0 3 d.f d.fd ["_law_thing_here"] (spCountsFitD K) := by
  have Gpair_fits : FnOk P w K mg base CX0 2 dpair_fits.f dpair_fits.fd ["_law_thing_here"] (spPairFitsD K) := ok_pair_fitsD T dcount dlong dname_fits dpair_fits
  refine d.F.ok sccounts_fit (fun vs H Q E h => ?_) (fun cdv A outer s H vs Q E hr h => ?_)
  · obtain ⟨v, n, rfl, _⟩ := h
    rfl
  · obtain ⟨v, x, rfl, hx, q⟩ := h
    refine ⟨_, (pss_cons (ps_if (PW.pt (pw_or (pt_not (pt_val (pe_callB (call_isD (K := K) rfl) (by rfl) T.n_isinstance (by decide +kernel) (pa_cons (pv 0) (pa_cons (pe_bltn (v := .ty "tuple") (by rfl) T.n_tuple (by decide +kernel) rfl) pa_nil))))) (pw_or1 (pt_not (pt_val (pe_callB (cr_all rfl) (by rfl) T.n_all (by decide +kernel) (pa_cons (pe_lc (own := [("_law_one", 2)]) (g := gName 2) (tt := tYes) rfl sccounts_fit.nd (pi_tup (pv 0)) (blkOk_by (N := Ncounts_fit) (sc := defScope scounts_fit) (by decide +kernel)) (fun _ _ _ _ _ => pg_name (i := 2) sccounts_fit.nd rfl (Or.inl rfl)) (fun _ _ _ _ _ => pts_nil) (fun _ _ _ _ _ => (pe_call Gpair_fits (hr.mono (by omega)) (by rfl) dpair_fits.g dpair_fits.F.kp dpair_fits.b .nil pass0 (pa_cons (pv 2) pa_nil)))) pa_nil)))))))
      (pss_one (ps_ret pe_bl))
      pss_nil)
    (pss_one (ps_ret (pe_callB (cr_all rfl) (by rfl) T.n_all (by decide +kernel) (pa_cons (pe_lc (own := [("_law_k", 1)]) (g := gName 1) (tt := tYes) rfl sccounts_fit.nd (pi_range1 (by rfl) T.n_range (pa_cons (pe_op op_sub (pe_callB call_len_seq (by rfl) T.n_len (by decide +kernel) (pa_cons (pv 0) pa_nil)) pe_int) pa_nil)) (blkOk_by (N := Ncounts_fit) (sc := defScope scounts_fit) (by decide +kernel)) (fun _ _ _ _ _ => pg_name (i := 1) sccounts_fit.nd rfl (Or.inl rfl)) (fun _ _ _ _ _ => pts_nil) (fun _ _ _ _ _ => (pe_cmpR op_lt_str (pe_ix (r := rIxT K) ix_tup (pe_ix (r := rIxT K) ix_tup (pv 0) (pv 1) (fun _ _ => rfl)) pe_int (fun _ _ => rfl)) (pe_ix (r := rIxT K) ix_tup (pe_ix (r := rIxT K) ix_tup (pv 0) (pe_op op_add (pv 1) pe_int) (fun _ _ => rfl)) pe_int (fun _ _ => rfl)) (nomark _)))) pa_nil))))), ?_⟩
    obtain ⟨t, ty, kI, kB, kS, kT⟩ := hx.ty
    refine ⟨v, rfl, v, _, t, _, isT x, rfl, .ty "tuple", ty, kT, isT x, rfl, ?_⟩
    cases x with
    | tup ds =>
      obtain ⟨a, xs, rfl, h1, h2, h3⟩ := hx.tup
      have hl := Paired.length h3
      have q : ∀ H', Same H H' → Q (.bl (ctsB (Str.ofString "") ds)) H' := q
      rw [cts_eq0] at q
      refine iteF ⟨.ref a, rfl, a, rfl, ⟨_, h1.seq⟩, fun D nD => lc_tup (xs := xs) (fun i H3 => Same H H3 ∧ H3 D = some (.lst ((ds.take i).map fun d => V.bl (cntB d)))) ⟨same_upd nD, upd_same⟩ (fun i H3 _ h3 => (h1.same h3.1).seq) (fun i x H3 hx h4 => ?_) (fun H3 h4 => ?_)⟩
      · obtain ⟨e, he, hat⟩ := paired_at h3 hx
        refine ⟨rfl, x, rfl, x, e, rfl, hat.same h4.1, fun H4 s4 => ⟨_, s4 _ _ h4.2, ?_, fun b o z => ?_, ?_⟩⟩
        · rw [List.length_map, List.length_take, sizeLine_eq]
          omega
        · rw [upd_ne (ne_of_none z nD)]
          exact s4 b o (h4.1 b o z)
        · rw [upd_same, List.take_add_one, he, List.map_append]
          rfl
      · refine ⟨D, ds.map cntB, rfl, sql (by rw [h4.2, hl, List.take_length, List.map_map]; rfl), (ds.map cntB).all id, rfl, ?_⟩
        rw [show (ds.map cntB).all id = ds.all cntB by rw [List.all_map]; rfl]
        cases hall : ds.all cntB with
        | false =>
          rw [hall, Bool.false_and] at q
          exact iteT (q H3 h4.1)
        | true =>
          rw [hall, Bool.true_and] at q
          have al := List.all_eq_true.mp hall
          refine iteF ⟨.ref a, rfl, a, _, rfl, .inr (h1.same h4.1).seq, _, _, rfl, rfl, (xs.length : Int) - 1, rfl, by omega, by omega, fun D2 nD2 => ?_⟩
          refine lc_range (lo := 0) (n := ((xs.length : Int) - 1).toNat) (fun i H5 => Same H3 H5 ∧ H5 D2 = some (.lst ((List.range i).map fun k => V.bl (ltZ ((ds.map nmOf).getD k (Str.ofString "")) ((ds.map nmOf).getD (k + 1) (Str.ofString "")))))) ⟨same_upd nD2, upd_same⟩ (fun i H5 hi h5 => ?_) (fun H5 h5 => ?_)
          · have s05 : Same H H5 := Same.trans h4.1 h5.1
            have hi1 : i + 1 < xs.length := by omega
            obtain ⟨x1, hx1⟩ : ∃ x1, xs[i]? = some x1 := ⟨xs[i], List.getElem?_eq_getElem (by omega)⟩
            obtain ⟨x2, hx2⟩ : ∃ x2, xs[i + 1]? = some x2 := ⟨xs[i + 1], List.getElem?_eq_getElem (by omega)⟩
            obtain ⟨e1, he1, hat1⟩ := paired_at h3 hx1
            obtain ⟨e2, he2, hat2⟩ := paired_at h3 hx2
            obtain ⟨p1, ys1, rfl, g1, i1⟩ := nm_at (hat1.same s05) (al _ (List.mem_of_getElem? he1))
            obtain ⟨p2, ys2, rfl, g2, i2⟩ := nm_at (hat2.same s05) (al _ (List.mem_of_getElem? he2))
            have n1 : (ds.map nmOf).getD i (Str.ofString "") = nmOf e1 := by rw [List.getD_eq_getElem?_getD, List.getElem?_map, he1]; rfl
            have n2 : (ds.map nmOf).getD (i + 1) (Str.ofString "") = nmOf e2 := by rw [List.getD_eq_getElem?_getD, List.getElem?_map, he2]; rfl
            refine ⟨rfl, .ref a, rfl, .int (0 + (i : Int)), rfl, a, _, _, _, rfl, rfl, (h1.same s05).seq, atI_cast (n := i) (by omega) hx1, p1, _, _, _, rfl, rfl, g1.seq, atI_nat (j := 0) i1, .ref a, rfl, .int (0 + (i : Int)), rfl, _, _, rfl, rfl, a, _, _, _, rfl, rfl, (h1.same s05).seq, atI_cast (n := i + 1) (by push_cast; omega) hx2, p2, _, _, _, rfl, rfl, g2.seq, atI_nat (j := 0) i2, _, _, rfl, rfl, _, h5.2, ?_, ?_, ?_⟩
            · rw [List.length_map, List.length_range, sizeLine_eq]
              omega
            · exact Same.put h5.1 nD2
            · rw [upd_same, List.range_succ, List.map_append]
              show some (HO.lst (_ ++ [V.bl (ltZ (nmOf e1) (nmOf e2))])) = some (HO.lst (_ ++ [V.bl (ltZ ((ds.map nmOf).getD i (Str.ofString "")) ((ds.map nmOf).getD (i + 1) (Str.ofString "")))]))
              rw [n1, n2]
          · refine ⟨D2, (List.range ((xs.length : Int) - 1).toNat).map fun k => ltZ ((ds.map nmOf).getD k (Str.ofString "")) ((ds.map nmOf).getD (k + 1) (Str.ofString "")), rfl, sql (by rw [h5.2, List.map_map]; rfl), ?_⟩
            rw [show (((List.range ((xs.length : Int) - 1).toNat).map fun k => ltZ ((ds.map nmOf).getD k (Str.ofString "")) ((ds.map nmOf).getD (k + 1) (Str.ofString ""))).all id) = chainR (ds.map nmOf) by
              rw [List.all_map]
              unfold chainR
              rw [List.length_map, show ((xs.length : Int) - 1).toNat = ds.length - 1 by omega]
              rfl]
            exact q H5 (Same.trans h4.1 h5.1)
    | _ => exact iteT (iteT (q H (Same.refl H)))
/-! _law_number -/
def spNumber : Sp := fun vs H Q _ => ∃ (a c : Addr), vs = [.ref a] ∧ Wl a c H ∧ ∀ H' (r : Int), Exw a H H' → Wl a c H' → 0 ≤ r → r < 1000000000 → Q (.int r) H'
theorem ok_number (T : Blt mg) (dmixed : Dnmixed K mg) (dfilled : Dnfilled K mg) (ddraw : Dndraw K mg) (d : Dnnumber K mg) : FnOk P w K mg base CX0 4 d.f d.fd ["_law_well_here"] spNumber := by
  have Gdraw : FnOk P w K mg base CX0 3 ddraw.f ddraw.fd ["_law_well_here", "_law_many"] spDraw := ok_draw T dmixed dfilled ddraw
  refine d.F.ok scnumber (fun vs H Q E h => ?_) (fun cdv A outer s H vs Q E hr h => ?_)
  · obtain ⟨a, c, rfl, _⟩ := h
    rfl
  · obtain ⟨a, c, rfl, hw, q⟩ := h
    refine ⟨_, (pss_cons (ps_set (i := 1) scnumber.nd rfl (Or.inl rfl) (pe_call Gdraw (hr.mono (by omega)) (by rfl) ddraw.g ddraw.F.kp ddraw.b .nil pass0 (pa_cons (pv 0) (pa_cons pe_int pa_nil))))
    (pss_cons (ps_if (pt_cmpR op_eq (pv 1) pe_int (nomark _))
      (pss_one (ps_ret (pe_call Gdraw (hr.mono (by omega)) (by rfl) ddraw.g ddraw.F.kp ddraw.b .nil pass0 (pa_cons (pv 0) (pa_cons (pe_op op_pow pe_int pe_int) pa_nil)))))
      pss_nil)
    (pss_one (ps_ret (pe_call Gdraw (hr.mono (by omega)) (by rfl) ddraw.g ddraw.F.kp ddraw.b .nil pass0 (pa_cons (pv 0) (pa_cons (pe_ix ix_list (pe_lst (pa_cons pe_int (pa_cons pe_int (pa_cons (pe_op op_pow pe_int pe_int) pa_nil)))) (pv 1) (fun _ _ => rfl)) pa_nil))))))), ?_⟩
    refine ⟨.ref a, rfl, a, c, 4, rfl, hw, (by decide), (by decide), fun H1 k x1 w1 k0 k1 => ?_⟩
    refine ⟨.int k, rfl, rfl, _, rfl, ?_⟩
    by_cases h3 : k = 3
    · rw [show decide (V.int k = V.int 3) = true from decide_eq_true (by rw [h3])]
      refine iteT ⟨.ref a, rfl, _, _, rfl, rfl, ⟨by decide, by decide, by decide⟩, a, c, 1000000000, rfl, w1, by decide, by decide, fun H2 r x2 w2 r0 r1 => ?_⟩
      exact q H2 r (x1.trans x2) w2 r0 r1
    · rw [show decide (V.int k = V.int 3) = false from decide_eq_false (by intro z; injection z with z; exact h3 z)]
      refine iteF ⟨.ref a, rfl, _, _, rfl, rfl, ⟨by decide, by decide, by decide⟩, (by show 3 ≤ sizeLine; decide), fun l nl => ?_⟩
      have hl := w1.ne2 nl
      obtain ⟨kn, rfl⟩ := Int.eq_ofNat_of_zero_le k0
      have hk : kn < 3 := by omega
      obtain ⟨m, hm, m0, m1⟩ : ∃ m : Int, [V.int 3, V.int 40, V.int (10 ^ (6 : Int).toNat)][kn]? = some (.int m) ∧ 0 < m ∧ m ≤ 1000000 := by
        match kn, hk with
        | 0, _ => exact ⟨3, rfl, by decide, by decide⟩
        | 1, _ => exact ⟨40, rfl, by decide, by decide⟩
        | 2, _ => exact ⟨10 ^ (6 : Int).toNat, rfl, by decide, by decide⟩
        | n + 3, h => exact absurd h (by omega)
      have sl : Same H1 (upd H1 l (.lst [V.int 3, V.int 40, V.int (10 ^ (6 : Int).toNat)])) := same_upd nl
      refine ⟨.int (kn : Int), rfl, l, _, _, _, rfl, rfl, sql upd_same, atI_nat hm, a, c, m, rfl, w1.same sl, m0, (by omega), fun H2 r x2 w2 r0 r1 => ?_⟩
      exact q H2 r ((x1.same sl).trans x2) w2 r0 (by omega)
/-! _law_sum -/
def spSum (K : PySem.W.Frag) : Sp := fun vs H Q _ => ∃ (k : Addr) (kvs : Ct), vs = [.ref k] ∧ CtAt K H k kvs ∧ kvs.length ≤ 1000 ∧ ∀ H', Same H H' → Q (.int (sumC kvs)) H'
theorem ok_sum (T : Blt mg) (d : Dnsum K mg) : FnOk P w K mg base CX0 1 d.f d.fd ["_law_counts"] (spSum K) := by
  refine d.F.ok scsum (fun vs H Q E h => ?_) (fun cdv A outer s H vs Q E hr h => ?_)
  · obtain ⟨k, kvs, rfl, _⟩ := h
    rfl
  · obtain ⟨k, kvs, rfl, ⟨ts, hS, hp⟩, hl, q⟩ := h
    refine ⟨_, (pss_one (ps_ret (pe_callB (cr_sum rfl) (by rfl) T.n_sum (by decide +kernel) (pa_cons (pe_lc (own := [("_law_pair", 1)]) (g := gName 1) (tt := tYes) rfl scsum.nd (pi_tup (pv 0)) (blkOk_by (N := Nsum) (sc := defScope ssum) (by decide +kernel)) (fun _ _ _ _ _ => pg_name (i := 1) scsum.nd rfl (Or.inl rfl)) (fun _ _ _ _ _ => pts_nil) (fun _ _ _ _ _ => (pe_ix (r := rIxT K) ix_tup (pv 1) pe_int (fun _ _ => rfl)))) pa_nil)))), ?_⟩
    refine ⟨.ref k, rfl, k, rfl, ⟨_, hS⟩, fun D nD => lc_tup (xs := ts.map V.ref) (fun i H3 => Same H H3 ∧ H3 D = some (.lst ((kvs.take i).map fun e => V.int e.2))) ⟨same_upd nD, upd_same⟩ (fun i H3 _ h3 => seqT hS h3.1) (fun i x H3 hx h3 => ?_) (fun H3 h3 => ?_)⟩
    · obtain ⟨t, ht, rfl⟩ := map_at hx
      obtain ⟨e, he, hat⟩ := paired_at hp ht
      refine ⟨rfl, .ref t, rfl, t, _, _, _, rfl, rfl, seqT hat h3.1, atI_nat (j := 1) rfl, _, h3.2, ?_, fun b o z => ?_, ?_⟩
      · rw [List.length_map, List.length_take, sizeLine_eq]
        omega
      · rw [upd_ne (ne_of_none z nD)]
        exact h3.1 b o z
      · rw [upd_same, List.take_add_one, he, List.map_append]
        rfl
    · refine ⟨D, kvs.map (fun e : Str × Int => e.2), rfl, sql ?_, q H3 h3.1⟩
      rw [h3.2, List.length_map, Paired.length hp, List.take_length, List.map_map]
      rfl
/-! _law_space_fits, of anything -/
end
end Kb

namespace Kb
open PySem PySem.Spec PyProof.Rows L2 SrtZ SrtO
abbrev ssigns : Stmt := topS 32
theorem scsigns : FnScope ["_law_signs_here"] [] (defScope ssigns) := ⟨rfl, rfl, rfl, by decide +kernel, rfl, by decide +kernel, by decide +kernel⟩
abbrev Dnsigns (K : PySem.W.Frag) (mg : Str → Option Value) := Dn K mg "_law_signs" ssigns []
abbrev sstring : Stmt := topS 33
abbrev Nstring : List Str := ["_law_well_here", "_law_many", "_law_signs_here", "_law_k"]
theorem scstring : FnScope ["_law_well_here", "_law_many", "_law_signs_here", "_law_k"] ["_law_well_here", "_law_many"] (defScope sstring) := ⟨rfl, rfl, rfl, by decide +kernel, rfl, by decide +kernel, by decide +kernel⟩
abbrev Dnstring (K : PySem.W.Frag) (mg : Str → Option Value) := Dn K mg "_law_string" sstring ["_law_well_here", "_law_many"]
abbrev sany : Stmt := topS 36
abbrev Nany : List Str := ["_law_well_here", "_law_deep", "_law_kind", "_law_items_here", "_law_k"]
theorem scany : FnScope ["_law_well_here", "_law_deep", "_law_kind", "_law_items_here", "_law_k"] ["_law_well_here", "_law_deep"] (defScope sany) := ⟨rfl, rfl, rfl, by decide +kernel, rfl, by decide +kernel, by decide +kernel⟩
abbrev Dnany (K : PySem.W.Frag) (mg : Str → Option Value) := Dn K mg "_law_any" sany ["_law_well_here", "_law_deep"]
section
variable {X : Cx} {pos : Pos} {x : Str} {p : Pos}
/-- C(), C an own class of errors without own __init__ -/
theorem pmk_bare {C : Addr} {bmB : List Value} {B newId initId : String} (F : ExcBaseFacts B newId initId bmB) (isExc : PySem.W.excIn X.K C bmB newId = true) (at_ : X.mg x = some (.ref C)) (kept : PySem.W.keepIn X.K (.ref C) = true) (may : Raises X (.ref C)) (gl : Gl X x)
    (nodebug : (x == ("__debug__" : Str)) = false := by decide) : PMk X (.Call (.Name x p) [] [] pos) (fun _ H Q => Q (.ref C) none H) := by
  intro pins s σ H Q I h
  refine wpAny_Call_Name_kw (ld_glob I gl at_ ?_ nodebug)
  refine PySem.W.callWith_K0 I.kIn kept ?_
  obtain ⟨_, _, _, _, _, _, _, _, _, _, _, _, _, _, _, _, _, isC, names, noInit, tail⟩ := exc_obj I.kIn isExc
  exact wpAny_call_exc_subT F tail isC names noInit (fun h' e' made => mk_of I made may h (I.hok.gone made.new)) (Nat.zero_le _)
end
/-- an own class of errors -/
structure TxE (K : PySem.W.Frag) (mg : Str → Option Value) (nm : Str) where
  C : Addr
  gC : mg nm = some (.ref C)
  exc : PySem.W.excIn K C [.type "ValueError", .type "Exception", .type "BaseException", .type "object"] "ValueError.__new__" = true
  kp : PySem.W.keepIn K (.ref C) = true
  sub : PySem.W.subIn K (.ref C) (.type "BaseException") = some true
  ty : PySem.W.typeIn K (.ref C) = some (.type "type")
  isC : L2.ExcC K C
def sgn : Str := Str.ofString " !\"#$&'()*+,-./0123456789:;<=>?@ABCDEFGHIJKLMNOPQRSTUVWXYZ[\\]^_`" ++ Str.ofString "abcdefghijklmnopqrstuvwxyz{|}~"
theorem sgn_len : sgn.cps.toList.length = 94 := by decide +kernel
theorem dint (a b : Int) : decide (V.int a = V.int b) = decide (a = b) := by
  by_cases h : a = b
  · rw [decide_eq_true h, decide_eq_true (congrArg V.int h)]
  · rw [decide_eq_false h, decide_eq_false (fun z => h (by injection z))]
theorem sapp_len (a b : Str) : (a ++ b).length = a.length + b.length := by
  show (a.cps ++ b.cps).size = _
  rw [Array.size_append]
  rfl
theorem sgn_asc : ∀ c ∈ sgn.cps.toList, c < 128 := by decide +kernel
theorem asc_iff {z : Str} : ascB z = true ↔ ∀ c ∈ z.cps.toList, c < 128 := by
  unfold ascB
  rw [List.all_eq_true]
  exact ⟨fun h c hc => of_decide_eq_true (h c hc), fun h c hc => decide_eq_true (h c hc)⟩
theorem asc_app {a b : Str} (h : ascB a = true) (k : ascB b = true) : ascB (a ++ b) = true := asc_iff.mpr fun c hc => by
  have hc : c ∈ cs (a ++ b) := hc
  rw [cs_app] at hc
  exact (List.mem_append.mp hc).elim (asc_iff.mp h c) (asc_iff.mp k c)
theorem asc_nm {z : Str} (h : Nm z) : ascB z = true := asc_iff.mpr fun c hc => by
  have := h.abc c hc
  unfold nmC at this
  have h2 : (!decide (122 < c)) = true := by
    cases hx : (!decide (122 < c)) with
    | true => rfl
    | false => rw [hx] at this; simp at this
  have h3 : ¬ 122 < c := by simpa using h2
  omega
theorem asc_S {l : List Nat} (h : ∀ c ∈ l, c < 128) : ascB (S l) = true := asc_iff.mpr fun c hc => h c (by
  have hc : c ∈ cs (S l) := hc
  rw [cs_S] at hc
  exact hc)
theorem mergeA (l : Addr) : mergeK [] [(.inr (Str.ofString "a"), V.ref l), (.inl 1, V.non)] = [(.inr (Str.ofString "a"), V.ref l), (.inl 1, V.non)] := by
  simp [mergeK, putK]
section
variable {P : Program} {w : World} {K : PySem.W.Frag} {mg : Str → Option Value} {base : Heap}
def spSigns : Sp := fun vs H Q _ => vs = [] ∧ Q (.str sgn) H
theorem ok_signs (T : Blt mg) (d : Dnsigns K mg) : FnOk P w K mg base CX0 1 d.f d.fd [] spSigns := by
  refine d.F.ok scsigns (fun vs H Q E h => ?_) (fun cdv A outer s H vs Q E hr h => ?_)
  · obtain ⟨rfl, _⟩ := h
    rfl
  · obtain ⟨rfl, q⟩ := h
    refine ⟨_, (pss_cons (ps_set (i := 0) scsigns.nd rfl (Or.inl rfl) pe_str)
    (pss_one (ps_ret (pe_op op_add_str (pv 0) pe_str)))), ?_⟩
    exact ⟨_, rfl, _, _, rfl, rfl, (by decide +kernel), q⟩
def spString : Sp := fun vs H Q _ => ∃ (a c : Addr) (m : Nat), vs = [.ref a, .int (m : Int)] ∧ Wl a c H ∧ m ≤ 1000 ∧ ∀ H' z, Exw a H H' → Wl a c H' → z.length = m → ascB z = true → Q (.str z) H'
theorem ok_string (T : Blt mg) (dmixed : Dnmixed K mg) (dfilled : Dnfilled K mg) (ddraw : Dndraw K mg) (dsigns : Dnsigns K mg) (d : Dnstring K mg) : FnOk P w K mg base CX0 4 d.f d.fd ["_law_well_here", "_law_many"] spString := by
  have Gdraw : FnOk P w K mg base CX0 3 ddraw.f ddraw.fd ["_law_well_here", "_law_many"] spDraw := ok_draw T dmixed dfilled ddraw
  have Gsigns : FnOk P w K mg base CX0 1 dsigns.f dsigns.fd [] spSigns := ok_signs T dsigns
  refine d.F.ok scstring (fun vs H Q E h => ?_) (fun cdv A outer s H vs Q E hr h => ?_)
  · obtain ⟨a, c, m, rfl, _⟩ := h
    rfl
  · obtain ⟨a, c, m, rfl, hw, hm, q⟩ := h
    refine ⟨_, (pss_cons (ps_asg (pe_call0 Gsigns (hr.mono (by omega)) (by rfl) dsigns.g dsigns.F.kp dsigns.b .nil pass0) (pg_name (i := 2) scstring.nd rfl (Or.inr rfl)))
    (pss_one (ps_ret (pe_join pe_str (pe_lc (own := [("_law_k", 3)]) (g := gName 3) (tt := tYes) rfl scstring.nd (pi_range1 (by rfl) T.n_range (pa_cons (pv 1) pa_nil)) (blkOk_by (N := Nstring) (sc := defScope sstring) (by decide +kernel)) (fun _ _ _ _ _ => pg_name (i := 3) scstring.nd rfl (Or.inl rfl)) (fun _ _ _ _ _ => pts_nil) (fun _ _ _ _ _ => (pe_ix ix_str (pv 2) (pe_call Gdraw (hr.mono (by omega)) (by rfl) ddraw.g ddraw.F.kp ddraw.b .nil pass0 (pa_cons (pv 0) (pa_cons pe_int pa_nil))) (fun _ _ => rfl)))))))), ?_⟩
    refine ⟨rfl, ⟨_, rfl⟩, .int (m : Int), rfl, (m : Int), rfl, (by omega), (by omega), fun D nD => ?_⟩
    rw [Int.toNat_natCast]
    have hD := hw.ne2 nD
    refine lc_range (lo := 0) (n := m) (fun i H8 => Exw a H H8 ∧ Wl a c H8 ∧ ∃ l : List Nat, H8 D = some (.lst (l.map fun c => V.str (S [c]))) ∧ l.length = i ∧ ∀ c ∈ l, c < 128) ⟨(Exw.refl a H).put nD, hw.same (same_upd nD), [], upd_same, rfl, fun _ h => (nomatch h)⟩ (fun i H8 hi h8 => ?_) (fun H8 h8 => ?_)
    · obtain ⟨x8, p8, l, hD8, hl, hla⟩ := h8
      refine ⟨rfl, _, rfl, .ref a, rfl, a, c, 94, rfl, p8, (by decide), (by decide), fun H9 c' x9 p9 c0 c26 => ?_⟩
      obtain ⟨c', rfl⟩ := Int.eq_ofNat_of_zero_le c0
      have hc26 : c' < sgn.cps.toList.length := by rw [sgn_len]; omega
      refine ⟨_, _, _, rfl, rfl, (by decide +kernel), atI_nat (List.getElem?_eq_getElem hc26), _, x9 D _ hD.1 hD8, ?_, (x8.trans x9).put nD, p9.put hD, l ++ [sgn.cps.toList[c']], ?_, ?_, fun x hx => ?_⟩
      · rw [List.length_map, hl, sizeLine_eq]
        omega
      · rw [upd_same, List.map_append]
        rfl
      · rw [List.length_append, hl]
        rfl
      · rcases List.mem_append.mp hx with h | h
        · exact hla x h
        · rw [List.mem_singleton.mp h]
          exact sgn_asc _ (List.getElem_mem hc26)
    obtain ⟨x8, p8, l, hD8, hl, hla⟩ := h8
    have ej : Txt.join (Str.ofString "") (l.map fun c => S [c]) = S l := join_signs l
    refine ⟨_, D, l.map fun c => S [c], rfl, rfl, .inl (sql (by rw [hD8, List.map_map]; rfl)), ?_, ?_⟩
    · rw [List.map_map, List.length_map, signs_len]
      show l.length + l.length * 0 ≤ 16777216
      omega
    · rw [ej]
      exact q H8 _ x8 p8 (by rw [S_len]; exact hl) (asc_S hla)
/-! _law_any -/
def spAny (C : Addr) (n : Nat) : Sp := fun vs H Q _ => ∃ (a c : Addr), vs = [.ref a, .int (n : Int)] ∧ Wl a c H ∧ ∀ H' v d, Exw a H H' → Wl a c H' → DatAt (fun b => H b ≠ none) C (2 ^ 31) 20 n H' v d → wD d ≤ 200 * 4 ^ n → Q v H'
def spAny' (C : Addr) : Nat → Sp
  | 0 => fun _ _ _ _ => False
  | n + 1 => spAny C n
theorem ok_any' (T : Blt mg) (N : TxE K mg "NoTree") (dmixed : Dnmixed K mg) (dfilled : Dnfilled K mg) (ddraw : Dndraw K mg) (dnumber : Dnnumber K mg) (dsigns : Dnsigns K mg) (dstring : Dnstring K mg) (dname : Dnname K mg) (dany : Dnany K mg) (n : Nat) (Gany : FnOk P w K mg base CX0 (n + 4) dany.f dany.fd ["_law_well_here", "_law_deep"] (spAny' N.C n)) : FnOk P w K mg base CX0 (n + 5) dany.f dany.fd ["_law_well_here", "_law_deep"] (spAny N.C n) := by
  have Gdraw : FnOk P w K mg base CX0 3 ddraw.f ddraw.fd ["_law_well_here", "_law_many"] spDraw := ok_draw T dmixed dfilled ddraw
  have Gnumber : FnOk P w K mg base CX0 4 dnumber.f dnumber.fd ["_law_well_here"] spNumber := ok_number T dmixed dfilled ddraw dnumber
  have Gstring : FnOk P w K mg base CX0 4 dstring.f dstring.fd ["_law_well_here", "_law_many"] spString := ok_string T dmixed dfilled ddraw dsigns dstring
  have Gname : FnOk P w K mg base CX0 4 dname.f dname.fd ["_law_well_here"] spName := ok_name T dmixed dfilled ddraw dname
  refine dany.F.ok scany (fun vs H Q E h => ?_) (fun cdv A outer s H vs Q E hr h => ?_)
  · obtain ⟨a, c, rfl, _⟩ := h
    rfl
  · obtain ⟨a, c, rfl, hw, q⟩ := h
    refine ⟨_, (pss_cons (ps_set (i := 2) scany.nd rfl (Or.inl rfl) (pe_call Gdraw (hr.mono (by omega)) (by rfl) ddraw.g ddraw.F.kp ddraw.b .nil pass0 (pa_cons (pv 0) (pa_cons pe_int pa_nil))))
    (C8.pss_cut (ps_if (pt_cmpR op_eq (pv 1) pe_int (nomark _))
      (pss_one (ps_set (i := 2) scany.nd rfl (Or.inl rfl) (pe_op op_modB (pe_callTy call_int1 (by rfl) T.n_int (by decide +kernel) (pa_cons (pv 2) pa_nil)) pe_int)))
      pss_nil)
    (pss_cons (ps_if (pt_cmpR op_eq (pv 2) pe_int (nomark _))
      (pss_one (ps_ret (pe_op op_sub (pe_call Gdraw (hr.mono (by omega)) (by rfl) ddraw.g ddraw.F.kp ddraw.b .nil pass0 (pa_cons (pv 0) (pa_cons pe_int pa_nil))) pe_int)))
      pss_nil)
    (pss_cons (ps_if (pt_cmpR op_eq (pv 2) pe_int (nomark _))
      (pss_one (ps_ret (pe_op op_sub (pe_un un_neg pe_int) (pe_call Gnumber (hr.mono (by omega)) (by rfl) dnumber.g dnumber.F.kp dnumber.b .nil pass0 (pa_cons (pv 0) pa_nil)))))
      pss_nil)
    (pss_cons (ps_if (pt_cmpR op_eq (pv 2) pe_int (nomark _))
      (pss_one (ps_ret (pe_cmpR op_eq (pe_call Gdraw (hr.mono (by omega)) (by rfl) ddraw.g ddraw.F.kp ddraw.b .nil pass0 (pa_cons (pv 0) (pa_cons pe_int pa_nil))) pe_int (nomark _))))
      pss_nil)
    (pss_cons (ps_if (pt_cmpR op_eq (pv 2) pe_int (nomark _))
      (pss_one (ps_ret pe_non))
      pss_nil)
    (pss_cons (ps_if (pt_cmpR op_eq (pv 2) pe_int (nomark _))
      (pss_one (ps_ret (pe_call Gstring (hr.mono (by omega)) (by rfl) dstring.g dstring.F.kp dstring.b .nil pass0 (pa_cons (pv 0) (pa_cons (pe_call Gdraw (hr.mono (by omega)) (by rfl) ddraw.g ddraw.F.kp ddraw.b .nil pass0 (pa_cons (pv 0) (pa_cons pe_int pa_nil))) pa_nil)))))
      pss_nil)
    (pss_cons (ps_if (pt_cmpR op_eq (pv 2) pe_int (nomark _))
      (pss_one (ps_ret (pe_op op_add_str (pe_call Gname (hr.mono (by omega)) (by rfl) dname.g dname.F.kp dname.b .nil pass0 (pa_cons (pv 0) pa_nil)) (pe_ix ix_list (pe_lst (pa_cons pe_str (pa_cons pe_str (pa_cons pe_str (pa_cons pe_str pa_nil))))) (pe_call Gdraw (hr.mono (by omega)) (by rfl) ddraw.g ddraw.F.kp ddraw.b .nil pass0 (pa_cons (pv 0) (pa_cons pe_int pa_nil))) (fun _ _ => rfl)))))
      pss_nil)
    (pss_cons (ps_setLc (i := 3) (own := [("_law_k", 4)]) (g := gName 4) (tt := tYes) rfl scany.nd rfl rfl (sw_true rfl rfl rfl (by decide +kernel)) (pi_range1 (by rfl) T.n_range (pa_cons (pe_call Gdraw (hr.mono (by omega)) (by rfl) ddraw.g ddraw.F.kp ddraw.b .nil pass0 (pa_cons (pv 0) (pa_cons pe_int pa_nil))) pa_nil)) (blkOk_by (N := Nany) (sc := defScope sany) (by decide +kernel)) (fun _ _ _ _ _ => pg_name (i := 4) scany.nd rfl (Or.inl rfl)) (fun _ _ _ _ _ => pts_nil) (fun _ _ _ _ _ => (pe_call Gany (hr.mono (by omega)) (by rfl) dany.g dany.F.kp dany.b .nil pass0 (pa_cons (pv 0) (pa_cons (pe_op op_sub (pv 1) pe_int) pa_nil)))))
    (pss_cons (ps_if (pt_cmpR op_le (pv 2) pe_int (nomark _))
      (pss_one (ps_ret (pe_callTy call_tupleF (by rfl) T.n_tuple (by decide +kernel) (pa_cons (pv 3) pa_nil))))
      pss_nil)
    (pss_cons (ps_if (pt_cmpR op_eq (pv 2) pe_int (nomark _))
      (pss_one (ps_ret (pv 3)))
      pss_nil)
    (pss_cons (ps_if (pt_cmpR op_eq (pv 2) pe_int (nomark _))
      (pss_one (ps_ret (pe_disp (pps_cons pe_str (pv 3) (pps_cons pe_int pe_non pps_nil)) rfl rfl (by simp) (by decide))))
      pss_nil)
    (pss_one (ps_ret (pe_excN PySem.F.excBase_ValueError N.exc N.gC N.kp rfl))))))))))))))), ?_⟩
    refine ⟨.ref a, rfl, a, c, 12, rfl, hw, (by decide), (by decide), fun H1 k x1 w1 k0 k1 => ?_⟩
    obtain ⟨kn, rfl⟩ := Int.eq_ofNat_of_zero_le k0
    refine ⟨fun σ H3 => ∃ k : Nat, k < 12 ∧ (n = 0 → k < 6) ∧ σ = [some (.ref a), some (.int (n : Int)), some (.int (k : Int)), none, none] ∧ Exw a H H3 ∧ Wl a c H3, ?_, ?_⟩
    · refine ⟨.int (n : Int), rfl, rfl, decide ((n : Int) = 0), congrArg V.bl (dint _ _), ?_⟩
      by_cases hn : (n : Int) = 0
      · rw [decide_eq_true hn]
        refine iteT ⟨.int (kn : Int), rfl, .inl ⟨_, rfl, _, _, rfl, rfl, by decide, fun m m0 m1 hm => ?_⟩⟩
        obtain ⟨m, rfl⟩ := Int.eq_ofNat_of_zero_le m0
        exact ⟨m, by omega, fun _ => by omega, rfl, x1, w1⟩
      · rw [decide_eq_false hn]
        exact iteF ⟨kn, by omega, fun h => absurd h (by omega), rfl, x1, w1⟩
    · rintro σ H3 ⟨k, k12, k6, rfl, x3, w3⟩
      have pw : 1 ≤ 4 ^ n := Nat.one_le_pow n 4 (by decide)
      have tst : ∀ (m : Int), decide (V.int (k : Int) = V.int m) = decide ((k : Int) = m) := fun m => dint _ _
      refine ⟨.int (k : Int), rfl, rfl, _, congrArg V.bl (tst 0), ?_⟩
      by_cases h0 : (k : Int) = 0
      · rw [decide_eq_true h0]
        refine iteT ⟨.ref a, rfl, a, c, 120, rfl, w3, by decide, by decide, fun H4 r x4 w4 r0 r1 => ⟨_, _, rfl, rfl, ?_⟩⟩
        exact q H4 _ (.int (r - 20)) (x3.trans x4) w4 (.lint (by omega)) (by show 60 ≤ _; omega)
      rw [decide_eq_false h0]
      refine iteF ⟨.int (k : Int), rfl, rfl, _, congrArg V.bl (tst 1), ?_⟩
      by_cases h1 : (k : Int) = 1
      · rw [decide_eq_true h1]
        refine iteT ⟨1, rfl, .ref a, rfl, a, c, rfl, w3, fun H4 r x4 w4 r0 r1 => ⟨_, _, rfl, rfl, ?_⟩⟩
        exact q H4 _ (.int (-1 - r)) (x3.trans x4) w4 (.lint (by omega)) (by show 60 ≤ _; omega)
      rw [decide_eq_false h1]
      refine iteF ⟨.int (k : Int), rfl, rfl, _, congrArg V.bl (tst 2), ?_⟩
      by_cases h2 : (k : Int) = 2
      · rw [decide_eq_true h2]
        refine iteT ⟨.ref a, rfl, a, c, 2, rfl, w3, by decide, by decide, fun H4 r x4 w4 r0 r1 => ⟨rfl, ?_⟩⟩
        exact q H4 _ (.bl _) (x3.trans x4) w4 .lbl (by show 10 ≤ _; omega)
      rw [decide_eq_false h2]
      refine iteF ⟨.int (k : Int), rfl, rfl, _, congrArg V.bl (tst 3), ?_⟩
      by_cases h3 : (k : Int) = 3
      · rw [decide_eq_true h3]
        exact iteT (q H3 _ .non x3 w3 .lnon (by show 10 ≤ _; omega))
      rw [decide_eq_false h3]
      refine iteF ⟨.int (k : Int), rfl, rfl, _, congrArg V.bl (tst 4), ?_⟩
      by_cases h4 : (k : Int) = 4
      · rw [decide_eq_true h4]
        refine iteT ⟨.ref a, rfl, .ref a, rfl, a, c, 11, rfl, w3, by decide, by decide, fun H4 r x4 w4 r0 r1 => ?_⟩
        obtain ⟨r, rfl⟩ := Int.eq_ofNat_of_zero_le r0
        refine ⟨a, c, r, rfl, w4, by omega, fun H5 z x5 w5 hz ha => ?_⟩
        exact q H5 _ (.str z) ((x3.trans x4).trans x5) w5 (.lstr (by omega) ha) (by show 15 * z.length + 20 ≤ _; omega)
      rw [decide_eq_false h4]
      refine iteF ⟨.int (k : Int), rfl, rfl, _, congrArg V.bl (tst 5), ?_⟩
      by_cases h5 : (k : Int) = 5
      · rw [decide_eq_true h5]
        refine iteT ⟨.ref a, rfl, a, c, rfl, w3, fun H4 z x4 w4 hz => ⟨(by show 4 ≤ sizeLine; decide), fun l nl => ?_⟩⟩
        have sl := same_upd (o := .lst [.str (Str.ofString ""), .str (Str.ofString "\n"), .str (Str.ofString "A"), .str (Str.ofString "0")]) nl
        have hl : (upd H4 l (.lst [.str (Str.ofString ""), .str (Str.ofString "\n"), .str (Str.ofString "A"), .str (Str.ofString "0")])) l = some (.lst [.str (Str.ofString ""), .str (Str.ofString "\n"), .str (Str.ofString "A"), .str (Str.ofString "0")]) := upd_same
        have la := w4.ne2 nl
        generalize upd H4 l (.lst [.str (Str.ofString ""), .str (Str.ofString "\n"), .str (Str.ofString "A"), .str (Str.ofString "0")]) = H5 at sl hl ⊢
        refine ⟨.ref a, rfl, a, c, 4, rfl, w4.same sl, by decide, by decide, fun H6 r x6 w6 r0 r1 => ?_⟩
        obtain ⟨r, rfl⟩ := Int.eq_ofNat_of_zero_le r0
        obtain ⟨y, hy, yl, ya⟩ : ∃ y : Str, ([.str (Str.ofString ""), .str (Str.ofString "\n"), .str (Str.ofString "A"), .str (Str.ofString "0")] : List V)[r]? = some (.str y) ∧ y.length ≤ 1 ∧ ascB y = true := by
          match r, (show r < 4 by omega) with
          | 0, _ => exact ⟨_, rfl, by decide +kernel, by decide +kernel⟩
          | 1, _ => exact ⟨_, rfl, by decide +kernel, by decide +kernel⟩
          | 2, _ => exact ⟨_, rfl, by decide +kernel, by decide +kernel⟩
          | 3, _ => exact ⟨_, rfl, by decide +kernel, by decide +kernel⟩
          | n + 4, h => exact absurd h (by omega)
        have zl := hz.len
        refine ⟨l, _, _, _, rfl, rfl, sql (x6 _ _ la.1 hl), atI_nat hy, _, _, rfl, rfl, (by rw [sizeLine_eq]; omega), ?_⟩
        exact q H6 _ (.str (z ++ y)) (((x3.trans x4).same sl).trans x6) w6 (.lstr (by rw [sapp_len]; omega) (asc_app (asc_nm hz) ya)) (by show 15 * (z ++ y).length + 20 ≤ _; rw [sapp_len]; omega)
      rw [decide_eq_false h5]
      -- items
      obtain ⟨m, rfl⟩ : ∃ m, n = m + 1 := ⟨n - 1, by have : n ≠ 0 := fun h => by have := k6 h; omega
                                                     omega⟩
      refine iteF ⟨.ref a, rfl, a, c, 4, rfl, w3, by decide, by decide, fun H4 r x4 w4 r0 r1 => ?_⟩
      obtain ⟨r, rfl⟩ := Int.eq_ofNat_of_zero_le r0
      clear pw
      have pw : 1 ≤ 4 ^ m := Nat.one_le_pow m 4 (by decide)
      rw [Nat.pow_succ] at q
      refine ⟨(r : Int), rfl, by omega, by omega, fun D nD => ?_⟩
      rw [Int.toNat_natCast]
      have hD := w4.ne2 nD
      have x04 := x3.trans x4
      refine lc_range (lo := 0) (n := r) (fun i H8 => Exw a H4 H8 ∧ Wl a c H8 ∧ ∃ (vs : List V) (ds : List Dat), H8 D = some (.lst vs) ∧ Paired (DatAt (fun b => H b ≠ none ∨ b = D) N.C (2 ^ 31) 20 m H8) vs ds ∧ vs.length = i ∧ wDs ds ≤ i * (200 * 4 ^ m + 2)) ⟨(Exw.refl a H4).put nD, w4.same (same_upd nD), [], [], upd_same, .nil, rfl, Nat.zero_le _⟩ (fun i H8 hi h8 => ?_) (fun H8 h8 => ?_)
      · obtain ⟨x8, p8, vs, ds, hD8, hp, hl, hW⟩ := h8
        refine ⟨rfl, .ref a, rfl, .int ((m + 1 : Nat) : Int), rfl, _, _, rfl, rfl, a, c, ?_, p8, fun H9 v d x9 w9 hd hwd => ?_⟩
        · show [V.ref a, V.int (((m + 1 : Nat) : Int) - 1)] = _
          rw [show ((m + 1 : Nat) : Int) - 1 = (m : Int) by push_cast; omega]
        · have hD9 := x9 D _ hD.1 hD8
          have fa : (fun b => H b ≠ none ∨ b = D) a := .inl hw.dom
          have kk : DKeep (fun b => H b ≠ none ∨ b = D) N.C H8 (upd H9 D (.lst (vs ++ [v]))) := (dk_exw x9 p8 fa).trans (dk_put hD9 (.inr rfl))
          have hsub : ∀ b, (H b ≠ none ∨ b = D) → H8 b ≠ none := fun b hb => by
            rcases hb with hb | rfl
            · exact (x04.trans x8).dom p8 b hb
            · rw [hD8]; intro z; cases z
          have hd' := hd.wide hsub (Nat.le_refl _) (Nat.le_refl _) (Nat.le_refl _)
          refine ⟨vs, hD9, by rw [hl, sizeLine_eq]; omega, (x8.trans x9).put nD, w9.put hD, vs ++ [v], ds ++ [d], upd_same, paired_snoc (paired_imp (fun _ _ h => h.keep kk) hp) (hd'.keep (dk_put hD9 (.inr rfl))), by rw [List.length_append, hl]; rfl, ?_⟩
          rw [wDs_app, Nat.succ_mul]
          show wDs ds + (wD d + 2 + 0) ≤ _
          omega
      obtain ⟨x8, p8, vs, ds, hD8, hp, hl, hW⟩ := h8
      have x08 := x04.trans x8
      have hp : Paired (DatAt (fun b => H b ≠ none) N.C (2 ^ 31) 20 m H8) vs ds := paired_imp (fun _ _ h => h.wide (fun b hb => .inl hb) (Nat.le_refl _) (Nat.le_refl _) (Nat.le_refl _)) hp
      have nF : ¬ (H D ≠ none) := fun z => z (Exw.gone x04 hD.1 nD)
      have hW : wDs ds + 60 ≤ 200 * (4 ^ m * 4) := by
        have := Nat.mul_le_mul_right (200 * 4 ^ m + 2) (show r ≤ 3 by omega)
        omega
      refine ⟨.int (k : Int), rfl, _, _, rfl, rfl, decide ((k : Int) ≤ 8), rfl, ?_⟩
      by_cases h8 : (k : Int) ≤ 8
      · rw [decide_eq_true h8]
        refine iteT ⟨.ref D, rfl, D, vs, rfl, sql hD8, fun p o np ho => ?_⟩
        have sp := same_upd (o := .frz o (.tup vs)) np
        exact q _ _ (.tup ds) (x08.same sp) (p8.same sp) (.ltup ⟨o, upd_same, ho⟩ (by omega) (paired_imp (fun _ _ h => h.same sp) hp)) (by show 10 + wDs ds ≤ _; omega)
      rw [decide_eq_false h8]
      refine iteF ⟨.int (k : Int), rfl, rfl, _, congrArg V.bl (tst 9), ?_⟩
      by_cases h9 : (k : Int) = 9
      · rw [decide_eq_true h9]
        exact iteT ⟨.ref D, rfl, q H8 _ (.lst ds) x08 p8 (.llst nF hD8 (by omega) hp) (by show 10 + wDs ds ≤ _; omega)⟩
      rw [decide_eq_false h9]
      refine iteF ⟨.int (k : Int), rfl, rfl, _, congrArg V.bl (tst 10), ?_⟩
      by_cases h10 : (k : Int) = 10
      · rw [decide_eq_true h10]
        refine iteT fun p np => ?_
        have sp := same_upd (o := .dK []) np
        refine ⟨.ref D, rfl, upd_same, [(.inr (Str.ofString "a"), .ref D), (.inl 1, .non)], rfl, (by show 2 ≤ 15; decide), ?_⟩
        have sp2 : Same H8 (upd (upd H8 p (.dK [])) p (.dK (mergeK [] [(.inr (Str.ofString "a"), .ref D), (.inl 1, .non)]))) := Same.put sp np
        rw [mergeA] at sp2 ⊢
        exact q _ _ (.dic ds) (x08.same sp2) (p8.same sp2) (.ldic upd_same nF (sp2 _ _ hD8) (by omega) (paired_imp (fun _ _ h => h.same sp2) hp)) (by show 60 + wDs ds ≤ _; omega)
      rw [decide_eq_false h10]
      refine iteF fun p t o hpt np nt ho => ?_
      have s1 := same_upd (o := .frz o (.tup [])) nt
      have k1 : Ptp (upd H8 t (.frz o (.tup []))) t [] := ⟨o, upd_same, ho⟩
      have np1 : (upd H8 t (.frz o (.tup []))) p = none := by rw [upd_ne hpt]; exact np
      have s2 := same_upd (o := ExN N.C p t) np1
      have sp := Same.trans s1 s2
      exact q _ _ .err (x08.same sp) (p8.same sp) (.lerr upd_same (k1.same s2)) (by show 200 ≤ _; omega)
theorem ok_any (T : Blt mg) (N : TxE K mg "NoTree") (dmixed : Dnmixed K mg) (dfilled : Dnfilled K mg) (ddraw : Dndraw K mg) (dnumber : Dnnumber K mg) (dsigns : Dnsigns K mg) (dstring : Dnstring K mg) (dname : Dnname K mg) (dany : Dnany K mg) : ∀ n : Nat, FnOk P w K mg base CX0 (n + 4) dany.f dany.fd ["_law_well_here", "_law_deep"] (spAny' N.C n)
  | 0 => dany.F.ok scany (fun _ _ _ _ h => h.elim) (fun _ _ _ _ _ _ _ _ _ h => h.elim)
  | n + 1 => ok_any' T N dmixed dfilled ddraw dnumber dsigns dstring dname dany n (ok_any T N dmixed dfilled ddraw dnumber dsigns dstring dname dany n)
end
end Kb

namespace Kb
open PySem PySem.Spec PyProof.Rows L2 SrtZ SrtO
abbrev snodes : Stmt := topS 37
abbrev Nnodes : List Str := ["_law_thing_here", "_law_item_here"]
theorem scnodes : FnScope ["_law_thing_here", "_law_item_here"] ["_law_thing_here"] (defScope snodes) := ⟨rfl, rfl, rfl, by decide +kernel, rfl, by decide +kernel, by decide +kernel⟩
abbrev Dnnodes (K : PySem.W.Frag) (mg : Str → Option Value) := Dn K mg "_law_nodes" snodes ["_law_thing_here"]
abbrev schanged : Stmt := topS 38
theorem scchanged : FnScope ["_law_thing_here", "_law_well_here", "_law_kind", "_law_turned"] ["_law_thing_here", "_law_well_here"] (defScope schanged) := ⟨rfl, rfl, rfl, by decide +kernel, rfl, by decide +kernel, by decide +kernel⟩
abbrev Dnchanged (K : PySem.W.Frag) (mg : Str → Option Value) := Dn K mg "_law_changed" schanged ["_law_thing_here", "_law_well_here"]
mutual
def nod : Dat → Nat
  | .tup xs => 1 + nodL xs
  | _ => 1
def nodL : List Dat → Nat
  | [] => 0
  | x :: xs => nod x + nodL xs
end
theorem nodL_sum : ∀ ds : List Dat, (ds.map fun d => ((nod d : Nat) : Int)).sum = ((nodL ds : Nat) : Int)
  | [] => by unfold nodL; rfl
  | d :: ds => by
    rw [List.map_cons, List.sum_cons, nodL_sum ds, show nodL (d :: ds) = nod d + nodL ds by rw [nodL]]
    push_cast
    rfl
theorem nod_tup (ds : List Dat) : nod (.tup ds) = 1 + nodL ds := by unfold nod; rfl
theorem paired_drop {α β : Type} {F : α → β → Prop} : ∀ {xs : List α} {ys : List β} (n : Nat), Paired F xs ys → Paired F (xs.drop n) (ys.drop n)
  | _, _, 0, h => h
  | _, _, _ + 1, .nil => .nil
  | _, _, n + 1, .cons _ t => paired_drop n t
theorem paired_take {α β : Type} {F : α → β → Prop} : ∀ {xs : List α} {ys : List β} (n : Nat), Paired F xs ys → Paired F (xs.take n) (ys.take n)
  | _, _, 0, _ => .nil
  | _, _, _ + 1, .nil => .nil
  | _, _, n + 1, .cons h t => .cons h (paired_take n t)
theorem paired_app {α β : Type} {F : α → β → Prop} : ∀ {xs xs' : List α} {ys ys' : List β}, Paired F xs ys → Paired F xs' ys' → Paired F (xs ++ xs') (ys ++ ys')
  | _, _, _, _, .nil, k => k
  | _, _, _, _, .cons h t, k => .cons h (paired_app t k)
theorem pick {α β : Type} {F : α → β → Prop} {xs : List α} {ys : List β} {j : Nat} (p : Paired F xs ys) (h : j < xs.length) : ∃ x y, xs[j]? = some x ∧ F x y := by
  have e := List.getElem?_eq_getElem h
  obtain ⟨y, _, hy⟩ := paired_at p e
  exact ⟨_, y, e, hy⟩
def cutD (ds : List Dat) (lo hi : Option Int) : List Dat := (ds.drop (HT.sIx ds.length 0 lo)).take (HT.sIx ds.length ds.length hi - HT.sIx ds.length 0 lo)
theorem wDs_take (n : Nat) : ∀ ds : List Dat, wDs (ds.take n) + wDs (ds.drop n) = wDs ds := fun ds => by
  rw [← wDs_app, List.take_append_drop]
theorem wDs_cut (ds : List Dat) (lo hi : Option Int) : wDs (cutD ds lo hi) ≤ wDs ds := by
  have h1 := wDs_take (HT.sIx ds.length 0 lo) ds
  have h2 := wDs_take (HT.sIx ds.length ds.length hi - HT.sIx ds.length 0 lo) (ds.drop (HT.sIx ds.length 0 lo))
  show wDs ((ds.drop (HT.sIx ds.length 0 lo)).take _) ≤ _
  omega
/-- a plain tuple of anything -/
def Tq (F : Addr → Prop) (C : Addr) (B L n m : Nat) (H : Hp) (a : Addr) (ds : List Dat) : Prop := ∃ xs : List V, Ptp H a xs ∧ xs.length ≤ m ∧ Paired (DatAt F C B L n H) xs ds
theorem Tq.keep {F : Addr → Prop} {C : Addr} {B L n m : Nat} {H H' : Hp} {a : Addr} {ds : List Dat} (h : Tq F C B L n m H a ds) (k : DKeep F C H H') : Tq F C B L n m H' a ds := by
  obtain ⟨xs, h1, h2, h3⟩ := h
  exact ⟨xs, k.t a xs h1, h2, paired_imp (fun _ _ h => h.keep k) h3⟩
theorem Tq.same {F : Addr → Prop} {C : Addr} {B L n m : Nat} {H H' : Hp} {a : Addr} {ds : List Dat} (h : Tq F C B L n m H a ds) (s : Same H H') : Tq F C B L n m H' a ds := h.keep (dk_same s)
theorem Tq.dat {F : Addr → Prop} {C : Addr} {B L B' L' n m : Nat} {H : Hp} {a : Addr} {ds : List Dat} (h : Tq F C B L n m H a ds) (hB : B ≤ B') (hL : L ≤ L') (hm : m ≤ L') : DatAt F C B' L' (n + 1) H (.ref a) (.tup ds) := by
  obtain ⟨xs, h1, h2, h3⟩ := h
  exact .ltup h1 (by omega) (paired_imp (fun _ _ h => h.wide (fun _ h => h) hB hL (Nat.le_refl _)) h3)
theorem tq_sl {K : PySem.W.Frag} {F : Addr → Prop} {C : Addr} {B L n m : Nat} {H : Hp} {Q : VK} {t : Addr} {ds : List Dat} {lo hi : Option Int} (h : Tq F C B L n m H t ds) (q : ∀ p H', Same H H' → Tq F C B L n m H' p (cutD ds lo hi) → Q (.ref p) H') : rSlP K (.ref t) lo hi H Q := by
  obtain ⟨xs, h1, h2, h3⟩ := h
  have hl := Paired.length h3
  refine ⟨t, xs, rfl, h1, fun p H' s hp => q p H' s ⟨cutV xs lo hi, hp, Nat.le_trans (cutV_length _ _ _) h2, ?_⟩⟩
  unfold cutV cutD
  rw [← hl]
  exact paired_take _ (paired_drop _ (paired_imp (fun _ _ h => h.same s) h3))
theorem tq_sln {K : PySem.W.Frag} {F : Addr → Prop} {C : Addr} {B L n m : Nat} {σ : L2.St} {H : Hp} {Q : VK} {t : Addr} {ds : List Dat} {lo : Option Int} (h : Tq F C B L n m H t ds) (q : ∀ p H', Same H H' → Tq F C B L n m H' p (cutD ds lo none) → Q (.ref p) H') : tNoPart σ H fun u H3 => rSlP K (.ref t) lo u H3 Q := tq_sl (K := K) h q
theorem tq_cat {K : PySem.W.Frag} {F : Addr → Prop} {C : Addr} {B L n m1 m2 : Nat} {H : Hp} {Q : VK} {a b : Addr} {ds es : List Dat} (h : Tq F C B L n m1 H a ds) (g : Tq F C B L n m2 H b es) (hm : m1 + m2 ≤ 1000000) (q : ∀ p H', Same H H' → Tq F C B L n (m1 + m2) H' p (ds ++ es) → Q (.ref p) H') : rCatP K (.ref a) (.ref b) H Q := by
  obtain ⟨xs, h1, h2, h3⟩ := h
  obtain ⟨ys, g1, g2, g3⟩ := g
  refine ⟨a, b, xs, ys, rfl, rfl, h1, g1, by rw [sizeLine_eq]; omega, fun p H' s hp => q p H' s ⟨_, hp, by rw [List.length_append]; omega, paired_app (paired_imp (fun _ _ h => h.same s) h3) (paired_imp (fun _ _ h => h.same s) g3)⟩⟩
theorem tq_one {F : Addr → Prop} {C : Addr} {B L n : Nat} {H : Hp} {v : V} {d : Dat} {p : Addr} {o : Obj} (h : DatAt F C B L n H v d) (np : H p = none) (ho : o.dict = none) : Tq F C B L n 1 (upd H p (.frz o (.tup [v]))) p [d] :=
  ⟨[v], ⟨o, upd_same, ho⟩, Nat.le_refl _, .cons (h.same (same_upd np)) .nil⟩
theorem p7 {R : V → Dat → Prop} {a b c d e f g : V} {a' b' c' d' e' f' g' : Dat} (h1 : R a a') (h2 : R b b') (h3 : R c c') (h4 : R d d') (h5 : R e e') (h6 : R f f') (h7 : R g g') : Paired R [a, b, c, d, e, f, g] [a', b', c', d', e', f', g'] :=
  .cons h1 (.cons h2 (.cons h3 (.cons h4 (.cons h5 (.cons h6 (.cons h7 .nil))))))
theorem up1_lt {c : Nat} (h : c < 128) : up1 c < 128 := by
  unfold up1
  split <;> omega
theorem asc_upper {z : Str} (h : ascB z = true) : ascB (Txt.upper z) = true ∧ (Txt.upper z).length = z.length := by
  rw [upper_ascii (asc_iff.mp h)]
  refine ⟨asc_iff.mpr fun c hc => ?_, Array.size_map⟩
  rw [Array.toList_map] at hc
  obtain ⟨x, hx, rfl⟩ := List.mem_map.mp hc
  exact up1_lt (asc_iff.mp h x hx)
theorem asc_cut {z : Str} {lo hi : Option Int} (h : ascB z = true) : ascB (cutS z lo hi) = true := asc_iff.mpr fun c hc => by
  unfold cutS at hc
  exact asc_iff.mp h c (List.mem_of_mem_drop (List.mem_of_mem_take hc))
theorem DatAt.flat {F : Addr → Prop} {C : Addr} {B L n : Nat} {H : Hp} {v : V} {d : Dat} (h : DatAt F C B L n H v d) : (isT d = false ∧ nod d = 1) ∨ ∃ ds, d = .tup ds := by
  cases d with
  | tup ds => exact .inr ⟨ds, rfl⟩
  | _ => exact .inl ⟨rfl, by unfold nod; rfl⟩
theorem flat_of (d : Dat) : (isT d = false ∧ nod d = 1) ∨ ∃ ds, d = .tup ds := by
  cases d with
  | tup ds => exact .inr ⟨ds, rfl⟩
  | _ => exact .inl ⟨rfl, by unfold nod; rfl⟩
section
variable {P : Program} {w : World} {K : PySem.W.Frag} {mg : Str → Option Value} {base : Heap}
/-! _law_nodes -/
def spNodes (K : PySem.W.Frag) (n : Nat) : Sp := fun vs H Q _ => ∃ (v : V) (d : Dat) (F : Addr → Prop) (C : Addr) (B L : Nat), vs = [v] ∧ XcT K C ∧ DatAt F C B L n H v d ∧ L ≤ 1000000 ∧ ∀ H', Same H H' → Q (.int (nod d : Nat)) H'
def spNodes' (K : PySem.W.Frag) : Nat → Sp
  | 0 => fun _ _ _ _ => False
  | n + 1 => spNodes K n
theorem ok_nodes' (T : Blt mg) (dnodes : Dnnodes K mg) (n : Nat) (Gnodes : FnOk P w K mg base CX0 (n + 1) dnodes.f dnodes.fd ["_law_thing_here"] (spNodes' K n)) : FnOk P w K mg base CX0 (n + 2) dnodes.f dnodes.fd ["_law_thing_here"] (spNodes K n) := by
  refine dnodes.F.ok scnodes (fun vs H Q E h => ?_) (fun cdv A outer s H vs Q E hr h => ?_)
  · obtain ⟨v, d, F, C, B, L, rfl, _⟩ := h
    rfl
  · obtain ⟨v, d, F, C, B, L, rfl, hC, hd, hL, q⟩ := h
    refine ⟨_, (pss_cons (ps_if (pt_val (pe_callB (call_isD (K := K) rfl) (by rfl) T.n_isinstance (by decide +kernel) (pa_cons (pv 0) (pa_cons (pe_bltn (v := .ty "tuple") (by rfl) T.n_tuple (by decide +kernel) rfl) pa_nil))))
      (pss_one (ps_ret (pe_op op_add pe_int (pe_callB (cr_sum rfl) (by rfl) T.n_sum (by decide +kernel) (pa_cons (pe_lc (own := [("_law_item_here", 1)]) (g := gName 1) (tt := tYes) rfl scnodes.nd (pi_tup (pv 0)) (blkOk_by (N := Nnodes) (sc := defScope snodes) (by decide +kernel)) (fun _ _ _ _ _ => pg_name (i := 1) scnodes.nd rfl (Or.inl rfl)) (fun _ _ _ _ _ => pts_nil) (fun _ _ _ _ _ => (pe_call Gnodes (hr.mono (by omega)) (by rfl) dnodes.g dnodes.F.kp dnodes.b .nil pass0 (pa_cons (pv 1) pa_nil)))) pa_nil)))))
      pss_nil)
    (pss_one (ps_ret pe_int))), ?_⟩
    obtain ⟨t, ty, kI, kB, kS, kT⟩ := hd.ty hC
    refine ⟨v, rfl, v, _, t, _, isT d, rfl, .ty "tuple", ty, kT, isT d, rfl, ?_⟩
    rcases flat_of d with ⟨e1, e2⟩ | ⟨ds, rfl⟩
    · rw [e1]
      refine iteF ?_
      have := q H (Same.refl H)
      rw [e2] at this
      exact this
    · obtain ⟨m, a, xs, rfl, rfl, h1, h2, h3⟩ := hd.tup
      have hl := Paired.length h3
      refine iteT ⟨.ref a, rfl, a, rfl, ⟨_, h1.seq⟩, fun D nD => lc_tup (xs := xs) (fun i H3 => Same H H3 ∧ H3 D = some (.lst ((ds.take i).map fun d => V.int (nod d : Nat)))) ⟨same_upd nD, upd_same⟩ (fun i H3 _ h3 => (h1.same h3.1).seq) (fun i x H3 hx h4 => ?_) (fun H3 h4 => ?_)⟩
      · obtain ⟨e, he, hat⟩ := paired_at h3 hx
        refine ⟨rfl, x, rfl, x, e, F, C, B, L, rfl, hC, hat.same h4.1, hL, fun H4 s4 => ⟨_, s4 _ _ h4.2, ?_, fun b o z => ?_, ?_⟩⟩
        · rw [List.length_map, List.length_take, sizeLine_eq]
          omega
        · rw [upd_ne (ne_of_none z nD)]
          exact s4 b o (h4.1 b o z)
        · rw [upd_same, List.take_add_one, he, List.map_append]
          rfl
      · refine ⟨D, ds.map (fun d => ((nod d : Nat) : Int)), rfl, sql (by rw [h4.2, hl, List.take_length, List.map_map]; rfl), _, _, rfl, rfl, ?_⟩
        rw [nodL_sum]
        have := q H3 h4.1
        rw [nod_tup] at this
        show Q (V.int ((1 : Int) + ((nodL ds : Nat) : Int))) H3
        rw [show (1 : Int) + ((nodL ds : Nat) : Int) = ((1 + nodL ds : Nat) : Int) by push_cast; rfl]
        exact this
theorem ok_nodes (T : Blt mg) (dnodes : Dnnodes K mg) : ∀ n : Nat, FnOk P w K mg base CX0 (n + 1) dnodes.f dnodes.fd ["_law_thing_here"] (spNodes' K n)
  | 0 => dnodes.F.ok scnodes (fun _ _ _ _ h => h.elim) (fun _ _ _ _ _ _ _ _ _ h => h.elim)
  | n + 1 => ok_nodes' T dnodes n (ok_nodes T dnodes n)
/-! _law_changed -/
def spChanged (C : Addr) : Sp := fun vs H Q _ => ∃ (a c : Addr) (v : V) (d : Dat) (F : Addr → Prop) (B L n : Nat), vs = [v, .ref a] ∧ Wl a c H ∧ DatAt F C B L n H v d ∧ F a ∧ (∀ b, F b → H b ≠ none) ∧ 2 ^ 31 ≤ B ∧ 20 ≤ L ∧ L ≤ 100000 ∧ ∀ H' v' d', Exw a H H' → Wl a c H' → DatAt F C (B + 1) (3 * L + 1) (n + 1) H' v' d' → wD d' ≤ 2 * wD d + 1000 → Q v' H'
theorem ok_changed (T : Blt mg) (N : TxE K mg "NoTree") (NX : XcT K N.C) (dmixed : Dnmixed K mg) (dfilled : Dnfilled K mg) (ddraw : Dndraw K mg) (dnumber : Dnnumber K mg) (dsigns : Dnsigns K mg) (dstring : Dnstring K mg) (dname : Dnname K mg) (dany : Dnany K mg) (d : Dnchanged K mg) : FnOk P w K mg base CX0 7 d.f d.fd ["_law_thing_here", "_law_well_here"] (spChanged N.C) := by
  have Gdraw : FnOk P w K mg base CX0 3 ddraw.f ddraw.fd ["_law_well_here", "_law_many"] spDraw := ok_draw T dmixed dfilled ddraw
  have Gany : FnOk P w K mg base CX0 6 dany.f dany.fd ["_law_well_here", "_law_deep"] (spAny N.C 1) := ok_any T N dmixed dfilled ddraw dnumber dsigns dstring dname dany 2
  refine d.F.ok scchanged (fun vs H Q E h => ?_) (fun cdv A outer s H vs Q E hr h => ?_)
  · obtain ⟨a, c, v, d, F, B, L, n, rfl, _⟩ := h
    rfl
  · obtain ⟨a, c, v, x, F, B, L, n, rfl, hw, hx, fa, hsub, hB, hL0, hL, q⟩ := h
    refine ⟨_, (pss_cons (ps_set (i := 2) scchanged.nd rfl (Or.inl rfl) (pe_call Gdraw (hr.mono (by omega)) (by rfl) ddraw.g ddraw.F.kp ddraw.b .nil pass0 (pa_cons (pv 1) (pa_cons pe_int pa_nil))))
    (pss_cons (ps_if (pt_cmpR op_eq (pv 2) pe_int (nomark _))
      (pss_one (ps_ret (pe_call Gany (hr.mono (by omega)) (by rfl) dany.g dany.F.kp dany.b .nil pass0 (pa_cons (pv 1) (pa_cons pe_int pa_nil)))))
      pss_nil)
    (pss_cons (ps_if (PW.pt (pw_or (pt_val (pe_callB (call_isD (K := K) rfl) (by rfl) T.n_isinstance (by decide +kernel) (pa_cons (pv 0) (pa_cons (pe_bltn (v := .ty "bool") (by rfl) T.n_bool (by decide +kernel) rfl) pa_nil)))) (pw_or1 (pt_cmpR op_isN (pv 0) pe_non (nomark _)))))
      (pss_one (ps_ret (pe_ix ix_list (pe_lst (pa_cons pe_int (pa_cons pe_int (pa_cons (pe_tupF pa_nil) (pa_cons pe_str (pa_cons (pe_tupF (pa_cons pe_int (pa_cons pe_int pa_nil))) (pa_cons (pe_lst pa_nil) (pa_cons (pe_tupF (pa_cons pe_non pa_nil)) pa_nil)))))))) (pe_op op_sub (pv 2) pe_int) (fun _ _ => rfl))))
      pss_nil)
    (pss_cons (ps_if (pt_val (pe_callB (call_isD (K := K) rfl) (by rfl) T.n_isinstance (by decide +kernel) (pa_cons (pv 0) (pa_cons (pe_bltn (v := .ty "int") (by rfl) T.n_int (by decide +kernel) rfl) pa_nil))))
      (pss_one (ps_ret (pe_ix ix_list (pe_lst (pa_cons (pe_op op_add (pv 0) pe_int) (pa_cons (pe_op op_sub (pv 0) pe_int) (pa_cons (pe_un un_neg (pv 0)) (pa_cons (pe_cmpR op_ge (pv 0) pe_int (nomark _)) (pa_cons pe_int (pa_cons pe_non (pa_cons (pe_tupF (pa_cons (pv 0) pa_nil)) pa_nil)))))))) (pe_op op_sub (pv 2) pe_int) (fun _ _ => rfl))))
      pss_nil)
    (pss_cons (ps_if (pt_val (pe_callB (call_isD (K := K) rfl) (by rfl) T.n_isinstance (by decide +kernel) (pa_cons (pv 0) (pa_cons (pe_bltn (v := .ty "str") (by rfl) T.n_str (by decide +kernel) rfl) pa_nil))))
      (pss_one (ps_ret (pe_ix ix_list (pe_lst (pa_cons (pe_op op_add_str (pv 0) pe_str) (pa_cons (pe_slice sl_str (pv 0) (po_some pe_int) po_none) (pa_cons (pe_upper (pv 0)) (pa_cons (pe_op op_add_str pe_str (pv 0)) (pa_cons pe_str (pa_cons (pe_op op_add_str (pv 0) pe_str) (pa_cons (pe_lst (pa_cons (pv 0) pa_nil)) pa_nil)))))))) (pe_op op_sub (pv 2) pe_int) (fun _ _ => rfl))))
      pss_nil)
    (pss_cons (ps_if (pt_val (pe_callB (call_isD (K := K) rfl) (by rfl) T.n_isinstance (by decide +kernel) (pa_cons (pv 0) (pa_cons (pe_bltn (v := .ty "tuple") (by rfl) T.n_tuple (by decide +kernel) rfl) pa_nil))))
      (pss_cons (ps_set (i := 3) scchanged.nd rfl (Or.inl rfl) (pe_lst (pa_cons (pe_slice sl_tupP (pv 0) (po_some pe_int) po_none) (pa_cons (pe_slice sl_tupP (pv 0) po_none (po_some (pe_un un_neg pe_int))) (pa_cons (pe_op op_catP (pe_slice sl_tupP (pv 0) (po_some pe_int) po_none) (pe_slice sl_tupP (pv 0) po_none (po_some pe_int))) (pa_cons (pe_op op_catP (pe_slice sl_tupP (pv 0) po_none (po_some pe_int)) (pv 0)) (pa_cons (pe_op op_catP (pv 0) (pe_tupF (pa_cons pe_non pa_nil))) (pa_cons (pe_callTy call_list_of (by rfl) T.n_list (by decide +kernel) (pa_cons (pv 0) pa_nil)) (pa_cons pe_non pa_nil)))))))))
      (pss_one (ps_ret (pe_ix ix_list (pv 3) (pe_op op_sub (pv 2) pe_int) (fun _ _ => rfl)))))
      pss_nil)
    (pss_one (ps_ret (pv 0))))))))), ?_⟩
    refine ⟨.ref a, rfl, a, c, 8, rfl, hw, (by decide), (by decide), fun H1 k x1 w1 k0 k1 => ?_⟩
    obtain ⟨kn, rfl⟩ := Int.eq_ofNat_of_zero_le k0
    refine ⟨.int (kn : Int), rfl, rfl, _, congrArg V.bl (dint _ _), ?_⟩
    by_cases h0 : (kn : Int) = 0
    · rw [decide_eq_true h0]
      refine iteT ⟨.ref a, rfl, a, c, rfl, w1, fun H2 v2 d2 x2 w2 hd hwd => ?_⟩
      exact q H2 v2 d2 (x1.trans x2) w2 (hd.wide (fun b hb => x1.dom w1 b (hsub b hb)) (by omega) (by omega) (by omega)) (by omega)
    rw [decide_eq_false h0]
    obtain ⟨j, hj7, hj⟩ : ∃ j : Nat, j < 7 ∧ (kn : Int) - 1 = (j : Int) := ⟨kn - 1, by omega, by omega⟩
    have hx1 := hx.keep (dk_exw x1 hw fa)
    have hsub1 : ∀ b, F b → H1 b ≠ none := fun b hb => x1.dom w1 b (hsub b hb)
    clear hx
    obtain ⟨t, ty, kI, kB, kS, kT⟩ := hx1.ty NX
    have fin : ∀ {H2 : Hp} {v2 : V} {d2 : Dat}, Same H1 H2 → DatAt F N.C (B + 1) (3 * L + 1) (n + 1) H2 v2 d2 ∧ wD d2 ≤ 2 * wD x + 1000 → Q v2 H2 := fun {H2 v2 d2} s h => q H2 v2 d2 (x1.same s) (w1.same s) h.1 h.2
    refine iteF ⟨v, rfl, v, _, t, _, isBd x, rfl, .ty "bool", ty, kB, isBd x, rfl, ?_⟩
    cases x with
    | bl b =>
      refine iteT (iteT ?_)
      refine ⟨(by show 0 ≤ sizeLine; decide), fun t1 o1 n1 ho1 => ⟨(by show 2 ≤ sizeLine; decide), fun t2 o2 n2 ho2 => ⟨(by show 0 ≤ sizeLine; decide), fun l1 nl1 => ⟨(by show 1 ≤ sizeLine; decide), fun t3 o3 n3 ho3 => ⟨(by show 7 ≤ sizeLine; decide), fun p np => ?_⟩⟩⟩⟩⟩
      have s1 := same_upd (o := .frz o1 (.tup [])) n1
      have k1 : Ptp (upd H1 t1 (.frz o1 (.tup []))) t1 [] := ⟨o1, upd_same, ho1⟩
      generalize upd H1 t1 (.frz o1 (.tup [])) = HA at s1 k1 n2 nl1 n3 np ⊢
      have s2 := same_upd (o := .frz o2 (.tup [.int 0, .int 0])) n2
      have k2 : Ptp (upd HA t2 (.frz o2 (.tup [.int 0, .int 0]))) t2 [.int 0, .int 0] := ⟨o2, upd_same, ho2⟩
      generalize upd HA t2 (.frz o2 (.tup [.int 0, .int 0])) = HB at s2 k2 nl1 n3 np ⊢
      have nF : ¬ F l1 := fun z => hsub1 l1 z (Same.gone (Same.trans s1 s2) nl1)
      have s3 := same_upd (o := .lst []) nl1
      have k3 : (upd HB l1 (.lst [])) l1 = some (.lst []) := upd_same
      generalize upd HB l1 (.lst []) = HC at s3 k3 n3 np ⊢
      have s4 := same_upd (o := .frz o3 (.tup [.non])) n3
      have k4 : Ptp (upd HC t3 (.frz o3 (.tup [.non]))) t3 [.non] := ⟨o3, upd_same, ho3⟩
      generalize upd HC t3 (.frz o3 (.tup [.non])) = HD at s4 k4 np ⊢
      have s5 := same_upd (o := .lst [.int 0, .int 1, .ref t1, .str (Str.ofString ""), .ref t2, .ref l1, .ref t3]) np
      have hq : ∀ d0 : Dat, 10 ≤ wD d0 → ∃ v2 d2, [V.int 0, V.int 1, .ref t1, .str (Str.ofString ""), .ref t2, .ref l1, .ref t3][j]? = some v2 ∧ (DatAt F N.C (B + 1) (3 * L + 1) (n + 1) (upd HD p (.lst [.int 0, .int 1, .ref t1, .str (Str.ofString ""), .ref t2, .ref l1, .ref t3])) v2 d2 ∧ wD d2 ≤ 2 * wD d0 + 1000) := fun d0 h0 =>
        pick (p7 ⟨.lint (by omega), by show 60 ≤ _; omega⟩ ⟨.lint (by omega), by show 60 ≤ _; omega⟩ ⟨.ltup ((((k1.same s2).same s3).same s4).same s5) (Nat.zero_le _) .nil, by show 10 ≤ _; omega⟩ ⟨.lstr (by rw [show (Str.ofString "").length = 0 by decide +kernel]; omega) (by decide +kernel), by show 15 * (Str.ofString "").length + 20 ≤ _; rw [show (Str.ofString "").length = 0 by decide +kernel]; omega⟩
          ⟨.ltup (((k2.same s3).same s4).same s5) (by show 2 ≤ _; omega) (.cons (.lint (by omega)) (.cons (.lint (by omega)) .nil)), by show 10 + (60 + 2 + (60 + 2 + 0)) ≤ _; omega⟩ ⟨.llst nF (s5 _ _ (s4 _ _ k3)) (Nat.zero_le _) .nil, by show 10 ≤ _; omega⟩ ⟨.ltup (k4.same s5) (by show 1 ≤ _; omega) (.cons .lnon .nil), by show 10 + (10 + 2 + 0) ≤ _; omega⟩) hj7
      obtain ⟨v2, d2, hv, hd⟩ := hq (.bl b) (Nat.le_refl _)
      exact ⟨.int (kn : Int), rfl, _, _, rfl, rfl, p, _, _, _, rfl, rfl, sql upd_same, atI_cast (n := j) hj hv, fin (Same.trans (Same.trans (Same.trans (Same.trans s1 s2) s3) s4) s5) hd⟩
    | non =>
      cases (show v = .non from by rcases hx1.cases with h | ⟨m, a, xs, ds, _, _, e, _⟩ | ⟨m, a, xs, ds, _, _, e, _⟩ | ⟨m, a, l, xs, ds, _, _, e, _⟩; exact h; cases e; cases e; cases e)
      refine iteF ⟨.non, rfl, rfl, true, rfl, iteT ?_⟩
      refine ⟨(by show 0 ≤ sizeLine; decide), fun t1 o1 n1 ho1 => ⟨(by show 2 ≤ sizeLine; decide), fun t2 o2 n2 ho2 => ⟨(by show 0 ≤ sizeLine; decide), fun l1 nl1 => ⟨(by show 1 ≤ sizeLine; decide), fun t3 o3 n3 ho3 => ⟨(by show 7 ≤ sizeLine; decide), fun p np => ?_⟩⟩⟩⟩⟩
      have s1 := same_upd (o := .frz o1 (.tup [])) n1
      have k1 : Ptp (upd H1 t1 (.frz o1 (.tup []))) t1 [] := ⟨o1, upd_same, ho1⟩
      generalize upd H1 t1 (.frz o1 (.tup [])) = HA at s1 k1 n2 nl1 n3 np ⊢
      have s2 := same_upd (o := .frz o2 (.tup [.int 0, .int 0])) n2
      have k2 : Ptp (upd HA t2 (.frz o2 (.tup [.int 0, .int 0]))) t2 [.int 0, .int 0] := ⟨o2, upd_same, ho2⟩
      generalize upd HA t2 (.frz o2 (.tup [.int 0, .int 0])) = HB at s2 k2 nl1 n3 np ⊢
      have nF : ¬ F l1 := fun z => hsub1 l1 z (Same.gone (Same.trans s1 s2) nl1)
      have s3 := same_upd (o := .lst []) nl1
      have k3 : (upd HB l1 (.lst [])) l1 = some (.lst []) := upd_same
      generalize upd HB l1 (.lst []) = HC at s3 k3 n3 np ⊢
      have s4 := same_upd (o := .frz o3 (.tup [.non])) n3
      have k4 : Ptp (upd HC t3 (.frz o3 (.tup [.non]))) t3 [.non] := ⟨o3, upd_same, ho3⟩
      generalize upd HC t3 (.frz o3 (.tup [.non])) = HD at s4 k4 np ⊢
      have s5 := same_upd (o := .lst [.int 0, .int 1, .ref t1, .str (Str.ofString ""), .ref t2, .ref l1, .ref t3]) np
      have hq : ∀ d0 : Dat, 10 ≤ wD d0 → ∃ v2 d2, [V.int 0, V.int 1, .ref t1, .str (Str.ofString ""), .ref t2, .ref l1, .ref t3][j]? = some v2 ∧ (DatAt F N.C (B + 1) (3 * L + 1) (n + 1) (upd HD p (.lst [.int 0, .int 1, .ref t1, .str (Str.ofString ""), .ref t2, .ref l1, .ref t3])) v2 d2 ∧ wD d2 ≤ 2 * wD d0 + 1000) := fun d0 h0 =>
        pick (p7 ⟨.lint (by omega), by show 60 ≤ _; omega⟩ ⟨.lint (by omega), by show 60 ≤ _; omega⟩ ⟨.ltup ((((k1.same s2).same s3).same s4).same s5) (Nat.zero_le _) .nil, by show 10 ≤ _; omega⟩ ⟨.lstr (by rw [show (Str.ofString "").length = 0 by decide +kernel]; omega) (by decide +kernel), by show 15 * (Str.ofString "").length + 20 ≤ _; rw [show (Str.ofString "").length = 0 by decide +kernel]; omega⟩
          ⟨.ltup (((k2.same s3).same s4).same s5) (by show 2 ≤ _; omega) (.cons (.lint (by omega)) (.cons (.lint (by omega)) .nil)), by show 10 + (60 + 2 + (60 + 2 + 0)) ≤ _; omega⟩ ⟨.llst nF (s5 _ _ (s4 _ _ k3)) (Nat.zero_le _) .nil, by show 10 ≤ _; omega⟩ ⟨.ltup (k4.same s5) (by show 1 ≤ _; omega) (.cons .lnon .nil), by show 10 + (10 + 2 + 0) ≤ _; omega⟩) hj7
      obtain ⟨v2, d2, hv, hd⟩ := hq .non (Nat.le_refl _)
      exact ⟨.int (kn : Int), rfl, _, _, rfl, rfl, p, _, _, _, rfl, rfl, sql upd_same, atI_cast (n := j) hj hv, fin (Same.trans (Same.trans (Same.trans (Same.trans s1 s2) s3) s4) s5) hd⟩
    | int i =>
      obtain ⟨rfl, hi⟩ := hx1.int
      refine iteF ⟨.int i, rfl, rfl, false, rfl, iteF ⟨.int i, rfl, .int i, _, t, _, true, rfl, .ty "int", ty, kI, true, rfl, iteT ?_⟩⟩
      refine ⟨.int i, rfl, _, _, rfl, rfl, .int i, rfl, _, _, rfl, rfl, .int i, rfl, i, rfl, .int i, rfl, _, _, rfl, rfl, .int i, rfl, (by show 1 ≤ sizeLine; decide), fun t3 o3 n3 ho3 => ⟨(by show 7 ≤ sizeLine; decide), fun p np => ?_⟩⟩
      have s4 := same_upd (o := .frz o3 (.tup [.int i])) n3
      have k4 : Ptp (upd H1 t3 (.frz o3 (.tup [.int i]))) t3 [.int i] := ⟨o3, upd_same, ho3⟩
      generalize upd H1 t3 (.frz o3 (.tup [.int i])) = HD at s4 k4 np ⊢
      have s5 := same_upd (o := .lst [.int (i + 1), .int (i - 1), .int (-i), .bl (decide (1 ≤ i)), .int 0, .non, .ref t3]) np
      have e0 : wD (.int i) = 60 := rfl
      obtain ⟨v2, d2, hv, hd⟩ := pick (j := j) (p7 (R := fun v2 d2 => DatAt F N.C (B + 1) (3 * L + 1) (n + 1) (upd HD p (.lst [.int (i + 1), .int (i - 1), .int (-i), .bl (decide (1 ≤ i)), .int 0, .non, .ref t3])) v2 d2 ∧ wD d2 ≤ 2 * wD (.int i) + 1000) (a := .int (i + 1)) (b := .int (i - 1)) (c := .int (-i)) (d := .bl (decide (1 ≤ i))) (e := .int 0) (f := .non) ⟨.lint (by omega), by show 60 ≤ _; omega⟩ ⟨.lint (by omega), by show 60 ≤ _; omega⟩ ⟨.lint (by omega), by show 60 ≤ _; omega⟩ ⟨.lbl, by show 10 ≤ _; omega⟩ ⟨.lint (by omega), by show 60 ≤ _; omega⟩ ⟨.lnon, by show 10 ≤ _; omega⟩ ⟨.ltup (k4.same s5) (by show 1 ≤ _; omega) (.cons (.lint (i := i) (by omega)) .nil), by show 10 + (60 + 2 + 0) ≤ _; omega⟩) hj7
      exact ⟨.int (kn : Int), rfl, _, _, rfl, rfl, p, _, _, _, rfl, rfl, sql upd_same, atI_cast (n := j) hj hv, fin (Same.trans s4 s5) hd⟩
    | str z =>
      obtain ⟨rfl, hz, ha⟩ := hx1.str
      refine iteF ⟨.str z, rfl, rfl, false, rfl, iteF ⟨.str z, rfl, .str z, _, t, _, false, rfl, .ty "int", ty, kI, false, rfl, iteF ⟨.str z, rfl, .str z, _, t, _, true, rfl, .ty "str", ty, kS, true, rfl, iteT ?_⟩⟩⟩
      have la : (z ++ Str.ofString "a").length = z.length + 1 := by rw [sapp_len]; rfl
      have lb : (Str.ofString " " ++ z).length = z.length + 1 := by rw [sapp_len, show (Str.ofString " ").length = 1 by decide +kernel]; omega
      have ln : (z ++ Str.ofString "\n").length = z.length + 1 := by rw [sapp_len]; rfl
      have l0 : (Str.ofString "").length = 0 := by decide +kernel
      obtain ⟨ua, lu⟩ := asc_upper ha
      have lc := cutS_length z (some 1) none
      have ca := asc_cut (lo := some 1) (hi := none) ha
      refine ⟨.str z, rfl, _, _, rfl, rfl, (by rw [← sapp_len, la, sizeLine_eq]; omega), .str z, rfl, 1, rfl, z, rfl, (by rw [sizeLine_eq]; omega), .str z, rfl, ⟨z, rfl⟩, z, rfl, rfl, (by omega), .str z, rfl, _, _, rfl, rfl, (by rw [← sapp_len, lb, sizeLine_eq]; omega), .str z, rfl, _, _, rfl, rfl, (by rw [← sapp_len, ln, sizeLine_eq]; omega), .str z, rfl, (by show 1 ≤ sizeLine; decide), fun l1 nl1 => ⟨(by show 7 ≤ sizeLine; decide), fun p np => ?_⟩⟩
      have nF : ¬ F l1 := fun y => hsub1 l1 y nl1
      have s4 := same_upd (o := .lst [.str z]) nl1
      have k4 : (upd H1 l1 (.lst [.str z])) l1 = some (.lst [.str z]) := upd_same
      generalize upd H1 l1 (.lst [.str z]) = HD at s4 k4 np ⊢
      have s5 := same_upd (o := .lst [.str (z ++ Str.ofString "a"), .str (cutS z (some 1) none), .str (Txt.upper z), .str (Str.ofString " " ++ z), .str (Str.ofString ""), .str (z ++ Str.ofString "\n"), .ref l1]) np
      have e0 : wD (.str z) = 15 * z.length + 20 := rfl
      obtain ⟨v2, d2, hv, hd⟩ := pick (j := j) (p7 (R := fun v2 d2 => DatAt F N.C (B + 1) (3 * L + 1) (n + 1) (upd HD p (.lst [.str (z ++ Str.ofString "a"), .str (cutS z (some 1) none), .str (Txt.upper z), .str (Str.ofString " " ++ z), .str (Str.ofString ""), .str (z ++ Str.ofString "\n"), .ref l1])) v2 d2 ∧ wD d2 ≤ 2 * wD (.str z) + 1000) (a := .str (z ++ Str.ofString "a")) (b := .str (cutS z (some 1) none)) (c := .str (Txt.upper z)) (d := .str (Str.ofString " " ++ z)) (e := .str (Str.ofString "")) (f := .str (z ++ Str.ofString "\n"))
        ⟨.lstr (by omega) (asc_app ha (by decide +kernel)), by show 15 * _ + 20 ≤ _; omega⟩ ⟨.lstr (by omega) ca, by show 15 * _ + 20 ≤ _; omega⟩ ⟨.lstr (by omega) ua, by show 15 * _ + 20 ≤ _; omega⟩ ⟨.lstr (by omega) (asc_app (by decide +kernel) ha), by show 15 * _ + 20 ≤ _; omega⟩ ⟨.lstr (by omega) (by decide +kernel), by show 15 * _ + 20 ≤ _; omega⟩ ⟨.lstr (by omega) (asc_app ha (by decide +kernel)), by show 15 * _ + 20 ≤ _; omega⟩ ⟨.llst nF (s5 _ _ k4) (by show 1 ≤ _; omega) (.cons (.lstr (z := z) (by omega) ha) .nil), by show 10 + (15 * z.length + 20 + 2 + 0) ≤ _; omega⟩) hj7
      exact ⟨.int (kn : Int), rfl, _, _, rfl, rfl, p, _, _, _, rfl, rfl, sql upd_same, atI_cast (n := j) hj hv, fin (Same.trans s4 s5) hd⟩
    | tup ds =>
      obtain ⟨m, b, xs, rfl, rfl, h1, h2, h3⟩ := hx1.tup
      have ht : Tq F N.C B L m L H1 b ds := ⟨xs, h1, h2, h3⟩
      have e0 : wD (.tup ds) = 10 + wDs ds := rfl
      refine iteF ⟨.ref b, rfl, rfl, false, rfl, iteF ⟨.ref b, rfl, .ref b, _, t, _, false, rfl, .ty "int", ty, kI, false, rfl, iteF ⟨.ref b, rfl, .ref b, _, t, _, false, rfl, .ty "str", ty, kS, false, rfl, iteF ⟨.ref b, rfl, .ref b, _, t, _, true, rfl, .ty "tuple", ty, kT, true, rfl, iteT ?_⟩⟩⟩⟩
      refine ⟨.ref b, rfl, 1, rfl, tq_sln ht fun p1 H2 s2 g1 => ?_⟩
      have ht2 := ht.same s2
      refine ⟨.ref b, rfl, 1, rfl, -1, rfl, tq_sl ht2 fun p2 H3 s3 g2 => ?_⟩
      have ht3 := ht2.same s3
      have g1 := g1.same s3
      refine ⟨.ref b, rfl, 1, rfl, tq_sln ht3 fun q3 H4 s4 f3 => ?_⟩
      have ht4 := ht3.same s4
      refine ⟨.ref b, rfl, 1, rfl, tq_sl ht4 fun q4 H5 s5 f4 => tq_cat (f3.same s5) f4 (by omega) fun p3 H6 s6 g3 => ?_⟩
      have s36 := Same.trans (Same.trans s4 s5) s6
      have ht6 := ht3.same s36
      have g1 := g1.same s36
      have g2 := g2.same s36
      clear f3 f4 ht4 ht3 ht2
      refine ⟨.ref b, rfl, 1, rfl, tq_sl ht6 fun q5 H7 s7 f5 => ⟨.ref b, rfl, tq_cat f5 (ht6.same s7) (by omega) fun p4 H8 s8 g4 => ?_⟩⟩
      have s68 := Same.trans s7 s8
      have ht8 := ht6.same s68
      have g1 := g1.same s68
      have g2 := g2.same s68
      have g3 := g3.same s68
      clear f5 ht6
      refine ⟨.ref b, rfl, (by show 1 ≤ sizeLine; decide), fun t5 o5 n5 ho5 => tq_cat (ht8.same (same_upd n5)) (tq_one (d := .non) .lnon n5 ho5) (by omega) fun p5 H9 s9 g5 => ?_⟩
      have s89 := Same.trans (same_upd n5) s9
      have s19 : Same H1 H9 := Same.trans (Same.trans (Same.trans (Same.trans s2 s3) s36) s68) s89
      have g1 := g1.same s89
      have g2 := g2.same s89
      have g3 := g3.same s89
      have g4 := g4.same s89
      refine ⟨.ref b, rfl, b, _, rfl, .inr (h1.same s19).seq, fun l nl => ⟨(by show 7 ≤ sizeLine; decide), fun p np => ?_⟩⟩
      have nF : ¬ F l := fun y => hsub1 l y (Same.gone s19 nl)
      have sl := same_upd (o := .lst xs) nl
      have hl : (upd H9 l (.lst xs)) l = some (.lst xs) := upd_same
      generalize upd H9 l (.lst xs) = HA at sl hl np ⊢
      have sp := same_upd (o := .lst [.ref p1, .ref p2, .ref p3, .ref p4, .ref p5, .ref l, .non]) np
      have s9B := Same.trans sl sp
      have s1B := Same.trans s19 s9B
      have k1 := (g1.same s9B).dat (B' := B + 1) (L' := 3 * L + 1) (by omega) (by omega) (by omega)
      have k2 := (g2.same s9B).dat (B' := B + 1) (L' := 3 * L + 1) (by omega) (by omega) (by omega)
      have k3 := (g3.same s9B).dat (B' := B + 1) (L' := 3 * L + 1) (by omega) (by omega) (by omega)
      have k4 := (g4.same s9B).dat (B' := B + 1) (L' := 3 * L + 1) (by omega) (by omega) (by omega)
      have k5 := (g5.same s9B).dat (B' := B + 1) (L' := 3 * L + 1) (by omega) (by omega) (by omega)
      have c1 := wDs_cut ds (some 1) none
      have c2 := wDs_cut ds none (some (-1))
      have c3 := wDs_cut ds none (some 1)
      have k6 : DatAt F N.C (B + 1) (3 * L + 1) (m + 1) (upd HA p (.lst [.ref p1, .ref p2, .ref p3, .ref p4, .ref p5, .ref l, .non])) (.ref l) (.lst ds) := .llst nF (sp _ _ hl) (by omega) (paired_imp (fun _ _ h => (h.same s1B).wide (fun _ h => h) (by omega) (by omega) (Nat.le_refl _)) h3)
      have g : Paired (fun v2 d2 => DatAt F N.C (B + 1) (3 * L + 1) (m + 1) (upd HA p (.lst [.ref p1, .ref p2, .ref p3, .ref p4, .ref p5, .ref l, .non])) v2 d2 ∧ wD d2 ≤ 2 * wD (.tup ds) + 1000) [.ref p1, .ref p2, .ref p3, .ref p4, .ref p5, .ref l, .non] [_, _, _, _, _, _, .non] :=
        p7 ⟨k1, by show 10 + wDs _ ≤ _; omega⟩ ⟨k2, by show 10 + wDs _ ≤ _; omega⟩ ⟨k3, by show 10 + wDs (_ ++ _) ≤ _; rw [wDs_app]; omega⟩ ⟨k4, by show 10 + wDs (_ ++ _) ≤ _; rw [wDs_app]; omega⟩ ⟨k5, by show 10 + wDs (_ ++ _) ≤ _; rw [wDs_app]; show 10 + (wDs ds + (10 + 2 + 0)) ≤ _; omega⟩ ⟨k6, by show 10 + wDs _ ≤ _; omega⟩ ⟨.lnon, by show 10 ≤ _; omega⟩
      obtain ⟨v2, d2, hv, hd⟩ := pick g (j := j) hj7
      exact ⟨.ref p, rfl, .int (kn : Int), rfl, _, _, rfl, rfl, p, _, _, _, rfl, rfl, sql upd_same, atI_cast (n := j) hj hv, fin s1B ⟨hd.1.wide (fun _ h => h) (Nat.le_refl _) (Nat.le_refl _) (by omega), hd.2⟩⟩
    | lst es =>
      have vr : ∃ b, v = .ref b := by
        rcases hx1.cases with h | ⟨m, a, xs, ds, _, e, _⟩ | ⟨m, a, xs, ds, _, e, _⟩ | ⟨m, a, l, xs, ds, _, e, _⟩
        · exact h.elim
        · exact ⟨_, e⟩
        · exact ⟨_, e⟩
        · exact ⟨_, e⟩
      obtain ⟨b, rfl⟩ := vr
      exact iteF ⟨.ref b, rfl, rfl, false, rfl, iteF ⟨.ref b, rfl, .ref b, _, t, _, false, rfl, .ty "int", ty, kI, false, rfl, iteF ⟨.ref b, rfl, .ref b, _, t, _, false, rfl, .ty "str", ty, kS, false, rfl, iteF ⟨.ref b, rfl, .ref b, _, t, _, false, rfl, .ty "tuple", ty, kT, false, rfl, iteF ⟨.ref b, rfl, fin (Same.refl H1) ⟨hx1.wide (fun _ h => h) (by omega) (by omega) (by omega), by omega⟩⟩⟩⟩⟩⟩
    | dic es =>
      have vr : ∃ b, v = .ref b := by
        rcases hx1.cases with h | ⟨m, a, xs, ds, _, e, _⟩ | ⟨m, a, xs, ds, _, e, _⟩ | ⟨m, a, l, xs, ds, _, e, _⟩
        · exact h.elim
        · exact ⟨_, e⟩
        · exact ⟨_, e⟩
        · exact ⟨_, e⟩
      obtain ⟨b, rfl⟩ := vr
      exact iteF ⟨.ref b, rfl, rfl, false, rfl, iteF ⟨.ref b, rfl, .ref b, _, t, _, false, rfl, .ty "int", ty, kI, false, rfl, iteF ⟨.ref b, rfl, .ref b, _, t, _, false, rfl, .ty "str", ty, kS, false, rfl, iteF ⟨.ref b, rfl, .ref b, _, t, _, false, rfl, .ty "tuple", ty, kT, false, rfl, iteF ⟨.ref b, rfl, fin (Same.refl H1) ⟨hx1.wide (fun _ h => h) (by omega) (by omega) (by omega), by omega⟩⟩⟩⟩⟩⟩
    | err =>
      have vr : ∃ b, v = .ref b := by
        rcases hx1.cases with h | ⟨m, a, xs, ds, _, e, _⟩ | ⟨m, a, xs, ds, _, e, _⟩ | ⟨m, a, l, xs, ds, _, e, _⟩
        · obtain ⟨a, t0, e, _⟩ := h; exact ⟨_, e⟩
        · exact ⟨_, e⟩
        · exact ⟨_, e⟩
        · exact ⟨_, e⟩
      obtain ⟨b, rfl⟩ := vr
      exact iteF ⟨.ref b, rfl, rfl, false, rfl, iteF ⟨.ref b, rfl, .ref b, _, t, _, false, rfl, .ty "int", ty, kI, false, rfl, iteF ⟨.ref b, rfl, .ref b, _, t, _, false, rfl, .ty "str", ty, kS, false, rfl, iteF ⟨.ref b, rfl, .ref b, _, t, _, false, rfl, .ty "tuple", ty, kT, false, rfl, iteF ⟨.ref b, rfl, fin (Same.refl H1) ⟨hx1.wide (fun _ h => h) (by omega) (by omega) (by omega), by omega⟩⟩⟩⟩⟩⟩
end
end Kb

namespace Kb
open PySem PySem.Spec PyProof.Rows L2 SrtZ SrtO
abbrev sspoilt : Stmt := topS 39
theorem scspoilt : FnScope ["_law_thing_here", "_law_at", "_law_well_here", "_law_k", "_law_size"] ["_law_thing_here", "_law_at", "_law_well_here"] (defScope sspoilt) := ⟨rfl, rfl, rfl, by decide +kernel, rfl, by decide +kernel, by decide +kernel⟩
abbrev Dnspoilt (K : PySem.W.Frag) (mg : Str → Option Value) := Dn K mg "_law_spoilt" sspoilt ["_law_thing_here", "_law_at", "_law_well_here"]
theorem Tq.wide {F : Addr → Prop} {C : Addr} {B L n m B' L' n' : Nat} {H : Hp} {a : Addr} {ds : List Dat} (h : Tq F C B L n m H a ds) (hB : B ≤ B') (hL : L ≤ L') (hn : n ≤ n') : Tq F C B' L' n' m H a ds := by
  obtain ⟨xs, h1, h2, h3⟩ := h
  exact ⟨xs, h1, h2, paired_imp (fun _ _ h => h.wide (fun _ h => h) hB hL hn) h3⟩
theorem cutD_take (ds : List Dat) {k : Nat} (h : k ≤ ds.length) : cutD ds none (some (k : Int)) = ds.take k := by
  unfold cutD
  rw [HT.sIx_nat, HT.sIx_none, List.drop_zero, Nat.sub_zero, Nat.min_eq_left h]
theorem cutD_drop (ds : List Dat) {k : Nat} (h : k ≤ ds.length) : cutD ds (some (k : Int)) none = ds.drop k := by
  unfold cutD
  rw [HT.sIx_nat, HT.sIx_none, Nat.min_eq_left h, List.take_of_length_le (by rw [List.length_drop]; exact Nat.le_refl _)]
theorem nod_pos (d : Dat) : 1 ≤ nod d := by
  cases d with
  | tup xs => rw [nod_tup]; omega
  | _ => unfold nod; exact Nat.le_refl _
section
variable {P : Program} {w : World} {K : PySem.W.Frag} {mg : Str → Option Value} {base : Heap}
def spSpoilt (C : Addr) (n : Nat) : Sp := fun vs H Q _ => ∃ (a c : Addr) (v : V) (d : Dat) (F : Addr → Prop) (at_ B L : Nat), vs = [v, .int (at_ : Int), .ref a] ∧ Wl a c H ∧ DatAt F C B L n H v d ∧ F a ∧ (∀ b, F b → H b ≠ none) ∧ at_ < nod d ∧ 2 ^ 31 ≤ B ∧ 20 ≤ L ∧ L ≤ 100000 ∧ ∀ H' v' d', Exw a H H' → Wl a c H' → DatAt F C (B + 1) (3 * L + 1) (n + 1) H' v' d' → wD d' ≤ 2 * wD d + 1000 → Q v' H'
def spSpoilt' (C : Addr) : Nat → Sp
  | 0 => fun _ _ _ _ => False
  | n + 1 => spSpoilt C n
theorem ok_spoilt' (T : Blt mg) (N : TxE K mg "NoTree") (NX : XcT K N.C) (dmixed : Dnmixed K mg) (dfilled : Dnfilled K mg) (ddraw : Dndraw K mg) (dnumber : Dnnumber K mg) (dsigns : Dnsigns K mg) (dstring : Dnstring K mg) (dname : Dnname K mg) (dany : Dnany K mg) (dnodes : Dnnodes K mg) (dchanged : Dnchanged K mg) (dspoilt : Dnspoilt K mg) (n : Nat) (Gspoilt : FnOk P w K mg base CX0 (n + 7) dspoilt.f dspoilt.fd ["_law_thing_here", "_law_at", "_law_well_here"] (spSpoilt' N.C n)) : FnOk P w K mg base CX0 (n + 8) dspoilt.f dspoilt.fd ["_law_thing_here", "_law_at", "_law_well_here"] (spSpoilt N.C n) := by
  have Gchanged : FnOk P w K mg base CX0 7 dchanged.f dchanged.fd ["_law_thing_here", "_law_well_here"] (spChanged N.C) := ok_changed T N NX dmixed dfilled ddraw dnumber dsigns dstring dname dany dchanged
  have Gnodes : FnOk P w K mg base CX0 (n + 1) dnodes.f dnodes.fd ["_law_thing_here"] (spNodes' K n) := ok_nodes T dnodes n
  refine dspoilt.F.ok scspoilt (fun vs H Q E h => ?_) (fun cdv A outer s H vs Q E hr h => ?_)
  · obtain ⟨a, c, v, d, F, t, B, L, rfl, _⟩ := h
    rfl
  · obtain ⟨a, c, v, d, F, at0, B, L, rfl, hw, hx, fa, hsub, hat, hB, hL0, hL, q⟩ := h
    refine ⟨_, (pss_cons (ps_if (pt_cmpR op_eq (pv 1) pe_int (nomark _))
      (pss_one (ps_ret (pe_call Gchanged (hr.mono (by omega)) (by rfl) dchanged.g dchanged.F.kp dchanged.b .nil pass0 (pa_cons (pv 0) (pa_cons (pv 2) pa_nil)))))
      pss_nil)
    (pss_cons (ps_set (i := 1) scspoilt.nd rfl (Or.inl rfl) (pe_op op_sub (pv 1) pe_int))
    (pss_cons (ps_for PassesOwn.never rfl (pi_range1 (by rfl) T.n_range (pa_cons (pe_callB call_len_seq (by rfl) T.n_len (by decide +kernel) (pa_cons (pv 0) pa_nil)) pa_nil)) (pg_name (i := 3) scspoilt.nd rfl (Or.inl rfl))
      (pss_cons (ps_set (i := 4) scspoilt.nd rfl (Or.inl rfl) (pe_call Gnodes (hr.mono (by omega)) (by rfl) dnodes.g dnodes.F.kp dnodes.b .nil pass0 (pa_cons (pe_ix ix_tup (pv 0) (pv 3) (fun _ _ => rfl)) pa_nil)))
      (pss_cons (ps_if (pt_cmpR op_lt (pv 1) (pv 4) (nomark _))
        (pss_one (ps_ret (pe_op op_catP (pe_op op_catP (pe_slice sl_tupP (pv 0) po_none (po_some (pv 3))) (pe_tupF (pa_cons (pe_call Gspoilt (hr.mono (by omega)) (by rfl) dspoilt.g dspoilt.F.kp dspoilt.b .nil pass0 (pa_cons (pe_ix ix_tup (pv 0) (pv 3) (fun _ _ => rfl)) (pa_cons (pv 1) (pa_cons (pv 2) pa_nil)))) pa_nil))) (pe_slice sl_tupP (pv 0) (po_some (pe_op op_add (pv 3) pe_int)) po_none))))
        pss_nil)
      (pss_one (ps_set (i := 1) scspoilt.nd rfl (Or.inl rfl) (pe_op op_sub (pv 1) (pv 4)))))))
    (pss_one (ps_ret (pv 0)))))), ?_⟩
    refine ⟨.int (at0 : Int), rfl, rfl, _, congrArg V.bl (dint _ _), ?_⟩
    by_cases h0 : (at0 : Int) = 0
    · rw [decide_eq_true h0]
      exact iteT ⟨v, rfl, .ref a, rfl, a, c, v, d, F, B, L, n, rfl, hw, hx, fa, hsub, hB, hL0, hL, q⟩
    rw [decide_eq_false h0]
    rcases flat_of d with ⟨_, e2⟩ | ⟨ds, rfl⟩
    · omega
    obtain ⟨m, b, xs, rfl, rfl, h1, h2, h3⟩ := hx.tup
    rw [nod_tup] at hat
    have hl := Paired.length h3
    have ht : Tq F N.C (B + 1) (3 * L + 1) (m + 1) L H b ds := Tq.wide ⟨xs, h1, h2, h3⟩ (Nat.le_succ _) (by omega) (Nat.le_succ _)
    refine iteF ⟨.int (at0 : Int), rfl, _, _, rfl, rfl, .ref b, rfl, b, _, rfl, .inr h1.seq, (xs.length : Int), rfl, by omega, by omega, ?_⟩
    rw [Int.toNat_natCast]
    refine for_range (lo := 0) (n := xs.length) (fun i σ H3 => ∃ (at1 : Nat) (y3 y4 : Option V), σ = [some (.ref b), some (.int (at1 : Int)), some (.ref a), y3, y4] ∧ Same H H3 ∧ at1 < nodL (ds.drop i)) ⟨at0 - 1, none, none, ?_, Same.refl H, by rw [List.drop_zero]; omega⟩ (fun i σ H3 hi h3' => ?_) (fun σ H3 h3' => ?_)
    · show [some (V.ref b), some (V.int ((at0 : Int) - 1)), some (V.ref a), none, none] = _
      rw [show (at0 : Int) - 1 = ((at0 - 1 : Nat) : Int) by omega]
    · obtain ⟨at1, y3, y4, rfl, s3, lt⟩ := h3'
      obtain ⟨x, hx1⟩ : ∃ x1, xs[i]? = some x1 := ⟨xs[i], List.getElem?_eq_getElem (by omega)⟩
      obtain ⟨e, he, hate⟩ := paired_at h3 hx1
      have hde : ds.drop i = e :: ds.drop (i + 1) := by
        obtain ⟨hlt, hg⟩ := List.getElem?_eq_some_iff.mp he
        rw [List.drop_eq_getElem_cons hlt, hg]
      rw [hde, show nodL (e :: ds.drop (i + 1)) = nod e + nodL (ds.drop (i + 1)) by rw [nodL]] at lt
      refine ⟨.ref b, rfl, .int (0 + (i : Int)), rfl, b, _, _, _, rfl, rfl, (h1.same s3).seq, atI_cast (n := i) (by omega) hx1, x, e, F, N.C, B, L, rfl, NX, hate.same s3, by omega, fun H4 s4 => ?_⟩
      have s04 := Same.trans s3 s4
      refine ⟨.int (at1 : Int), rfl, .int ((nod e : Nat) : Int), rfl, _, _, rfl, rfl, decide ((at1 : Int) < ((nod e : Nat) : Int)), rfl, ?_⟩
      by_cases hlt : (at1 : Int) < ((nod e : Nat) : Int)
      · rw [decide_eq_true hlt]
        refine iteT ⟨.ref b, rfl, .int (0 + (i : Int)), rfl, _, rfl, tq_sl (ht.same s04) fun p1 H5 s5 g1 => ?_⟩
        have s05 := Same.trans s04 s5
        refine ⟨.ref b, rfl, .int (0 + (i : Int)), rfl, b, _, _, _, rfl, rfl, (h1.same s05).seq, atI_cast (n := i) (by omega) hx1, .int (at1 : Int), rfl, .ref a, rfl, a, c, x, e, F, at1, B, L, rfl, hw.same s05, hate.same s05, fa, fun b hb => Same.dom s05 b (hsub b hb), by omega, hB, hL0, hL, fun H6 v' d' x6 w6 hd hwd => ⟨(by show 1 ≤ sizeLine; decide), fun t o nt ho => ?_⟩⟩
        have k6 : DKeep F N.C H5 H6 := dk_exw x6 (hw.same s05) fa
        refine tq_cat ((g1.keep k6).same (same_upd nt)) (tq_one hd nt ho) (by omega) fun p2 H7 s7 g2 => ?_
        have s67 := Same.trans (same_upd nt) s7
        have k07 : DKeep F N.C H H7 := ((dk_same s05).trans k6).trans (dk_same s67)
        refine ⟨.ref b, rfl, .int (0 + (i : Int)), rfl, _, _, rfl, rfl, _, rfl, tq_sln (ht.keep k07) fun p3 H8 s8 g3 => tq_cat (g2.same s8) g3 (by omega) fun p4 H9 s9 g4 => ?_⟩
        have hd' := g4.dat (Nat.le_refl _) (Nat.le_refl _) (by omega)
        have ei : (i : Int) = 0 + (i : Int) := by omega
        have hi' : i < ds.length := by omega
        have w1 := wDs_take i ds
        rw [hde] at w1
        have w1 : wDs (ds.take i) + (wD e + 2 + wDs (ds.drop (i + 1))) = wDs ds := w1
        rw [show (0 : Int) + (i : Int) = ((i : Nat) : Int) by omega, show ((i : Nat) : Int) + 1 = ((i + 1 : Nat) : Int) by omega, cutD_take ds (Nat.le_of_lt hi'), cutD_drop ds hi'] at hd'
        refine q H9 _ _ ((((Same.exw s05).trans x6).same s67).same (Same.trans s8 s9)) (w6.same (Same.trans s67 (Same.trans s8 s9))) hd' ?_
        show 10 + wDs (ds.take i ++ [d'] ++ ds.drop (i + 1)) ≤ 2 * (10 + wDs ds) + 1000
        rw [wDs_app, wDs_app]
        show 10 + (wDs (ds.take i) + (wD d' + 2 + 0) + wDs (ds.drop (i + 1))) ≤ _
        omega
      · rw [decide_eq_false hlt]
        refine iteF ⟨.int (at1 : Int), rfl, .int ((nod e : Nat) : Int), rfl, _, _, rfl, rfl, at1 - nod e, some (.int (0 + (i : Int))), some (.int ((nod e : Nat) : Int)), ?_, s04, by omega⟩
        show [some (V.ref b), some (V.int ((at1 : Int) - ((nod e : Nat) : Int))), some (V.ref a), some (V.int (0 + (i : Int))), some (V.int ((nod e : Nat) : Int))] = _
        rw [show (at1 : Int) - ((nod e : Nat) : Int) = ((at1 - nod e : Nat) : Int) by omega]
    · obtain ⟨at1, y3, y4, rfl, s3, lt⟩ := h3'
      rw [hl, List.drop_length, show nodL [] = 0 by rw [nodL]] at lt
      omega
theorem ok_spoilt (T : Blt mg) (N : TxE K mg "NoTree") (NX : XcT K N.C) (dmixed : Dnmixed K mg) (dfilled : Dnfilled K mg) (ddraw : Dndraw K mg) (dnumber : Dnnumber K mg) (dsigns : Dnsigns K mg) (dstring : Dnstring K mg) (dname : Dnname K mg) (dany : Dnany K mg) (dnodes : Dnnodes K mg) (dchanged : Dnchanged K mg) (dspoilt : Dnspoilt K mg) : ∀ n : Nat, FnOk P w K mg base CX0 (n + 7) dspoilt.f dspoilt.fd ["_law_thing_here", "_law_at", "_law_well_here"] (spSpoilt' N.C n)
  | 0 => dspoilt.F.ok scspoilt (fun _ _ _ _ h => h.elim) (fun _ _ _ _ _ _ _ _ _ h => h.elim)
  | n + 1 => ok_spoilt' T N NX dmixed dfilled ddraw dnumber dsigns dstring dname dany dnodes dchanged dspoilt n (ok_spoilt T N NX dmixed dfilled ddraw dnumber dsigns dstring dname dany dnodes dchanged dspoilt n)
end
end Kb

namespace Kb
open PySem PySem.Spec PyProof.Rows L2 SrtZ SrtO
/-! trees, as anything -/
def eqD : Dat → Str → Bool
  | .str y, z => decide (y = z)
  | _, _ => false
theorem DatAt.eqS {K : PySem.W.Frag} {F : Addr → Prop} {C : Addr} {B L n : Nat} {H : Hp} {v : V} {d : Dat} (c : XcT K C) (h : DatAt F C B L n H v d) (z : Str) : EqSE K H v z (eqD d z) := by
  rcases h.cases with h | ⟨m, a, xs, ds, rfl, rfl, rfl, h1, h2, h3⟩ | ⟨m, a, xs, ds, rfl, rfl, rfl, f, h1, h2, h3⟩ | ⟨m, a, l, xs, ds, rfl, rfl, rfl, h0, f, h1, h2, h3⟩
  · cases d with
    | non =>
      cases (show v = .non from h)
      exact .inl (.inl ⟨rfl, rfl⟩)
    | bl b =>
      cases (show v = .bl b from h)
      exact .inl (.inr (.inr (.inl ⟨b, rfl, rfl⟩)))
    | int i =>
      cases h.1
      exact .inl (.inr (.inl ⟨i, rfl, rfl⟩))
    | str y =>
      cases h.1
      exact .inl (.inr (.inr (.inr (.inl ⟨y, rfl, rfl⟩))))
    | err =>
      obtain ⟨a, t0, rfl, h1, h2⟩ := h
      exact .inr ⟨rfl, a, t0, C, rfl, h1, c.eqQ⟩
    | tup _ => exact h.elim
    | lst _ => exact h.elim
    | dic _ => exact h.elim
  · exact .inl (.inr (.inr (.inr (.inr ⟨a, rfl, rfl, .inr (.inl ⟨xs, h1.seq⟩)⟩))))
  · exact .inl (.inr (.inr (.inr (.inr ⟨a, rfl, rfl, .inl ⟨xs, sql h1⟩⟩))))
  · exact .inl (.inr (.inr (.inr (.inr ⟨a, rfl, rfl, .inr (.inr ⟨_, h0⟩)⟩))))
theorem DtAt.eqS {K : PySem.W.Frag} {H : Hp} {v : V} {d : Dat} (h : DtAt K H v d) (z : Str) : EqSE K H v z (eqD d z) := let ⟨_, _, _, c, h⟩ := h; h.eqS c z
def stmD : Dat → Bool
  | .tup ds => ds.all nameD
  | _ => false
def putD : Dat → Bool
  | .tup [d0, _] => eqD d0 (Str.ofString "stream")
  | _ => false
def pouD : Dat → Bool
  | .tup [d0] => eqD d0 (Str.ofString "pour")
  | _ => false
def at1 : Dat → Dat
  | .tup [_, d1] => d1
  | _ => .non
def goD : Int → Int → List Dat → Option (Int × Int)
  | h, m, [] => some (h, m)
  | h, m, d :: ds => if (putD d && stmD (at1 d)) = true then goD (h + 1) (m + (lenD (at1 d) : Int)) ds else if (pouD d && decide (2 ≤ h)) = true then goD (h - 1) m ds else none
def enD : Option (Int × Int) → Bool
  | some (h, m) => decide (h = 1) && decide (m ≤ 50000)
  | none => false
def treeD : Dat → Bool
  | .tup ds => decide (ds.length ≤ 5000) && enD (goD 0 0 ds)
  | _ => false
theorem put_len {ds : List Dat} (h : ds.length ≠ 2) : putD (.tup ds) = false := by
  match ds, h with
  | [], _ => rfl
  | [_], _ => rfl
  | [_, _], h => exact absurd rfl h
  | _ :: _ :: _ :: _, _ => rfl
theorem pou_len {ds : List Dat} (h : ds.length ≠ 1) : pouD (.tup ds) = false := by
  match ds, h with
  | [], _ => rfl
  | [_], h => exact absurd rfl h
  | _ :: _ :: _, _ => rfl
theorem putD_is {d : Dat} (h : putD d = true) : ∃ d1, d = .tup [.str (Str.ofString "stream"), d1] := by
  match d, h with
  | .tup [d0, d1], h =>
    have h : eqD d0 (Str.ofString "stream") = true := h
    cases d0 with
    | str y => exact ⟨d1, by rw [of_decide_eq_true h]⟩
    | _ => cases h
theorem pouD_is {d : Dat} (h : pouD d = true) : d = .tup [.str (Str.ofString "pour")] := by
  match d, h with
  | .tup [d0], h =>
    have h : eqD d0 (Str.ofString "pour") = true := h
    cases d0 with
    | str y => rw [of_decide_eq_true h]
    | _ => cases h
theorem stmD_is {d : Dat} (h : stmD d = true) : ∃ ds, d = .tup ds ∧ ∀ e ∈ ds, nameD e = true := by
  cases d with
  | tup ds => exact ⟨ds, rfl, List.all_eq_true.mp h⟩
  | _ => cases h
theorem paired_to {α β : Type} {F : α → β → Prop} : ∀ {xs : List α} {ys : List β}, Paired F xs ys → ∀ {i : Nat} {y : β}, ys[i]? = some y → ∃ x, xs[i]? = some x ∧ F x y
  | _, _, .nil, _, _, h => nomatch h
  | _, _, .cons h t, 0, _, e => by cases e; exact ⟨_, rfl, h⟩
  | _, _, .cons _ t, i + 1, _, e => paired_to t (i := i) e
theorem two {α : Type} {xs : List α} (h : xs.length = 2) : ∃ a b, xs = [a, b] := match xs, h with | [a, b], _ => ⟨a, b, rfl⟩
theorem one {α : Type} {xs : List α} (h : xs.length = 1) : ∃ a, xs = [a] := match xs, h with | [a], _ => ⟨a, rfl⟩
section
variable {P : Program} {w : World} {K : PySem.W.Frag} {mg : Str → Option Value} {base : Heap}
/-! is_stream, of anything -/
def spIsStreamD (K : PySem.W.Frag) : Sp := fun vs H Q _ => ∃ (v : V) (d : Dat), vs = [v] ∧ DtAt K H v d ∧ ∀ H', Same H H' → Q (.bl (stmD d)) H'
theorem ok_is_streamD (T : Blt mg) (cL : Cst mg "LONGEST_NAME" (.int 8)) (dP_is_name : DnIsName K mg) (d : DnIsStream K mg) : FnOk P w K mg base CX0 2 d.f d.fd ["thing"] (spIsStreamD K) := by
  have GP_is_name : FnOk P w K mg base CX0 1 dP_is_name.f dP_is_name.fd ["thing"] (spIsNameD K) := ok_is_nameD T cL dP_is_name
  refine d.F.ok scP_is_stream (fun vs H Q E h => ?_) (fun cdv A outer s H vs Q E hr h => ?_)
  · obtain ⟨v, x, rfl, _⟩ := h
    rfl
  · obtain ⟨v, x, rfl, hx, q⟩ := h
    refine ⟨_, (pss_one (ps_ret (pe_and (pe_callB (call_isD (K := K) rfl) (by rfl) T.n_isinstance (by decide +kernel) (pa_cons (pv 0) (pa_cons (pe_bltn (v := .ty "tuple") (by rfl) T.n_tuple (by decide +kernel) rfl) pa_nil))) (pe_one (pe_callB (cr_all rfl) (by rfl) T.n_all (by decide +kernel) (pa_cons (pe_lc (own := [("item", 1)]) (g := gName 1) (tt := tYes) rfl scP_is_stream.nd (pi_tup (pv 0)) (blkOk_by (N := NP_is_stream) (sc := defScope sP_is_stream) (by decide +kernel)) (fun _ _ _ _ _ => pg_name (i := 1) scP_is_stream.nd rfl (Or.inl rfl)) (fun _ _ _ _ _ => pts_nil) (fun _ _ _ _ _ => (pe_call GP_is_name (hr.mono (by omega)) (by rfl) dP_is_name.g dP_is_name.F.kp dP_is_name.b .nil pass0 (pa_cons (pv 1) pa_nil)))) pa_nil)))))), ?_⟩
    obtain ⟨t, ty, kI, kB, kS, kT⟩ := hx.ty
    refine ⟨v, rfl, v, _, t, _, isT x, rfl, .ty "tuple", ty, kT, isT x, rfl, ?_⟩
    cases x with
    | tup ds =>
      obtain ⟨a, xs, rfl, h1, h2, h3⟩ := hx.tup
      have hl := Paired.length h3
      refine iteT ⟨.ref a, rfl, a, rfl, ⟨_, h1.seq⟩, fun D nD => lc_tup (xs := xs) (fun i H3 => Same H H3 ∧ H3 D = some (.lst ((ds.take i).map fun d => V.bl (nameD d)))) ⟨same_upd nD, upd_same⟩ (fun i H3 _ h4 => (h1.same h4.1).seq) (fun i x H3 hx4 h4 => ?_) (fun H3 h4 => ?_)⟩
      · obtain ⟨e, he, hat⟩ := paired_at h3 hx4
        refine ⟨rfl, x, rfl, x, e, rfl, hat.same h4.1, fun H4 s4 => ⟨_, s4 _ _ h4.2, ?_, fun b o z => ?_, ?_⟩⟩
        · rw [List.length_map, List.length_take, sizeLine_eq]
          omega
        · rw [upd_ne (ne_of_none z nD)]
          exact s4 b o (h4.1 b o z)
        · rw [upd_same, List.take_add_one, he, List.map_append]
          rfl
      · refine ⟨D, ds.map nameD, rfl, sql (by rw [h4.2, hl, List.take_length, List.map_map]; rfl), ?_⟩
        rw [show (ds.map nameD).all id = ds.all nameD by rw [List.all_map]; rfl]
        exact q H3 h4.1
    | _ => exact iteF (q H (Same.refl H))
/-! _is_put, _is_pour, of anything -/
def spIsPutD (K : PySem.W.Frag) : Sp := fun vs H Q _ => ∃ (v : V) (d : Dat), vs = [v, .str (Str.ofString "stream")] ∧ DtAt K H v d ∧ Q (.bl (putD d)) H
theorem ok_is_putD (T : Blt mg) (d : DnIsPut K mg) : FnOk P w K mg base CX0 1 d.p.f d.p.fd ["step", "word"] (spIsPutD K) := by
  refine d.p.F.ok scP_is_put (fun vs H Q E h => ?_) (fun cdv A outer s H vs Q E hr h => ?_)
  · obtain ⟨v, x, rfl, _⟩ := h
    rfl
  · obtain ⟨v, x, rfl, hx, q⟩ := h
    refine ⟨_, (pss_one (ps_ret (pe_and (pe_callB (call_isD (K := K) rfl) (by rfl) T.n_isinstance (by decide +kernel) (pa_cons (pv 0) (pa_cons (pe_bltn (v := .ty "tuple") (by rfl) T.n_tuple (by decide +kernel) rfl) pa_nil))) (pe_and (pe_cmpR op_eq (pe_callB call_len_seq (by rfl) T.n_len (by decide +kernel) (pa_cons (pv 0) pa_nil)) pe_int (nomark _)) (pe_one (pe_cmpR (op_eqSE (K := K) rfl hr.units) (pe_ix ix_tup (pv 0) pe_int (fun _ _ => rfl)) (pv 1) (nomark _))))))), ?_⟩
    obtain ⟨t, ty, kI, kB, kS, kT⟩ := hx.ty
    refine ⟨v, rfl, v, _, t, _, isT x, rfl, .ty "tuple", ty, kT, isT x, rfl, ?_⟩
    cases x with
    | tup ds =>
      obtain ⟨a, xs, rfl, h1, h2, h3⟩ := hx.tup
      have hl := Paired.length h3
      refine iteT ⟨.ref a, rfl, a, _, rfl, .inr h1.seq, rfl, ?_⟩
      by_cases h2l : ds.length = 2
      · obtain ⟨d1, d2, rfl⟩ := two h2l
        obtain ⟨x1, x2, rfl⟩ := two (hl.trans h2l)
        cases h3 with
        | cons e1 _ => exact ⟨true, rfl, iteT ⟨.ref a, rfl, a, _, _, _, rfl, rfl, h1.seq, atI_nat (j := 0) rfl, .str (Str.ofString "stream"), rfl, _, _, rfl, e1.eqS _, q⟩⟩
      · rw [put_len h2l] at q
        refine ⟨false, congrArg V.bl (decide_eq_false (by
          intro z
          injection z with z
          omega)), iteF q⟩
    | _ => exact iteF q
def spIsPourD (K : PySem.W.Frag) : Sp := fun vs H Q _ => ∃ (v : V) (d : Dat), vs = [v] ∧ DtAt K H v d ∧ Q (.bl (pouD d)) H
theorem ok_is_pourD (T : Blt mg) (d : DnIsPour K mg) : FnOk P w K mg base CX0 1 d.f d.fd ["step"] (spIsPourD K) := by
  refine d.F.ok scP_is_pour (fun vs H Q E h => ?_) (fun cdv A outer s H vs Q E hr h => ?_)
  · obtain ⟨v, x, rfl, _⟩ := h
    rfl
  · obtain ⟨v, x, rfl, hx, q⟩ := h
    refine ⟨_, (pss_one (ps_ret (pe_and (pe_callB (call_isD (K := K) rfl) (by rfl) T.n_isinstance (by decide +kernel) (pa_cons (pv 0) (pa_cons (pe_bltn (v := .ty "tuple") (by rfl) T.n_tuple (by decide +kernel) rfl) pa_nil))) (pe_and (pe_cmpR op_eq (pe_callB call_len_seq (by rfl) T.n_len (by decide +kernel) (pa_cons (pv 0) pa_nil)) pe_int (nomark _)) (pe_one (pe_cmpR (op_eqSE (K := K) rfl hr.units) (pe_ix ix_tup (pv 0) pe_int (fun _ _ => rfl)) pe_str (nomark _))))))), ?_⟩
    obtain ⟨t, ty, kI, kB, kS, kT⟩ := hx.ty
    refine ⟨v, rfl, v, _, t, _, isT x, rfl, .ty "tuple", ty, kT, isT x, rfl, ?_⟩
    cases x with
    | tup ds =>
      obtain ⟨a, xs, rfl, h1, h2, h3⟩ := hx.tup
      have hl := Paired.length h3
      refine iteT ⟨.ref a, rfl, a, _, rfl, .inr h1.seq, rfl, ?_⟩
      by_cases h2l : ds.length = 1
      · obtain ⟨d1, rfl⟩ := one h2l
        obtain ⟨x1, rfl⟩ := one (hl.trans h2l)
        cases h3 with
        | cons e1 _ => exact ⟨true, rfl, iteT ⟨.ref a, rfl, a, _, _, _, rfl, rfl, h1.seq, atI_nat (j := 0) rfl, _, _, rfl, e1.eqS _, q⟩⟩
      · rw [pou_len h2l] at q
        refine ⟨false, congrArg V.bl (decide_eq_false (by
          intro z
          injection z with z
          omega)), iteF q⟩
    | _ => exact iteF q
/-! is_tree_of, is_tree, of anything -/
def spIsTreeOfD (K : PySem.W.Frag) (g : Addr) : Sp := fun vs H Q _ => ∃ (v : V) (d : Dat), vs = [v, .str (Str.ofString "stream"), .ref g] ∧ DtAt K H v d ∧ ∀ H', Same H H' → Q (.bl (treeD d)) H'
theorem ok_is_tree_ofD (T : Blt mg) (cL : Cst mg "LONGEST_NAME" (.int 8)) (cS' : Cst mg "MOST_STEPS" (.int 5000)) (cI : Cst mg "MOST_ITEMS" (.int 50000)) (dP_is_name : DnIsName K mg) (dP_is_stream : DnIsStream K mg) (dP_is_put : DnIsPut K mg) (dP_is_pour : DnIsPour K mg) :
    FnOk P w K mg base CX0 3 dP_is_put.o.f dP_is_put.o.fd ["thing", "word", "is_right"] (spIsTreeOfD K dP_is_stream.f) := by
  have GP_is_stream : FnOk P w K mg base CX0 2 dP_is_stream.f dP_is_stream.fd ["thing"] (spIsStreamD K) := ok_is_streamD T cL dP_is_name dP_is_stream
  have GP_is_put : FnOk P w K mg base CX0 1 dP_is_put.p.f dP_is_put.p.fd ["step", "word"] (spIsPutD K) := ok_is_putD T dP_is_put
  have GP_is_pour : FnOk P w K mg base CX0 1 dP_is_pour.f dP_is_pour.fd ["step"] (spIsPourD K) := ok_is_pourD T dP_is_pour
  refine dP_is_put.o.F.ok scP_is_tree_of (fun vs H Q E h => ?_) (fun cdv A outer s H vs Q E hr h => ?_)
  · obtain ⟨v, x, rfl, _⟩ := h
    rfl
  · obtain ⟨v, x, rfl, hx, q⟩ := h
    refine ⟨_, (pss_cons (ps_if (PW.pt (pw_or (pt_not (pt_val (pe_callB (call_isD (K := K) rfl) (by rfl) T.n_isinstance (by decide +kernel) (pa_cons (pv 0) (pa_cons (pe_bltn (v := .ty "tuple") (by rfl) T.n_tuple (by decide +kernel) rfl) pa_nil))))) (pw_or1 (pt_cmpR op_gt (pe_callB call_len_seq (by rfl) T.n_len (by decide +kernel) (pa_cons (pv 0) pa_nil)) (pe_glob rfl cS'.g cS'.r) (nomark _)))))
      (pss_one (ps_ret pe_bl))
      pss_nil)
    (pss_cons (ps_set (i := 3) scP_is_tree_of.nd rfl (Or.inl rfl) pe_int)
    (pss_cons (ps_set (i := 4) scP_is_tree_of.nd rfl (Or.inl rfl) pe_int)
    (pss_cons (ps_for PassesOwn.never rfl (pi_tup (pv 0)) (pg_name (i := 5) scP_is_tree_of.nd rfl (Or.inl rfl))
      (pss_one (ps_if (PW.pt (pw_and (pt_val (pe_call GP_is_put (hr.mono (by omega)) (by rfl) dP_is_put.p.g dP_is_put.p.F.kp dP_is_put.p.b .nil pass0 (pa_cons (pv 5) (pa_cons (pv 1) pa_nil)))) (pw_and1 (pt_val (pe_callL (i := 2) GP_is_stream (hr.mono (by omega)) rfl (.inl rfl) dP_is_stream.F.kp dP_is_stream.b .nil pass0 (pa_cons (pe_ix ix_tup (pv 5) pe_int (fun _ _ => rfl)) pa_nil))))))
        (pss_cons (ps_aug (i := 4) scP_is_tree_of.nd rfl (Or.inl rfl) pe_int ip_add)
        (pss_one (ps_aug (i := 3) scP_is_tree_of.nd rfl (Or.inl rfl) (pe_callB call_len_seq (by rfl) T.n_len (by decide +kernel) (pa_cons (pe_ix ix_tup (pv 5) pe_int (fun _ _ => rfl)) pa_nil)) ip_add)))
        (pss_one (ps_if (PW.pt (pw_and (pt_val (pe_call GP_is_pour (hr.mono (by omega)) (by rfl) dP_is_pour.g dP_is_pour.F.kp dP_is_pour.b .nil pass0 (pa_cons (pv 5) pa_nil))) (pw_and1 (pt_cmpR op_ge (pv 4) pe_int (nomark _)))))
          (pss_one (ps_aug (i := 4) scP_is_tree_of.nd rfl (Or.inl rfl) pe_int ip_sub))
          (pss_one (ps_ret pe_bl)))))))
    (pss_one (ps_ret (pe_and (pe_cmpR op_eq (pv 4) pe_int (nomark _)) (pe_one (pe_cmpR op_le (pv 3) (pe_glob rfl cI.g cI.r) (nomark _)))))))))), ?_⟩
    obtain ⟨t, ty, kI, kB, kS, kT⟩ := hx.ty
    refine ⟨v, rfl, v, _, t, _, isT x, rfl, .ty "tuple", ty, kT, isT x, rfl, ?_⟩
    cases x with
    | tup ds =>
      obtain ⟨a, xs, rfl, h1, h2, h3⟩ := hx.tup
      have hl := Paired.length h3
      have q : ∀ H', Same H H' → Q (.bl (decide (ds.length ≤ 5000) && enD (goD 0 0 ds))) H' := q
      refine iteF ⟨.ref a, rfl, a, _, rfl, .inr h1.seq, _, _, rfl, rfl, ?_⟩
      by_cases h5 : ds.length ≤ 5000
      · rw [decide_eq_true h5, Bool.true_and] at q
        refine ⟨false, congrArg V.bl (decide_eq_false (by omega)), iteF ?_⟩
        refine ⟨.ref a, rfl, a, rfl, ⟨_, h1.seq⟩, for_tup (xs := xs) (fun i σ H3 => ∃ (x : Option V) (h m : Int), σ = [some (.ref a), some (.str (Str.ofString "stream")), some (.ref dP_is_stream.f), some (.int m), some (.int h), x] ∧ Same H H3 ∧ goD 0 0 ds = goD h m (ds.drop i)) ⟨none, 0, 0, rfl, Same.refl H, by rw [List.drop_zero]⟩ (fun i σ H3 _ ⟨_, _, _, _, s3, _⟩ => (h1.same s3).seq) ?_ ?_⟩
        · rintro i v σ H3 hi ⟨x, h, m, rfl, s3, hg⟩
          obtain ⟨e, he, hat⟩ := paired_at h3 hi
          have hde : ds.drop i = e :: ds.drop (i + 1) := by
            obtain ⟨hlt, hg⟩ := List.getElem?_eq_some_iff.mp he
            rw [List.drop_eq_getElem_cons hlt, hg]
          rw [hde] at hg
          have hg : goD 0 0 ds = (if (putD e && stmD (at1 e)) = true then goD (h + 1) (m + (lenD (at1 e) : Int)) (ds.drop (i + 1)) else if (pouD e && decide (2 ≤ h)) = true then goD (h - 1) m (ds.drop (i + 1)) else none) := hg
          have hat3 := hat.same s3
          refine ⟨v, rfl, _, rfl, v, e, rfl, hat3, putD e, rfl, ?_⟩
          cases ep : putD e with
          | false =>
            refine iteF ⟨v, rfl, v, e, rfl, hat3, pouD e, rfl, ?_⟩
            rw [ep, Bool.false_and, if_neg Bool.noConfusion] at hg
            cases eo : pouD e with
            | false =>
              rw [eo, Bool.false_and, if_neg Bool.noConfusion] at hg
              rw [hg] at q
              exact iteF (q H3 s3)
            | true =>
              rw [eo, Bool.true_and] at hg
              refine iteT ⟨.int h, rfl, _, _, rfl, rfl, ?_⟩
              by_cases h2 : 2 ≤ h
              · rw [decide_eq_true h2, if_pos rfl] at hg
                exact ⟨true, congrArg V.bl (decide_eq_true (by omega)), iteT ⟨.int h, rfl, _, _, rfl, rfl, some v, h - 1, m, rfl, s3, hg⟩⟩
              · rw [decide_eq_false h2, if_neg Bool.noConfusion] at hg
                rw [hg] at q
                exact ⟨false, congrArg V.bl (decide_eq_false (by omega)), iteF (q H3 s3)⟩
          | true =>
            obtain ⟨d1, rfl⟩ := putD_is ep
            obtain ⟨b, ys, rfl, g1, g2, g3⟩ := hat3.tup
            obtain ⟨y0, y1, rfl⟩ := two (show ys.length = 2 from Paired.length g3)
            cases g3 with
            | cons e0 g3 =>
            cases g3 with
            | cons e1 g3 =>
            refine iteT ⟨rfl, .ref b, rfl, b, _, _, _, rfl, rfl, g1.seq, atI_nat (j := 1) rfl, y1, d1, rfl, e1, fun H4 s4 => ⟨stmD d1, rfl, ?_⟩⟩
            have s04 := Same.trans s3 s4
            have ea : at1 (.tup [.str (Str.ofString "stream"), d1]) = d1 := rfl
            rw [ea] at hg
            cases em : stmD d1 with
            | false =>
              have hat4 := hat3.same s4
              refine iteF ⟨.ref b, rfl, .ref b, _, rfl, hat4, pouD (.tup [.str (Str.ofString "stream"), d1]), rfl, ?_⟩
              rw [ep, em, Bool.true_and, if_neg Bool.noConfusion] at hg
              cases eo : pouD (.tup [.str (Str.ofString "stream"), d1]) with
              | false =>
                rw [eo, Bool.false_and, if_neg Bool.noConfusion] at hg
                rw [hg] at q
                exact iteF (q H4 s04)
              | true =>
                rw [eo, Bool.true_and] at hg
                refine iteT ⟨.int h, rfl, _, _, rfl, rfl, ?_⟩
                by_cases h2 : 2 ≤ h
                · rw [decide_eq_true h2, if_pos rfl] at hg
                  exact ⟨true, congrArg V.bl (decide_eq_true (by omega)), iteT ⟨.int h, rfl, _, _, rfl, rfl, some (.ref b), h - 1, m, rfl, s04, hg⟩⟩
                · rw [decide_eq_false h2, if_neg Bool.noConfusion] at hg
                  rw [hg] at q
                  exact ⟨false, congrArg V.bl (decide_eq_false (by omega)), iteF (q H4 s04)⟩
            | true =>
              rw [ep, em, Bool.true_and, if_pos rfl] at hg
              obtain ⟨ns, rfl, hns⟩ := stmD_is em
              obtain ⟨c, zs, rfl, k1, k2, k3⟩ := e1.tup
              refine iteT ⟨.int h, rfl, _, _, rfl, rfl, .int m, rfl, .ref b, rfl, b, _, _, _, rfl, rfl, (g1.same s4).seq, atI_nat (j := 1) rfl, c, _, rfl, .inr (k1.same s4).seq, _, _, rfl, rfl, some (.ref b), h + 1, m + (zs.length : Int), rfl, s04, ?_⟩
              rw [hg, Paired.length k3]
              rfl
        · rintro σ H3 ⟨x, h, m, rfl, s3, hg⟩
          rw [hl, List.drop_length] at hg
          have hg : goD 0 0 ds = some (h, m) := hg
          rw [hg] at q
          have q : ∀ H', Same H H' → Q (.bl (decide (h = 1) && decide (m ≤ 50000))) H' := q
          refine ⟨.int h, rfl, rfl, decide (h = 1), congrArg V.bl (decide_eq_decide.mpr ⟨fun z => by injection z, fun z => by rw [z]⟩), ite2 (fun e => ⟨.int m, rfl, _, _, rfl, rfl, ?_⟩) (fun e => ?_)⟩
          · rw [e, Bool.true_and] at q
            exact q H3 s3
          · rw [show decide (h = 1) = false by simpa using e, Bool.false_and] at q
            exact q H3 s3
      · rw [decide_eq_false h5, Bool.false_and] at q
        exact ⟨true, congrArg V.bl (decide_eq_true (by omega)), iteT (q H (Same.refl H))⟩
    | _ => exact iteT (iteT (q H (Same.refl H)))
def spIsTreeD (K : PySem.W.Frag) : Sp := fun vs H Q _ => ∃ (v : V) (d : Dat), vs = [v] ∧ DtAt K H v d ∧ ∀ H', Same H H' → Q (.bl (treeD d)) H'
theorem ok_is_treeD (T : Blt mg) (cL : Cst mg "LONGEST_NAME" (.int 8)) (cS' : Cst mg "MOST_STEPS" (.int 5000)) (cI : Cst mg "MOST_ITEMS" (.int 50000)) (dP_is_name : DnIsName K mg) (dP_is_stream : DnIsStream K mg) (dP_is_put : DnIsPut K mg) (dP_is_pour : DnIsPour K mg) (d : DnIsTree K mg) :
    FnOk P w K mg base CX0 4 d.f d.fd ["thing"] (spIsTreeD K) := by
  have GP_is_tree_of : FnOk P w K mg base CX0 3 dP_is_put.o.f dP_is_put.o.fd ["thing", "word", "is_right"] (spIsTreeOfD K dP_is_stream.f) := ok_is_tree_ofD T cL cS' cI dP_is_name dP_is_stream dP_is_put dP_is_pour
  refine d.F.ok scP_is_tree (fun vs H Q E h => ?_) (fun cdv A outer s H vs Q E hr h => ?_)
  · obtain ⟨v, x, rfl, _⟩ := h
    rfl
  · obtain ⟨v, x, rfl, hx, q⟩ := h
    refine ⟨_, (pss_one (ps_ret (pe_call GP_is_tree_of (hr.mono (by omega)) (by rfl) dP_is_put.o.g dP_is_put.o.F.kp dP_is_put.o.b .nil pass0 (pa_cons (pv 0) (pa_cons pe_str (pa_cons (pe_glob (v := .ref dP_is_stream.f) rfl dP_is_stream.g rfl) pa_nil)))))), ?_⟩
    exact ⟨v, rfl, v, x, rfl, hx, q⟩
end
/-! a right tree, where it stands -/
def strOf : Dat → Str
  | .str z => z
  | _ => Str.ofString ""
def toStp : Dat → Stp
  | .tup [_, .tup ns] => .put (ns.map strOf)
  | _ => .pour
theorem names_at {K : PySem.W.Frag} {H : Hp} : ∀ {xs : List V} {ns : List Dat}, Paired (DtAt K H) xs ns → (∀ e ∈ ns, nameD e = true) → xs = (ns.map strOf).map V.str ∧ ∀ z ∈ ns.map strOf, Nm z
  | _, _, .nil, _ => ⟨rfl, fun _ h => nomatch h⟩
  | _, n :: ns, .cons h t, c => by
    obtain ⟨e, hn⟩ := names_at t fun e he => c e (List.mem_cons_of_mem _ he)
    have h1 := c n List.mem_cons_self
    cases n with
    | str z =>
      obtain ⟨rfl, _⟩ := h.str
      refine ⟨by rw [e]; rfl, fun y hy => ?_⟩
      rcases List.mem_cons.mp hy with rfl | hy
      · exact nmB_nm.mp h1
      · exact hn y hy
    | _ => cases h1
theorem go_ok : ∀ {ds : List Dat} {h m h2 m2 : Int}, goD h m ds = some (h2, m2) → (ds.map toStp).foldl hS h = h2 ∧ (ds.map toStp).foldl cS m = m2 ∧ (∀ i, (ds.map toStp)[i]? = some .pour → 2 ≤ ((ds.map toStp).take i).foldl hS h) ∧ ∀ d ∈ ds, (putD d = true ∧ stmD (at1 d) = true) ∨ pouD d = true
  | [], h, m, h2, m2, e => by
    cases e
    exact ⟨rfl, rfl, fun i z => (nomatch z), fun _ z => (nomatch z)⟩
  | d :: ds, h, m, h2, m2, e => by
    have e : (if (putD d && stmD (at1 d)) = true then goD (h + 1) (m + (lenD (at1 d) : Int)) ds else if (pouD d && decide (2 ≤ h)) = true then goD (h - 1) m ds else none) = some (h2, m2) := e
    by_cases hp : (putD d && stmD (at1 d)) = true
    · rw [if_pos hp] at e
      rw [Bool.and_eq_true] at hp
      obtain ⟨a1, a2, a3, a4⟩ := go_ok e
      obtain ⟨d1, rfl⟩ := putD_is hp.1
      obtain ⟨ns, hd, _⟩ := stmD_is hp.2
      have hd : d1 = .tup ns := hd
      subst hd
      have l1 : ((ns.map strOf).length : Nat) = ns.length := List.length_map _
      refine ⟨a1, ?_, fun i hi => ?_, fun x hx => ?_⟩
      · show ((ds.map toStp).foldl cS (m + (((ns.map strOf).length : Nat) : Int))) = m2
        rw [l1]
        exact a2
      · cases i with
        | zero => cases hi
        | succ i => exact a3 i hi
      · rcases List.mem_cons.mp hx with rfl | hx
        · exact .inl hp
        · exact a4 x hx
    · rw [if_neg hp] at e
      by_cases ho : (pouD d && decide (2 ≤ h)) = true
      · rw [if_pos ho] at e
        rw [Bool.and_eq_true, decide_eq_true_eq] at ho
        obtain ⟨a1, a2, a3, a4⟩ := go_ok e
        obtain rfl := pouD_is ho.1
        refine ⟨a1, a2, fun i hi => ?_, fun x hx => ?_⟩
        · cases i with
          | zero => exact ho.2
          | succ i => exact a3 i hi
        · rcases List.mem_cons.mp hx with rfl | hx
          · exact .inr ho.1
          · exact a4 x hx
      · rw [if_neg ho] at e
        cases e
theorem stps_of {K : PySem.W.Frag} {H : Hp} : ∀ {xs : List V} {ds : List Dat}, Paired (DtAt K H) xs ds → (∀ d ∈ ds, (putD d = true ∧ stmD (at1 d) = true) ∨ pouD d = true) → Paired (StpAt K H) xs (ds.map toStp)
  | _, _, .nil, _ => .nil
  | _, d :: ds, .cons h t, c => by
    refine .cons ?_ (stps_of t fun e he => c e (List.mem_cons_of_mem _ he))
    rcases c d List.mem_cons_self with ⟨p1, p2⟩ | p
    · obtain ⟨d1, rfl⟩ := putD_is p1
      obtain ⟨ns, hd, hns⟩ := stmD_is p2
      have hd : d1 = .tup ns := hd
      subst hd
      obtain ⟨a, xs, rfl, h1, h2, h3⟩ := h.tup
      obtain ⟨x1, x2, rfl⟩ := two (show xs.length = 2 from Paired.length h3)
      cases h3 with
      | cons e1 h3 =>
      cases h3 with
      | cons e2 h3 =>
      obtain ⟨rfl, _⟩ := e1.str
      obtain ⟨b, ys, rfl, g1, g2, g3⟩ := e2.tup
      obtain ⟨e, hn⟩ := names_at g3 hns
      exact ⟨a, b, rfl, h1.seq, by rw [← e]; exact g1.seq, hn, by rw [List.length_map, ← Paired.length g3]; omega⟩
    · obtain rfl := pouD_is p
      obtain ⟨a, xs, rfl, h1, h2, h3⟩ := h.tup
      obtain ⟨x1, rfl⟩ := one (show xs.length = 1 from Paired.length h3)
      cases h3 with
      | cons e1 h3 =>
      obtain ⟨rfl, _⟩ := e1.str
      exact ⟨a, rfl, h1.seq⟩
theorem tree_of {K : PySem.W.Frag} {H : Hp} {v : V} {d : Dat} (h : DtAt K H v d) (c : treeD d = true) : ∃ a ds, v = .ref a ∧ d = .tup ds ∧ TreeAt K H a (ds.map toStp) ∧ Tree (ds.map toStp) ∧ (∀ zs, .put zs ∈ ds.map toStp → ∀ z ∈ zs, Nm z) ∧ ∀ e ∈ ds, (putD e = true ∧ stmD (at1 e) = true) ∨ pouD e = true := by
  cases d with
  | tup ds =>
    have c : (decide (ds.length ≤ 5000) && enD (goD 0 0 ds)) = true := c
    rw [Bool.and_eq_true, decide_eq_true_eq] at c
    obtain ⟨c1, c2⟩ := c
    obtain ⟨a, xs, rfl, h1, h2, h3⟩ := h.tup
    cases hg : goD 0 0 ds with
    | none => rw [hg] at c2; cases c2
    | some p =>
      obtain ⟨hh, mm⟩ := p
      rw [hg] at c2
      have c2 : (decide (hh = 1) && decide (mm ≤ 50000)) = true := c2
      rw [Bool.and_eq_true, decide_eq_true_eq, decide_eq_true_eq] at c2
      obtain ⟨a1, a2, a3, a4⟩ := go_ok hg
      have hst := stps_of h3 a4
      refine ⟨a, ds, rfl, rfl, ⟨xs, h1.seq, hst⟩, ⟨a3, a1.trans c2.1, by show (ds.map toStp).foldl cS 0 ≤ 50000; rw [a2]; exact c2.2, by rw [List.length_map]; exact c1⟩, fun zs hz z hz2 => ?_, a4⟩
      obtain ⟨j, hj⟩ := List.mem_iff_getElem?.mp hz
      obtain ⟨x, hx, hs⟩ := paired_to hst hj
      obtain ⟨_, _, _, _, _, hn, _⟩ := hs
      exact hn z hz2
  | _ => cases c
end Kb

namespace Kb
open PySem PySem.Spec PyProof.Rows L2 SrtZ SrtO
abbrev sstep_fits : Stmt := topS 57
abbrev Nstep_fits : List Str := ["_law_step", "_law_name_here"]
theorem scstep_fits : FnScope ["_law_step", "_law_name_here"] ["_law_step"] (defScope sstep_fits) := ⟨rfl, rfl, rfl, by decide +kernel, rfl, by decide +kernel, by decide +kernel⟩
abbrev Dnstep_fits (K : PySem.W.Frag) (mg : Str → Option Value) := Dn K mg "_law_step_fits" sstep_fits ["_law_step"]
abbrev stree_fits : Stmt := topS 58
abbrev Ntree_fits : List Str := ["_law_thing_here", "_law_pile", "_law_many", "_law_step"]
theorem sctree_fits : FnScope ["_law_thing_here", "_law_pile", "_law_many", "_law_step"] ["_law_thing_here"] (defScope stree_fits) := ⟨rfl, rfl, rfl, by decide +kernel, rfl, by decide +kernel, by decide +kernel⟩
abbrev Dntree_fits (K : PySem.W.Frag) (mg : Str → Option Value) := Dn K mg "_law_tree_fits" stree_fits ["_law_thing_here"]
def fitD (d : Dat) : Bool := pouD d || (putD d && stmD (at1 d))
theorem dstr (z w : Str) : decide (V.str z = V.str w) = decide (z = w) := decide_eq_decide.mpr ⟨fun h => by injection h, fun h => by rw [h]⟩
theorem fit_len {ds : List Dat} (h1 : ds.length ≠ 1) (h2 : ds.length ≠ 2) : fitD (.tup ds) = false := by
  unfold fitD
  rw [pou_len h1, put_len h2]
  rfl
theorem go_unfit : ∀ {ds : List Dat} {h m : Int}, ds.all fitD = false → goD h m ds = none
  | [], _, _, e => nomatch e
  | d :: ds, h, m, e => by
    show (if (putD d && stmD (at1 d)) = true then goD (h + 1) (m + (lenD (at1 d) : Int)) ds else if (pouD d && decide (2 ≤ h)) = true then goD (h - 1) m ds else none) = none
    have e : (fitD d && ds.all fitD) = false := e
    by_cases hp : (putD d && stmD (at1 d)) = true
    · rw [if_pos hp]
      refine go_unfit ?_
      unfold fitD at e
      rw [hp, Bool.or_true, Bool.true_and] at e
      exact e
    · rw [if_neg hp]
      by_cases ho : (pouD d && decide (2 ≤ h)) = true
      · rw [if_pos ho]
        rw [Bool.and_eq_true] at ho
        refine go_unfit ?_
        unfold fitD at e
        rw [ho.1, Bool.true_or, Bool.true_and] at e
        exact e
      · rw [if_neg ho]
section
variable {P : Program} {w : World} {K : PySem.W.Frag} {mg : Str → Option Value} {base : Heap}
/-! _law_step_fits -/
def spStepFitsD (K : PySem.W.Frag) : Sp := fun vs H Q _ => ∃ (v : V) (d : Dat), vs = [v] ∧ DtAt K H v d ∧ ∀ H', Same H H' → Q (.bl (fitD d)) H'
theorem ok_step_fitsD (T : Blt mg) (dlong : Dnlong K mg) (dname_fits : Dnname_fits K mg) (d : Dnstep_fits K mg) : FnOk P w K mg base CX0 2 d.f d.fd ["_law_step"] (spStepFitsD K) := by
  have Glong := ok_longD (P := P) (w := w) (base := base) T dlong
  have Gname_fits := ok_name_fitsD (P := P) (w := w) (base := base) T dname_fits
  refine d.F.ok scstep_fits (fun vs H Q E h => ?_) (fun cdv A outer s H vs Q E hr h => ?_)
  · obtain ⟨v, x, rfl, _⟩ := h
    rfl
  · obtain ⟨v, x, rfl, hx, q⟩ := h
    refine ⟨_, (pss_cons (ps_if (pt_val (pe_call Glong (hr.mono (by omega)) (by rfl) dlong.g dlong.F.kp dlong.b .nil pass0 (pa_cons (pv 0) (pa_cons pe_int pa_nil))))
      (pss_one (ps_ret (pe_and (pe_callB (call_isD (K := K) rfl) (by rfl) T.n_isinstance (by decide +kernel) (pa_cons (pe_ix ix_tup (pv 0) pe_int (fun _ _ => rfl)) (pa_cons (pe_bltn (v := .ty "str") (by rfl) T.n_str (by decide +kernel) rfl) pa_nil))) (pe_one (pe_cmpR op_eq (pe_ix ix_tup (pv 0) pe_int (fun _ _ => rfl)) pe_str (nomark _))))))
      pss_nil)
    (pss_cons (ps_if (PW.pt (pw_or (pt_not (pt_val (pe_call Glong (hr.mono (by omega)) (by rfl) dlong.g dlong.F.kp dlong.b .nil pass0 (pa_cons (pv 0) (pa_cons pe_int pa_nil))))) (pw_or (pt_not (pt_val (pe_callB (call_isD (K := K) rfl) (by rfl) T.n_isinstance (by decide +kernel) (pa_cons (pe_ix ix_tup (pv 0) pe_int (fun _ _ => rfl)) (pa_cons (pe_bltn (v := .ty "str") (by rfl) T.n_str (by decide +kernel) rfl) pa_nil))))) (pw_or1 (pt_cmpR op_ne (pe_ix ix_tup (pv 0) pe_int (fun _ _ => rfl)) pe_str (nomark _))))))
      (pss_one (ps_ret pe_bl))
      pss_nil)
    (pss_one (ps_ret (pe_and (pe_callB (call_isD (K := K) rfl) (by rfl) T.n_isinstance (by decide +kernel) (pa_cons (pe_ix ix_tup (pv 0) pe_int (fun _ _ => rfl)) (pa_cons (pe_bltn (v := .ty "tuple") (by rfl) T.n_tuple (by decide +kernel) rfl) pa_nil))) (pe_one (pe_callB (cr_all rfl) (by rfl) T.n_all (by decide +kernel) (pa_cons (pe_lc (own := [("_law_name_here", 1)]) (g := gName 1) (tt := tYes) rfl scstep_fits.nd (pi_tup (pe_ix (r := rIxT K) ix_tup (pv 0) pe_int (fun _ _ => rfl))) (blkOk_by (N := Nstep_fits) (sc := defScope sstep_fits) (by decide +kernel)) (fun _ _ _ _ _ => pg_name (i := 1) scstep_fits.nd rfl (Or.inl rfl)) (fun _ _ _ _ _ => pts_nil) (fun _ _ _ _ _ => (pe_call Gname_fits (hr.mono (by omega)) (by rfl) dname_fits.g dname_fits.F.kp dname_fits.b .nil pass0 (pa_cons (pv 1) pa_nil)))) pa_nil)))))))), ?_⟩
    refine ⟨v, rfl, v, x, 1, rfl, hx, lgB 1 x, rfl, ?_⟩
    rcases flat_of x with ⟨f1, f2⟩ | ⟨ds, rfl⟩
    · have e1 : lgB 1 x = false := by cases x <;> first | rfl | cases f1
      have e2 : lgB 2 x = false := by cases x <;> first | rfl | cases f1
      have e3 : fitD x = false := by cases x <;> first | rfl | cases f1
      rw [e3] at q
      rw [e1]
      refine iteF ⟨v, rfl, v, x, 2, rfl, hx, lgB 2 x, rfl, ?_⟩
      rw [e2]
      exact iteT (iteT (q H (Same.refl H)))
    obtain ⟨a, xs, rfl, h1, h2, h3⟩ := hx.tup
    have hl := Paired.length h3
    by_cases l1 : ds.length = 1
    · obtain ⟨d0, rfl⟩ := one l1
      obtain ⟨x0, rfl⟩ := one (hl.trans l1)
      cases h3 with
      | cons e0 h3 =>
      obtain ⟨t, ty, kI, kB, kS, kT⟩ := e0.ty
      rw [show lgB 1 (.tup [d0]) = true from rfl]
      have ef : fitD (.tup [d0]) = eqD d0 (Str.ofString "pour") := by
        show (eqD d0 (Str.ofString "pour") || false) = _
        rw [Bool.or_false]
      rw [ef] at q
      refine iteT ⟨.ref a, rfl, a, _, _, _, rfl, rfl, h1.seq, atI_nat (j := 0) rfl, x0, _, t, _, isS d0, rfl, .ty "str", ty, kS, isS d0, rfl, ?_⟩
      cases d0 with
      | str z =>
        obtain ⟨rfl, _⟩ := e0.str
        refine iteT ⟨.ref a, rfl, a, _, _, _, rfl, rfl, h1.seq, atI_nat (j := 0) rfl, rfl, ?_⟩
        rw [dstr]
        exact q H (Same.refl H)
      | _ => exact iteF (q H (Same.refl H))
    · rw [show lgB 1 (.tup ds) = false from decide_eq_false (by omega)]
      refine iteF ⟨.ref a, rfl, .ref a, _, 2, rfl, hx, lgB 2 (.tup ds), rfl, ?_⟩
      by_cases l2 : ds.length = 2
      · obtain ⟨d0, d1, rfl⟩ := two l2
        obtain ⟨x0, x1, rfl⟩ := two (hl.trans l2)
        cases h3 with
        | cons e0 h3 =>
        cases h3 with
        | cons e1 h3 =>
        obtain ⟨t, ty, kI, kB, kS, kT⟩ := e0.ty
        rw [show lgB 2 (.tup [d0, d1]) = true from rfl]
        have q : ∀ H', Same H H' → Q (.bl (eqD d0 (Str.ofString "stream") && stmD d1)) H' := q
        refine iteF ⟨.ref a, rfl, a, _, _, _, rfl, rfl, h1.seq, atI_nat (j := 0) rfl, x0, _, t, _, isS d0, rfl, .ty "str", ty, kS, isS d0, rfl, ?_⟩
        cases d0 with
        | str z =>
          obtain ⟨rfl, _⟩ := e0.str
          refine iteF ⟨.ref a, rfl, a, _, _, _, rfl, rfl, h1.seq, atI_nat (j := 0) rfl, rfl, !decide (z = Str.ofString "stream"), congrArg V.bl (by rw [dstr]), ?_⟩
          have q : ∀ H', Same H H' → Q (.bl (decide (z = Str.ofString "stream") && stmD d1)) H' := q
          by_cases hz : z = Str.ofString "stream"
          · rw [decide_eq_true hz] at q ⊢
            rw [Bool.true_and] at q
            obtain ⟨t1, ty1, _, _, _, kT1⟩ := e1.ty
            refine iteF ⟨.ref a, rfl, a, _, _, _, rfl, rfl, h1.seq, atI_nat (j := 1) rfl, x1, _, t1, _, isT d1, rfl, .ty "tuple", ty1, kT1, isT d1, rfl, ?_⟩
            cases d1 with
            | tup ns =>
              obtain ⟨b, ys, rfl, g1, g2, g3⟩ := e1.tup
              have gl := Paired.length g3
              refine iteT ⟨.ref a, rfl, a, _, _, _, rfl, rfl, h1.seq, atI_nat (j := 1) rfl, b, rfl, ⟨_, g1.seq⟩, fun D nD => lc_tup (xs := ys) (fun i H3 => Same H H3 ∧ H3 D = some (.lst ((ns.take i).map fun d => V.bl (nameD d)))) ⟨same_upd nD, upd_same⟩ (fun i H3 _ h4 => (g1.same h4.1).seq) (fun i x H3 hx4 h4 => ?_) (fun H3 h4 => ?_)⟩
              · obtain ⟨e, he, hat⟩ := paired_at g3 hx4
                refine ⟨rfl, x, rfl, x, e, rfl, hat.same h4.1, fun H4 s4 => ⟨_, s4 _ _ h4.2, ?_, fun b o z => ?_, ?_⟩⟩
                · rw [List.length_map, List.length_take, sizeLine_eq]
                  omega
                · rw [upd_ne (ne_of_none z nD)]
                  exact s4 b o (h4.1 b o z)
                · rw [upd_same, List.take_add_one, he, List.map_append]
                  rfl
              · refine ⟨D, ns.map nameD, rfl, sql (by rw [h4.2, gl, List.take_length, List.map_map]; rfl), ?_⟩
                rw [show (ns.map nameD).all id = ns.all nameD by rw [List.all_map]; rfl]
                exact q H3 h4.1
            | _ => exact iteF (q H (Same.refl H))
          · rw [decide_eq_false hz] at q ⊢
            exact iteT (q H (Same.refl H))
        | _ => exact iteT (iteT (q H (Same.refl H)))
      · rw [show lgB 2 (.tup ds) = false from decide_eq_false (by omega)]
        rw [fit_len l1 l2] at q
        exact iteT (iteT (q H (Same.refl H)))
/-! _law_tree_fits -/
def spTreeFitsD (K : PySem.W.Frag) : Sp := fun vs H Q _ => ∃ (v : V) (d : Dat), vs = [v] ∧ DtAt K H v d ∧ ∀ H', Same H H' → Q (.bl (treeD d)) H'
theorem ok_tree_fitsD (T : Blt mg) (dlong : Dnlong K mg) (dname_fits : Dnname_fits K mg) (dstep_fits : Dnstep_fits K mg) (d : Dntree_fits K mg) : FnOk P w K mg base CX0 3 d.f d.fd ["_law_thing_here"] (spTreeFitsD K) := by
  have Gstep_fits : FnOk P w K mg base CX0 2 dstep_fits.f dstep_fits.fd ["_law_step"] (spStepFitsD K) := ok_step_fitsD T dlong dname_fits dstep_fits
  refine d.F.ok sctree_fits (fun vs H Q E h => ?_) (fun cdv A outer s H vs Q E hr h => ?_)
  · obtain ⟨v, x, rfl, _⟩ := h
    rfl
  · obtain ⟨v, x, rfl, hx, q⟩ := h
    refine ⟨_, (pss_cons (ps_if (PW.pt (pw_or (pt_not (pt_val (pe_callB (call_isD (K := K) rfl) (by rfl) T.n_isinstance (by decide +kernel) (pa_cons (pv 0) (pa_cons (pe_bltn (v := .ty "tuple") (by rfl) T.n_tuple (by decide +kernel) rfl) pa_nil))))) (pw_or (pt_cmpR op_gt (pe_callB call_len_seq (by rfl) T.n_len (by decide +kernel) (pa_cons (pv 0) pa_nil)) pe_int (nomark _)) (pw_or1 (pt_not (pt_val (pe_callB (cr_all rfl) (by rfl) T.n_all (by decide +kernel) (pa_cons (pe_lc (own := [("_law_step", 3)]) (g := gName 3) (tt := tYes) rfl sctree_fits.nd (pi_tup (pv 0)) (blkOk_by (N := Ntree_fits) (sc := defScope stree_fits) (by decide +kernel)) (fun _ _ _ _ _ => pg_name (i := 3) sctree_fits.nd rfl (Or.inl rfl)) (fun _ _ _ _ _ => pts_nil) (fun _ _ _ _ _ => (pe_call Gstep_fits (hr.mono (by omega)) (by rfl) dstep_fits.g dstep_fits.F.kp dstep_fits.b .nil pass0 (pa_cons (pv 3) pa_nil)))) pa_nil))))))))
      (pss_one (ps_ret pe_bl))
      pss_nil)
    (pss_cons (ps_set (i := 1) sctree_fits.nd rfl (Or.inl rfl) pe_int)
    (pss_cons (ps_set (i := 2) sctree_fits.nd rfl (Or.inl rfl) pe_int)
    (pss_cons (ps_for PassesOwn.never rfl (pi_tup (pv 0)) (pg_name (i := 3) sctree_fits.nd rfl (Or.inl rfl))
      (pss_cons (ps_if (PW.pt (pw_and (pt_cmpR op_eq (pe_callB call_len_seq (by rfl) T.n_len (by decide +kernel) (pa_cons (pv 3) pa_nil)) pe_int (nomark _)) (pw_and1 (pt_cmpR op_lt (pv 1) pe_int (nomark _)))))
        (pss_one (ps_ret pe_bl))
        pss_nil)
      (pss_cons (ps_set (i := 1) sctree_fits.nd rfl (Or.inl rfl) (pe_op op_add (pv 1) (pe_ix ix_list (pe_lst (pa_cons pe_int (pa_cons (pe_un un_neg pe_int) (pa_cons pe_int pa_nil)))) (pe_callB call_len_seq (by rfl) T.n_len (by decide +kernel) (pa_cons (pv 3) pa_nil)) (fun _ _ => rfl))))
      (pss_one (ps_if (pt_cmpR op_eq (pe_callB call_len_seq (by rfl) T.n_len (by decide +kernel) (pa_cons (pv 3) pa_nil)) pe_int (nomark _))
        (pss_one (ps_set (i := 2) sctree_fits.nd rfl (Or.inl rfl) (pe_op op_add (pv 2) (pe_callB call_len_seq (by rfl) T.n_len (by decide +kernel) (pa_cons (pe_ix ix_tup (pv 3) pe_int (fun _ _ => rfl)) pa_nil)))))
        pss_nil)))))
    (pss_one (ps_ret (pe_and (pe_cmpR op_eq (pv 1) pe_int (nomark _)) (pe_one (pe_cmpR op_le (pv 2) pe_int (nomark _)))))))))), ?_⟩
    obtain ⟨t, ty, kI, kB, kS, kT⟩ := hx.ty
    refine ⟨v, rfl, v, _, t, _, isT x, rfl, .ty "tuple", ty, kT, isT x, rfl, ?_⟩
    cases x with
    | tup ds =>
      obtain ⟨a, xs, rfl, h1, h2, h3⟩ := hx.tup
      have hl := Paired.length h3
      have q : ∀ H', Same H H' → Q (.bl (decide (ds.length ≤ 5000) && enD (goD 0 0 ds))) H' := q
      refine iteF ⟨.ref a, rfl, a, _, rfl, .inr h1.seq, _, _, rfl, rfl, ?_⟩
      by_cases h5 : ds.length ≤ 5000
      · rw [decide_eq_true h5, Bool.true_and] at q
        refine ⟨false, congrArg V.bl (decide_eq_false (by omega)), iteF ?_⟩
        refine ⟨.ref a, rfl, a, rfl, ⟨_, h1.seq⟩, fun D nD => lc_tup (xs := xs) (fun i H3 => Same H H3 ∧ H3 D = some (.lst ((ds.take i).map fun d => V.bl (fitD d)))) ⟨same_upd nD, upd_same⟩ (fun i H3 _ h4 => (h1.same h4.1).seq) (fun i x H3 hx4 h4 => ?_) (fun H3 h4 => ?_)⟩
        · obtain ⟨e, he, hat⟩ := paired_at h3 hx4
          refine ⟨rfl, x, rfl, x, e, rfl, hat.same h4.1, fun H4 s4 => ⟨_, s4 _ _ h4.2, ?_, fun b o z => ?_, ?_⟩⟩
          · rw [List.length_map, List.length_take, sizeLine_eq]
            omega
          · rw [upd_ne (ne_of_none z nD)]
            exact s4 b o (h4.1 b o z)
          · rw [upd_same, List.take_add_one, he, List.map_append]
            rfl
        · refine ⟨D, ds.map fitD, rfl, sql (by rw [h4.2, hl, List.take_length, List.map_map]; rfl), ?_⟩
          rw [show (ds.map fitD).all id = ds.all fitD by rw [List.all_map]; rfl]
          refine ⟨ds.all fitD, rfl, ?_⟩
          have sH := h4.1
          cases ea : ds.all fitD with
          | false =>
            rw [go_unfit ea] at q
            exact iteT (q H3 sH)
          | true =>
            have fit := List.all_eq_true.mp ea
            refine iteF ?_
            clear h4
            refine ⟨.ref a, rfl, a, rfl, ⟨_, (h1.same sH).seq⟩, for_tup (xs := xs) (fun i σ H4 => ∃ (x : Option V) (h m : Int), σ = [some (.ref a), some (.int h), some (.int m), x] ∧ Same H H4 ∧ goD 0 0 ds = goD h m (ds.drop i)) ⟨none, 0, 0, rfl, sH, by rw [List.drop_zero]⟩ (fun i σ H3 _ ⟨_, _, _, _, s3, _⟩ => (h1.same s3).seq) ?_ ?_⟩
            · rintro i v σ H4 hi ⟨x, h, m, rfl, s3, hg⟩
              obtain ⟨e, he, hat⟩ := paired_at h3 hi
              have hde : ds.drop i = e :: ds.drop (i + 1) := by
                obtain ⟨hlt, hg⟩ := List.getElem?_eq_some_iff.mp he
                rw [List.drop_eq_getElem_cons hlt, hg]
              rw [hde] at hg
              have hg : goD 0 0 ds = (if (putD e && stmD (at1 e)) = true then goD (h + 1) (m + (lenD (at1 e) : Int)) (ds.drop (i + 1)) else if (pouD e && decide (2 ≤ h)) = true then goD (h - 1) m (ds.drop (i + 1)) else none) := hg
              have hat3 := hat.same s3
              have fe := fit e (List.mem_of_getElem? he)
              unfold fitD at fe
              cases eo : pouD e with
              | true =>
                obtain rfl := pouD_is eo
                obtain ⟨b, ys, rfl, g1, g2, g3⟩ := hat3.tup
                have gl : ys.length = 1 := Paired.length g3
                have hg : goD 0 0 ds = (if (true && decide (2 ≤ h)) = true then goD (h - 1) m (ds.drop (i + 1)) else none) := hg
                rw [Bool.true_and] at hg
                refine ⟨.ref b, rfl, b, _, rfl, .inr g1.seq, rfl, true, congrArg V.bl (decide_eq_true (by rw [gl]; rfl)), iteT ⟨.int h, rfl, _, _, rfl, rfl, ?_⟩⟩
                by_cases h2 : 2 ≤ h
                · rw [decide_eq_true h2, if_pos rfl] at hg
                  refine ⟨false, congrArg V.bl (decide_eq_false (by omega)), iteF ?_⟩
                  refine ⟨.int h, rfl, 1, rfl, (by show 3 ≤ sizeLine; decide), fun p np => ?_⟩
                  have sp := same_upd (o := .lst [.int 0, .int (-1), .int 1]) np
                  have fp : (upd H4 p (.lst [.int 0, .int (-1), .int 1])) p = some (.lst [.int 0, .int (-1), .int 1]) := upd_same
                  generalize upd H4 p (.lst [.int 0, .int (-1), .int 1]) = H5 at sp fp ⊢
                  refine ⟨.ref b, rfl, b, _, rfl, .inr (g1.same sp).seq, p, _, _, _, rfl, rfl, sql fp, (by rw [gl]; exact atI_nat (j := 1) rfl), _, _, rfl, rfl, ?_⟩
                  refine ⟨.ref b, rfl, b, _, rfl, .inr (g1.same sp).seq, rfl, false, congrArg V.bl (decide_eq_false (by rw [gl]; decide)), iteF ⟨some (.ref b), h - 1, m, rfl, Same.trans s3 sp, hg⟩⟩
                · rw [decide_eq_false h2, if_neg Bool.noConfusion] at hg
                  rw [hg] at q
                  exact ⟨true, congrArg V.bl (decide_eq_true (by omega)), iteT (q H4 s3)⟩
              | false =>
                rw [eo, Bool.false_or] at fe
                rw [fe, if_pos rfl] at hg
                rw [Bool.and_eq_true] at fe
                obtain ⟨d1, rfl⟩ := putD_is fe.1
                obtain ⟨ns, hd, hns⟩ := stmD_is fe.2
                have hd : d1 = .tup ns := hd
                subst hd
                obtain ⟨b, ys, rfl, g1, g2, g3⟩ := hat3.tup
                have gl : ys.length = 2 := Paired.length g3
                obtain ⟨y0, y1, rfl⟩ := two gl
                cases g3 with
                | cons e0 g3 =>
                cases g3 with
                | cons e1 g3 =>
                obtain ⟨c, zs, rfl, k1, k2, k3⟩ := e1.tup
                refine ⟨.ref b, rfl, b, _, rfl, .inr g1.seq, rfl, false, congrArg V.bl (decide_eq_false (by rw [gl]; decide)), iteF ?_⟩
                refine ⟨.int h, rfl, 1, rfl, (by show 3 ≤ sizeLine; decide), fun p np => ?_⟩
                have sp := same_upd (o := .lst [.int 0, .int (-1), .int 1]) np
                have fp : (upd H4 p (.lst [.int 0, .int (-1), .int 1])) p = some (.lst [.int 0, .int (-1), .int 1]) := upd_same
                generalize upd H4 p (.lst [.int 0, .int (-1), .int 1]) = H5 at sp fp ⊢
                refine ⟨.ref b, rfl, b, _, rfl, .inr (g1.same sp).seq, p, _, _, _, rfl, rfl, sql fp, (by rw [gl]; exact atI_nat (j := 2) rfl), _, _, rfl, rfl, ?_⟩
                refine ⟨.ref b, rfl, b, _, rfl, .inr (g1.same sp).seq, rfl, true, congrArg V.bl (decide_eq_true (by rw [gl]; rfl)), iteT ?_⟩
                refine ⟨.int m, rfl, .ref b, rfl, b, _, _, _, rfl, rfl, (g1.same sp).seq, atI_nat (j := 1) rfl, c, _, rfl, .inr (k1.same sp).seq, _, _, rfl, rfl, some (.ref b), h + 1, m + (zs.length : Int), rfl, Same.trans s3 sp, ?_⟩
                rw [hg, Paired.length k3]
                rfl
            · rintro σ H4 ⟨x, h, m, rfl, s3, hg⟩
              rw [hl, List.drop_length] at hg
              have hg : goD 0 0 ds = some (h, m) := hg
              rw [hg] at q
              have q : ∀ H', Same H H' → Q (.bl (decide (h = 1) && decide (m ≤ 50000))) H' := q
              refine ⟨.int h, rfl, rfl, decide (h = 1), congrArg V.bl (decide_eq_decide.mpr ⟨fun z => by injection z, fun z => by rw [z]⟩), ite2 (fun e => ⟨.int m, rfl, _, _, rfl, rfl, ?_⟩) (fun e => ?_)⟩
              · rw [e, Bool.true_and] at q
                exact q H4 s3
              · rw [show decide (h = 1) = false by simpa using e, Bool.false_and] at q
                exact q H4 s3
      · rw [decide_eq_false h5, Bool.false_and] at q
        exact ⟨true, congrArg V.bl (decide_eq_true (by omega)), iteT (iteT (q H (Same.refl H)))⟩
    | _ => exact iteT (iteT (q H (Same.refl H)))
end
end Kb

namespace Kb
open PySem PySem.Spec PyProof.Rows L2 SrtZ SrtO
abbrev srefused : Stmt := topS 59
theorem screfused : FnScope ["_law_room_here", "_law_thing_here", "_law_told"] ["_law_room_here", "_law_thing_here"] (defScope srefused) := ⟨rfl, rfl, rfl, by decide +kernel, rfl, by decide +kernel, by decide +kernel⟩
abbrev Dnrefused (K : PySem.W.Frag) (mg : Str → Option Value) := Dn K mg "_law_refused" srefused ["_law_room_here", "_law_thing_here"]
abbrev scounts_told : Stmt := topS 60
theorem sccounts_told : FnScope ["_law_thing_here", "_law_told"] ["_law_thing_here"] (defScope scounts_told) := ⟨rfl, rfl, rfl, by decide +kernel, rfl, by decide +kernel, by decide +kernel⟩
abbrev Dncounts_told (K : PySem.W.Frag) (mg : Str → Option Value) := Dn K mg "_law_counts_told" scounts_told ["_law_thing_here"]
/-- the classes of errors that the law names -/
structure ErX (K : PySem.W.Frag) (mg : Str → Option Value) where
  R : TxE K mg "NoRoom"
  Tr : TxE K mg "NoTree"
  KE : Addr
  gKE : mg "KnownError" = some (.ref KE)
  xRR : PySem.W.exmOne K (.ref R.C) (.ref R.C) = some true
  xTR : PySem.W.exmOne K (.ref Tr.C) (.ref R.C) = some false
  xTT : PySem.W.exmOne K (.ref Tr.C) (.ref Tr.C) = some true
def refS (dr d : Dat) : Str := if isRB (intD dr) = false then Str.ofString "room" else if treeD d = false then Str.ofString "tree" else Str.ofString "let"
def cntS' (d : Dat) : Str := if treeD d = true then Str.ofString "let" else Str.ofString "tree"
section
variable {P : Program} {w : World} {K : PySem.W.Frag} {mg : Str → Option Value} {base : Heap}
theorem fn_or {CX : CXT} {k : Nat} {f : Addr} {fd : FuncData} {ps : List Str} {s1 s2 : Sp} (F1 : FnOk P w K mg base CX k f fd ps s1) (F2 : FnOk P w K mg base CX k f fd ps s2) : FnOk P w K mg base CX k f fd ps (fun vs H Q E => s1 vs H Q E ∨ s2 vs H Q E) :=
  ⟨fun vs H Q E h => h.elim (F1.len vs H Q E) (F2.len vs H Q E), fun A outer s H args us vs Q E hr e0 hb r h => h.elim (F1.run A outer s H args us vs Q E hr e0 hb r) (F2.run A outer s H args us vs Q E hr e0 hb r)⟩
/-- what raises nothing, among what may raise -/
theorem fn_lift {CX : CXT} {k : Nat} {f : Addr} {fd : FuncData} {ps : List Str} {s1 : Sp} (F1 : FnOk P w K mg base CX0 k f fd ps s1) : FnOk P w K mg base CX k f fd ps s1 :=
  ⟨F1.len, fun A outer s H args us vs Q E hr e0 hb r h => codeAny_mono (F1.run A outer s H args us vs Q E hr e0 hb r h) fun r s' hq => by
    cases r with
    | error e => exact hq.elim
    | ok fl => cases fl <;> exact hq⟩
theorem fn_up {CX : CXT} {k k' : Nat} {f : Addr} {fd : FuncData} {ps : List Str} {s1 : Sp} (F1 : FnOk P w K mg base CX k f fd ps s1) (h : k ≤ k') : FnOk P w K mg base CX k' f fd ps s1 :=
  ⟨F1.len, fun A outer s H args us vs Q E hr e0 hb r g => F1.run A outer s H args us vs Q E (hr.mono h) e0 hb r g⟩
/-! what raises -/
def spCountsOfR (K : PySem.W.Frag) (C : Addr) : Sp := fun vs H Q E => ∃ (v : V) (d : Dat), vs = [v] ∧ DtAt K H v d ∧ treeD d = false ∧ ∀ H', Same H H' → E (.ref C) none H'
theorem ok_counts_ofR (T : Blt mg) (N : TxE K mg "NoTree") (cL : Cst mg "LONGEST_NAME" (.int 8)) (cS' : Cst mg "MOST_STEPS" (.int 5000)) (cI : Cst mg "MOST_ITEMS" (.int 50000)) (dP_is_name : DnIsName K mg) (dP_is_stream : DnIsStream K mg) (dP_is_put : DnIsPut K mg) (dP_is_pour : DnIsPour K mg) (dP_is_tree : DnIsTree K mg) (d : DnCountsOf K mg) : FnOk P w K mg base (L2.CX P w) 5 d.f d.fd ["tree"] (spCountsOfR K N.C) := by
  have GP_is_tree : FnOk P w K mg base CX0 4 dP_is_tree.f dP_is_tree.fd ["thing"] (spIsTreeD K) := ok_is_treeD T cL cS' cI dP_is_name dP_is_stream dP_is_put dP_is_pour dP_is_tree
  refine d.F.okX scP_counts_of (fun vs H Q E h => ?_) (fun cdv A outer s H vs Q E hr h => ?_)
  · obtain ⟨v, x, rfl, _⟩ := h
    rfl
  · obtain ⟨v, x, rfl, hx, hb, e⟩ := h
    refine ⟨_, (pss_cons (ps_if (pt_not (pt_val (pe_call GP_is_tree (hr.mono (by omega)) (by rfl) dP_is_tree.g dP_is_tree.F.kp dP_is_tree.b .nil pass0 (pa_cons (pv 0) pa_nil))))
      (pss_one (ps_raise rfl (takes_of rfl rfl rfl rfl) (pmk_bare PySem.F.excBase_ValueError N.exc N.gC N.kp (raises_own N.sub N.ty) rfl)))
      pss_nil)
    pss_never), ?_⟩
    refine ⟨v, rfl, v, x, rfl, hx, fun H1 s1 => ⟨treeD x, rfl, ?_⟩⟩
    rw [hb]
    exact iteT (e H1 s1)
def spSketchOfR (K : PySem.W.Frag) (CR CT : Addr) : Sp := fun vs H Q E => ∃ (vr v : V) (dr d : Dat), vs = [vr, v] ∧ DtAt K H vr dr ∧ DtAt K H v d ∧ (isRB (intD dr) && treeD d) = false ∧ (isRB (intD dr) = false → E (.ref CR) none H) ∧ (isRB (intD dr) = true → ∀ H', Same H H' → E (.ref CT) none H')
theorem ok_sketch_ofR (T : Blt mg) (R : TxE K mg "NoRoom") (N : TxE K mg "NoTree") (cM : Cst mg "MOST_ROOM" (.int 64)) (cL : Cst mg "LONGEST_NAME" (.int 8)) (cS' : Cst mg "MOST_STEPS" (.int 5000)) (cI : Cst mg "MOST_ITEMS" (.int 50000)) (dP_is_int : DnIsInt K mg) (dP_is_room : DnIsRoom K mg) (dP_is_name : DnIsName K mg) (dP_is_stream : DnIsStream K mg) (dP_is_put : DnIsPut K mg) (dP_is_pour : DnIsPour K mg) (dP_is_tree : DnIsTree K mg) (d : DnSketchOf K mg) : FnOk P w K mg base (L2.CX P w) 5 d.f d.fd ["room", "tree"] (spSketchOfR K R.C N.C) := by
  have GP_is_room : FnOk P w K mg base CX0 2 dP_is_room.f dP_is_room.fd ["thing"] (spIsRoomD K) := ok_is_roomD T cM dP_is_int dP_is_room
  have GP_is_tree : FnOk P w K mg base CX0 4 dP_is_tree.f dP_is_tree.fd ["thing"] (spIsTreeD K) := ok_is_treeD T cL cS' cI dP_is_name dP_is_stream dP_is_put dP_is_pour dP_is_tree
  refine d.F.okX scP_sketch_of (fun vs H Q E h => ?_) (fun cdv A outer s H vs Q E hr h => ?_)
  · obtain ⟨vr, v, dr, x, rfl, _⟩ := h
    rfl
  · obtain ⟨vr, v, dr, x, rfl, hrm, hx, hb, e1, e2⟩ := h
    refine ⟨_, (pss_cons (ps_if (pt_not (pt_val (pe_call GP_is_room (hr.mono (by omega)) (by rfl) dP_is_room.g dP_is_room.F.kp dP_is_room.b .nil pass0 (pa_cons (pv 0) pa_nil))))
      (pss_one (ps_raise rfl (takes_of rfl rfl rfl rfl) (pmk_bare PySem.F.excBase_ValueError R.exc R.gC R.kp (raises_own R.sub R.ty) rfl)))
      pss_nil)
    (pss_cons (ps_if (pt_not (pt_val (pe_call GP_is_tree (hr.mono (by omega)) (by rfl) dP_is_tree.g dP_is_tree.F.kp dP_is_tree.b .nil pass0 (pa_cons (pv 1) pa_nil))))
      (pss_one (ps_raise rfl (takes_of rfl rfl rfl rfl) (pmk_bare PySem.F.excBase_ValueError N.exc N.gC N.kp (raises_own N.sub N.ty) rfl)))
      pss_nil)
    pss_never)), ?_⟩
    refine ⟨vr, rfl, vr, dr, rfl, hrm, isRB (intD dr), rfl, ?_⟩
    cases er : isRB (intD dr) with
    | false => exact iteT (e1 er)
    | true =>
      rw [er, Bool.true_and] at hb
      refine iteF ⟨v, rfl, v, x, rfl, hx, fun H1 s1 => ⟨treeD x, rfl, ?_⟩⟩
      rw [hb]
      exact iteT (e2 er H1 s1)
/-! _law_refused -/
def spRefused (K : PySem.W.Frag) : Sp := fun vs H Q _ => ∃ (vr v : V) (dr d : Dat), vs = [vr, v] ∧ DtAt K H vr dr ∧ DtAt K H v d ∧ ∀ H', Same H H' → Q (.str (refS dr d)) H'
theorem ok_refused (T : Blt mg) (F : ErX K mg) (cM : Cst mg "MOST_ROOM" (.int 64)) (cL : Cst mg "LONGEST_NAME" (.int 8)) (cS' : Cst mg "MOST_STEPS" (.int 5000)) (cI : Cst mg "MOST_ITEMS" (.int 50000)) (dP_is_int : DnIsInt K mg) (dP_is_room : DnIsRoom K mg) (dP_is_name : DnIsName K mg) (dP_is_stream : DnIsStream K mg) (dP_is_put : DnIsPut K mg) (dP_is_pour : DnIsPour K mg) (dP_is_tree : DnIsTree K mg) (dP_bare : DnBare K mg) (L : Tal K mg) (dP_sketch_of : DnSketchOf K mg) (d : Dnrefused K mg) : FnOk P w K mg base CX0 6 d.f d.fd ["_law_room_here", "_law_thing_here"] (spRefused K) := by
  have GS : FnOk P w K mg base (L2.CX P w) 5 dP_sketch_of.f dP_sketch_of.fd ["room", "tree"] (fun vs H Q E => spSketchOf K vs H Q E ∨ spSketchOfR K F.R.C F.Tr.C vs H Q E) := fn_or (fn_lift (ok_sketch_of T cM cL cS' cI dP_is_int dP_is_room dP_is_name dP_is_stream dP_is_put dP_is_pour dP_is_tree dP_bare L dP_sketch_of)) (ok_sketch_ofR T F.R F.Tr cM cL cS' cI dP_is_int dP_is_room dP_is_name dP_is_stream dP_is_put dP_is_pour dP_is_tree dP_sketch_of)
  refine d.F.ok screfused (fun vs H Q E h => ?_) (fun cdv A outer s H vs Q E hr h => ?_)
  · obtain ⟨vr, v, dr, x, rfl, _⟩ := h
    rfl
  · obtain ⟨vr, v, dr, x, rfl, hrm, hx, q⟩ := h
    have three' : ∀ {σ : L2.St}, σ.length = 3 → ∃ x0 x1 x2, σ = [x0, x1, x2] := fun {σ} h => match σ, h with | [a, b, c], _ => ⟨a, b, c, rfl⟩
    refine ⟨_, (pss_cons (ps_set (i := 2) screfused.nd rfl (Or.inl rfl) pe_str)
    (pss_cons (ps_try_many rfl rfl takes0 (fun W pn xe tk pa => pss_one (ps_expr (by exact (pe_call GS (hr.mono (by omega)) rfl dP_sketch_of.g dP_sketch_of.F.kp dP_sketch_of.b .nil (passEL (n := 3) rfl tk) (by exact (pa_cons (pv 0) (pa_cons (pv 1) pa_nil))))))) (.cons ⟨rfl, by decide, Or.inl F.R.gC⟩ (fun a oe cls d pn hz hf => pss_one (ps_set (i := 2) screfused.nd rfl (Or.inl rfl) pe_str)) (.cons ⟨rfl, by decide, Or.inl F.Tr.gC⟩ (fun a oe cls d pn hz hf => pss_one (ps_set (i := 2) screfused.nd rfl (Or.inl rfl) pe_str)) (.cons ⟨rfl, by decide, Or.inl F.gKE⟩ (fun a oe cls d pn hz hf => pss_one (ps_set (i := 2) screfused.nd rfl (Or.inl rfl) pe_str)) .nil))))
    (pss_one (ps_ret (pv 2))))), ?_⟩
    refine ⟨vr, rfl, v, rfl, ?_⟩
    unfold refS at q
    cases er : isRB (intD dr) with
    | false =>
      rw [er, if_pos rfl] at q
      refine .inr ⟨vr, v, dr, x, rfl, hrm, hx, by rw [er]; rfl, fun _ σ hσ => ?_, fun h => absurd h (by rw [er]; exact Bool.noConfusion)⟩
      obtain ⟨x0, x1, x2, rfl⟩ := three' hσ
      exact ⟨true, F.xRR, fun _ a na => ⟨_, rfl, q _ (Same.refl H)⟩, fun h => nomatch h⟩
    | true =>
      rw [er, if_neg Bool.noConfusion] at q
      cases et : treeD x with
      | false =>
        rw [et, if_pos rfl] at q
        refine .inr ⟨vr, v, dr, x, rfl, hrm, hx, by rw [er, et]; rfl, fun h => absurd h (by rw [er]; exact Bool.noConfusion), fun _ H' s' σ hσ => ?_⟩
        obtain ⟨x0, x1, x2, rfl⟩ := three' hσ
        exact ⟨false, F.xTR, fun h => (nomatch h), fun _ => ⟨true, F.xTT, fun _ a na => ⟨_, rfl, q _ s'⟩, fun h => nomatch h⟩⟩
      | true =>
        rw [et, if_neg Bool.noConfusion] at q
        obtain ⟨r, rfl, r1, r64⟩ : ∃ r, dr = .int r ∧ 1 ≤ r ∧ r ≤ 64 := by
          cases dr with
          | int r =>
            have er : (decide (1 ≤ r) && decide (r ≤ 64)) = true := er
            rw [Bool.and_eq_true, decide_eq_true_eq, decide_eq_true_eq] at er
            exact ⟨r, rfl, er.1, er.2⟩
          | _ => cases er
        obtain ⟨rfl, _⟩ := hrm.int
        obtain ⟨a, ds, rfl, rfl, hT, tr, hn, _⟩ := tree_of hx et
        have rl := run_len (r := r) tr.two (ds.map toStp).length (Nat.le_refl _)
        rw [List.take_length, tr.one] at rl
        obtain ⟨y, hy⟩ := one (show (runT r (ds.map toStp)).length = 1 by omega)
        exact .inl ⟨a, r, ds.map toStp, y, rfl, r1, r64, hT, tr, hn, hy, fun _ H' s k ts sm _ _ _ _ => ⟨_, rfl, q H' sm⟩⟩
/-! _law_counts_told -/
def spCountsTold (K : PySem.W.Frag) : Sp := fun vs H Q _ => ∃ (v : V) (d : Dat), vs = [v] ∧ DtAt K H v d ∧ ∀ H' p u, Same H H' → H' p = some (.tup [.str (cntS' d), u]) → (treeD d = true → ∃ ds k ts, d = .tup ds ∧ u = .ref k ∧ Ptp H' k (ts.map V.ref) ∧ Paired (PrT H') ts (srtZ (cntT (ds.map toStp)))) → Q (.ref p) H'
theorem ok_counts_told (T : Blt mg) (F : ErX K mg) (cL : Cst mg "LONGEST_NAME" (.int 8)) (cS' : Cst mg "MOST_STEPS" (.int 5000)) (cI : Cst mg "MOST_ITEMS" (.int 50000)) (dP_is_name : DnIsName K mg) (dP_is_stream : DnIsStream K mg) (dP_is_put : DnIsPut K mg) (dP_is_pour : DnIsPour K mg) (dP_is_tree : DnIsTree K mg) (dP_counts_of : DnCountsOf K mg) (d : Dncounts_told K mg) : FnOk P w K mg base CX0 6 d.f d.fd ["_law_thing_here"] (spCountsTold K) := by
  have GS : FnOk P w K mg base (L2.CX P w) 5 dP_counts_of.f dP_counts_of.fd ["tree"] (fun vs H Q E => spCountsOf K vs H Q E ∨ spCountsOfR K F.Tr.C vs H Q E) := fn_or (fn_lift (ok_counts_of T cL cS' cI dP_is_name dP_is_stream dP_is_put dP_is_pour dP_is_tree dP_counts_of)) (ok_counts_ofR T F.Tr cL cS' cI dP_is_name dP_is_stream dP_is_put dP_is_pour dP_is_tree dP_counts_of)
  refine d.F.ok sccounts_told (fun vs H Q E h => ?_) (fun cdv A outer s H vs Q E hr h => ?_)
  · obtain ⟨v, x, rfl, _⟩ := h
    rfl
  · obtain ⟨v, x, rfl, hx, q⟩ := h
    have two' : ∀ {σ : L2.St}, σ.length = 2 → ∃ x0 x1, σ = [x0, x1] := fun {σ} h => two h
    refine ⟨_, (pss_cons (ps_set (i := 1) sccounts_told.nd rfl (Or.inl rfl) (pe_tup (pa_cons pe_str (pa_cons pe_non pa_nil))))
    (pss_cons (ps_try_many rfl rfl takes0 (fun W pn xe tk pa => pss_one (ps_set (i := 1) sccounts_told.nd rfl (Or.inl rfl) (by exact (pe_tup (pa_cons pe_str (pa_cons (pe_call GS (hr.mono (by omega)) rfl dP_counts_of.g dP_counts_of.F.kp dP_counts_of.b .nil (passEL (n := 2) rfl tk) (by exact (pa_cons (pv 0) pa_nil))) pa_nil)))))) (.cons ⟨rfl, by decide, Or.inl F.Tr.gC⟩ (fun a oe cls d pn hz hf => pss_one (ps_set (i := 1) sccounts_told.nd rfl (Or.inl rfl) (pe_tup (pa_cons pe_str (pa_cons pe_non pa_nil))))) (.cons ⟨rfl, by decide, Or.inl F.gKE⟩ (fun a oe cls d pn hz hf => pss_one (ps_set (i := 1) sccounts_told.nd rfl (Or.inl rfl) (pe_tup (pa_cons pe_str (pa_cons pe_non pa_nil))))) .nil)))
    (pss_one (ps_ret (pv 1))))), ?_⟩
    refine ⟨(by show 2 ≤ sizeLine; decide), fun p0 np0 => ?_⟩
    have s0 : Same H (upd H p0 (.tup [.str (Str.ofString "other"), .non])) := same_upd np0
    generalize upd H p0 (.tup [.str (Str.ofString "other"), .non]) = H0 at s0 ⊢
    refine ⟨v, rfl, ?_⟩
    cases et : treeD x with
    | false =>
      refine .inr ⟨v, x, rfl, hx.same s0, et, fun H1 s1 σ hσ => ?_⟩
      obtain ⟨x0, x1, rfl⟩ := two' hσ
      exact ⟨true, F.xTT, fun _ a na => ⟨(by show 2 ≤ sizeLine; decide), fun p np => ⟨_, rfl, q _ p _ (Same.trans s0 (Same.trans s1 (same_upd np))) (by rw [upd_same, cntS', if_neg (by rw [et]; exact Bool.noConfusion)]) fun h => absurd h (by rw [et]; exact Bool.noConfusion)⟩⟩, fun h => nomatch h⟩
    | true =>
      obtain ⟨a, ds, rfl, rfl, hT, tr, hn, _⟩ := tree_of (hx.same s0) et
      refine .inl ⟨a, ds.map toStp, rfl, hT, tr, fun H1 k ts s1 hk hp => ⟨(by show 2 ≤ sizeLine; decide), fun p np => ⟨_, rfl, q _ p _ (Same.trans s0 (Same.trans s1 (same_upd np))) (by rw [upd_same, cntS', if_pos et]) fun _ => ⟨ds, k, ts, rfl, rfl, hk.same (same_upd np), paired_imp (fun t e h => same_upd np _ _ h) hp⟩⟩⟩⟩
end
end Kb

namespace Kb
open PySem PySem.Spec PyProof.Rows L2 SrtZ SrtO
abbrev sitems : Stmt := topS 45
theorem scitems : FnScope ["_law_tree_here", "_law_items_here", "_law_step"] ["_law_tree_here"] (defScope sitems) := ⟨rfl, rfl, rfl, by decide +kernel, rfl, by decide +kernel, by decide +kernel⟩
abbrev Dnitems (K : PySem.W.Frag) (mg : Str → Option Value) := Dn K mg "_law_items" sitems ["_law_tree_here"]
abbrev spairs : Stmt := topS 46
abbrev Npairs : List Str := ["_law_counts", "_law_name_here"]
theorem scpairs : FnScope ["_law_counts", "_law_name_here"] ["_law_counts"] (defScope spairs) := ⟨rfl, rfl, rfl, by decide +kernel, rfl, by decide +kernel, by decide +kernel⟩
abbrev Dnpairs (K : PySem.W.Frag) (mg : Str → Option Value) := Dn K mg "_law_pairs" spairs ["_law_counts"]
def flatS : Stp → List Str
  | .put zs => zs
  | .pour => []
theorem flat_mny : ∀ (l : List Stp) (m : Int), l.foldl cS m = m + ((l.flatMap flatS).length : Int)
  | [], m => by
    show m = m + ((0 : Nat) : Int)
    omega
  | t :: l, m => by
    rw [List.foldl_cons, flat_mny l, List.flatMap_cons, List.length_append]
    cases t with
    | put zs =>
      show m + ((zs.length : Nat) : Int) + _ = m + ((zs.length + _ : Nat) : Int)
      push_cast
      omega
    | pour =>
      show m + _ = m + ((0 + _ : Nat) : Int)
      rw [Nat.zero_add]
theorem flat_take (l : List Stp) (i : Nat) : ((l.take i).flatMap flatS).length ≤ (l.flatMap flatS).length := by
  have h : l.flatMap flatS = (l.take i).flatMap flatS ++ (l.drop i).flatMap flatS := by rw [← List.flatMap_append, List.take_append_drop]
  rw [h, List.length_append]
  omega
theorem cntZ_app : ∀ (a b : List Str) (kc : Ct), cntZ (a ++ b) kc = cntZ b (cntZ a kc) := fun a b kc => by
  unfold cntZ
  rw [List.foldl_append]
theorem cntT_flat : ∀ (l : List Stp) (kc : Ct), l.foldl cntS kc = cntZ (l.flatMap flatS) kc
  | [], kc => rfl
  | t :: l, kc => by
    rw [List.foldl_cons, cntT_flat l, List.flatMap_cons, cntZ_app]
    cases t <;> rfl
theorem cntZ_pos : ∀ {zs : List Str} {kc : Ct}, (∀ e ∈ kc, 1 ≤ e.2) → ∀ e ∈ cntZ zs kc, 1 ≤ e.2
  | [], _, h => h
  | z :: zs, kc, h => cntZ_pos (zs := zs) (kc := addZ kc z 1) (addZ_pos h (Int.le_refl 1))
section
variable {P : Program} {w : World} {K : PySem.W.Frag} {mg : Str → Option Value} {base : Heap}
/-! _law_items -/
def spItems (K : PySem.W.Frag) : Sp := fun vs H Q _ => ∃ (v : V) (ds : List Dat), vs = [v] ∧ DtAt K H v (.tup ds) ∧ treeD (.tup ds) = true ∧ ∀ H' l, Same H H' → H' l = some (.lst (((ds.map toStp).flatMap flatS).map V.str)) → Q (.ref l) H'
theorem ok_items (T : Blt mg) (d : Dnitems K mg) : FnOk P w K mg base CX0 1 d.f d.fd ["_law_tree_here"] (spItems K) := by
  refine d.F.ok scitems (fun vs H Q E h => ?_) (fun cdv A outer s H vs Q E hr h => ?_)
  · obtain ⟨v, ds, rfl, _⟩ := h
    rfl
  · obtain ⟨v, ds, rfl, hx, ht, q⟩ := h
    refine ⟨_, (pss_cons (ps_set (i := 1) scitems.nd rfl (Or.inl rfl) (pe_lst pa_nil))
    (pss_cons (ps_for PassesOwn.never rfl (pi_tup (pv 0)) (pg_name (i := 2) scitems.nd rfl (Or.inl rfl))
      (pss_one (ps_if (pt_cmpR op_eq (pe_callB call_len_seq (by rfl) T.n_len (by decide +kernel) (pa_cons (pv 2) pa_nil)) pe_int (nomark _))
        (pss_one (ps_set (i := 1) scitems.nd rfl (Or.inl rfl) (pe_op op_cat (pv 1) (pe_callTy call_list_of (by rfl) T.n_list (by decide +kernel) (pa_cons (pe_ix ix_tup (pv 2) pe_int (fun _ _ => rfl)) pa_nil)))))
        pss_nil)))
    (pss_one (ps_ret (pv 1))))), ?_⟩
    obtain ⟨a, ds', rfl, ed, _, tr, _, fits⟩ := tree_of hx ht
    cases ed
    obtain ⟨a', xs, ea, h1, h2, h3⟩ := hx.tup
    cases ea
    have hl := Paired.length h3
    have few := tr.few
    have fm := flat_mny (ds.map toStp) 0
    have few : (ds.map toStp).foldl cS 0 ≤ 50000 := few
    have tot : ((ds.map toStp).flatMap flatS).length ≤ 50000 := by omega
    refine ⟨(by show 0 ≤ sizeLine; decide), fun L0 nL => ?_⟩
    have s0 := same_upd (o := .lst []) nL
    have f0 : (upd H L0 (.lst [])) L0 = some (.lst []) := upd_same
    generalize upd H L0 (.lst []) = H0 at s0 f0 ⊢
    refine ⟨.ref a, rfl, a, rfl, ⟨_, (h1.same s0).seq⟩, for_tup (xs := xs) (fun i σ H3 => ∃ (x : Option V) (L : Addr), σ = [some (.ref a), some (.ref L), x] ∧ Same H H3 ∧ H3 L = some (.lst ((((ds.map toStp).take i).flatMap flatS).map V.str))) ⟨none, L0, rfl, s0, f0⟩ (fun i σ H3 _ ⟨_, _, _, s3, _⟩ => (h1.same s3).seq) ?_ ?_⟩
    · rintro i v σ H3 hi ⟨x, L, rfl, s3, hL⟩
      obtain ⟨e, he, hat⟩ := paired_at h3 hi
      have hat3 := hat.same s3
      have hst : (ds.map toStp)[i]? = some (toStp e) := by rw [List.getElem?_map, he]; rfl
      have tk : ((ds.map toStp).take (i + 1)).flatMap flatS = ((ds.map toStp).take i).flatMap flatS ++ flatS (toStp e) := by
        rw [List.take_add_one, hst, List.flatMap_append]
        show _ ++ (flatS (toStp e) ++ []) = _
        rw [List.append_nil]
      have t1 := flat_take (ds.map toStp) (i + 1)
      rw [tk] at t1
      rw [List.length_append] at t1
      rcases fits e (List.mem_of_getElem? he) with ⟨p1, p2⟩ | p
      · obtain ⟨d1, rfl⟩ := putD_is p1
        obtain ⟨ns, hd, hns⟩ := stmD_is p2
        have hd : d1 = .tup ns := hd
        subst hd
        obtain ⟨b, ys, rfl, g1, g2, g3⟩ := hat3.tup
        have gl : ys.length = 2 := Paired.length g3
        obtain ⟨y0, y1, rfl⟩ := two gl
        cases g3 with
        | cons e0 g3 =>
        cases g3 with
        | cons e1 g3 =>
        obtain ⟨c, zs, rfl, k1, k2, k3⟩ := e1.tup
        obtain ⟨ez, hn⟩ := names_at k3 hns
        refine ⟨.ref b, rfl, b, _, rfl, .inr g1.seq, rfl, true, congrArg V.bl (decide_eq_true rfl), iteT ?_⟩
        refine ⟨.ref L, rfl, .ref b, rfl, b, _, _, _, rfl, rfl, g1.seq, atI_nat (j := 1) rfl, c, zs, rfl, .inr k1.seq, fun m nm => ?_⟩
        have sm := same_upd (o := .lst zs) nm
        have fm' : (upd H3 m (.lst zs)) m = some (.lst zs) := upd_same
        generalize upd H3 m (.lst zs) = H4 at sm fm' ⊢
        have el : zs.length = (flatS (toStp (.tup [.str (Str.ofString "stream"), .tup ns]))).length := by
          rw [ez, List.length_map]
          rfl
        refine ⟨L, m, _, zs, rfl, rfl, sm _ _ hL, fm', by rw [List.length_map, sizeLine_eq]; omega, fun p np => ?_⟩
        refine ⟨some (.ref b), p, rfl, Same.trans s3 (Same.trans sm (same_upd np)), ?_⟩
        rw [upd_same, tk, List.map_append, ez]
        rfl
      · obtain rfl := pouD_is p
        obtain ⟨b, ys, rfl, g1, g2, g3⟩ := hat3.tup
        have gl : ys.length = 1 := Paired.length g3
        refine ⟨.ref b, rfl, b, _, rfl, .inr g1.seq, rfl, false, congrArg V.bl (decide_eq_false (by rw [gl]; decide)), iteF ⟨some (.ref b), L, rfl, s3, ?_⟩⟩
        rw [tk, hL]
        show _ = some (HO.lst ((((ds.map toStp).take i).flatMap flatS ++ []).map V.str))
        rw [List.append_nil]
    · rintro σ H3 ⟨x, L, rfl, s3, hL⟩
      rw [hl, show (ds.map toStp).take ds.length = ds.map toStp from List.take_of_length_le (by rw [List.length_map]; exact Nat.le_refl _)] at hL
      exact ⟨.ref L, rfl, q H3 L s3 hL⟩
/-! _law_pairs -/
def spPairs : Sp := fun vs H Q _ => ∃ (dc : Addr) (C : Ct), vs = [.ref dc] ∧ H dc = some (.dK (C.map entZ)) ∧ NdZ C ∧ (∀ e ∈ C, 1 ≤ e.2) ∧ C.length ≤ 60000 ∧ ∀ H' k (ts : List Addr), Same H H' → Ptp H' k (ts.map V.ref) → Paired (PrT H') ts (srtZ C) → Q (.ref k) H'
theorem ok_pairs (T : Blt mg) (d : Dnpairs K mg) : FnOk P w K mg base CX0 1 d.f d.fd ["_law_counts"] spPairs := by
  refine d.F.ok scpairs (fun vs H Q E h => ?_) (fun cdv A outer s H vs Q E hr h => ?_)
  · obtain ⟨dc, C, rfl, _⟩ := h
    rfl
  · obtain ⟨dc, C, rfl, hdc, ndC, pos, hC, q⟩ := h
    have hu := hu_of hr
    refine ⟨_, (pss_one (ps_ret (pe_callTy call_tupleF (by rfl) T.n_tuple (by decide +kernel) (pa_cons (pe_lc (own := [("_law_name_here", 1)]) (g := gName 1) rfl scpairs.nd (pi_list (pe_callB (cr_sortedDS rfl) (by rfl) T.n_sorted (by decide +kernel) (pa_cons (pv 0) pa_nil))) (blkOk_by (N := Npairs) (sc := defScope spairs) (by decide +kernel)) (fun _ _ _ _ _ => pg_name (i := 1) scpairs.nd rfl (Or.inl rfl)) (fun _ _ _ _ _ => pts_one (pt_cmpR op_gt (pe_dget hu (pv 0) (pv 1) (fun _ _ => rfl)) pe_int (nomark _))) (fun _ _ _ _ _ => (pe_tup (pa_cons (pv 1) (pa_cons (pe_dget hu (pv 0) (pv 1) (fun _ _ => rfl)) pa_nil))))) pa_nil)))), ?_⟩
    have lS := (srtZ_perm C).length_eq
    refine ⟨.ref dc, rfl, dc, C.map entZ, C.map (·.1), rfl, hdc, by rw [List.map_map, List.map_map]; rfl, fun ns1 N1 pN sN nN => ?_⟩
    have eN := names_srt ndC pN sN
    subst eN
    have s12 : Same H (upd H N1 (.lst (((srtZ C).map (·.1)).map V.str))) := same_upd nN
    have hN12 : (upd H N1 (.lst (((srtZ C).map (·.1)).map V.str))) N1 = some (.lst (((srtZ C).map (·.1)).map V.str)) := upd_same
    generalize upd H N1 (.lst (((srtZ C).map (·.1)).map V.str)) = H12 at s12 hN12 ⊢
    have hdc12 := s12 _ _ hdc
    refine ⟨N1, rfl, ⟨_, sql hN12⟩, fun D nD => lc_list (xs := ((srtZ C).map (·.1)).map V.str) (fun i H7 => Same H12 H7 ∧ ∃ us : List Addr, H7 D = some (.lst (us.map V.ref)) ∧ us.length = i ∧ Paired (PrT H7) us ((srtZ C).take i)) ⟨same_upd nD, [], upd_same, rfl, .nil⟩ (fun i H7 _ h7 => sql (h7.1 _ _ hN12)) (fun i y H7 hy h7 => ?_) (fun H7 h7 => ?_)⟩
    · obtain ⟨s7, us, hD7, hul, hus⟩ := h7
      obtain ⟨nm, hnm, rfl⟩ := map_at hy
      obtain ⟨e, he, rfl⟩ := map_at hnm
      have hie := (List.getElem?_eq_some_iff.mp he).1
      have hem := (srtZ_perm C).mem_iff.mp (List.mem_of_getElem? he)
      have hp1 := pos e hem
      have dg : DGet H7 dc (.str e.1) (some (.int e.2)) := .inl ⟨C.map entZ, Sum.inr e.1, .inl (s7 _ _ hdc12), rfl, by
        rw [getZ_val, getZ_mem ndC hem]
        rfl⟩
      refine ⟨rfl, .ref dc, rfl, .str e.1, rfl, dc, .int e.2, rfl, dg, _, _, rfl, rfl, true, congrArg V.bl (decide_eq_true (by omega)), iteT ?_⟩
      refine ⟨.str e.1, rfl, .ref dc, rfl, .str e.1, rfl, dc, .int e.2, rfl, dg, (by show 2 ≤ sizeLine; decide), fun p np => ?_⟩
      have Dp : D ≠ p := ne_of_none hD7 np
      refine ⟨_, by rw [upd_ne Dp]; exact hD7, ?_, Same.put (Same.new s7 np) nD, us ++ [p], ?_, ?_, ?_⟩
      · rw [List.length_map, hul, sizeLine_eq]
        omega
      · rw [upd_same, List.map_append]
        rfl
      · rw [List.length_append, hul]
        rfl
      · rw [List.take_add_one, he]
        refine paired_snoc (paired_imp (fun t e' ht => ?_) hus) ?_
        · show (upd (upd H7 p _) D _) t = _
          rw [upd_ne (ne_of ht hD7 (by intro z; cases z)), upd_ne (ne_of_none ht np)]
          exact ht
        · show (upd (upd H7 p _) D _) p = _
          rw [upd_ne Dp.symm]
          exact upd_same
    obtain ⟨s1213, us, hD13, hul, hus⟩ := h7
    rw [List.length_map, List.length_map, List.take_length] at hus
    refine ⟨D, _, rfl, sql hD13, fun k o nk ho => ?_⟩
    have s14 : Same H7 (upd H7 k (.frz o (.tup (us.map V.ref)))) := same_upd nk
    exact q _ k us (Same.trans s12 (Same.trans s1213 s14)) ⟨o, upd_same, ho⟩ (paired_imp (fun t e h => s14 _ _ h) hus)
end
end Kb

namespace L2
open PySem PySem.Spec PyProof.Rows
/-! a law's own def that shows things: what it promises where nothing is being shown -/
structure FnG (P : Program) (w : World) (K : PySem.W.Frag) (mg : Str → Option Value) (base : Heap) (k : Nat) (f : Addr) (fd : FuncData) (ps : List Str) (sp : Sp) : Prop where
  many : ∀ (vs : List V) (H : Hp) (Q : VK) (E : XK), sp vs H Q E → vs.length = ps.length
  goes : ∀ (A : Around) (up : List Env) (s : Shared) (H : Hp) (args : Args) (us : List Value) (vs : List V) (Q : VK) (E : XK), A.guards = some [] → Room k A → Env0 P w K mg base A up s H → BindsTo s fd args (ps.zip us) → Vals vs us → sp vs H Q E →
    codeAny (model P w) A (.call (.ref f) args) (CR CX0 up P w H s Q E) s
/-- .. out of its body -/
theorem guarded {P : Program} {w : World} {K : PySem.W.Frag} {mg : Str → Option Value} {base : Heap} {f : Addr} {fd : FuncData} {nm qual : Str} {st : Stmt} {N ps : List Str} {k : Nat} {sp : Sp} (F : Fun K nm qual st f fd) (S : FnScope N ps (defScope st))
    (many : ∀ (vs : List V) (H : Hp) (Q : VK) (E : XK), sp vs H Q E → vs.length = ps.length)
    (body : ∀ (cdv : Value) (A : Around) (up : List Env) (s : Shared) (H : Hp) (vs : List V) (Q : VK) (E : XK), A.guards = some [] → Room k (A.deeper (envOfC qual (defScope st) s.heap.objs.size f cdv)) → sp vs H Q E →
      ∃ t, PSs (cxOf CX0 P w K mg base N qual (defScope st) f cdv A up s H E).nox (defBody st) t ∧ t { nx := fun _ H1 => Q .non H1, rt := Q } (start N vs) H) :
    FnG P w K mg base (k + 1) f fd ps sp := by
  obtain ⟨oc, od, kV, doc, pm, an, cdv, ct, osl, rfl, lk, known⟩ := F.ex
  refine ⟨many, fun A up s H args us vs Q E hg room e0 binds rv hsp => ?_⟩
  have inH : ∀ b o, base.get? b = some o → s.heap.get? b = some o := fun b o q => (e0.bs b o q).1
  have here := e0.mod.kin.keeps inH
  obtain ⟨t, reads, ends⟩ := body cdv A up s H vs Q E hg (room.deeper _) hsp
  refine codeAny_call_function room.depth (here _ _ lk) rfl S.co S.gen rfl (PySem.W.codeRec_of here known) (binds _ _ _ _ ?_)
  refine wpAny_newFunctionEnv_cells S.kind (fun y hy => ?_) fun env same s1 entered => ?_
  · exact (S.par y.1 (List.of_mem_zip (show (y.1, y.2) ∈ ps.zip us from hy)).1).imp id fun q => ⟨q, PySem.W.cellsFrom_some _ _ _ (.inl q)⟩
  · cases same
    have I := inv_start (CX := CX0) (E := E) S room.hd e0 (many vs H Q E hsp) rv entered
    refine ⟨(e0.mod.nolimit.keeps inH).keeps entered.toInCall.keep, codeAny_func ?_⟩
    refine wpAny_mono (reads.nox.run [] s1 (start N vs) H _ I ends) (fun fl s2 got => ?_) fun _ _ z => z
    match fl, got with
    | .ret _, ⟨r, _, H2, J, rr, q⟩ => exact ⟨r, H2, J.os, J.bare, J.base, J.hok, rr, q⟩
    | .next, ⟨_, H2, J, q⟩ => exact ⟨.non, H2, J.os, J.bare, J.base, J.hok, rfl, q⟩
    | .brk, ⟨_, _, _, q⟩ => exact q.elim
    | .cont, ⟨_, _, _, q⟩ => exact q.elim
section
variable {X : Cx} {k : Nat} {f : Addr} {fd : FuncData} {ps : List Str} {sp : Sp} {x : Str} {p pos : Pos} {e : Expr} {es : List Expr} {t : TA}
/-- f(e, ..) of such a def -/
theorem pe_callG1 (F : FnG X.prog X.w X.K X.mg X.base k f fd ps sp) (hG : X.A.guards = some []) (room : Room k X.A) (hg : Gl X x) (hm : X.mg x = some (.ref f)) (hk : PySem.W.keepIn X.K (.ref f) = true) (hb : Binds X.K fd ps [])
    (ha : PA X (e :: es) t) (hdb : (x == ("__debug__" : Str)) = false := by decide) (h1 : starEach (e :: es) X.env = (false, eval e X.env) :: starEach es X.env := by rfl) (h2 : (backTo pos (starEach es X.env)).any (·.1) = false := by rfl) :
    PE X (.Call (.Name x p) (e :: es) [] pos) (tCall sp [] E0 t) := by
  refine ⟨fun pins s σ H Q I h => ?_⟩
  refine wpAny_Call_Name_kw (ld_glob I hg hm ?_ hdb)
  refine PySem.W.callWith_K (h₀ := X.base) I.ok.mod.kin hk (thn (ha.run pos pins s σ H _ I h) fun us s1 ⟨vs, H1, I1, r, q⟩ => ⟨I1.kIn, ?_⟩) h1 h2
  have r2 : Vals (vs ++ []) (us ++ []) := r.append .nil
  have len : (us ++ []).length = ps.length := by rw [← r2.length]; exact F.many _ _ _ _ q
  refine wpAny_call (codeAny_mono (F.goes X.A X.stack s1 H1 ⟨us, []⟩ (us ++ []) (vs ++ []) Q E0 hG room I1.env0 (hb s1 us I1.kIn len) r2 q) fun r s' got => ?_)
  match r, got with
  | .error e, z => exact (pass0 (X := X) pins σ H1 s1 e s' I1 z)
  | .ok (.ret u), z => exact I1.after z
  | .ok .next, z => exact z.elim
  | .ok .brk, z => exact z.elim
  | .ok .cont, z => exact z.elim
end
end L2

namespace Kb
open PySem PySem.Spec PyProof.Rows L2 SrtZ SrtO
abbrev sholds : Stmt := topS 61
theorem scholds : FnScope ["_law_thing_here", "_law_room_here", "_law_before", "_law_due", "_law_told", "_law_k", "_law_counts"] ["_law_thing_here", "_law_room_here"] (defScope sholds) := ⟨rfl, rfl, rfl, by decide +kernel, rfl, by decide +kernel, by decide +kernel⟩
abbrev Dnholds (K : PySem.W.Frag) (mg : Str → Option Value) := Dn K mg "_law_holds" sholds ["_law_thing_here", "_law_room_here"]
theorem pick2 (b : Bool) (x y : Str) : atI [V.str x, V.str y] (if b = true then (1 : Int) else 0) = some (V.str (if b = true then y else x)) := by
  cases b
  · exact atI_nat (j := 0) rfl
  · exact atI_nat (j := 1) rfl
theorem refS_room {r : Int} (h1 : 1 ≤ r) (h2 : r ≤ 64) (d : Dat) : refS (.int r) d = if treeD d = true then Str.ofString "let" else Str.ofString "tree" := by
  have e : isRB (intD (.int r)) = true := by
    show (decide (1 ≤ r) && decide (r ≤ 64)) = true
    rw [decide_eq_true h1, decide_eq_true h2]
    rfl
  unfold refS
  rw [e, if_neg Bool.noConfusion]
  cases treeD d <;> rfl
section
variable {P : Program} {w : World} {K : PySem.W.Frag} {mg : Str → Option Value} {base : Heap}
def spHolds (C : Addr) : Sp := fun vs H Q _ => ∃ (v : V) (r : Int) (d : Dat) (F : Addr → Prop), vs = [v, .int r] ∧ DatAt F C (2 ^ 90) 60000 20 H v d ∧ wD d ≤ 1000000 ∧ 1 ≤ r ∧ r ≤ 64 ∧ ∀ H', Same H H' → Q (.bl true) H'
theorem ok_holds (T : Blt mg) (n_repr : mg "repr" = none) (F : ErX K mg) (NX : XcT K F.Tr.C) {nm : String} (NR : PySem.ExR K F.Tr.C nm) (hn : (PySem.exrText nm).length ≤ 200) (cM : Cst mg "MOST_ROOM" (.int 64)) (cL : Cst mg "LONGEST_NAME" (.int 8)) (cS' : Cst mg "MOST_STEPS" (.int 5000)) (cI : Cst mg "MOST_ITEMS" (.int 50000)) (dP_is_int : DnIsInt K mg) (dP_is_room : DnIsRoom K mg) (dP_is_name : DnIsName K mg) (dP_is_stream : DnIsStream K mg) (dP_is_put : DnIsPut K mg) (dP_is_pour : DnIsPour K mg) (dP_is_tree : DnIsTree K mg) (dP_is_counted : DnIsCounted K mg) (dP_are_counts : DnAreCounts K mg) (dP_counts_of : DnCountsOf K mg) (dP_bare : DnBare K mg) (L : Tal K mg) (dP_sketch_of : DnSketchOf K mg)
    (dcounted : Dncounted K mg) (ditems : Dnitems K mg) (dpairs : Dnpairs K mg) (dcount : Dncount K mg) (dlong : Dnlong K mg) (dname_fits : Dnname_fits K mg) (dpair_fits : Dnpair_fits K mg) (dcounts_fit : Dncounts_fit K mg) (dalike : Dnalike K mg) (dstep_fits : Dnstep_fits K mg) (dtree_fits : Dntree_fits K mg) (drefused : Dnrefused K mg) (dcounts_told : Dncounts_told K mg) (d : Dnholds K mg) : FnG P w K mg base 8 d.f d.fd ["_law_thing_here", "_law_room_here"] (spHolds F.Tr.C) := by
  have Gname_fits := ok_name_fitsD (P := P) (w := w) (base := base) T dname_fits
  have Gtree_fits := ok_tree_fitsD (P := P) (w := w) (base := base) T dlong dname_fits dstep_fits dtree_fits
  have Gcounts_fit := ok_counts_fitD (P := P) (w := w) (base := base) T dcount dlong dname_fits dpair_fits dcounts_fit
  have GP_is_name : FnOk P w K mg base CX0 1 dP_is_name.f dP_is_name.fd ["thing"] (spIsNameD K) := ok_is_nameD T cL dP_is_name
  have GP_is_tree : FnOk P w K mg base CX0 4 dP_is_tree.f dP_is_tree.fd ["thing"] (spIsTreeD K) := ok_is_treeD T cL cS' cI dP_is_name dP_is_stream dP_is_put dP_is_pour dP_is_tree
  have GP_are_counts : FnOk P w K mg base CX0 3 dP_are_counts.f dP_are_counts.fd ["thing"] (spAreCountsD K) := ok_are_countsD T cL dP_is_int dP_is_name dP_is_counted dP_are_counts
  have Gcounts_told : FnOk P w K mg base CX0 6 dcounts_told.f dcounts_told.fd ["_law_thing_here"] (spCountsTold K) := ok_counts_told T F cL cS' cI dP_is_name dP_is_stream dP_is_put dP_is_pour dP_is_tree dP_counts_of dcounts_told
  have Grefused : FnOk P w K mg base CX0 6 drefused.f drefused.fd ["_law_room_here", "_law_thing_here"] (spRefused K) := ok_refused T F cM cL cS' cI dP_is_int dP_is_room dP_is_name dP_is_stream dP_is_put dP_is_pour dP_is_tree dP_bare L dP_sketch_of drefused
  have Gcounted : FnOk P w K mg base CX0 1 dcounted.f dcounted.fd ["_law_items_here"] spCounted := ok_counted T dcounted
  have Gitems : FnOk P w K mg base CX0 1 ditems.f ditems.fd ["_law_tree_here"] (spItems K) := ok_items T ditems
  have Gpairs : FnOk P w K mg base CX0 1 dpairs.f dpairs.fd ["_law_counts"] spPairs := ok_pairs T dpairs
  have Galike : FnOk P w K mg base CX0 5 dalike.f dalike.fd ["_law_told", "_law_due"] (spAlike K 3) := ok_alike T dalike 4
  have neS : ∀ z : Str, (!decide (V.str z = V.str z)) = false := fun z => by rw [decide_eq_true rfl]; rfl
  refine guarded d.F scholds (fun vs H Q E h => ?_) (fun cdv A outer s H vs Q E hG hr h => ?_)
  · obtain ⟨v, r, d, F, rfl, _⟩ := h
    rfl
  · have hg2 : (A.deeper (envOfC (Str.ofString "_law_holds") (defScope sholds) s.heap.objs.size d.f cdv)).guards = some [] := hG
    obtain ⟨v, r, d, FF, rfl, hd, hwd, r1, r64, q⟩ := h
    refine ⟨_, (pss_cons (ps_set (i := 2) scholds.nd rfl (Or.inl rfl) (pe_callB (call_reprA hg2 hr.units NR hn) (by rfl) n_repr (by decide +kernel) (pa_cons (pv 0) pa_nil)))
    (pss_cons (ps_set (i := 3) scholds.nd rfl (Or.inl rfl) (pe_lst (pa_cons (pe_call Gname_fits (hr.mono (by omega)) (by rfl) dname_fits.g dname_fits.F.kp dname_fits.b .nil pass0 (pa_cons (pv 0) pa_nil)) (pa_cons (pe_call Gtree_fits (hr.mono (by omega)) (by rfl) dtree_fits.g dtree_fits.F.kp dtree_fits.b .nil pass0 (pa_cons (pv 0) pa_nil)) (pa_cons (pe_call Gcounts_fit (hr.mono (by omega)) (by rfl) dcounts_fit.g dcounts_fit.F.kp dcounts_fit.b .nil pass0 (pa_cons (pv 0) pa_nil)) pa_nil)))))
    (pss_cons (ps_set (i := 4) scholds.nd rfl (Or.inl rfl) (pe_lst (pa_cons (pe_call GP_is_name (hr.mono (by omega)) (by rfl) dP_is_name.g dP_is_name.F.kp dP_is_name.b .nil pass0 (pa_cons (pv 0) pa_nil)) (pa_cons (pe_call GP_is_tree (hr.mono (by omega)) (by rfl) dP_is_tree.g dP_is_tree.F.kp dP_is_tree.b .nil pass0 (pa_cons (pv 0) pa_nil)) (pa_cons (pe_call GP_are_counts (hr.mono (by omega)) (by rfl) dP_are_counts.g dP_are_counts.F.kp dP_are_counts.b .nil pass0 (pa_cons (pv 0) pa_nil)) pa_nil)))))
    (pss_cons (ps_for PassesOwn.never rfl (pi_range1 (by rfl) T.n_range (pa_cons pe_int pa_nil)) (pg_name (i := 5) scholds.nd rfl (Or.inl rfl))
      (pss_one (ps_if (PW.pt (pw_or (pt_not (pt_val (pe_callB call_isi (by rfl) T.n_isinstance (by decide +kernel) (pa_cons (pe_ix ix_list (pv 4) (pv 5) (fun _ _ => rfl)) (pa_cons (pe_bltn (v := .ty "bool") (by rfl) T.n_bool (by decide +kernel) rfl) pa_nil))))) (pw_or1 (pt_cmpR op_ne (pe_ix ix_list (pv 4) (pv 5) (fun _ _ => rfl)) (pe_ix ix_list (pv 3) (pv 5) (fun _ _ => rfl)) (nomark _)))))
        (pss_one (ps_ret pe_bl))
        pss_nil)))
    (pss_cons (ps_set (i := 6) scholds.nd rfl (Or.inl rfl) (pe_call Gcounts_told (hr.mono (by omega)) (by rfl) dcounts_told.g dcounts_told.F.kp dcounts_told.b .nil pass0 (pa_cons (pv 0) pa_nil)))
    (pss_cons (ps_if (pt_cmpR op_ne (pe_ix ix_tup (pv 6) pe_int (fun _ _ => rfl)) (pe_ix ix_list (pe_lst (pa_cons pe_str (pa_cons pe_str pa_nil))) (pe_callTy call_int1 (by rfl) T.n_int (by decide +kernel) (pa_cons (pe_ix ix_list (pv 3) pe_int (fun _ _ => rfl)) pa_nil)) (fun _ _ => rfl)) (nomark _))
      (pss_one (ps_ret pe_bl))
      pss_nil)
    (C8.pss_cut (ps_if (PW.pt (pw_and (pt_val (pe_ix ix_list (pv 3) pe_int (fun _ _ => rfl))) (pw_and1 (pt_not (pt_val (pe_call Galike (hr.mono (by omega)) (by rfl) dalike.g dalike.F.kp dalike.b .nil pass0 (pa_cons (pe_ix ix_tup (pv 6) pe_int (fun _ _ => rfl)) (pa_cons (pe_call Gpairs (hr.mono (by omega)) (by rfl) dpairs.g dpairs.F.kp dpairs.b .nil pass0 (pa_cons (pe_call Gcounted (hr.mono (by omega)) (by rfl) dcounted.g dcounted.F.kp dcounted.b .nil pass0 (pa_cons (pe_call Gitems (hr.mono (by omega)) (by rfl) ditems.g ditems.F.kp ditems.b .nil pass0 (pa_cons (pv 0) pa_nil)) pa_nil)) pa_nil)) pa_nil))))))))
      (pss_one (ps_ret pe_bl))
      pss_nil)
    (pss_cons (ps_if (pt_cmpR op_ne (pe_call Grefused (hr.mono (by omega)) (by rfl) drefused.g drefused.F.kp drefused.b .nil pass0 (pa_cons (pv 1) (pa_cons (pv 0) pa_nil))) (pe_ix ix_list (pe_lst (pa_cons pe_str (pa_cons pe_str pa_nil))) (pe_callTy call_int1 (by rfl) T.n_int (by decide +kernel) (pa_cons (pe_ix ix_list (pv 3) pe_int (fun _ _ => rfl)) pa_nil)) (fun _ _ => rfl)) (nomark _))
      (pss_one (ps_ret pe_bl))
      pss_nil)
    (pss_one (ps_ret (pe_cmpR op_eq (pe_callB (call_reprA hg2 hr.units NR hn) (by rfl) n_repr (by decide +kernel) (pa_cons (pv 0) pa_nil)) (pv 2) (nomark _)))))))))))), ?_⟩
    have hdt : DtAt K H v d := ⟨_, _, _, NX, hd⟩
    refine ⟨v, rfl, v, d, _, _, _, rfl, hd, by decide, by omega, ?_⟩
    refine ⟨v, rfl, v, d, rfl, hdt, fun H1 s1 => ⟨v, rfl, v, d, rfl, hdt.same s1, fun H2 s2 => ⟨v, rfl, v, d, rfl, (hdt.same s1).same s2, fun H3 s3 => ⟨(by show 3 ≤ sizeLine; decide), fun p np => ?_⟩⟩⟩⟩
    have s03 := Same.trans s1 (Same.trans s2 s3)
    have sp := same_upd (o := .lst [.bl (nameD d), .bl (treeD d), .bl (ctD d)]) np
    have hp : (upd H3 p (.lst [.bl (nameD d), .bl (treeD d), .bl (ctD d)])) p = some (.lst [.bl (nameD d), .bl (treeD d), .bl (ctD d)]) := upd_same
    generalize upd H3 p (.lst [.bl (nameD d), .bl (treeD d), .bl (ctD d)]) = H4 at sp hp ⊢
    have s04 := Same.trans s03 sp
    have hd4 := hdt.same s04
    refine ⟨v, rfl, v, d, rfl, hd4, fun H5 s5 => ⟨v, rfl, v, d, rfl, hd4.same s5, fun H6 s6 => ⟨v, rfl, v, d, rfl, (hd4.same s5).same s6, fun H7 s7 => ⟨(by show 3 ≤ sizeLine; decide), fun p2 np2 => ?_⟩⟩⟩⟩
    have s47 := Same.trans s5 (Same.trans s6 s7)
    have sp2 := same_upd (o := .lst [.bl (nameD d), .bl (treeD d), .bl (ctD d)]) np2
    have hp2 : (upd H7 p2 (.lst [.bl (nameD d), .bl (treeD d), .bl (ctD d)])) p2 = some (.lst [.bl (nameD d), .bl (treeD d), .bl (ctD d)]) := upd_same
    generalize upd H7 p2 (.lst [.bl (nameD d), .bl (treeD d), .bl (ctD d)]) = H8 at sp2 hp2 ⊢
    have s48 := Same.trans s47 sp2
    have s08 := Same.trans s04 s48
    have hp8 := s48 _ _ hp
    refine ⟨3, rfl, by decide, by decide, ?_⟩
    refine for_range (lo := 0) (n := 3) (fun i σ H9 => ∃ y5, σ = [some v, some (.int r), some (.str (sh nm d)), some (.ref p), some (.ref p2), y5, none] ∧ H9 = H8) ⟨none, rfl, rfl⟩ ?_ ?_
    · rintro i σ H9 hi ⟨y5, rfl, rfl⟩
      obtain ⟨b, hb⟩ : ∃ b, ([.bl (nameD d), .bl (treeD d), .bl (ctD d)] : List V)[i]? = some (.bl b) := by
        match i, hi with
        | 0, _ => exact ⟨_, rfl⟩
        | 1, _ => exact ⟨_, rfl⟩
        | 2, _ => exact ⟨_, rfl⟩
        | n + 3, h => exact absurd h (by omega)
      rw [Int.zero_add]
      refine ⟨.ref p2, rfl, .int (i : Int), rfl, p2, _, _, _, rfl, rfl, sql hp2, atI_nat hb, _, _, .type "bool", _, true, rfl, .ty "bool", .base (.bl _), kit_ty (by decide +kernel), true, rfl, iteF ?_⟩
      refine ⟨.ref p2, rfl, .int (i : Int), rfl, p2, _, _, _, rfl, rfl, sql hp2, atI_nat hb, .ref p, rfl, .int (i : Int), rfl, p, _, _, _, rfl, rfl, sql hp8, atI_nat hb, rfl, false, ?_, iteF ⟨_, rfl, rfl⟩⟩
      rw [decide_eq_true rfl]
      rfl
    · rintro σ H9 ⟨y5, rfl, rfl⟩
      have hd8 := hdt.same s08
      refine ⟨v, rfl, v, d, rfl, hd8, fun HA p6 u6 sA hp6 hu6 => ?_⟩
      have hpA := sA _ _ hp8
      have s0A := Same.trans s08 sA
      refine ⟨.ref p6, rfl, p6, _, _, _, rfl, rfl, .inl (.inl hp6), atI_nat (j := 0) rfl, (by show 2 ≤ sizeLine; decide), fun l2 nl2 => ?_⟩
      have q2 := same_upd (o := .lst [.str (Str.ofString "tree"), .str (Str.ofString "let")]) nl2
      have f2 : (upd HA l2 (.lst [.str (Str.ofString "tree"), .str (Str.ofString "let")])) l2 = some (.lst [.str (Str.ofString "tree"), .str (Str.ofString "let")]) := upd_same
      generalize upd HA l2 (.lst [.str (Str.ofString "tree"), .str (Str.ofString "let")]) = HB at q2 f2 ⊢
      have hpB := q2 _ _ hpA
      have hp6B := q2 _ _ hp6
      have s0B := Same.trans s0A q2
      refine ⟨.ref p, rfl, p, _, _, _, rfl, rfl, sql hpB, atI_nat (j := 1) rfl, .inr ⟨_, rfl, l2, _, _, _, rfl, rfl, sql f2, pick2 _ _ _, rfl, false, congrArg V.bl (neS _), iteF ?_⟩⟩
      refine ⟨fun σ HC => σ = [some v, some (.int r), some (.str (sh nm d)), some (.ref p), some (.ref p2), y5, some (.ref p6)] ∧ Same HB HC, ?_, ?_⟩
      · refine ⟨.ref p, rfl, p, _, _, _, rfl, rfl, sql hpB, atI_nat (j := 1) rfl, treeD d, rfl, ?_⟩
        cases et : treeD d with
        | false => exact iteF ⟨rfl, Same.refl HB⟩
        | true =>
          obtain ⟨ds, k, ts, rfl, rfl, hk, hpr⟩ := hu6 et
          have hdB := hdt.same s0B
          obtain ⟨_, ds2, _, ed, _, tr, _⟩ := tree_of hdB et
          cases ed
          have few : (ds.map toStp).foldl cS 0 ≤ 50000 := tr.few
          have fm := flat_mny (ds.map toStp) 0
          have tot : ((ds.map toStp).flatMap flatS).length ≤ 50000 := by omega
          have ecn : cntT (ds.map toStp) = cntZ ((ds.map toStp).flatMap flatS) [] := cntT_flat _ _
          have lC := cntZ_len (zs := (ds.map toStp).flatMap flatS) (kc := [])
          have l0 : ([] : Ct).length = 0 := rfl
          refine iteT ⟨.ref p6, rfl, p6, _, _, _, rfl, rfl, .inl (.inl hp6B), atI_nat (j := 1) rfl, v, rfl, v, ds, rfl, hdB, et, fun HC l sC hl => ⟨l, _, rfl, hl, by omega, fun HD dc sD ndc hdc => ⟨dc, _, rfl, hdc, cntZ_nd List.nodup_nil, cntZ_pos (fun _ h => nomatch h), by omega, fun HE k2 ts2 sE hk2 hp2 => ?_⟩⟩⟩
          have sBE := Same.trans sC (Same.trans sD sE)
          have sAE := Same.trans q2 sBE
          rw [← ecn] at hp2
          have lS := (srtZ_perm (cntT (ds.map toStp))).length_eq
          have lt := Paired.length hpr
          have lt2 := Paired.length hp2
          rw [← ecn] at lC
          refine ⟨.ref k, .ref k2, rfl, .inr ⟨k, k2, _, _, rfl, rfl, (hk.same sAE).seq, hk2.seq, by rw [List.length_map, List.length_map, lt, lt2], by rw [List.length_map, lt]; omega, fun i u w hu hw => ?_⟩, fun HF sF => ⟨true, rfl, iteF ⟨rfl, Same.trans sBE sF⟩⟩⟩
          obtain ⟨t, ht, rfl⟩ := map_at hu
          obtain ⟨t2, ht2, rfl⟩ := map_at hw
          obtain ⟨e, he, a1⟩ := paired_at hpr ht
          obtain ⟨e2, he2, a2⟩ := paired_at hp2 ht2
          rw [he] at he2
          cases he2
          refine .inr ⟨t, t2, _, _, rfl, rfl, .inl (.inl (sAE _ _ a1)), .inl (.inl a2), rfl, (by show 2 ≤ 60000; decide), fun j x y hx hy => ?_⟩
          match j, hx, hy with
          | 0, hx, hy =>
            cases hx
            cases hy
            exact .inl (.inr ⟨_, rfl, rfl⟩)
          | 1, hx, hy =>
            cases hx
            cases hy
            exact .inl (.inl ⟨_, rfl, rfl⟩)
          | n + 2, hx, _ => exact nomatch hx
      rintro σ HC ⟨rfl, sC⟩
      have s0C := Same.trans s0B sC
      have hpC := sC _ _ hpB
      have hdC := hdt.same s0C
      refine ⟨.int r, rfl, v, rfl, .int r, v, .int r, d, rfl, ⟨FF, F.Tr.C, 0, NX, .lint (by omega)⟩, hdC, fun HD sD => ⟨(by show 2 ≤ sizeLine; decide), fun l3 nl3 => ?_⟩⟩
      have q3 := same_upd (o := .lst [.str (Str.ofString "tree"), .str (Str.ofString "let")]) nl3
      have f3 : (upd HD l3 (.lst [.str (Str.ofString "tree"), .str (Str.ofString "let")])) l3 = some (.lst [.str (Str.ofString "tree"), .str (Str.ofString "let")]) := upd_same
      generalize upd HD l3 (.lst [.str (Str.ofString "tree"), .str (Str.ofString "let")]) = HE at q3 f3 ⊢
      have sCE := Same.trans sD q3
      have s0E := Same.trans s0C sCE
      refine ⟨.ref p, rfl, p, _, _, _, rfl, rfl, sql (sCE _ _ hpC), atI_nat (j := 1) rfl, .inr ⟨_, rfl, l3, _, _, _, rfl, rfl, sql f3, pick2 _ _ _, rfl, false, congrArg V.bl (by rw [refS_room r1 r64]; exact neS _), iteF ?_⟩⟩
      refine ⟨v, rfl, v, d, _, _, _, rfl, hd.same s0E, by decide, by omega, _, rfl, rfl, ?_⟩
      rw [decide_eq_true rfl]
      exact q HE s0E
end
end Kb

namespace Kb
open PySem PySem.Spec PyProof.Rows L2 SrtZ SrtO
abbrev stree : Stmt := topS 43
abbrev Ntree : List Str := ["_law_well_here", "_law_names_here", "_law_streams", "_law_most", "_law_steps", "_law_pile", "_law_k", "_law_items_here", "_law_turn"]
theorem sctree : FnScope ["_law_well_here", "_law_names_here", "_law_streams", "_law_most", "_law_steps", "_law_pile", "_law_k", "_law_items_here", "_law_turn"] ["_law_well_here", "_law_names_here", "_law_streams", "_law_most"] (defScope stree) := ⟨rfl, rfl, rfl, by decide +kernel, rfl, by decide +kernel, by decide +kernel⟩
abbrev Dntree (K : PySem.W.Frag) (mg : Str → Option Value) := Dn K mg "_law_tree" stree ["_law_well_here", "_law_names_here", "_law_streams", "_law_most"]
theorem asc_of_nm {z : Str} (h : Nm z) : ascB z = true := by
  unfold ascB
  rw [List.all_eq_true]
  intro c hc
  have := h.abc c hc
  unfold nmC at this
  rw [Bool.and_eq_true] at this
  have h2 := this.2
  have : ¬ 122 < c := by
    intro z
    rw [decide_eq_true z] at h2
    cases h2
  exact decide_eq_true (by omega)
theorem ptp_exw {a c : Addr} {H H' : Hp} {t : Addr} {xs : List V} (x : Exw a H H') (w : Wl a c H) (h : Ptp H t xs) : Ptp H' t xs := by
  obtain ⟨o, e, d⟩ := h
  exact ⟨o, x.at w e (by intro _ z; cases z), d⟩
theorem dat_names {F : Addr → Prop} {C : Addr} {H : Hp} : ∀ {zs : List Str}, (∀ z ∈ zs, Nm z) → Paired (DatAt F C (2 ^ 40) 20 0 H) (zs.map V.str) (zs.map Dat.str)
  | [], _ => .nil
  | z :: zs, h => by
    have h1 := h z List.mem_cons_self
    have := h1.len
    exact .cons (.lstr (by omega) (asc_of_nm h1)) (dat_names fun y hy => h y (List.mem_cons_of_mem _ hy))
theorem w_names : ∀ {zs : List Str}, (∀ z ∈ zs, Nm z) → wDs (zs.map Dat.str) ≤ 142 * zs.length
  | [], _ => Nat.zero_le _
  | z :: zs, h => by
    have h1 := (h z List.mem_cons_self).len
    have h2 := w_names fun y hy => h y (List.mem_cons_of_mem _ hy)
    show (15 * z.length + 20) + 2 + wDs (zs.map Dat.str) ≤ 142 * (zs.length + 1)
    omega
/-- a step of a tree, as data -/
abbrev putJ (zs : List Str) : Dat := .tup [.str (Str.ofString "stream"), .tup (zs.map Dat.str)]
abbrev pourJ : Dat := .tup [.str (Str.ofString "pour")]
theorem w_put {zs : List Str} (h : ∀ z ∈ zs, Nm z) (hl : zs.length ≤ 8) : wD (putJ zs) + 2 ≤ 1300 := by
  have := w_names h
  have e : (Str.ofString "stream").length = 6 := by decide +kernel
  show 10 + ((15 * (Str.ofString "stream").length + 20) + 2 + ((10 + wDs (zs.map Dat.str)) + 2 + 0)) + 2 ≤ 1300
  omega
theorem w_pour : wD pourJ + 2 ≤ 1300 := by
  have e : (Str.ofString "pour").length = 4 := by decide +kernel
  show 10 + ((15 * (Str.ofString "pour").length + 20) + 2 + 0) + 2 ≤ 1300
  omega
theorem rep_flat {α : Type} (x : α) : ∀ n : Nat, (List.replicate n [x]).flatten = List.replicate n x
  | 0 => rfl
  | n + 1 => by
    rw [List.replicate_succ, List.flatten_cons, rep_flat x n, List.replicate_succ]
    rfl
theorem paired_rep {α β : Type} {F : α → β → Prop} {x : α} {y : β} (h : F x y) : ∀ n : Nat, Paired F (List.replicate n x) (List.replicate n y)
  | 0 => .nil
  | n + 1 => by
    rw [List.replicate_succ, List.replicate_succ]
    exact .cons h (paired_rep h n)
theorem w_rep (d : Dat) : ∀ n : Nat, wDs (List.replicate n d) = n * (wD d + 2)
  | 0 => by rw [Nat.zero_mul]; rfl
  | n + 1 => by
    rw [List.replicate_succ, Nat.succ_mul]
    show wD d + 2 + wDs (List.replicate n d) = _
    rw [w_rep d n]
    omega
theorem dat_pour {F : Addr → Prop} {C : Addr} {H : Hp} {t : Addr} (h : Ptp H t [.str (Str.ofString "pour")]) : DatAt F C (2 ^ 40) 20 2 H (.ref t) pourJ :=
  .ltup h (by show 1 ≤ 20; decide) (.cons (.lstr (by rw [show (Str.ofString "pour").length = 4 by decide +kernel]; decide) (by decide +kernel)) .nil)
section
variable {P : Program} {w : World} {K : PySem.W.Frag} {mg : Str → Option Value} {base : Heap}
def spTree (C : Addr) : Sp := fun vs H Q _ => ∃ (a c l : Addr) (ys : List Str), vs = [.ref a, .ref l, .int 6, .int 8] ∧ Wl a c H ∧ H l = some (.lst (ys.map V.str)) ∧ (∀ y ∈ ys, Nm y) ∧ 0 < ys.length ∧ ys.length ≤ 1000 ∧ ∀ H' s ds xs, Exw a H H' → Wl a c H' → Ptp H' s xs → Paired (DatAt (fun b => b = a) C (2 ^ 40) 20 2 H') xs ds → xs.length ≤ 20 → wDs ds ≤ 30000 → Q (.ref s) H'
theorem ok_tree (T : Blt mg) (dmixed : Dnmixed K mg) (dfilled : Dnfilled K mg) (ddraw : Dndraw K mg) (ditem : Dnitem K mg) (d : Dntree K mg) (C : Addr) : FnOk P w K mg base CX0 5 d.f d.fd ["_law_well_here", "_law_names_here", "_law_streams", "_law_most"] (spTree C) := by
  have Gdraw : FnOk P w K mg base CX0 3 ddraw.f ddraw.fd ["_law_well_here", "_law_many"] spDraw := ok_draw T dmixed dfilled ddraw
  have Gitem : FnOk P w K mg base CX0 4 ditem.f ditem.fd ["_law_well_here", "_law_names_here"] spItem := ok_item T dmixed dfilled ddraw ditem
  refine d.F.ok sctree (fun vs H Q E h => ?_) (fun cdv A outer s H vs Q E hr h => ?_)
  · obtain ⟨a, c, l, ys, rfl, _⟩ := h
    rfl
  · obtain ⟨a, c, l, ys, rfl, hw, hl, nm, y0, y1, q⟩ := h
    refine ⟨_, (pss_cons (ps_set (i := 4) sctree.nd rfl (Or.inl rfl) (pe_lst pa_nil))
    (pss_cons (ps_set (i := 5) sctree.nd rfl (Or.inl rfl) pe_int)
    (pss_cons (ps_for PassesOwn.never rfl (pi_range1 (by rfl) T.n_range (pa_cons (pe_op op_add pe_int (pe_call Gdraw (hr.mono (by omega)) (by rfl) ddraw.g ddraw.F.kp ddraw.b .nil pass0 (pa_cons (pv 0) (pa_cons (pv 2) pa_nil)))) pa_nil)) (pg_name (i := 6) sctree.nd rfl (Or.inl rfl))
      (pss_cons (ps_setLc (i := 7) (own := [("_law_turn", 8)]) (g := gName 8) (tt := tYes) rfl sctree.nd rfl rfl (sw_true rfl rfl rfl (by decide +kernel)) (pi_range1 (by rfl) T.n_range (pa_cons (pe_call Gdraw (hr.mono (by omega)) (by rfl) ddraw.g ddraw.F.kp ddraw.b .nil pass0 (pa_cons (pv 0) (pa_cons (pe_op op_add (pv 3) pe_int) pa_nil))) pa_nil)) (blkOk_by (N := Ntree) (sc := defScope stree) (by decide +kernel)) (fun _ _ _ _ _ => pg_name (i := 8) sctree.nd rfl (Or.inl rfl)) (fun _ _ _ _ _ => pts_nil) (fun _ _ _ _ _ => (pe_call Gitem (hr.mono (by omega)) (by rfl) ditem.g ditem.F.kp ditem.b .nil pass0 (pa_cons (pv 0) (pa_cons (pv 1) pa_nil)))))
      (pss_cons (ps_expr (pe_bm PySem.F.plainAttrs_list PySem.F.slot_list_append PySem.F.type_list_append mt_append (pv 4) (pa_cons (pe_tupF (pa_cons pe_str (pa_cons (pe_callTy call_tupleF (by rfl) T.n_tuple (by decide +kernel) (pa_cons (pv 7) pa_nil)) pa_nil))) pa_nil)))
      (pss_cons (ps_set (i := 5) sctree.nd rfl (Or.inl rfl) (pe_op op_add (pv 5) pe_int))
      (pss_one (ps_for PassesOwn.never rfl (pi_range1 (by rfl) T.n_range (pa_cons (pe_op op_sub (pv 5) pe_int) pa_nil)) (pg_name (i := 8) sctree.nd rfl (Or.inl rfl))
        (pss_one (ps_if (pt_cmpR op_eq (pe_call Gdraw (hr.mono (by omega)) (by rfl) ddraw.g ddraw.F.kp ddraw.b .nil pass0 (pa_cons (pv 0) (pa_cons pe_int pa_nil))) pe_int (nomark _))
          (pss_cons (ps_expr (pe_bm PySem.F.plainAttrs_list PySem.F.slot_list_append PySem.F.type_list_append mt_append (pv 4) (pa_cons (pe_tupF (pa_cons pe_str pa_nil)) pa_nil)))
          (pss_one (ps_set (i := 5) sctree.nd rfl (Or.inl rfl) (pe_op op_sub (pv 5) pe_int))))
          pss_nil))))))))
    (pss_one (ps_ret (pe_callTy call_tupleF (by rfl) T.n_tuple (by decide +kernel) (pa_cons (pe_op op_cat (pv 4) (pe_op op_rep (pe_lst (pa_cons (pe_tupF (pa_cons pe_str pa_nil)) pa_nil)) (pe_op op_sub (pv 5) pe_int))) pa_nil))))))), ?_⟩
    refine ⟨(by show 0 ≤ sizeLine; decide), fun D nD => ?_⟩
    have Dw := hw.ne2 nD
    have lD : l ≠ D := ne_of_none hl nD
    have hl1 : (upd H D (.lst [])) l = some (.lst (ys.map V.str)) := by rw [upd_ne lD]; exact hl
    refine ⟨.ref a, rfl, .int 6, rfl, a, c, 6, rfl, hw.same (same_upd nD), by decide, by decide, fun H1 r x1 w1 r0 r6 => ⟨_, _, rfl, rfl, 1 + r, rfl, by omega, by omega, ?_⟩⟩
    have hD1 : H1 D = some (.lst []) := x1 _ _ Dw.1 upd_same
    have hl2 := x1.strs (hw.same (same_upd nD)) hl1
    have x01 : Exw a H H1 := (Same.exw (same_upd nD)).trans x1
    refine for_range (lo := 0) (n := (1 + r).toNat) (fun i σ H3 => ∃ (pile : Int) (y6 y7 y8 : Option V) (ts : List V) (ds : List Dat), σ = [some (.ref a), some (.ref l), some (.int 6), some (.int 8), some (.ref D), some (.int pile), y6, y7, y8] ∧ Exw a H H3 ∧ Wl a c H3 ∧ H3 l = some (.lst (ys.map V.str)) ∧ H3 D = some (.lst ts) ∧ Paired (DatAt (fun b => b = a ∨ b = D) C (2 ^ 40) 20 2 H3) ts ds ∧ (ds.length : Int) + pile = 2 * (i : Int) ∧ 0 ≤ pile ∧ wDs ds ≤ 1300 * ds.length) ⟨0, none, none, none, [], [], rfl, x01, w1, hl2, hD1, .nil, rfl, by decide, Nat.zero_le _⟩ ?_ ?_
    · rintro i σ H3 hi ⟨pile, y6, y7, y8, ts, ds, rfl, x3, w3, hl3, hD3, hp3, hpl, p0, hw3⟩
      have hi6 : i < 6 := by omega
      refine ⟨.ref a, rfl, .int 8, rfl, _, _, rfl, rfl, a, c, 9, rfl, w3, by decide, by decide, fun H4 k x4 w4 k0 k9 => ?_⟩
      obtain ⟨n, rfl⟩ := Int.eq_ofNat_of_zero_le k0
      have hl4 := x4.strs w3 hl3
      have hD4 := x4 _ _ Dw.1 hD3
      have hp4 := paired_imp (fun _ _ h => DatAt.keep (dk_exw (F := fun b => b = a ∨ b = D) (C := C) x4 w3 (.inl rfl)) h) hp3
      refine ⟨(n : Int), rfl, by omega, by omega, fun I nI => ?_⟩
      rw [Int.toNat_natCast]
      have Ia := w4.ne2 nI
      have ID : I ≠ D := (ne_of_none hD4 nI).symm
      refine lc_range (lo := 0) (n := n) (fun i H7 => Exw a H4 H7 ∧ Wl a c H7 ∧ ∃ zs : List Str, H7 I = some (.lst (zs.map V.str)) ∧ zs.length = i ∧ ∀ z ∈ zs, z ∈ ys) ⟨Same.exw (same_upd nI), w4.same (same_upd nI), [], upd_same, rfl, (fun _ h => nomatch h)⟩ (fun i H7 hi h7 => ?_) (fun H7 h7 => ?_)
      · obtain ⟨x7, w7, zs, hI7, hzl, hzm⟩ := h7
        refine ⟨rfl, .ref a, rfl, .ref l, rfl, a, c, l, ys, rfl, w7, x7.strs w4 hl4, y0, y1, fun H8 z x8 w8 hz => ?_⟩
        have hI8 := x8 _ _ Ia.1 hI7
        refine ⟨_, hI8, by rw [List.length_map, hzl, sizeLine_eq]; omega, (x7.trans x8).put nI, w8.put Ia, zs ++ [z], ?_, ?_, ?_⟩
        · rw [upd_same, List.map_append]
          rfl
        · rw [List.length_append, hzl]
          rfl
        · intro y hy
          rcases List.mem_append.mp hy with hy | hy
          · exact hzm y hy
          · rw [List.mem_singleton.mp hy]
            exact hz
      obtain ⟨x7, w7, zs, hI7, hzl, hzm⟩ := h7
      have hznm : ∀ z ∈ zs, Nm z := fun z hz => nm z (hzm z hz)
      have hz8 : zs.length ≤ 8 := by omega
      have hl7 := x7.strs w4 hl4
      have hD7 := x7 _ _ Dw.1 hD4
      have hp7 := paired_imp (fun _ _ h => DatAt.keep (dk_exw (F := fun b => b = a ∨ b = D) (C := C) x7 w4 (.inl rfl)) h) hp4
      have htl := Paired.length hp3
      refine ⟨.ref D, rfl, .inl ⟨rfl, _, sql hD7⟩, .ref I, rfl, I, _, rfl, sql hI7, fun t1 o1 n1 ho1 => ⟨(by show 2 ≤ sizeLine; decide), fun t2 o2 n2 ho2 => ?_⟩⟩
      have s1 := same_upd (o := .frz o1 (.tup (zs.map V.str))) n1
      have g1 : Ptp (upd H7 t1 (.frz o1 (.tup (zs.map V.str)))) t1 (zs.map V.str) := ⟨o1, upd_same, ho1⟩
      generalize upd H7 t1 (.frz o1 (.tup (zs.map V.str))) = H8 at s1 g1 n2 ⊢
      have s2 := same_upd (o := .frz o2 (.tup [.str (Str.ofString "stream"), .ref t1])) n2
      have g2 : Ptp (upd H8 t2 (.frz o2 (.tup [.str (Str.ofString "stream"), .ref t1]))) t2 [.str (Str.ofString "stream"), .ref t1] := ⟨o2, upd_same, ho2⟩
      generalize upd H8 t2 (.frz o2 (.tup [.str (Str.ofString "stream"), .ref t1])) = H9 at s2 g2 ⊢
      have s79 := Same.trans s1 s2
      have hD9 := s79 _ _ hD7
      have w9 := w7.same s79
      have hl9 := s79 _ _ hl7
      have hst : DatAt (fun b => b = a ∨ b = D) C (2 ^ 40) 20 2 H9 (.ref t2) (putJ zs) := .ltup g2 (by show 2 ≤ 20; decide) (.cons (.lstr (by rw [show (Str.ofString "stream").length = 6 by decide +kernel]; decide) (by decide +kernel)) (.cons (.ltup (g1.same s2) (by rw [List.length_map]; omega) (dat_names hznm)) .nil))
      have hp9 := paired_snoc (paired_imp (fun _ _ h => DatAt.same h s79) hp7) hst
      have lx := Paired.length hp7
      refine ⟨D, _, _, rfl, rfl, hD9, by rw [sizeLine_eq]; omega, ?_⟩
      have kD := dk_put (F := fun b => b = a ∨ b = D) (C := C) (ys := ts ++ [.ref t2]) hD9 (.inr rfl)
      have hpA := paired_imp (fun _ _ h => DatAt.keep kD h) hp9
      have wA : Wl a c (upd H9 D (.lst (ts ++ [.ref t2]))) := w9.put Dw
      have hDA : (upd H9 D (.lst (ts ++ [.ref t2]))) D = some (.lst (ts ++ [.ref t2])) := upd_same
      have hlA : (upd H9 D (.lst (ts ++ [.ref t2]))) l = some (.lst (ys.map V.str)) := by rw [upd_ne lD]; exact hl9
      have xA : Exw a H (upd H9 D (.lst (ts ++ [.ref t2]))) := fun b o n e => by
        rw [upd_ne (ne_of_none e nD)]
        exact (((x3.trans x4).trans x7).same s79) b o n e
      generalize upd H9 D (.lst (ts ++ [.ref t2])) = HA at hpA wA hDA hlA xA ⊢
      refine ⟨.int pile, rfl, _, _, rfl, rfl, ?_⟩
      refine ⟨.int (pile + 1), rfl, _, _, rfl, rfl, pile + 1 - 1, rfl, by omega, by omega, ?_⟩
      have hwp := w_put hznm hz8
      refine for_range (lo := 0) (n := (pile + 1 - 1).toNat) (fun j σ HB => ∃ (pl : Int) (z8 : Option V) (us : List V) (es : List Dat), σ = [some (.ref a), some (.ref l), some (.int 6), some (.int 8), some (.ref D), some (.int pl), some (.int (0 + (i : Int))), some (.ref I), z8] ∧ Exw a H HB ∧ Wl a c HB ∧ HB l = some (.lst (ys.map V.str)) ∧ HB D = some (.lst us) ∧ Paired (DatAt (fun b => b = a ∨ b = D) C (2 ^ 40) 20 2 HB) us es ∧ (es.length : Int) + pl = 2 * ((i : Int) + 1) ∧ pile + 1 - (j : Int) ≤ pl ∧ wDs es ≤ 1300 * es.length) ⟨pile + 1, y8, ts ++ [.ref t2], ds ++ [putJ zs], rfl, xA, wA, hlA, hDA, hpA, by rw [List.length_append]; show ((ds.length + 1 : Nat) : Int) + (pile + 1) = _; omega, by omega, by rw [wDs_app, List.length_append]; show wDs ds + (wD (putJ zs) + 2 + 0) ≤ 1300 * (ds.length + 1); omega⟩ ?_ ?_
      · rintro j σ HB hj ⟨pl, z8, us, es, rfl, xB, wB, hlB, hDB, hpB, hpl, hpj, hwB⟩
        refine ⟨.ref a, rfl, a, c, 2, rfl, wB, by decide, by decide, fun HC kk xC wC kk0 kk1 => ⟨rfl, _, rfl, ?_⟩⟩
        have hlC := xC.strs wB hlB
        have hDC := xC _ _ Dw.1 hDB
        have hpC := paired_imp (fun _ _ h => DatAt.keep (dk_exw (F := fun b => b = a ∨ b = D) (C := C) xC wB (.inl rfl)) h) hpB
        have lx := Paired.length hpC
        refine ite2 (fun _ => ?_) (fun _ => ⟨pl, _, us, es, rfl, xB.trans xC, wC, hlC, hDC, hpC, hpl, by omega, hwB⟩)
        refine ⟨.ref D, rfl, .inl ⟨rfl, _, sql hDC⟩, (by show 1 ≤ sizeLine; decide), fun t3 o3 n3 ho3 => ?_⟩
        have s3 := same_upd (o := .frz o3 (.tup [.str (Str.ofString "pour")])) n3
        have g3 : Ptp (upd HC t3 (.frz o3 (.tup [.str (Str.ofString "pour")]))) t3 [.str (Str.ofString "pour")] := ⟨o3, upd_same, ho3⟩
        generalize upd HC t3 (.frz o3 (.tup [.str (Str.ofString "pour")])) = HD at s3 g3 ⊢
        have hDD := s3 _ _ hDC
        have hlD := s3 _ _ hlC
        refine ⟨D, _, _, rfl, rfl, hDD, by rw [sizeLine_eq]; omega, ?_⟩
        have kE := dk_put (F := fun b => b = a ∨ b = D) (C := C) (ys := us ++ [.ref t3]) hDD (.inr rfl)
        have hpE := paired_imp (fun _ _ h => DatAt.keep kE h) (paired_snoc (paired_imp (fun _ _ h => DatAt.same h s3) hpC) (dat_pour g3))
        have hwq := w_pour
        refine ⟨.int pl, rfl, _, _, rfl, rfl, pl - 1, _, us ++ [.ref t3], es ++ [pourJ], rfl, fun b o n e => ?_, (wC.same s3).put Dw, by rw [upd_ne lD]; exact hlD, upd_same, hpE, by rw [List.length_append]; show ((es.length + 1 : Nat) : Int) + (pl - 1) = _; omega, by omega, by rw [wDs_app, List.length_append]; show wDs es + (wD pourJ + 2 + 0) ≤ 1300 * (es.length + 1); omega⟩
        rw [upd_ne (ne_of_none e nD)]
        exact ((xB.trans xC).same s3) b o n e
      · rintro σ HB ⟨pl, z8, us, es, rfl, xB, wB, hlB, hDB, hpB, hpl, hpj, hwB⟩
        exact ⟨pl, _, _, _, us, es, rfl, xB, wB, hlB, hDB, hpB, by push_cast; exact hpl, by omega, hwB⟩
    · rintro σ H3 ⟨pile, y6, y7, y8, ts, ds, rfl, x3, w3, hl3, hD3, hp3, hpl, p0, hw3⟩
      have htl := Paired.length hp3
      refine ⟨.ref D, rfl, (by show 1 ≤ sizeLine; decide), fun t o nt ho => ⟨(by show 1 ≤ sizeLine; decide), fun p np => ?_⟩⟩
      have s1 := same_upd (o := .frz o (.tup [.str (Str.ofString "pour")])) nt
      have g1 : Ptp (upd H3 t (.frz o (.tup [.str (Str.ofString "pour")]))) t [.str (Str.ofString "pour")] := ⟨o, upd_same, ho⟩
      generalize upd H3 t (.frz o (.tup [.str (Str.ofString "pour")])) = H4 at s1 g1 np ⊢
      have s2 := same_upd (o := .lst [.ref t]) np
      have g2 : (upd H4 p (.lst [.ref t])) p = some (.lst [.ref t]) := upd_same
      generalize upd H4 p (.lst [.ref t]) = H5 at s2 g2 ⊢
      have s35 := Same.trans s1 s2
      have hpn : (pile - 1).toNat ≤ 12 := by omega
      refine ⟨.int pile, rfl, _, _, rfl, rfl, p, pile - 1, [.ref t], rfl, rfl, g2, by omega, by omega, by rw [sizeLine_eq]; show 1 * (pile - 1).toNat ≤ _; omega, fun p2 np2 => ?_⟩
      rw [rep_flat]
      have s3 := same_upd (o := .lst (List.replicate (pile - 1).toNat (.ref t))) np2
      have g3 : (upd H5 p2 (.lst (List.replicate (pile - 1).toNat (.ref t)))) p2 = some (.lst (List.replicate (pile - 1).toNat (.ref t))) := upd_same
      generalize upd H5 p2 (.lst (List.replicate (pile - 1).toNat (.ref t))) = H6 at s3 g3 ⊢
      have s36 := Same.trans s35 s3
      refine ⟨D, p2, ts, _, rfl, rfl, s36 _ _ hD3, g3, by rw [List.length_replicate, sizeLine_eq]; omega, fun p3 np3 => ?_⟩
      have s4 := same_upd (o := .lst (ts ++ List.replicate (pile - 1).toNat (.ref t))) np3
      have g4 : (upd H6 p3 (.lst (ts ++ List.replicate (pile - 1).toNat (.ref t)))) p3 = some (.lst (ts ++ List.replicate (pile - 1).toNat (.ref t))) := upd_same
      generalize upd H6 p3 (.lst (ts ++ List.replicate (pile - 1).toNat (.ref t))) = H7 at s4 g4 ⊢
      refine ⟨p3, _, rfl, sql g4, fun t5 o5 n5 ho5 => ?_⟩
      have s5 := same_upd (o := .frz o5 (.tup (ts ++ List.replicate (pile - 1).toNat (.ref t)))) n5
      have s37 := Same.trans s36 (Same.trans s4 s5)
      have hall : Paired (DatAt (fun b => b = a ∨ b = D) C (2 ^ 40) 20 2 (upd H7 t5 (.frz o5 (.tup (ts ++ List.replicate (pile - 1).toNat (.ref t)))))) (ts ++ List.replicate (pile - 1).toNat (.ref t)) (ds ++ List.replicate (pile - 1).toNat pourJ) := paired_app (paired_imp (fun _ _ h => DatAt.same h s37) hp3) (paired_rep (dat_pour (g1.same (Same.trans (Same.trans s2 s3) (Same.trans s4 s5)))) _)
      have hwq := w_pour
      have hm : (pile - 1).toNat * (wD pourJ + 2) ≤ (pile - 1).toNat * 1300 := Nat.mul_le_mul (Nat.le_refl _) hwq
      refine q _ t5 _ _ (x3.same s37) (w3.same s37) ⟨o5, upd_same, ho5⟩ (paired_imp (fun _ _ h => DatAt.wide (fun _ e => .inl e) (Nat.le_refl _) (Nat.le_refl _) (Nat.le_refl _) h) hall) ?_ ?_
      · rw [List.length_append, List.length_replicate]
        omega
      · rw [wDs_app, w_rep]
        omega
end
end Kb

namespace L2
open PySem PySem.Spec PyProof.Rows
/-! a plain tuple, many times -/
def rRepP (K : PySem.W.Frag) : R2 := fun x y H Q => ∃ (l : Addr) (m : Nat) (xs : List V), x = .ref l ∧ y = .int (m : Int) ∧ Ptp H l xs ∧ xs ≠ [] ∧ 2 ≤ m ∧ m * xs.length ≤ 100000 ∧ ∀ p H', Same H H' → Ptp H' p (List.replicate m xs).flatten → Q (.ref p) H'
section
variable {X : Cx}
theorem op_repP : OpR X (binaryOp .Mult) (rRepP X.K) := by
  intro pins s σ H x y v u Q I rx ry h
  obtain ⟨l, m, xs, rfl, rfl, hP, some, h2, few, q⟩ := h
  cases rx
  obtain ⟨tk, rfl⟩ := ry
  obtain ⟨its, r, ⟨⟨cls, dd, data, sl⟩, ho, hc, n, hd⟩, hs⟩ := I.tuple (hP.seq (K := X.K))
  simp only at hc hd
  subst hc hd
  have len : its.length = xs.length := r.length.symm
  have full : its.toArray.isEmpty = false := by
    cases its with
    | nil => exact absurd (List.eq_nil_of_length_eq_zero len.symm) some
    | cons a b => rfl
  have size : its.toArray.size = xs.length := by rw [List.size_toArray, len]
  have small : (((xs.length : Nat) : Int)) * (m : Int) ≤ 100000 := by
    rw [← Int.natCast_mul, Nat.mul_comm]
    exact Int.ofNat_le.mpr few
  have all : (List.replicate ((m : Nat) : Int).toNat its).flatten.length ≤ sizeLine := by
    rw [PyProof.Rows.lm_len_rep_flat, len, sizeLine_eq, Int.toNat_natCast]
    omega
  have m1 : m ≤ 100000 := by
    have : 1 ≤ xs.length := List.length_pos_iff.mpr some
    calc m = m * 1 := (Nat.mul_one m).symm
      _ ≤ m * xs.length := Nat.mul_le_mul (Nat.le_refl m) this
      _ ≤ 100000 := few
  have e0 : (decide ((m : Int) < -(2 ^ 63)) || decide ((m : Int) ≥ 2 ^ 63)) = false := by
    rw [decide_eq_false (show ¬ (m : Int) < -(2 ^ 63) by omega), decide_eq_false (show ¬ (m : Int) ≥ 2 ^ 63 by omega)]
    rfl
  have e1 : (its.toArray.isEmpty || (m : Int) == 1) = false := by
    rw [full, Bool.false_or]
    exact beq_eq_false_iff_ne.mpr (show (m : Int) ≠ 1 by omega)
  have e2 : (decide ((m : Int) ≤ 0) || its.toArray.isEmpty) = false := by
    rw [full, Bool.or_false]
    exact decide_eq_false (show ¬ (m : Int) ≤ 0 by omega)
  have e3 : ¬ ((its.toArray.size : Nat) : Int) * (m : Int) > (2 ^ 63 - 1) / 8 := by
    rw [size]
    omega
  have e4 : Builtin.Tuple.tupleTooMany (((its.toArray.size : Nat) : Int) * (m : Int)) = false := by
    unfold Builtin.Tuple.tupleTooMany
    rw [sizeLine_eq, size]
    exact decide_eq_false (show ¬ _ by omega)
  refine wpAny_binaryOp_repeat_ref (T := "tuple") (U := "int") (by decide) ⟨_, ho, rfl⟩ (fun s' => typeIs_int s' (m : Int) tk) noFill_tuple_mul F.fills_int_mul F.slot_int_rmul repeat_tuple F.slot_int_index.lookup
    (call_meets F.slot_int_rmul (typeIs_int s (m : Int) tk) F.entry_int_rmul (F.args_int_rmul_2 _ _) (int_rmul_tuple (m : Int) tk l its.toArray n dd sl) ⟨ho, rfl, ⟨_, ho, rfl⟩,
      call_meets F.slot_tuple_mul ⟨_, ho, rfl⟩ F.entry_tuple_mul (F.args_tuple_mul_2 _ _) (tuple_mulW l its.toArray n dd sl (m : Int) tk e0 e1 e2 e3 e4 (by rw [size_rep, List.size_toArray]; exact all)) ⟨ho, ?_⟩⟩)
  rw [size_rep, Int.toNat_natCast]
  have hf := I.hok.fresh (Nat.le_refl _)
  refine ⟨.ref s.heap.objs.size, _, I.laid (t' := s.toks) (o := .frz { cls := .type "tuple", data := .seq (List.replicate m its).flatten.toArray } (.tup (List.replicate m xs).flatten)) (fun b ob q => Heap.get?_push_of_some _ q) (Nat.le_refl _) ?_, rfl, q _ _ (same_fresh hf) ⟨_, upd_same, rfl⟩⟩
  have rr := r.rep m
  exact ⟨Heap.get?_push_size _ rfl, by rw [PyProof.Rows.lm_len_rep_flat, sizeLine_eq]; omega, _, rr, ⟨_, Heap.get?_push_size _ rfl, rfl, _, rfl⟩⟩
end
end L2

namespace Kb
open PySem PySem.Spec PyProof.Rows L2 SrtZ SrtO
abbrev sthing : Stmt := topS 55
abbrev Nthing : List Str := ["_law_well_here", "_law_kind", "_law_spoils", "_law_names_here", "_law_thing_here", "_law_k", "_law_name_here"]
theorem scthing : FnScope ["_law_well_here", "_law_kind", "_law_spoils", "_law_names_here", "_law_thing_here", "_law_k", "_law_name_here"] ["_law_well_here"] (defScope sthing) := ⟨rfl, rfl, rfl, by decide +kernel, rfl, by decide +kernel, by decide +kernel⟩
abbrev Dnthing (K : PySem.W.Frag) (mg : Str → Option Value) := Dn K mg "_law_thing" sthing ["_law_well_here"]
abbrev sgreat : Stmt := topS 56
abbrev Ngreat : List Str := ["_law_well_here", "_law_kind"]
theorem scgreat : FnScope ["_law_well_here", "_law_kind"] ["_law_well_here"] (defScope sgreat) := ⟨rfl, rfl, rfl, by decide +kernel, rfl, by decide +kernel, by decide +kernel⟩
abbrev Dngreat (K : PySem.W.Frag) (mg : Str → Option Value) := Dn K mg "_law_great" sgreat ["_law_well_here"]
abbrev PrP (H : Hp) (t : Addr) (y : Str × Int) : Prop := Ptp H t [.str y.1, .int y.2]
theorem prp_exw {a c : Addr} {H H' : Hp} (x : Exw a H H') (w : Wl a c H) : ∀ {ts : List Addr} {kvs : Ct}, Paired (PrP H) ts kvs → Paired (PrP H') ts kvs
  | _, _, .nil => .nil
  | _, _, .cons h t => .cons (ptp_exw x w h) (prp_exw x w t)
theorem ptp_put {H : Hp} {t D : Addr} {xs zs ws : List V} (h : Ptp H t xs) (hD : H D = some (.lst zs)) : Ptp (upd H D (.lst ws)) t xs := by
  obtain ⟨o, e, d⟩ := h
  exact ⟨o, by rw [upd_ne (ne_of e hD (by intro z; cases z))]; exact e, d⟩
abbrev prJ (e : Str × Int) : Dat := .tup [.str e.1, .int e.2]
mutual
theorem nod_le : ∀ d : Dat, nod d ≤ wD d
  | .non => by unfold nod wD; omega
  | .bl _ => by unfold nod wD; omega
  | .int _ => by unfold nod wD; omega
  | .str _ => by unfold nod wD; omega
  | .err => by unfold nod wD; omega
  | .lst _ => by unfold nod wD; omega
  | .dic _ => by unfold nod wD; omega
  | .tup xs => by
    have := nodL_le xs
    unfold nod wD
    omega
theorem nodL_le : ∀ ds : List Dat, nodL ds ≤ wDs ds
  | [] => by unfold nodL wDs; omega
  | d :: ds => by
    have h1 := nod_le d
    have h2 := nodL_le ds
    unfold nodL wDs
    omega
end
theorem wDs_prs : ∀ {kvs : Ct}, (∀ e ∈ kvs, Nm e.1) → wDs (kvs.map prJ) ≤ 240 * kvs.length
  | [], _ => Nat.zero_le _
  | e :: kvs, c => by
    have h1 := wDs_prs fun f hf => c f (List.mem_cons_of_mem _ hf)
    have h2 := (c e List.mem_cons_self).len
    show (10 + ((15 * e.1.length + 20) + 2 + (60 + 2 + 0))) + 2 + wDs (kvs.map prJ) ≤ 240 * (kvs.length + 1)
    omega
theorem dat_prs {F : Addr → Prop} {C : Addr} {H : Hp} : ∀ {ts : List Addr} {kvs : Ct}, Paired (PrP H) ts kvs → (∀ e ∈ kvs, Nm e.1 ∧ 1 ≤ e.2 ∧ e.2 ≤ 1000000000) → Paired (DatAt F C (2 ^ 40) 20 1 H) (ts.map V.ref) (kvs.map prJ)
  | _, _, .nil, _ => .nil
  | _, e :: kvs, .cons h t, c => by
    obtain ⟨c1, c2, c3⟩ := c e List.mem_cons_self
    have := c1.len
    exact .cons (.ltup h (by show 2 ≤ 20; decide) (.cons (.lstr (by omega) (asc_of_nm c1)) (.cons (.lint (by omega)) .nil))) (dat_prs t fun f hf => c f (List.mem_cons_of_mem _ hf))
section
variable {P : Program} {w : World} {K : PySem.W.Frag} {mg : Str → Option Value} {base : Heap}
/-! _law_thing -/
def spThing (C : Addr) : Sp := fun vs H Q _ => ∃ (a c : Addr), vs = [.ref a] ∧ Wl a c H ∧ ∀ H' v d, Exw a H H' → Wl a c H' → DatAt (fun b => b = a) C (2 ^ 90) 60000 20 H' v d → wD d ≤ 1000000 → Q v H'
theorem ok_thing (T : Blt mg) (N : TxE K mg "NoTree") (NX : XcT K N.C) (dmixed : Dnmixed K mg) (dfilled : Dnfilled K mg) (ddraw : Dndraw K mg) (dnumber : Dnnumber K mg) (dsigns : Dnsigns K mg) (dstring : Dnstring K mg) (dname : Dnname K mg) (dunlike : Dnunlike K mg) (dany : Dnany K mg) (dnodes : Dnnodes K mg) (dchanged : Dnchanged K mg) (dspoilt : Dnspoilt K mg) (dnames : Dnnames K mg) (ditem : Dnitem K mg) (dtree : Dntree K mg) (d : Dnthing K mg) : FnOk P w K mg base CX0 13 d.f d.fd ["_law_well_here"] (spThing N.C) := by
  have Gdraw : FnOk P w K mg base CX0 3 ddraw.f ddraw.fd ["_law_well_here", "_law_many"] spDraw := ok_draw T dmixed dfilled ddraw
  have Gnumber : FnOk P w K mg base CX0 4 dnumber.f dnumber.fd ["_law_well_here"] spNumber := ok_number T dmixed dfilled ddraw dnumber
  have Gname : FnOk P w K mg base CX0 4 dname.f dname.fd ["_law_well_here"] spName := ok_name T dmixed dfilled ddraw dname
  have Gnames : FnOk P w K mg base CX0 5 dnames.f dnames.fd ["_law_well_here", "_law_most"] spNames := ok_names T dmixed dfilled ddraw dname dunlike dnames
  have Gtree : FnOk P w K mg base CX0 5 dtree.f dtree.fd ["_law_well_here", "_law_names_here", "_law_streams", "_law_most"] (spTree N.C) := ok_tree T dmixed dfilled ddraw ditem dtree N.C
  have Gany : FnOk P w K mg base CX0 8 dany.f dany.fd ["_law_well_here", "_law_deep"] (spAny N.C 3) := ok_any T N dmixed dfilled ddraw dnumber dsigns dstring dname dany 4
  have Gnodes : FnOk P w K mg base CX0 6 dnodes.f dnodes.fd ["_law_thing_here"] (spNodes K 4) := ok_nodes T dnodes 5
  have Gspoilt : FnOk P w K mg base CX0 12 dspoilt.f dspoilt.fd ["_law_thing_here", "_law_at", "_law_well_here"] (fun vs H Q E => spSpoilt N.C 3 vs H Q E ∨ spSpoilt N.C 4 vs H Q E) := fn_or (fn_up (ok_spoilt T N NX dmixed dfilled ddraw dnumber dsigns dstring dname dany dnodes dchanged dspoilt 4) (by decide)) (ok_spoilt T N NX dmixed dfilled ddraw dnumber dsigns dstring dname dany dnodes dchanged dspoilt 5)
  refine d.F.ok scthing (fun vs H Q E h => ?_) (fun cdv A outer s H vs Q E hr h => ?_)
  · obtain ⟨a, c, rfl, _⟩ := h
    rfl
  · obtain ⟨a, c, rfl, hw, q⟩ := h
    refine ⟨_, (pss_cons (ps_set (i := 1) scthing.nd rfl (Or.inl rfl) (pe_call Gdraw (hr.mono (by omega)) (by rfl) ddraw.g ddraw.F.kp ddraw.b .nil pass0 (pa_cons (pv 0) (pa_cons pe_int pa_nil))))
    (pss_cons (ps_set (i := 2) scthing.nd rfl (Or.inl rfl) (pe_ix ix_list (pe_lst (pa_cons pe_int (pa_cons pe_int (pa_cons pe_int (pa_cons pe_int pa_nil))))) (pe_call Gdraw (hr.mono (by omega)) (by rfl) ddraw.g ddraw.F.kp ddraw.b .nil pass0 (pa_cons (pv 0) (pa_cons pe_int pa_nil))) (fun _ _ => rfl)))
    (pss_cons (ps_set (i := 3) scthing.nd rfl (Or.inl rfl) (pe_call Gnames (hr.mono (by omega)) (by rfl) dnames.g dnames.F.kp dnames.b .nil pass0 (pa_cons (pv 0) (pa_cons pe_int pa_nil))))
    (C8.pss_cut (ps_if (pt_cmpR op_eq (pv 1) pe_int (nomark _))
      (pss_one (ps_set (i := 4) scthing.nd rfl (Or.inl rfl) (pe_call Gname (hr.mono (by omega)) (by rfl) dname.g dname.F.kp dname.b .nil pass0 (pa_cons (pv 0) pa_nil))))
      (pss_one (ps_if (pt_cmpR op_le (pv 1) pe_int (nomark _))
        (pss_one (ps_set (i := 4) scthing.nd rfl (Or.inl rfl) (pe_call Gtree (hr.mono (by omega)) (by rfl) dtree.g dtree.F.kp dtree.b .nil pass0 (pa_cons (pv 0) (pa_cons (pv 3) (pa_cons pe_int (pa_cons pe_int pa_nil)))))))
        (pss_one (ps_if (pt_cmpR op_eq (pv 1) pe_int (nomark _))
          (pss_one (ps_set (i := 4) scthing.nd rfl (Or.inl rfl) (pe_callTy call_tupleF (by rfl) T.n_tuple (by decide +kernel) (pa_cons (pe_lc (own := [("_law_name_here", 6)]) (g := gName 6) (tt := tYes) rfl scthing.nd (pi_list (pv 3)) (blkOk_by (N := Nthing) (sc := defScope sthing) (by decide +kernel)) (fun _ _ _ _ _ => pg_name (i := 6) scthing.nd rfl (Or.inl rfl)) (fun _ _ _ _ _ => pts_nil) (fun _ _ _ _ _ => (pe_tupF (pa_cons (pv 6) (pa_cons (pe_op op_add pe_int (pe_call Gnumber (hr.mono (by omega)) (by rfl) dnumber.g dnumber.F.kp dnumber.b .nil pass0 (pa_cons (pv 0) pa_nil))) pa_nil))))) pa_nil))))
          (pss_one (ps_set (i := 4) scthing.nd rfl (Or.inl rfl) (pe_call Gany (hr.mono (by omega)) (by rfl) dany.g dany.F.kp dany.b .nil pass0 (pa_cons (pv 0) (pa_cons pe_int pa_nil))))))))))
    (pss_cons (ps_for PassesOwn.never rfl (pi_range1 (by rfl) T.n_range (pa_cons (pv 2) pa_nil)) (pg_name (i := 5) scthing.nd rfl (Or.inl rfl))
      (pss_one (ps_set (i := 4) scthing.nd rfl (Or.inl rfl) (pe_call Gspoilt (hr.mono (by omega)) (by rfl) dspoilt.g dspoilt.F.kp dspoilt.b .nil pass0 (pa_cons (pv 4) (pa_cons (pe_call Gdraw (hr.mono (by omega)) (by rfl) ddraw.g ddraw.F.kp ddraw.b .nil pass0 (pa_cons (pv 0) (pa_cons (pe_call Gnodes (hr.mono (by omega)) (by rfl) dnodes.g dnodes.F.kp dnodes.b .nil pass0 (pa_cons (pv 4) pa_nil)) pa_nil))) (pa_cons (pv 0) pa_nil)))))))
    (pss_one (ps_ret (pv 4)))))))), ?_⟩
    refine ⟨.ref a, rfl, a, c, 5, rfl, hw, (by decide), (by decide), fun H1 k x1 w1 k0 k5 => ?_⟩
    refine ⟨(by show 4 ≤ sizeLine; decide), fun p np => ?_⟩
    have s1 := same_upd (o := .lst [.int 0, .int 0, .int 1, .int 2]) np
    have hp1 : (upd H1 p (.lst [.int 0, .int 0, .int 1, .int 2])) p = some (.lst [.int 0, .int 0, .int 1, .int 2]) := upd_same
    have pw := w1.ne2 np
    have x01 := x1.same s1
    have w01 := w1.same s1
    generalize upd H1 p (.lst [.int 0, .int 0, .int 1, .int 2]) = H2 at s1 hp1 x01 w01 ⊢
    refine ⟨.ref a, rfl, a, c, 4, rfl, w01, (by decide), (by decide), fun H3 j x3 w3 j0 j4 => ?_⟩
    obtain ⟨j, rfl⟩ := Int.eq_ofNat_of_zero_le j0
    have hj : j < 4 := by omega
    obtain ⟨m, hm, hm2⟩ : ∃ m : Nat, ([.int 0, .int 0, .int 1, .int 2] : List V)[j]? = some (.int (m : Int)) ∧ m ≤ 2 := by
      match j, hj with
      | 0, _ => exact ⟨0, rfl, by decide⟩
      | 1, _ => exact ⟨0, rfl, by decide⟩
      | 2, _ => exact ⟨1, rfl, by decide⟩
      | 3, _ => exact ⟨2, rfl, by decide⟩
      | n + 4, h => exact absurd h (by omega)
    refine ⟨p, _, _, _, rfl, rfl, sql (x3 _ _ pw.1 hp1), atI_nat hm, ?_⟩
    refine ⟨.ref a, rfl, a, c, 6, rfl, w3, (by decide), (by decide), fun H4 l ys x4 w4 nl la lc hl asc nm n0 n8 => ?_⟩
    have x04 := (x01.trans x3).trans x4
    clear x01 w01 hp1 x1 w1
    refine ⟨fun σ H5 => ∃ (y5 y6 : Option V) (v : V) (d : Dat), σ = [some (.ref a), some (.int k), some (.int (m : Int)), some (.ref l), some v, y5, y6] ∧ Exw a H H5 ∧ Wl a c H5 ∧ DatAt (fun b => b = a) N.C (2 ^ 40) 20 3 H5 v d ∧ wD d ≤ 40000, ?_, ?_⟩
    · refine ⟨.int k, rfl, rfl, _, rfl, ite2 (fun _ => ?_) (fun hk0 => ?_)⟩
      · refine ⟨.ref a, rfl, a, c, rfl, w4, fun H5 z x5 w5 hz => ⟨none, none, .str z, .str z, rfl, x04.trans x5, w5, ?_, ?_⟩⟩
        · have := hz.len
          exact .lstr (by omega) (asc_of_nm hz)
        · have := hz.len
          show 15 * z.length + 20 ≤ 40000
          omega
      refine ⟨.int k, rfl, _, _, rfl, rfl, _, rfl, ite2 (fun _ => ?_) (fun hk2 => ?_)⟩
      · refine ⟨.ref a, rfl, .ref l, rfl, a, c, l, ys, rfl, w4, hl, nm, n0, by omega, fun H5 s ds xs x5 w5 hs hp hx hwd => ⟨none, none, .ref s, .tup ds, rfl, x04.trans x5, w5, .ltup hs hx hp, ?_⟩⟩
        show 10 + wDs ds ≤ 40000
        omega
      refine ⟨.int k, rfl, rfl, _, rfl, ite2 (fun _ => ?_) (fun hk3 => ?_)⟩
      · refine ⟨.ref l, rfl, l, rfl, ⟨_, sql hl⟩, fun D nD => ?_⟩
        have Dw := w4.ne2 nD
        have lD : l ≠ D := ne_of_none hl nD
        refine lc_list (xs := ys.map V.str) (fun i H6 => Exw a H H6 ∧ Wl a c H6 ∧ H6 l = some (.lst (ys.map V.str)) ∧ ∃ (us : List Addr) (kvs : Ct), H6 D = some (.lst (us.map V.ref)) ∧ Paired (PrP H6) us kvs ∧ kvs.length = i ∧ (∀ e ∈ kvs, Nm e.1 ∧ 1 ≤ e.2 ∧ e.2 ≤ 1000000000)) ⟨x04.same (same_upd nD), w4.same (same_upd nD), same_upd nD _ _ hl, [], [], upd_same, .nil, rfl, (fun _ h => nomatch h)⟩ (fun i H6 _ h6 => sql h6.2.2.1) (fun i x H6 hx h6 => ?_) (fun H6 h6 => ?_)
        · obtain ⟨y, hy, rfl⟩ := map_at hx
          obtain ⟨x6, w6, hl6, us, kvs, hD6, hp6, hkl, hv⟩ := h6
          have hiy : i < ys.length := (List.getElem?_eq_some_iff.mp hy).1
          have hul := Paired.length hp6
          refine ⟨rfl, .str y, rfl, .ref a, rfl, a, c, rfl, w6, fun H7 r x7 w7 r0 r1 => ⟨_, _, rfl, rfl, (by show 2 ≤ sizeLine; decide), fun t ob nt hob => ?_⟩⟩
          have s8 : Same H7 (upd H7 t (.frz ob (.tup [.str y, .int (1 + r)]))) := same_upd nt
          have ht8 : Ptp (upd H7 t (.frz ob (.tup [.str y, .int (1 + r)]))) t [.str y, .int (1 + r)] := ⟨ob, upd_same, hob⟩
          dsimp only
          generalize upd H7 t (.frz ob (.tup [.str y, .int (1 + r)])) = H8 at s8 ht8 ⊢
          have hD8 := s8 _ _ (x7 _ _ Dw.1 hD6)
          have hl8 := s8 _ _ (x7.strs w6 hl6)
          have x08 := (x6.trans x7).same s8
          refine ⟨_, hD8, by rw [List.length_map, hul, hkl, sizeLine_eq]; omega, fun b o n e => ?_, (w7.same s8).put Dw, by rw [upd_ne lD]; exact hl8, us ++ [t], kvs ++ [(y, 1 + r)], by rw [upd_same, List.map_append]; rfl, ?_, by rw [List.length_append, hkl]; rfl, fun e he => ?_⟩
          · rw [upd_ne (ne_of_none (x04 b o n e) nD)]
            exact x08 b o n e
          · exact paired_snoc (paired_imp (fun t' e h => ptp_put h hD8) (paired_imp (fun t e h => Ptp.same h s8) (prp_exw x7 w6 hp6))) (ptp_put ht8 hD8)
          · rcases List.mem_append.mp he with he | he
            · exact hv e he
            · rw [List.mem_singleton.mp he]
              exact ⟨nm _ (List.mem_of_getElem? hy), by dsimp only; omega, by dsimp only; omega⟩
        · obtain ⟨x6, w6, hl6, us, kvs, hD6, hp6, hkl, hv⟩ := h6
          rw [List.length_map] at hkl
          have hul := Paired.length hp6
          refine ⟨D, _, rfl, sql hD6, fun t o nt ho => ⟨none, none, .ref t, .tup (kvs.map prJ), rfl, x6.same (same_upd nt), w6.same (same_upd nt), ?_, ?_⟩⟩
          · exact .ltup ⟨o, upd_same, ho⟩ (by rw [List.length_map]; omega) (paired_imp (fun _ _ h => DatAt.wide (fun _ h => h) (Nat.le_refl _) (Nat.le_refl _) (by decide) h) (dat_prs (paired_imp (fun t e h => Ptp.same h (same_upd nt)) hp6) hv))
          · have wk := wDs_prs (kvs := kvs) fun e he => (hv e he).1
            show 10 + wDs (kvs.map prJ) ≤ 40000
            omega
      · refine ⟨.ref a, rfl, a, c, rfl, w4, fun H5 v d x5 w5 hd hwd => ⟨none, none, v, d, rfl, x04.trans x5, w5, hd.wide (fun b e => by rw [e]; exact w4.dom) (by decide) (by decide) (by decide), Nat.le_trans hwd (by decide)⟩⟩
    rintro σ H5 ⟨y5, y6, v, d, rfl, x5, w5, hd, wd⟩
    refine ⟨.int (m : Int), rfl, (m : Int), rfl, by omega, by omega, ?_⟩
    rw [Int.toNat_natCast]
    refine for_range (lo := 0) (n := m) (fun i σ H3 => ∃ (v : V) (y5 y6 : Option V) (d : Dat) (B L : Nat), σ = [some (.ref a), some (.int k), some (.int (m : Int)), some (.ref l), some v, y5, y6] ∧ Exw a H H3 ∧ Wl a c H3 ∧ DatAt (fun b => b = a) N.C B L (3 + i) H3 v d ∧ wD d ≤ 40000 * 3 ^ i ∧ 2 ^ 31 ≤ B ∧ B ≤ 2 ^ 40 + i ∧ 20 ≤ L ∧ L ≤ 20 * 4 ^ i) ⟨v, y5, y6, d, 2 ^ 40, 20, rfl, x5, w5, hd, wd, by decide, by decide, by decide, by decide⟩ ?_ ?_
    · rintro i σ H3 hi ⟨v, y5, y6, d, B, L, rfl, x3, w3, hd, hwd, hB, hB2, hL, hL2⟩
      have hi2 : i < 2 := by omega
      have p3 : 3 ^ i ≤ 3 ∧ 4 ^ i ≤ 4 ∧ 1 ≤ 3 ^ i ∧ 1 ≤ 4 ^ i := by
        match i, hi2 with
        | 0, _ => decide
        | 1, _ => decide
        | n + 2, h => exact absurd h (by omega)
      have hn := nod_le d
      have hn0 := nod_pos d
      refine ⟨v, rfl, .ref a, rfl, v, rfl, v, d, _, N.C, B, L, rfl, NX, hd.wide (fun _ h => h) (Nat.le_refl _) (Nat.le_refl _) (by omega), by omega, fun H5 s5 => ?_⟩
      refine ⟨a, c, _, rfl, w3.same s5, by omega, by omega, fun H6 at0 x6 w6 a0 a1 => ⟨.ref a, rfl, ?_⟩⟩
      obtain ⟨at0, rfl⟩ := Int.eq_ofNat_of_zero_le a0
      have hd6 := (hd.same s5).keep (dk_exw (F := fun b => b = a) x6 (w3.same s5) rfl)
      have fin : ∀ H' v' d', Exw a H6 H' → Wl a c H' → DatAt (fun b => b = a) N.C (B + 1) (3 * L + 1) (3 + i + 1) H' v' d' → wD d' ≤ 2 * wD d + 1000 → ∃ (v : V) (y5' y6' : Option V) (d : Dat) (B L : Nat), [some (V.ref a), some (.int k), some (.int (m : Int)), some (.ref l), some v', some (.int (0 + (i : Int))), y6] = [some (.ref a), some (.int k), some (.int (m : Int)), some (.ref l), some v, y5', y6'] ∧ Exw a H H' ∧ Wl a c H' ∧ DatAt (fun b => b = a) N.C B L (3 + (i + 1)) H' v d ∧ wD d ≤ 40000 * 3 ^ (i + 1) ∧ 2 ^ 31 ≤ B ∧ B ≤ 2 ^ 40 + (i + 1 : Nat) ∧ 20 ≤ L ∧ L ≤ 20 * 4 ^ (i + 1) := fun H' v' d' x7 w7 h7 hw7 => by
        refine ⟨v', _, _, d', B + 1, 3 * L + 1, rfl, ((x3.same s5).trans x6).trans x7, w7, h7, ?_, by omega, by omega, by omega, ?_⟩
        · rw [Nat.pow_succ]
          omega
        · rw [Nat.pow_succ]
          omega
      rcases (show i = 0 ∨ i = 1 by omega) with rfl | rfl
      · exact .inl ⟨a, c, v, d, _, at0, B, L, rfl, w6, hd6, rfl, fun b e => by rw [e]; exact w6.dom, by omega, hB, hL, by omega, fin⟩
      · exact .inr ⟨a, c, v, d, _, at0, B, L, rfl, w6, hd6, rfl, fun b e => by rw [e]; exact w6.dom, by omega, hB, hL, by omega, fin⟩
    · rintro σ H3 ⟨v, y5, y6, d, B, L, rfl, x3, w3, hd, hwd, hB, hB2, hL, hL2⟩
      have p3 : 3 ^ m ≤ 9 ∧ 4 ^ m ≤ 16 := by
        match m, hm2 with
        | 0, _ => decide
        | 1, _ => decide
        | 2, _ => decide
        | n + 3, h => exact absurd h (by omega)
      exact ⟨v, rfl, q H3 v d x3 w3 (hd.wide (fun _ h => h) (by omega) (by omega) (by omega)) (by omega)⟩
/-! _law_great -/
abbrev strS : Str := Str.ofString "stream"
abbrev nonJ : Dat := .tup [.str strS, .tup []]
abbrev manJ (z : Str) (n : Nat) : Dat := .tup [.str strS, .tup (List.replicate n (.str z))]
theorem strS_len : strS.length = 6 := by decide +kernel
theorem dat_strS {F : Addr → Prop} {C : Addr} {H : Hp} {n : Nat} : DatAt F C (2 ^ 90) 60000 n H (.str strS) (.str strS) := by
  cases n with
  | zero => exact ⟨rfl, by rw [strS_len]; decide, by decide +kernel⟩
  | succ n => exact .lstr (by rw [strS_len]; decide) (by decide +kernel)
theorem dat_sgn {F : Addr → Prop} {C : Addr} {H : Hp} {z : Str} (h : z.length ≤ 60000) (a : ascB z = true) {n : Nat} : DatAt F C (2 ^ 90) 60000 n H (.str z) (.str z) := by
  cases n with
  | zero => exact ⟨rfl, h, a⟩
  | succ n => exact .lstr h a
theorem dat_non {F : Addr → Prop} {C : Addr} {H : Hp} {t e : Addr} (h : Ptp H t [.str strS, .ref e]) (he : Ptp H e []) : DatAt F C (2 ^ 90) 60000 2 H (.ref t) nonJ :=
  .ltup h (by show 2 ≤ 60000; decide) (.cons dat_strS (.cons (.ltup he (by show 0 ≤ 60000; decide) .nil) .nil))
theorem dat_man {F : Addr → Prop} {C : Addr} {H : Hp} {t e : Addr} {z : Str} {n : Nat} (h : Ptp H t [.str strS, .ref e]) (he : Ptp H e (List.replicate n (.str z))) (hn : n ≤ 60000) (hz : z.length ≤ 60000) (az : ascB z = true) : DatAt F C (2 ^ 90) 60000 2 H (.ref t) (manJ z n) :=
  .ltup h (by show 2 ≤ 60000; decide) (.cons dat_strS (.cons (.ltup he (by rw [List.length_replicate]; exact hn) (paired_rep (dat_sgn hz az) n)) .nil))
theorem dat_pourG {F : Addr → Prop} {C : Addr} {H : Hp} {t : Addr} (h : Ptp H t [.str (Str.ofString "pour")]) : DatAt F C (2 ^ 90) 60000 2 H (.ref t) pourJ :=
  (dat_pour h).wide (fun _ h => h) (by decide) (by decide) (by decide)
def spGreat (K : PySem.W.Frag) : Sp := fun vs H Q _ => ∃ (a c : Addr), vs = [.ref a] ∧ Wl a c H ∧ ∀ H' v d, DtAt K H' v d → Q v H'
theorem ok_great (T : Blt mg) {C : Addr} (NX : XcT K C) (dmixed : Dnmixed K mg) (dfilled : Dnfilled K mg) (ddraw : Dndraw K mg) (d : Dngreat K mg) : FnOk P w K mg base CX0 4 d.f d.fd ["_law_well_here"] (spGreat K) := by
  have Gdraw : FnOk P w K mg base CX0 3 ddraw.f ddraw.fd ["_law_well_here", "_law_many"] spDraw := ok_draw T dmixed dfilled ddraw
  refine d.F.ok scgreat (fun vs H Q E h => ?_) (fun cdv A outer s H vs Q E hr h => ?_)
  · obtain ⟨a, c, rfl, _⟩ := h
    rfl
  · obtain ⟨a, c, rfl, hw, q⟩ := h
    refine ⟨_, (pss_cons (ps_set (i := 1) scgreat.nd rfl (Or.inl rfl) (pe_call Gdraw (hr.mono (by omega)) (by rfl) ddraw.g ddraw.F.kp ddraw.b .nil pass0 (pa_cons (pv 0) (pa_cons pe_int pa_nil))))
    (pss_cons (ps_if (pt_cmpR op_eq (pv 1) pe_int (nomark _))
      (pss_one (ps_ret (pe_callTy call_tupleF (by rfl) T.n_tuple (by decide +kernel) (pa_cons (pe_op op_cat (pe_op op_rep (pe_lst (pa_cons (pe_tupF (pa_cons pe_str (pa_cons (pe_tupF pa_nil) pa_nil))) pa_nil)) pe_int) (pe_op op_rep (pe_lst (pa_cons (pe_tupF (pa_cons pe_str pa_nil)) pa_nil)) pe_int)) pa_nil))))
      pss_nil)
    (pss_cons (ps_if (pt_cmpR op_eq (pv 1) pe_int (nomark _))
      (pss_one (ps_ret (pe_callTy call_tupleF (by rfl) T.n_tuple (by decide +kernel) (pa_cons (pe_op op_cat (pe_op op_rep (pe_lst (pa_cons (pe_tupF (pa_cons pe_str (pa_cons (pe_tupF pa_nil) pa_nil))) pa_nil)) pe_int) (pe_op op_rep (pe_lst (pa_cons (pe_tupF (pa_cons pe_str pa_nil)) pa_nil)) pe_int)) pa_nil))))
      pss_nil)
    (pss_one (ps_ret (pe_tupF (pa_cons (pe_tupF (pa_cons pe_str (pa_cons (pe_op op_repP (pe_tupF (pa_cons pe_str pa_nil)) (pe_op op_add (pe_op op_sub pe_int pe_int) (pv 1))) pa_nil))) (pa_cons (pe_tupF (pa_cons pe_str (pa_cons (pe_tupF (pa_cons pe_str pa_nil)) pa_nil))) (pa_cons (pe_tupF (pa_cons pe_str pa_nil)) pa_nil))))))))), ?_⟩
    refine ⟨.ref a, rfl, a, c, 4, rfl, hw, (by decide), (by decide), fun H1 k x1 w1 k0 k4 => ?_⟩
    clear x1 w1 hw
    have two : ∀ (n m : Nat), n ≤ 20000 → m ≤ 20000 → ∀ {H2 : Hp} {t e t2 : Addr}, Ptp H2 t [.str strS, .ref e] → Ptp H2 e [] → Ptp H2 t2 [.str (Str.ofString "pour")] → ∀ p (H3 : Hp), Same H2 H3 → Ptp H3 p (List.replicate n (.ref t) ++ List.replicate m (.ref t2)) → Q (.ref p) H3 := fun n m hn hm H2 t e t2 h1 h2 h3 p H3 s h => by
      refine q H3 _ (.tup (List.replicate n nonJ ++ List.replicate m pourJ)) ⟨fun _ => False, C, 3, NX, .ltup h ?_ (paired_app (paired_rep (dat_non (h1.same s) (h2.same s)) n) (paired_rep (dat_pourG (h3.same s)) m))⟩
      rw [List.length_append, List.length_replicate, List.length_replicate]
      omega
    refine ⟨.int k, rfl, rfl, _, rfl, ite2 (fun _ => ?_) (fun hk0 => ?_)⟩
    · refine ⟨(by show 0 ≤ sizeLine; decide), fun e oe ne he => ⟨(by show 2 ≤ sizeLine; decide), fun t ot nt ht => ⟨(by show 1 ≤ sizeLine; decide), fun p np => ?_⟩⟩⟩
      have s1 := same_upd (o := .frz oe (.tup [])) ne
      have g1 : Ptp (upd H1 e (.frz oe (.tup []))) e [] := ⟨oe, upd_same, he⟩
      generalize upd H1 e (.frz oe (.tup [])) = H2 at s1 g1 nt np ⊢
      have s2 := same_upd (o := .frz ot (.tup [.str strS, .ref e])) nt
      have g2 : Ptp (upd H2 t (.frz ot (.tup [.str strS, .ref e]))) t [.str strS, .ref e] := ⟨ot, upd_same, ht⟩
      have g12 := g1.same s2
      generalize upd H2 t (.frz ot (.tup [.str strS, .ref e])) = H3 at s2 g2 g12 np ⊢
      have s3 := same_upd (o := .lst [.ref t]) np
      have g3 : (upd H3 p (.lst [.ref t])) p = some (.lst [.ref t]) := upd_same
      generalize upd H3 p (.lst [.ref t]) = H4 at s3 g3 ⊢
      refine ⟨p, 2500, [.ref t], rfl, rfl, g3, by decide, by decide, by rw [sizeLine_eq]; show 1 * 2500 ≤ 16777216; decide, fun p2 np2 => ?_⟩
      rw [rep_flat, show (2500 : Int).toNat = 2500 from rfl]
      have s4 := same_upd (o := .lst (List.replicate 2500 (.ref t))) np2
      have g4 : (upd H4 p2 (.lst (List.replicate 2500 (.ref t)))) p2 = some (.lst (List.replicate 2500 (.ref t))) := upd_same
      generalize upd H4 p2 (.lst (List.replicate 2500 (.ref t))) = H5 at s4 g4 ⊢
      refine ⟨(by show 1 ≤ sizeLine; decide), fun t2 o2 n2 h2 => ⟨(by show 1 ≤ sizeLine; decide), fun p3 np3 => ?_⟩⟩
      have s5 := same_upd (o := .frz o2 (.tup [.str (Str.ofString "pour")])) n2
      have g5 : Ptp (upd H5 t2 (.frz o2 (.tup [.str (Str.ofString "pour")]))) t2 [.str (Str.ofString "pour")] := ⟨o2, upd_same, h2⟩
      generalize upd H5 t2 (.frz o2 (.tup [.str (Str.ofString "pour")])) = H6 at s5 g5 np3 ⊢
      have s6 := same_upd (o := .lst [.ref t2]) np3
      have g6 : (upd H6 p3 (.lst [.ref t2])) p3 = some (.lst [.ref t2]) := upd_same
      generalize upd H6 p3 (.lst [.ref t2]) = H7 at s6 g6 ⊢
      refine ⟨p3, 2499, [.ref t2], rfl, rfl, g6, by decide, by decide, by rw [sizeLine_eq]; show 1 * 2499 ≤ 16777216; decide, fun p4 np4 => ?_⟩
      rw [rep_flat, show (2499 : Int).toNat = 2499 from rfl]
      have s7 := same_upd (o := .lst (List.replicate 2499 (.ref t2))) np4
      have g7 : (upd H7 p4 (.lst (List.replicate 2499 (.ref t2)))) p4 = some (.lst (List.replicate 2499 (.ref t2))) := upd_same
      generalize upd H7 p4 (.lst (List.replicate 2499 (.ref t2))) = H8 at s7 g7 ⊢
      have s57 := Same.trans s5 (Same.trans s6 s7)
      refine ⟨p2, p4, _, _, rfl, rfl, s57 _ _ g4, g7, by rw [List.length_replicate, List.length_replicate, sizeLine_eq]; decide, fun p5 np5 => ?_⟩
      have s8 := same_upd (o := .lst (List.replicate 2500 (.ref t) ++ List.replicate 2499 (.ref t2))) np5
      have g8 : (upd H8 p5 (.lst (List.replicate 2500 (.ref t) ++ List.replicate 2499 (.ref t2)))) p5 = some (.lst (List.replicate 2500 (.ref t) ++ List.replicate 2499 (.ref t2))) := upd_same
      generalize upd H8 p5 (.lst (List.replicate 2500 (.ref t) ++ List.replicate 2499 (.ref t2))) = H9 at s8 g8 ⊢
      refine ⟨p5, _, rfl, sql g8, fun p6 o6 n6 h6 => ?_⟩
      have s35 := Same.trans s3 (Same.trans s4 s5)
      have s69 := Same.trans s6 (Same.trans s7 s8)
      exact two 2500 2499 (by decide) (by decide) (g2.same s35) (g12.same s35) g5 p6 _ (Same.trans s69 (same_upd n6)) ⟨o6, upd_same, h6⟩
    refine ⟨.int k, rfl, rfl, _, rfl, ite2 (fun _ => ?_) (fun hk1 => ?_)⟩
    · refine ⟨(by show 0 ≤ sizeLine; decide), fun e oe ne he => ⟨(by show 2 ≤ sizeLine; decide), fun t ot nt ht => ⟨(by show 1 ≤ sizeLine; decide), fun p np => ?_⟩⟩⟩
      have s1 := same_upd (o := .frz oe (.tup [])) ne
      have g1 : Ptp (upd H1 e (.frz oe (.tup []))) e [] := ⟨oe, upd_same, he⟩
      generalize upd H1 e (.frz oe (.tup [])) = H2 at s1 g1 nt np ⊢
      have s2 := same_upd (o := .frz ot (.tup [.str strS, .ref e])) nt
      have g2 : Ptp (upd H2 t (.frz ot (.tup [.str strS, .ref e]))) t [.str strS, .ref e] := ⟨ot, upd_same, ht⟩
      have g12 := g1.same s2
      generalize upd H2 t (.frz ot (.tup [.str strS, .ref e])) = H3 at s2 g2 g12 np ⊢
      have s3 := same_upd (o := .lst [.ref t]) np
      have g3 : (upd H3 p (.lst [.ref t])) p = some (.lst [.ref t]) := upd_same
      generalize upd H3 p (.lst [.ref t]) = H4 at s3 g3 ⊢
      refine ⟨p, 2501, [.ref t], rfl, rfl, g3, by decide, by decide, by rw [sizeLine_eq]; show 1 * 2501 ≤ 16777216; decide, fun p2 np2 => ?_⟩
      rw [rep_flat, show (2501 : Int).toNat = 2501 from rfl]
      have s4 := same_upd (o := .lst (List.replicate 2501 (.ref t))) np2
      have g4 : (upd H4 p2 (.lst (List.replicate 2501 (.ref t)))) p2 = some (.lst (List.replicate 2501 (.ref t))) := upd_same
      generalize upd H4 p2 (.lst (List.replicate 2501 (.ref t))) = H5 at s4 g4 ⊢
      refine ⟨(by show 1 ≤ sizeLine; decide), fun t2 o2 n2 h2 => ⟨(by show 1 ≤ sizeLine; decide), fun p3 np3 => ?_⟩⟩
      have s5 := same_upd (o := .frz o2 (.tup [.str (Str.ofString "pour")])) n2
      have g5 : Ptp (upd H5 t2 (.frz o2 (.tup [.str (Str.ofString "pour")]))) t2 [.str (Str.ofString "pour")] := ⟨o2, upd_same, h2⟩
      generalize upd H5 t2 (.frz o2 (.tup [.str (Str.ofString "pour")])) = H6 at s5 g5 np3 ⊢
      have s6 := same_upd (o := .lst [.ref t2]) np3
      have g6 : (upd H6 p3 (.lst [.ref t2])) p3 = some (.lst [.ref t2]) := upd_same
      generalize upd H6 p3 (.lst [.ref t2]) = H7 at s6 g6 ⊢
      refine ⟨p3, 2500, [.ref t2], rfl, rfl, g6, by decide, by decide, by rw [sizeLine_eq]; show 1 * 2500 ≤ 16777216; decide, fun p4 np4 => ?_⟩
      rw [rep_flat, show (2500 : Int).toNat = 2500 from rfl]
      have s7 := same_upd (o := .lst (List.replicate 2500 (.ref t2))) np4
      have g7 : (upd H7 p4 (.lst (List.replicate 2500 (.ref t2)))) p4 = some (.lst (List.replicate 2500 (.ref t2))) := upd_same
      generalize upd H7 p4 (.lst (List.replicate 2500 (.ref t2))) = H8 at s7 g7 ⊢
      have s57 := Same.trans s5 (Same.trans s6 s7)
      refine ⟨p2, p4, _, _, rfl, rfl, s57 _ _ g4, g7, by rw [List.length_replicate, List.length_replicate, sizeLine_eq]; decide, fun p5 np5 => ?_⟩
      have s8 := same_upd (o := .lst (List.replicate 2501 (.ref t) ++ List.replicate 2500 (.ref t2))) np5
      have g8 : (upd H8 p5 (.lst (List.replicate 2501 (.ref t) ++ List.replicate 2500 (.ref t2)))) p5 = some (.lst (List.replicate 2501 (.ref t) ++ List.replicate 2500 (.ref t2))) := upd_same
      generalize upd H8 p5 (.lst (List.replicate 2501 (.ref t) ++ List.replicate 2500 (.ref t2))) = H9 at s8 g8 ⊢
      refine ⟨p5, _, rfl, sql g8, fun p6 o6 n6 h6 => ?_⟩
      have s35 := Same.trans s3 (Same.trans s4 s5)
      have s69 := Same.trans s6 (Same.trans s7 s8)
      exact two 2501 2500 (by decide) (by decide) (g2.same s35) (g12.same s35) g5 p6 _ (Same.trans s69 (same_upd n6)) ⟨o6, upd_same, h6⟩
    refine ⟨(by show 1 ≤ sizeLine; decide), fun e oe ne he => ?_⟩
    have s1 := same_upd (o := .frz oe (.tup [.str (Str.ofString "a")])) ne
    have g1 : Ptp (upd H1 e (.frz oe (.tup [.str (Str.ofString "a")]))) e [.str (Str.ofString "a")] := ⟨oe, upd_same, he⟩
    generalize upd H1 e (.frz oe (.tup [.str (Str.ofString "a")])) = H2 at s1 g1 ⊢
    have hk : ¬ k = 0 := fun z => hk0 (decide_eq_true (by rw [z]))
    have hk' : ¬ k = 1 := fun z => hk1 (decide_eq_true (by rw [z]))
    obtain ⟨m, hm⟩ : ∃ m : Nat, (50000 - 3 + k : Int) = (m : Int) := ⟨(49997 + k).toNat, by omega⟩
    refine ⟨_, _, rfl, rfl, .int k, rfl, _, _, rfl, rfl, e, m, _, rfl, congrArg V.int hm, g1, by simp, by omega, by show m * 1 ≤ 100000; omega, fun p2 H3 s2 g2 => ?_⟩
    rw [rep_flat] at g2
    refine ⟨(by show 2 ≤ sizeLine; decide), fun t1 o1 n1 h1 => ⟨(by show 1 ≤ sizeLine; decide), fun t2 o2 n2 h2 => ⟨(by show 2 ≤ sizeLine; decide), fun t3 o3 n3 h3 => ⟨(by show 1 ≤ sizeLine; decide), fun t4 o4 n4 h4 => ⟨(by show 3 ≤ sizeLine; decide), fun t5 o5 n5 h5 => ?_⟩⟩⟩⟩⟩
    have r1 := same_upd (o := .frz o1 (.tup [.str strS, .ref p2])) n1
    have f1 : Ptp (upd H3 t1 (.frz o1 (.tup [.str strS, .ref p2]))) t1 [.str strS, .ref p2] := ⟨o1, upd_same, h1⟩
    generalize upd H3 t1 (.frz o1 (.tup [.str strS, .ref p2])) = H4 at r1 f1 n2 n3 n4 n5 ⊢
    have r2 := same_upd (o := .frz o2 (.tup [.str (Str.ofString "b")])) n2
    have f2 : Ptp (upd H4 t2 (.frz o2 (.tup [.str (Str.ofString "b")]))) t2 (List.replicate 1 (.str (Str.ofString "b"))) := ⟨o2, upd_same, h2⟩
    generalize upd H4 t2 (.frz o2 (.tup [.str (Str.ofString "b")])) = H5 at r2 f2 n3 n4 n5 ⊢
    have r3 := same_upd (o := .frz o3 (.tup [.str strS, .ref t2])) n3
    have f3 : Ptp (upd H5 t3 (.frz o3 (.tup [.str strS, .ref t2]))) t3 [.str strS, .ref t2] := ⟨o3, upd_same, h3⟩
    generalize upd H5 t3 (.frz o3 (.tup [.str strS, .ref t2])) = H6 at r3 f3 n4 n5 ⊢
    have r4 := same_upd (o := .frz o4 (.tup [.str (Str.ofString "pour")])) n4
    have f4 : Ptp (upd H6 t4 (.frz o4 (.tup [.str (Str.ofString "pour")]))) t4 [.str (Str.ofString "pour")] := ⟨o4, upd_same, h4⟩
    generalize upd H6 t4 (.frz o4 (.tup [.str (Str.ofString "pour")])) = H7 at r4 f4 n5 ⊢
    have r5 := same_upd (o := .frz o5 (.tup [.ref t1, .ref t3, .ref t4])) n5
    have f5 : Ptp (upd H7 t5 (.frz o5 (.tup [.ref t1, .ref t3, .ref t4]))) t5 [.ref t1, .ref t3, .ref t4] := ⟨o5, upd_same, h5⟩
    generalize upd H7 t5 (.frz o5 (.tup [.ref t1, .ref t3, .ref t4])) = H8 at r5 f5 ⊢
    have r48 := Same.trans r2 (Same.trans r3 (Same.trans r4 r5))
    refine q H8 (.ref t5) (.tup [manJ (Str.ofString "a") m, manJ (Str.ofString "b") 1, pourJ]) ⟨fun _ => False, C, 3, NX, .ltup f5 (by show 3 ≤ 60000; decide) (.cons ?_ (.cons ?_ (.cons ?_ .nil)))⟩
    · exact dat_man (f1.same r48) (g2.same (Same.trans r1 r48)) (by omega) (by rw [show (Str.ofString "a").length = 1 by decide +kernel]; decide) (by decide +kernel)
    · exact dat_man (f3.same (Same.trans r4 r5)) (f2.same (Same.trans r3 (Same.trans r4 r5))) (by decide) (by rw [show (Str.ofString "b").length = 1 by decide +kernel]; decide) (by decide +kernel)
    · exact dat_pourG (f4.same r5)
end
end Kb

namespace Kb
open PySem PySem.Spec PyProof.Rows L2 SrtZ SrtO
abbrev slaw : Stmt := topS 62
abbrev Nlaw : List Str := ["_law_script", "_law_well_here", "_law_turn", "_law_thing_here", "_law_odd", "_law_great_here", "_law_told"]
theorem sclaw : FnScope ["_law_script", "_law_well_here", "_law_turn", "_law_thing_here", "_law_odd", "_law_great_here", "_law_told"] ["_law_script"] (defScope slaw) := ⟨rfl, rfl, rfl, by decide +kernel, rfl, by decide +kernel, by decide +kernel⟩
abbrev Dnlaw (K : PySem.W.Frag) (mg : Str → Option Value) := Dn K mg "law" slaw ["_law_script"]
theorem refS_odd {dr : Dat} (h : isRB (intD dr) = false) (d : Dat) : refS dr d = Str.ofString "room" := by
  unfold refS
  rw [if_pos h]
def spLaw (K : PySem.W.Frag) : Sp := fun vs H Q _ => ∃ (a : Addr) (ns : List Int), vs = [.ref a] ∧ SqL K H a (ns.map V.int) ∧ ns.length ≤ 63 ∧ ∀ H', Q (.bl true) H'
section
variable {P : Program} {w : World} {K : PySem.W.Frag} {mg : Str → Option Value}
theorem ok_law (T : Blt mg) (n_repr : mg "repr" = none) (F : ErX K mg) (NX : XcT K F.Tr.C) {nm : String} (NR : PySem.ExR K F.Tr.C nm) (hn : (PySem.exrText nm).length ≤ 200) (cM : Cst mg "MOST_ROOM" (.int 64)) (cL : Cst mg "LONGEST_NAME" (.int 8)) (cS' : Cst mg "MOST_STEPS" (.int 5000)) (cI : Cst mg "MOST_ITEMS" (.int 50000)) (dP_is_int : DnIsInt K mg) (dP_is_room : DnIsRoom K mg) (dP_is_name : DnIsName K mg) (dP_is_stream : DnIsStream K mg) (dP_is_put : DnIsPut K mg) (dP_is_pour : DnIsPour K mg) (dP_is_tree : DnIsTree K mg) (dP_is_counted : DnIsCounted K mg) (dP_are_counts : DnAreCounts K mg) (dP_counts_of : DnCountsOf K mg) (dP_bare : DnBare K mg) (L : Tal K mg) (dP_sketch_of : DnSketchOf K mg)
    (dmixed : Dnmixed K mg) (dwell : Dnwell K mg) (dfilled : Dnfilled K mg) (ddraw : Dndraw K mg) (dnumber : Dnnumber K mg) (dsigns : Dnsigns K mg) (dstring : Dnstring K mg) (dname : Dnname K mg) (dunlike : Dnunlike K mg) (dany : Dnany K mg) (dnodes : Dnnodes K mg) (dchanged : Dnchanged K mg) (dspoilt : Dnspoilt K mg) (dnames : Dnnames K mg) (droom : Dnroom K mg) (ditem : Dnitem K mg) (dtree : Dntree K mg) (dthing : Dnthing K mg) (dgreat : Dngreat K mg) (dcounted : Dncounted K mg) (ditems : Dnitems K mg) (dpairs : Dnpairs K mg) (dcount : Dncount K mg) (dlong : Dnlong K mg) (dname_fits : Dnname_fits K mg) (dpair_fits : Dnpair_fits K mg) (dcounts_fit : Dncounts_fit K mg) (dalike : Dnalike K mg) (dstep_fits : Dnstep_fits K mg) (dtree_fits : Dntree_fits K mg) (drefused : Dnrefused K mg) (dcounts_told : Dncounts_told K mg) (dholds : Dnholds K mg)
    (d : Dnlaw K mg) : TopOk P w K mg d.f d.fd "_law_script" (spLaw K) := by
  refine top_of (k := 14) d.F sclaw ⟨rfl, by decide, by decide⟩ fun base cdv A s H v hg hr h => ?_
  have hg2 : (A.deeper (envOfC (Str.ofString "law") (defScope slaw) s.heap.objs.size d.f cdv)).guards = some [] := hg
  have Gwell : FnOk P w K mg base CX0 1 dwell.f dwell.fd ["_law_script"] (spWell K) := ok_well T dwell
  have Gdraw : FnOk P w K mg base CX0 3 ddraw.f ddraw.fd ["_law_well_here", "_law_many"] spDraw := ok_draw T dmixed dfilled ddraw
  have Groom : FnOk P w K mg base CX0 4 droom.f droom.fd ["_law_well_here"] spRoom := ok_room T dmixed dfilled ddraw droom
  have Gthing : FnOk P w K mg base CX0 13 dthing.f dthing.fd ["_law_well_here"] (spThing F.Tr.C) := ok_thing T F.Tr NX dmixed dfilled ddraw dnumber dsigns dstring dname dunlike dany dnodes dchanged dspoilt dnames ditem dtree dthing
  have Ggreat : FnOk P w K mg base CX0 4 dgreat.f dgreat.fd ["_law_well_here"] (spGreat K) := ok_great T NX dmixed dfilled ddraw dgreat
  have Gtree_fits := ok_tree_fitsD (P := P) (w := w) (base := base) T dlong dname_fits dstep_fits dtree_fits
  have GP_is_tree : FnOk P w K mg base CX0 4 dP_is_tree.f dP_is_tree.fd ["thing"] (spIsTreeD K) := ok_is_treeD T cL cS' cI dP_is_name dP_is_stream dP_is_put dP_is_pour dP_is_tree
  have Grefused : FnOk P w K mg base CX0 6 drefused.f drefused.fd ["_law_room_here", "_law_thing_here"] (spRefused K) := ok_refused T F cM cL cS' cI dP_is_int dP_is_room dP_is_name dP_is_stream dP_is_put dP_is_pour dP_is_tree dP_bare L dP_sketch_of drefused
  have Gholds : FnG P w K mg base 8 dholds.f dholds.fd ["_law_thing_here", "_law_room_here"] (spHolds F.Tr.C) := ok_holds T n_repr F NX NR hn cM cL cS' cI dP_is_int dP_is_room dP_is_name dP_is_stream dP_is_put dP_is_pour dP_is_tree dP_is_counted dP_are_counts dP_counts_of dP_bare L dP_sketch_of dcounted ditems dpairs dcount dlong dname_fits dpair_fits dcounts_fit dalike dstep_fits dtree_fits drefused dcounts_told dholds
  have neS : ∀ z : Str, (!decide (V.str z = V.str z)) = false := fun z => by rw [decide_eq_true rfl]; rfl
  obtain ⟨a0, ns0, ev, ha, hl, q⟩ := h
  cases ev
  refine ⟨_, (pss_cons (ps_set (i := 1) sclaw.nd rfl (Or.inl rfl) (pe_call Gwell (hr.mono (by omega)) (by rfl) dwell.g dwell.F.kp dwell.b .nil pass0 (pa_cons (pv 0) pa_nil)))
    (C8.pss_cut (ps_for PassesOwn.never rfl (pi_range1 (by rfl) T.n_range (pa_cons (pe_op op_add pe_int (pe_call Gdraw (hr.mono (by omega)) (by rfl) ddraw.g ddraw.F.kp ddraw.b .nil pass0 (pa_cons (pv 1) (pa_cons pe_int pa_nil)))) pa_nil)) (pg_name (i := 2) sclaw.nd rfl (Or.inl rfl))
      (pss_cons (ps_set (i := 3) sclaw.nd rfl (Or.inl rfl) (pe_call Gthing (hr.mono (by omega)) (by rfl) dthing.g dthing.F.kp dthing.b .nil pass0 (pa_cons (pv 1) pa_nil)))
      (C8.pss_cut (ps_set (i := 4) sclaw.nd rfl (Or.inl rfl) (pe_ix ix_list (pe_lst (pa_cons pe_int (pa_cons pe_int (pa_cons (pe_un un_neg pe_int) (pa_cons pe_bl (pa_cons pe_non (pa_cons pe_str (pa_cons (pe_tupF (pa_cons pe_int pa_nil)) (pa_cons (pe_lst pa_nil) pa_nil))))))))) (pe_call Gdraw (hr.mono (by omega)) (by rfl) ddraw.g ddraw.F.kp ddraw.b .nil pass0 (pa_cons (pv 1) (pa_cons pe_int pa_nil))) (fun _ _ => rfl)))
      (pss_one (ps_if (PW.pt (pw_or (pt_not (pt_val (pe_callG1 Gholds hg2 (hr.mono (by omega)) (by rfl) dholds.g dholds.F.kp dholds.b (pa_cons (pv 3) (pa_cons (pe_call Groom (hr.mono (by omega)) (by rfl) droom.g droom.F.kp droom.b .nil pass0 (pa_cons (pv 1) pa_nil)) pa_nil))))) (pw_or1 (pt_cmpR op_ne (pe_call Grefused (hr.mono (by omega)) (by rfl) drefused.g drefused.F.kp drefused.b .nil pass0 (pa_cons (pv 4) (pa_cons (pv 3) pa_nil))) pe_str (nomark _)))))
        (pss_one (ps_ret pe_bl))
        pss_nil)))))
    (pss_cons (ps_if (pt_cmpR op_eq (pe_call Gdraw (hr.mono (by omega)) (by rfl) ddraw.g ddraw.F.kp ddraw.b .nil pass0 (pa_cons (pv 1) (pa_cons pe_int pa_nil))) pe_int (nomark _))
      (pss_cons (ps_set (i := 5) sclaw.nd rfl (Or.inl rfl) (pe_call Ggreat (hr.mono (by omega)) (by rfl) dgreat.g dgreat.F.kp dgreat.b .nil pass0 (pa_cons (pv 1) pa_nil)))
      (pss_cons (ps_set (i := 6) sclaw.nd rfl (Or.inl rfl) (pe_call GP_is_tree (hr.mono (by omega)) (by rfl) dP_is_tree.g dP_is_tree.F.kp dP_is_tree.b .nil pass0 (pa_cons (pv 5) pa_nil)))
      (pss_one (ps_ret (pe_and (pe_callB call_isi (by rfl) T.n_isinstance (by decide +kernel) (pa_cons (pv 6) (pa_cons (pe_bltn (v := .ty "bool") (by rfl) T.n_bool (by decide +kernel) rfl) pa_nil))) (pe_one (pe_cmpR op_eq (pv 6) (pe_call Gtree_fits (hr.mono (by omega)) (by rfl) dtree_fits.g dtree_fits.F.kp dtree_fits.b .nil pass0 (pa_cons (pv 5) pa_nil)) (nomark _))))))))
      pss_nil)
    (pss_one (ps_ret pe_bl))))), ?_⟩
  refine ⟨.ref a0, rfl, a0, ns0, rfl, ha, hl, fun H1 p c s1 np w1 => ?_⟩
  refine ⟨fun σ H4 => ∃ y2 y3 y4 y5 y6, σ = [some (.ref a0), some (.ref p), y2, y3, y4, y5, y6] ∧ Wl p c H4, ?_, ?_⟩
  · refine ⟨.ref p, rfl, p, c, 4, rfl, w1, (by decide), (by decide), fun H2 r x2 w2 r0 r1 => ⟨_, _, rfl, rfl, 1 + r, rfl, by omega, by omega, ?_⟩⟩
    refine for_range (lo := 0) (n := (1 + r).toNat) (fun i σ H4 => ∃ y2 y3 y4 y5 y6, σ = [some (.ref a0), some (.ref p), y2, y3, y4, y5, y6] ∧ Wl p c H4) ⟨none, none, none, none, none, rfl, w2⟩ ?_ ?_
    · rintro i σ H4 hi ⟨y2, y3, y4, y5, y6, rfl, w4⟩
      refine ⟨.ref p, rfl, p, c, rfl, w4, fun H5 v d x5 w5 hd hwd => ?_⟩
      refine ⟨fun σ H6 => ∃ vo dro, σ = [some (.ref a0), some (.ref p), some (.int (0 + (i : Int))), some v, some vo, y5, y6] ∧ Wl p c H6 ∧ DatAt (fun b => b = p) F.Tr.C (2 ^ 90) 60000 20 H6 v d ∧ DatAt (fun b => b = p) F.Tr.C (2 ^ 90) 60000 20 H6 vo dro ∧ isRB (intD dro) = false, ?_, ?_⟩
      · refine ⟨1, rfl, (by show 1 ≤ sizeLine; decide), fun t o nt ho => ⟨(by show 0 ≤ sizeLine; decide), fun e ne => ⟨(by show 8 ≤ sizeLine; decide), fun l nl => ?_⟩⟩⟩
        have t1 := same_upd (o := .frz o (.tup [.int 1])) nt
        have g1 : Ptp (upd H5 t (.frz o (.tup [.int 1]))) t [.int 1] := ⟨o, upd_same, ho⟩
        generalize upd H5 t (.frz o (.tup [.int 1])) = H6 at t1 g1 ne nl ⊢
        have t2 := same_upd (o := .lst []) ne
        have g2 : (upd H6 e (.lst [])) e = some (.lst []) := upd_same
        have ep := (w5.same t1).ne2 ne
        generalize upd H6 e (.lst []) = H7 at t2 g2 nl ⊢
        have t3 := same_upd (o := .lst [.int 0, .int 65, .int (-1), .bl true, .non, .str (Str.ofString "1"), .ref t, .ref e]) nl
        have g3 : (upd H7 l (.lst [.int 0, .int 65, .int (-1), .bl true, .non, .str (Str.ofString "1"), .ref t, .ref e])) l = some (.lst [.int 0, .int 65, .int (-1), .bl true, .non, .str (Str.ofString "1"), .ref t, .ref e]) := upd_same
        have t57 := Same.trans t1 (Same.trans t2 t3)
        have w8 := w5.same t57
        have lp := (w5.same (Same.trans t1 t2)).ne2 nl
        generalize upd H7 l (.lst [.int 0, .int 65, .int (-1), .bl true, .non, .str (Str.ofString "1"), .ref t, .ref e]) = H8 at t3 g3 t57 w8 ⊢
        refine ⟨.ref p, rfl, p, c, 8, rfl, w8, (by decide), (by decide), fun H9 j x9 w9 j0 j8 => ?_⟩
        obtain ⟨j, rfl⟩ := Int.eq_ofNat_of_zero_le j0
        have hj : j < 8 := by omega
        have kk := dk_exw (F := fun b => b = p) (C := F.Tr.C) x9 w8 rfl
        have hv9 := (hd.same t57).keep kk
        have hl9 := x9 _ _ lp.1 g3
        have at9 : ∀ vo dro, [V.int 0, .int 65, .int (-1), .bl true, .non, .str (Str.ofString "1"), .ref t, .ref e][j]? = some vo → DatAt (fun b => b = p) F.Tr.C (2 ^ 90) 60000 20 H9 vo dro → isRB (intD dro) = false → ∃ xs vo i, atI xs i = some vo ∧ xs = [V.int 0, .int 65, .int (-1), .bl true, .non, .str (Str.ofString "1"), .ref t, .ref e] ∧ i = (j : Int) ∧ ∃ dro, DatAt (fun b => b = p) F.Tr.C (2 ^ 90) 60000 20 H9 vo dro ∧ isRB (intD dro) = false := fun vo dro h h1 h2 => ⟨_, vo, _, atI_nat h, rfl, rfl, dro, h1, h2⟩
        obtain ⟨xs, vo, i', hat, rfl, rfl, dro, hdo, hro⟩ : ∃ xs vo i, atI xs i = some vo ∧ xs = [V.int 0, .int 65, .int (-1), .bl true, .non, .str (Str.ofString "1"), .ref t, .ref e] ∧ i = (j : Int) ∧ ∃ dro, DatAt (fun b => b = p) F.Tr.C (2 ^ 90) 60000 20 H9 vo dro ∧ isRB (intD dro) = false := by
          match j, hj, at9 with
          | 0, _, f => exact f _ (.int 0) rfl (.lint (by decide)) rfl
          | 1, _, f => exact f _ (.int 65) rfl (.lint (by decide)) rfl
          | 2, _, f => exact f _ (.int (-1)) rfl (.lint (by decide)) rfl
          | 3, _, f => exact f _ (.bl true) rfl .lbl rfl
          | 4, _, f => exact f _ .non rfl .lnon rfl
          | 5, _, f => exact f _ (.str (Str.ofString "1")) rfl (.lstr (by rw [show (Str.ofString "1").length = 1 by decide +kernel]; decide) (by decide +kernel)) rfl
          | 6, _, f => exact f _ (.tup [.int 1]) rfl (.ltup (kk.t _ _ (g1.same (Same.trans t2 t3))) (by show 1 ≤ 60000; decide) (.cons (.lint (by decide)) .nil)) rfl
          | 7, _, f => exact f _ (.lst []) rfl (.llst (fun z => ep.1 z) (x9 _ _ ep.1 (t3 _ _ g2)) (by show 0 ≤ 60000; decide) .nil) rfl
          | n + 8, h, _ => exact absurd h (by omega)
        exact ⟨l, _, _, _, rfl, rfl, sql hl9, hat, vo, dro, rfl, w9, hv9, hdo, hro⟩
      · rintro σ H6 ⟨vo, dro, rfl, w6, hd6, hdo, hro⟩
        refine ⟨v, rfl, .ref p, rfl, p, c, rfl, w6, fun H7 r x7 w7 r1 r64 => ?_⟩
        have kk := dk_exw (F := fun b => b = p) (C := F.Tr.C) x7 w6 rfl
        have hd7 := hd6.keep kk
        have ho7 := hdo.keep kk
        refine ⟨v, r, d, _, rfl, hd7, hwd, r1, r64, fun H8 s8 => ⟨true, rfl, iteF ?_⟩⟩
        refine ⟨vo, rfl, v, rfl, vo, v, dro, d, rfl, ⟨_, F.Tr.C, 20, NX, ho7.same s8⟩, ⟨_, F.Tr.C, 20, NX, hd7.same s8⟩, fun H9 s9 => ?_⟩
        refine ⟨rfl, false, congrArg V.bl (by rw [refS_odd hro]; exact neS _), iteF ⟨_, _, _, _, _, rfl, w7.same (Same.trans s8 s9)⟩⟩
    · rintro σ H4 ⟨y2, y3, y4, y5, y6, rfl, w4⟩
      exact ⟨y2, y3, y4, y5, y6, rfl, w4⟩
  · rintro σ H4 ⟨y2, y3, y4, y5, y6, rfl, w4⟩
    refine ⟨.ref p, rfl, p, c, 40, rfl, w4, (by decide), (by decide), fun H5 k x5 w5 k0 k40 => ⟨rfl, _, rfl, ite2 (fun _ => ?_) (fun _ => q H5)⟩⟩
    refine ⟨.ref p, rfl, p, c, rfl, w5, fun H6 v d hdt => ?_⟩
    refine ⟨v, rfl, v, d, rfl, hdt, fun H7 s7 => ?_⟩
    refine ⟨_, rfl, _, _, .type "bool", _, true, rfl, .ty "bool", .base (.bl _), kit_ty (by decide +kernel), true, rfl, ?_⟩
    show ite _ _ _
    refine iteT ⟨_, rfl, v, rfl, v, d, rfl, hdt.same s7, fun H8 s8 => ⟨rfl, ?_⟩⟩
    rw [decide_eq_true rfl]
end
end Kb

namespace Kb
open PySem PySem.Spec PyProof.Rows L2
/-- a def as the top has left it -/
def dn_of {K : PySem.W.Frag} {h : Heap} {mg : Str → Option Value} {nm : Str} {st : Stmt} {ps : List Str} {f : Addr} {oc : Value} {od an : Option Addr} {osl : Array (Option Value)} {kV doc pm cdv ct : Value} (X : K.In h) (G : h.Ns mainGlobals mg)
    (fa : PySem.W.nsIn K mainGlobals nm = some (some (.ref f))) (fl : K.lookup f = some ⟨oc, od, .func (PySem.W.fnOf nm nm (defArgs st) (defBody st) (defScope st) .none kV doc pm an cdv ct), osl⟩) (fc : PySem.W.codeIn K cdv nm = true) (fk : PySem.W.keepIn K (.ref f) = true)
    (fb : ∀ (kV doc pm : Value) (an : Option Addr) (cdv ct : Value) (us : List Value), us.length = ps.length → bindArgs (PySem.W.fnOf nm nm (defArgs st) (defBody st) (defScope st) .none kV doc pm an cdv ct) ⟨us, []⟩ = pure (ps.zip us)) : Dn K mg nm st ps :=
  ⟨f, _, fun_mk fl fc fk, PySem.W.mg_of X G fa, (fun_mk fl fc fk).binds fb⟩
def cst_of {K : PySem.W.Frag} {h : Heap} {mg : Str → Option Value} {nm : Str} {i : Int} {t : Tok} (X : K.In h) (G : h.Ns mainGlobals mg) (fa : PySem.W.nsIn K mainGlobals nm = some (some (.int i t))) : Cst mg nm (.int i) := ⟨_, PySem.W.mg_of X G fa, ⟨_, rfl⟩⟩
/-- the class as the top has left it -/
def tal_of {K : PySem.W.Frag} {h : Heap} {mg : Str → Option Value} {C fI fS fF fP fT : Addr} {odI anI odS anS odF anF odP anP odT anT : Option Addr} {slI slS slF slP slT : Array (Option Value)} {ocI kVI dcI pmI cdI ctI ocS kVS dcS pmS cdS ctS ocF kVF dcF pmF cdF ctF ocP kVP dcP pmP cdP ctP ocT kVT dcT pmT cdT ctT : Value} (X : K.In h) (G : h.Ns mainGlobals mg)
    (aCls : PySem.W.nsIn K mainGlobals "Tally" = some (some (.ref C)))
    (aI : PySem.W.findIn K (.ref C) "__init__" = some (some (.ref fI))) (iI : PySem.W.isFn K (.ref fI) = true) (lI : K.lookup fI = some ⟨ocI, odI, .func (PySem.W.fnOf "__init__" "Tally.__init__" (defArgs sTinit) (defBody sTinit) (defScope sTinit) .none kVI dcI pmI anI cdI ctI), slI⟩) (cI : PySem.W.codeIn K cdI "Tally.__init__" = true) (kI : PySem.W.keepIn K (.ref fI) = true)
    (aS : PySem.W.findIn K (.ref C) "sketch" = some (some (.ref fS))) (iS : PySem.W.isFn K (.ref fS) = true) (lS : K.lookup fS = some ⟨ocS, odS, .func (PySem.W.fnOf "sketch" "Tally.sketch" (defArgs sTsketch) (defBody sTsketch) (defScope sTsketch) .none kVS dcS pmS anS cdS ctS), slS⟩) (cS : PySem.W.codeIn K cdS "Tally.sketch" = true) (kS : PySem.W.keepIn K (.ref fS) = true)
    (aF : PySem.W.findIn K (.ref C) "gain" = some (some (.ref fF))) (iF : PySem.W.isFn K (.ref fF) = true) (lF : K.lookup fF = some ⟨ocF, odF, .func (PySem.W.fnOf "gain" "Tally.gain" (defArgs sTfeed) (defBody sTfeed) (defScope sTfeed) .none kVF dcF pmF anF cdF ctF), slF⟩) (cF : PySem.W.codeIn K cdF "Tally.gain" = true) (kF : PySem.W.keepIn K (.ref fF) = true)
    (aP : PySem.W.findIn K (.ref C) "pour" = some (some (.ref fP))) (iP : PySem.W.isFn K (.ref fP) = true) (lP : K.lookup fP = some ⟨ocP, odP, .func (PySem.W.fnOf "pour" "Tally.pour" (defArgs sTpour) (defBody sTpour) (defScope sTpour) .none kVP dcP pmP anP cdP ctP), slP⟩) (cP : PySem.W.codeIn K cdP "Tally.pour" = true) (kP : PySem.W.keepIn K (.ref fP) = true)
    (aT : PySem.W.findIn K (.ref C) "_take" = some (some (.ref fT))) (iT : PySem.W.isFn K (.ref fT) = true) (lT : K.lookup fT = some ⟨ocT, odT, .func (PySem.W.fnOf "_take" "Tally._take" (defArgs sTtake) (defBody sTtake) (defScope sTtake) .none kVT dcT pmT anT cdT ctT), slT⟩) (cT : PySem.W.codeIn K cdT "Tally._take" = true) (kT : PySem.W.keepIn K (.ref fT) = true)
    (pg : PySem.W.plainGet K C Str.empty = true) (hd : PySem.W.hasDictIn K C = true) (po : PySem.W.plainOver K C = true) (sa : PySem.W.findIn K (.ref C) "__setattr__" = some (some (.builtin "object.__setattr__"))) (mk : PySem.W.makesIn K C = true) (kc : PySem.W.keepIn K (.ref C) = true)
    (nR : PySem.W.findIn K (.ref C) "room" = some none) (nM : PySem.W.findIn K (.ref C) "seen" = some none) (nO : PySem.W.findIn K (.ref C) "off" = some none) (nC : PySem.W.findIn K (.ref C) "counts" = some none) : Tal K mg :=
  { C := C, fI := fI, fS := fS, fF := fF, fP := fP, fT := fT, dI := _, dS := _, dF := _, dP := _, dT := _, FI := fun_mk lI cI kI, FS := fun_mk lS cS kS, FF := fun_mk lF cF kF, FP := fun_mk lP cP kP, FT := fun_mk lT cT kT,
    bI := (fun_mk (st := sTinit) lI cI kI).binds fun _ _ _ _ _ _ us hl => match us, hl with | [_, _], _ => rfl, bS := (fun_mk (st := sTsketch) lS cS kS).binds fun _ _ _ _ _ _ us hl => match us, hl with | [_], _ => rfl, bF := (fun_mk (st := sTfeed) lF cF kF).binds fun _ _ _ _ _ _ us hl => match us, hl with | [_, _, _], _ => rfl, bP := (fun_mk (st := sTpour) lP cP kP).binds fun _ _ _ _ _ _ us hl => match us, hl with | [_, _], _ => rfl, bT := (fun_mk (st := sTtake) lT cT kT).binds fun _ _ _ _ _ _ us hl => match us, hl with | [_, _], _ => rfl,
    mI := ⟨mk, aI, iI, kc⟩, mS := ⟨aS, iS, kS⟩, mF := ⟨aF, iF, kF⟩, mP := ⟨aP, iP, kP⟩, mT := ⟨aT, iT, kT⟩, cl := ⟨pg, hd, po, sa⟩, nR := nR, nM := nM, nO := nO, nC := nC, g := PySem.W.mg_of X G aCls }
/-- the classes of errors as the top has left them -/
def erx_of {K : PySem.W.Frag} {h : Heap} {mg : Str → Option Value} {CR CTr KE : Addr} (X : K.In h) (G : h.Ns mainGlobals mg)
    (R1 : PySem.W.nsIn K mainGlobals "NoRoom" = some (some (.ref CR))) (R2 : PySem.W.excIn K CR [.type "ValueError", .type "Exception", .type "BaseException", .type "object"] "ValueError.__new__" = true) (R3 : PySem.W.keepIn K (.ref CR) = true) (R4 : PySem.W.subIn K (.ref CR) (.type "BaseException") = some true) (R5 : PySem.W.typeIn K (.ref CR) = some (.type "type")) (Ri1 : PySem.W.findIn K (.ref CR) "__getattribute__" = some (some (.builtin "BaseException.__getattribute__"))) (Ri2 : PySem.W.findIn K (.ref CR) "__getattr__" = some none) (Ri3 : PySem.W.hasDictIn K CR = true) (Ri4 : PySem.W.findIn K (.ref CR) "__class__" = some (some (.builtin "object.__class__"))) (Ri5 : PySem.W.specialIn K (.builtin "object.__class__") "__get__" = some (some (.builtin "getset_descriptor.__get__"))) (Ri6 : PySem.W.takesIn K (.builtin "object.__class__") = some true) (Ri7 : PySem.W.mroIn K CR (.type "object") = some true) (Tr1 : PySem.W.nsIn K mainGlobals "NoTree" = some (some (.ref CTr))) (Tr2 : PySem.W.excIn K CTr [.type "ValueError", .type "Exception", .type "BaseException", .type "object"] "ValueError.__new__" = true) (Tr3 : PySem.W.keepIn K (.ref CTr) = true) (Tr4 : PySem.W.subIn K (.ref CTr) (.type "BaseException") = some true) (Tr5 : PySem.W.typeIn K (.ref CTr) = some (.type "type")) (Tri1 : PySem.W.findIn K (.ref CTr) "__getattribute__" = some (some (.builtin "BaseException.__getattribute__"))) (Tri2 : PySem.W.findIn K (.ref CTr) "__getattr__" = some none) (Tri3 : PySem.W.hasDictIn K CTr = true) (Tri4 : PySem.W.findIn K (.ref CTr) "__class__" = some (some (.builtin "object.__class__"))) (Tri5 : PySem.W.specialIn K (.builtin "object.__class__") "__get__" = some (some (.builtin "getset_descriptor.__get__"))) (Tri6 : PySem.W.takesIn K (.builtin "object.__class__") = some true) (Tri7 : PySem.W.mroIn K CTr (.type "object") = some true) (gk : PySem.W.nsIn K mainGlobals "KnownError" = some (some (.ref KE))) (xRR : PySem.W.exmOne K (.ref CR) (.ref CR) = some true) (xTR : PySem.W.exmOne K (.ref CTr) (.ref CR) = some false) (xTT : PySem.W.exmOne K (.ref CTr) (.ref CTr) = some true) (yI : PySem.W.kitOne K (.ref CTr) (.type "int") = some false) (yB : PySem.W.kitOne K (.ref CTr) (.type "bool") = some false) (yS : PySem.W.kitOne K (.ref CTr) (.type "str") = some false) (yT : PySem.W.kitOne K (.ref CTr) (.type "tuple") = some false) (eQ1 : PySem.W.findIn K (.ref CTr) "__eq__" = some (some (.builtin "object.__eq__"))) (eQ2 : PySem.W.subIn K (.ref CTr) (.type "object") = some true) (rR : PySem.W.findIn K (.ref CTr) "__repr__" = some (some (.builtin "BaseException.__repr__"))) (rC : (PySem.W.clsIn K CTr).map (fun cd => cd.name.toString) = some "NoTree") : Σ' (F : ErX K mg) (_ : XcT K F.Tr.C), PySem.ExR K F.Tr.C "NoTree" :=
  ⟨⟨⟨CR, PySem.W.mg_of X G R1, R2, R3, R4, R5, ⟨Ri1, Ri2, R4, Ri3, Ri4, Ri5, Ri6, Ri7⟩⟩, ⟨CTr, PySem.W.mg_of X G Tr1, Tr2, Tr3, Tr4, Tr5, ⟨Tri1, Tri2, Tr4, Tri3, Tri4, Tri5, Tri6, Tri7⟩⟩, KE, PySem.W.mg_of X G gk, xRR, xTR, xTT⟩, ⟨⟨Tri1, Tri2, Tr4, Tri3, Tri4, Tri5, Tri6, Tri7⟩, yI, yB, yS, yT, ⟨eQ1, eQ2⟩⟩, ⟨rR, Tr4, Option.map_eq_some_iff.mp rC⟩⟩
theorem law_end {l : PySem.W.OpenLaw} {w : World} {K : PySem.W.Frag} {h : Heap} {mg : Str → Option Value} {fa f : Addr} (X : K.In h) (G : h.Ns mainGlobals mg) (hfa : mg "law" = some (.ref fa))
    {od an : Option Addr} {osl : Array (Option Value)} {oc kV doc pm cdv ct : Value}
    (a0 : PySem.W.nsIn K mainGlobals "law" = some (some (.ref f))) (l0 : K.lookup f = some ⟨oc, od, .func (PySem.W.fnOf "law" "law" (defArgs slaw) (defBody slaw) (defScope slaw) .none kV doc pm an cdv ct), osl⟩) (c0 : PySem.W.codeIn K cdv "law" = true) (k0 : PySem.W.keepIn K (.ref f) = true)
    (T : Blt mg) (EX : Σ' (F : ErX K mg) (_ : XcT K F.Tr.C), PySem.ExR K F.Tr.C "NoTree") (n_repr : mg "repr" = none) (cM : Cst mg "MOST_ROOM" (.int 64)) (cL : Cst mg "LONGEST_NAME" (.int 8)) (cS : Cst mg "MOST_STEPS" (.int 5000)) (cI : Cst mg "MOST_ITEMS" (.int 50000)) (L : Tal K mg) (dP_is_int : DnIsInt K mg) (dP_is_room : DnIsRoom K mg) (dP_is_name : DnIsName K mg) (dP_is_stream : DnIsStream K mg) (dP_is_put : DnIsPut K mg) (dP_is_pour : DnIsPour K mg) (dP_is_tree : DnIsTree K mg) (dP_is_counted : DnIsCounted K mg) (dP_are_counts : DnAreCounts K mg) (dP_counts_of : DnCountsOf K mg) (dP_bare : DnBare K mg) (dP_sketch_of : DnSketchOf K mg) (dmixed : Dnmixed K mg) (dwell : Dnwell K mg) (dfilled : Dnfilled K mg) (ddraw : Dndraw K mg) (dnumber : Dnnumber K mg) (dsigns : Dnsigns K mg) (dstring : Dnstring K mg) (dname : Dnname K mg) (dunlike : Dnunlike K mg) (dany : Dnany K mg) (dnodes : Dnnodes K mg) (dchanged : Dnchanged K mg) (dspoilt : Dnspoilt K mg) (dnames : Dnnames K mg) (droom : Dnroom K mg) (ditem : Dnitem K mg) (dtree : Dntree K mg) (dthing : Dnthing K mg) (dgreat : Dngreat K mg) (dcounted : Dncounted K mg) (ditems : Dnitems K mg) (dpairs : Dnpairs K mg) (dcount : Dncount K mg) (dlong : Dnlong K mg) (dname_fits : Dnname_fits K mg) (dpair_fits : Dnpair_fits K mg) (dcounts_fit : Dncounts_fit K mg) (dalike : Dnalike K mg) (dstep_fits : Dnstep_fits K mg) (dtree_fits : Dntree_fits K mg) (drefused : Dnrefused K mg) (dcounts_told : Dncounts_told K mg) (dholds : Dnholds K mg) :
    ∃ fd : FuncData, (∀ (s : Shared) (v : Value), BindsTo s fd ⟨[v], []⟩ [("_law_script", v)]) ∧ TopOk l.prog w K mg fa fd "_law_script" (spLaw K) := by
  have e := hfa.symm.trans (PySem.W.mg_of X G a0)
  cases e
  exact ⟨PySem.W.fnOf "law" "law" (defArgs slaw) (defBody slaw) (defScope slaw) .none kV doc pm an cdv ct, fun s v => .of_eq rfl, ok_law T n_repr EX.1 EX.2.1 EX.2.2 (by decide +kernel) cM cL cS cI dP_is_int dP_is_room dP_is_name dP_is_stream dP_is_put dP_is_pour dP_is_tree dP_is_counted dP_are_counts dP_counts_of dP_bare L dP_sketch_of dmixed dwell dfilled ddraw dnumber dsigns dstring dname dunlike dany dnodes dchanged dspoilt dnames droom ditem dtree dthing dgreat dcounted ditems dpairs dcount dlong dname_fits dpair_fits dcounts_fit dalike dstep_fits dtree_fits drefused dcounts_told dholds
    ⟨_, _, fun_mk l0 c0 k0, PySem.W.mg_of X G a0, (fun_mk l0 c0 k0).binds fun _ _ _ _ _ _ us hl => match us, hl with | [_], _ => rfl⟩⟩
end Kb
open PySem PySem.W PyProof.Rows
theorem PySem.Challenge.cw_knownends_k01_names_trees_and_counts_jud_holds : PySem.Challenge.rw_knownends_k01_names_trees_and_counts_jud.Holds := by
  w_on; o_law; k_head; (case hw => w_witness2)
  k_fill
  refine L2.walk_top (l := PySem.Challenge.rw_knownends_k01_names_trees_and_counts_jud) (n := 63) (x := "_law_script") (sp := fun w => Kb.spLaw _) rfl (by decide) rfl (fun w h Y => PySem.W.kIn_of Y) ?F (fun _ _ a ns hl hS => ⟨a, ns, rfl, hS, hl, fun _ => rfl⟩)
  case F =>
    intro w mg fa h KX G hmg
    refine' Kb.law_end KX G hmg ?a0 ?l0 ?c0 ?k0 ?T ?EX ?n_repr ?cM ?cL ?cS ?cI ?L ?dP_is_int ?dP_is_room ?dP_is_name ?dP_is_stream ?dP_is_put ?dP_is_pour ?dP_is_tree ?dP_is_counted ?dP_are_counts ?dP_counts_of ?dP_bare ?dP_sketch_of ?dmixed ?dwell ?dfilled ?ddraw ?dnumber ?dsigns ?dstring ?dname ?dunlike ?dany ?dnodes ?dchanged ?dspoilt ?dnames ?droom ?ditem ?dtree ?dthing ?dgreat ?dcounted ?ditems ?dpairs ?dcount ?dlong ?dname_fits ?dpair_fits ?dcounts_fit ?dalike ?dstep_fits ?dtree_fits ?drefused ?dcounts_told ?dholds
    (case a0 => k_is); (case l0 => k_is); (case c0 => k_is); (case k0 => k_is)
    (case T => exact ⟨PySem.W.mg_none_of KX G (by k_is), PySem.W.mg_none_of KX G (by k_is), PySem.W.mg_none_of KX G (by k_is), PySem.W.mg_none_of KX G (by k_is), PySem.W.mg_none_of KX G (by k_is), PySem.W.mg_none_of KX G (by k_is), PySem.W.mg_none_of KX G (by k_is), PySem.W.mg_none_of KX G (by k_is), PySem.W.mg_none_of KX G (by k_is), PySem.W.mg_none_of KX G (by k_is), PySem.W.mg_none_of KX G (by k_is), PySem.W.mg_none_of KX G (by k_is), PySem.W.mg_none_of KX G (by k_is), PySem.W.mg_none_of KX G (by k_is)⟩)
    (case EX =>
      refine' Kb.erx_of KX G ?R1 ?R2 ?R3 ?R4 ?R5 ?Ri1 ?Ri2 ?Ri3 ?Ri4 ?Ri5 ?Ri6 ?Ri7 ?Tr1 ?Tr2 ?Tr3 ?Tr4 ?Tr5 ?Tri1 ?Tri2 ?Tri3 ?Tri4 ?Tri5 ?Tri6 ?Tri7 ?gk ?xRR ?xTR ?xTT ?yI ?yB ?yS ?yT ?eQ1 ?eQ2 ?rR ?rC
      (case R1 => k_is); (case R2 => first | k_exc | kernel_rfl); (case R3 => k_is); (case R4 => k_is); (case R5 => k_is); (case Ri1 => k_is); (case Ri2 => k_is); (case Ri3 => k_is); (case Ri4 => k_is); (case Ri5 => k_is); (case Ri6 => k_is); (case Ri7 => k_is); (case Tr1 => k_is); (case Tr2 => first | k_exc | kernel_rfl); (case Tr3 => k_is); (case Tr4 => k_is); (case Tr5 => k_is); (case Tri1 => k_is); (case Tri2 => k_is); (case Tri3 => k_is); (case Tri4 => k_is); (case Tri5 => k_is); (case Tri6 => k_is); (case Tri7 => k_is); (case gk => k_is); (case xRR => first | rfl | k_is); (case xTR => first | rfl | k_is); (case xTT => first | rfl | k_is); (case yI => first | rfl | k_is); (case yB => first | rfl | k_is); (case yS => first | rfl | k_is); (case yT => first | rfl | k_is); (case eQ1 => k_is); (case eQ2 => k_is); (case rR => k_is); (case rC => first | kernel_rfl | rfl | decide +kernel))
    (case n_repr => exact PySem.W.mg_none_of KX G (by k_is))
    (case cM => refine' Kb.cst_of KX G ?a_cM; (case a_cM => k_is))
    (case cL => refine' Kb.cst_of KX G ?a_cL; (case a_cL => k_is))
    (case cS => refine' Kb.cst_of KX G ?a_cS; (case a_cS => k_is))
    (case cI => refine' Kb.cst_of KX G ?a_cI; (case a_cI => k_is))
    (case L =>
      refine' Kb.tal_of KX G ?tL_aCls ?tL_aI ?tL_iI ?tL_lI ?tL_cI ?tL_kI ?tL_aS ?tL_iS ?tL_lS ?tL_cS ?tL_kS ?tL_aF ?tL_iF ?tL_lF ?tL_cF ?tL_kF ?tL_aP ?tL_iP ?tL_lP ?tL_cP ?tL_kP ?tL_aT ?tL_iT ?tL_lT ?tL_cT ?tL_kT ?tL_pg ?tL_hd ?tL_po ?tL_sa ?tL_mk ?tL_kc ?tL_nR ?tL_nM ?tL_nO ?tL_nC
      (case tL_aCls => k_is); (case tL_aI => k_is); (case tL_iI => k_is); (case tL_lI => k_is); (case tL_cI => k_is); (case tL_kI => k_is); (case tL_aS => k_is); (case tL_iS => k_is); (case tL_lS => k_is); (case tL_cS => k_is); (case tL_kS => k_is); (case tL_aF => k_is); (case tL_iF => k_is); (case tL_lF => k_is); (case tL_cF => k_is); (case tL_kF => k_is); (case tL_aP => k_is); (case tL_iP => k_is); (case tL_lP => k_is); (case tL_cP => k_is); (case tL_kP => k_is); (case tL_aT => k_is); (case tL_iT => k_is); (case tL_lT => k_is); (case tL_cT => k_is); (case tL_kT => k_is); (case tL_pg => k_is); (case tL_hd => k_is); (case tL_po => k_is); (case tL_sa => k_is); (case tL_mk => k_is); (case tL_kc => k_is); (case tL_nR => k_is); (case tL_nM => k_is); (case tL_nO => k_is); (case tL_nC => k_is))
    (case dP_is_int => refine' Kb.dn_of KX G ?a_dP_is_int ?l_dP_is_int ?c_dP_is_int ?k_dP_is_int ?b_dP_is_int; (case a_dP_is_int => k_is); (case l_dP_is_int => k_is); (case c_dP_is_int => k_is); (case k_dP_is_int => k_is); (case b_dP_is_int => exact fun _ _ _ _ _ _ us hl => match us, hl with | [_], _ => rfl))
    (case dP_is_room => refine' Kb.dn_of KX G ?a_dP_is_room ?l_dP_is_room ?c_dP_is_room ?k_dP_is_room ?b_dP_is_room; (case a_dP_is_room => k_is); (case l_dP_is_room => k_is); (case c_dP_is_room => k_is); (case k_dP_is_room => k_is); (case b_dP_is_room => exact fun _ _ _ _ _ _ us hl => match us, hl with | [_], _ => rfl))
    (case dP_is_name => refine' Kb.dn_of KX G ?a_dP_is_name ?l_dP_is_name ?c_dP_is_name ?k_dP_is_name ?b_dP_is_name; (case a_dP_is_name => k_is); (case l_dP_is_name => k_is); (case c_dP_is_name => k_is); (case k_dP_is_name => k_is); (case b_dP_is_name => exact fun _ _ _ _ _ _ us hl => match us, hl with | [_], _ => rfl))
    (case dP_is_stream => refine' Kb.dn_of KX G ?a_dP_is_stream ?l_dP_is_stream ?c_dP_is_stream ?k_dP_is_stream ?b_dP_is_stream; (case a_dP_is_stream => k_is); (case l_dP_is_stream => k_is); (case c_dP_is_stream => k_is); (case k_dP_is_stream => k_is); (case b_dP_is_stream => exact fun _ _ _ _ _ _ us hl => match us, hl with | [_], _ => rfl))
    (case dP_is_put => refine' ⟨Kb.dn_of KX G ?a_pp ?l_pp ?c_pp ?k_pp ?b_pp, Kb.dn_of KX G ?a_po ?l_po ?c_po ?k_po ?b_po⟩; (case a_pp => k_is); (case l_pp => k_is); (case c_pp => k_is); (case k_pp => k_is); (case b_pp => exact fun _ _ _ _ _ _ us hl => match us, hl with | [_, _], _ => rfl); (case a_po => k_is); (case l_po => k_is); (case c_po => k_is); (case k_po => k_is); (case b_po => exact fun _ _ _ _ _ _ us hl => match us, hl with | [_, _, _], _ => rfl))
    (case dP_is_pour => refine' Kb.dn_of KX G ?a_dP_is_pour ?l_dP_is_pour ?c_dP_is_pour ?k_dP_is_pour ?b_dP_is_pour; (case a_dP_is_pour => k_is); (case l_dP_is_pour => k_is); (case c_dP_is_pour => k_is); (case k_dP_is_pour => k_is); (case b_dP_is_pour => exact fun _ _ _ _ _ _ us hl => match us, hl with | [_], _ => rfl))
    (case dP_is_tree => refine' Kb.dn_of KX G ?a_dP_is_tree ?l_dP_is_tree ?c_dP_is_tree ?k_dP_is_tree ?b_dP_is_tree; (case a_dP_is_tree => k_is); (case l_dP_is_tree => k_is); (case c_dP_is_tree => k_is); (case k_dP_is_tree => k_is); (case b_dP_is_tree => exact fun _ _ _ _ _ _ us hl => match us, hl with | [_], _ => rfl))
    (case dP_is_counted => refine' Kb.dn_of KX G ?a_dP_is_counted ?l_dP_is_counted ?c_dP_is_counted ?k_dP_is_counted ?b_dP_is_counted; (case a_dP_is_counted => k_is); (case l_dP_is_counted => k_is); (case c_dP_is_counted => k_is); (case k_dP_is_counted => k_is); (case b_dP_is_counted => exact fun _ _ _ _ _ _ us hl => match us, hl with | [_], _ => rfl))
    (case dP_are_counts => refine' Kb.dn_of KX G ?a_dP_are_counts ?l_dP_are_counts ?c_dP_are_counts ?k_dP_are_counts ?b_dP_are_counts; (case a_dP_are_counts => k_is); (case l_dP_are_counts => k_is); (case c_dP_are_counts => k_is); (case k_dP_are_counts => k_is); (case b_dP_are_counts => exact fun _ _ _ _ _ _ us hl => match us, hl with | [_], _ => rfl))
    (case dP_counts_of => refine' Kb.dn_of KX G ?a_dP_counts_of ?l_dP_counts_of ?c_dP_counts_of ?k_dP_counts_of ?b_dP_counts_of; (case a_dP_counts_of => k_is); (case l_dP_counts_of => k_is); (case c_dP_counts_of => k_is); (case k_dP_counts_of => k_is); (case b_dP_counts_of => exact fun _ _ _ _ _ _ us hl => match us, hl with | [_], _ => rfl))
    (case dP_bare => refine' Kb.dn_of KX G ?a_dP_bare ?l_dP_bare ?c_dP_bare ?k_dP_bare ?b_dP_bare; (case a_dP_bare => k_is); (case l_dP_bare => k_is); (case c_dP_bare => k_is); (case k_dP_bare => k_is); (case b_dP_bare => exact fun _ _ _ _ _ _ us hl => match us, hl with | [_], _ => rfl))
    (case dP_sketch_of => refine' Kb.dn_of KX G ?a_dP_sketch_of ?l_dP_sketch_of ?c_dP_sketch_of ?k_dP_sketch_of ?b_dP_sketch_of; (case a_dP_sketch_of => k_is); (case l_dP_sketch_of => k_is); (case c_dP_sketch_of => k_is); (case k_dP_sketch_of => k_is); (case b_dP_sketch_of => exact fun _ _ _ _ _ _ us hl => match us, hl with | [_, _], _ => rfl))
    (case dmixed => refine' Kb.dn_of KX G ?a_dmixed ?l_dmixed ?c_dmixed ?k_dmixed ?b_dmixed; (case a_dmixed => k_is); (case l_dmixed => k_is); (case c_dmixed => k_is); (case k_dmixed => k_is); (case b_dmixed => exact fun _ _ _ _ _ _ us hl => match us, hl with | [_], _ => rfl))
    (case dwell => refine' Kb.dn_of KX G ?a_dwell ?l_dwell ?c_dwell ?k_dwell ?b_dwell; (case a_dwell => k_is); (case l_dwell => k_is); (case c_dwell => k_is); (case k_dwell => k_is); (case b_dwell => exact fun _ _ _ _ _ _ us hl => match us, hl with | [_], _ => rfl))
    (case dfilled => refine' Kb.dn_of KX G ?a_dfilled ?l_dfilled ?c_dfilled ?k_dfilled ?b_dfilled; (case a_dfilled => k_is); (case l_dfilled => k_is); (case c_dfilled => k_is); (case k_dfilled => k_is); (case b_dfilled => exact fun _ _ _ _ _ _ us hl => match us, hl with | [_], _ => rfl))
    (case ddraw => refine' Kb.dn_of KX G ?a_ddraw ?l_ddraw ?c_ddraw ?k_ddraw ?b_ddraw; (case a_ddraw => k_is); (case l_ddraw => k_is); (case c_ddraw => k_is); (case k_ddraw => k_is); (case b_ddraw => exact fun _ _ _ _ _ _ us hl => match us, hl with | [_, _], _ => rfl))
    (case dnumber => refine' Kb.dn_of KX G ?a_dnumber ?l_dnumber ?c_dnumber ?k_dnumber ?b_dnumber; (case a_dnumber => k_is); (case l_dnumber => k_is); (case c_dnumber => k_is); (case k_dnumber => k_is); (case b_dnumber => exact fun _ _ _ _ _ _ us hl => match us, hl with | [_], _ => rfl))
    (case dsigns => refine' Kb.dn_of KX G ?a_dsigns ?l_dsigns ?c_dsigns ?k_dsigns ?b_dsigns; (case a_dsigns => k_is); (case l_dsigns => k_is); (case c_dsigns => k_is); (case k_dsigns => k_is); (case b_dsigns => exact fun _ _ _ _ _ _ us hl => match us, hl with | [], _ => rfl))
    (case dstring => refine' Kb.dn_of KX G ?a_dstring ?l_dstring ?c_dstring ?k_dstring ?b_dstring; (case a_dstring => k_is); (case l_dstring => k_is); (case c_dstring => k_is); (case k_dstring => k_is); (case b_dstring => exact fun _ _ _ _ _ _ us hl => match us, hl with | [_, _], _ => rfl))
    (case dname => refine' Kb.dn_of KX G ?a_dname ?l_dname ?c_dname ?k_dname ?b_dname; (case a_dname => k_is); (case l_dname => k_is); (case c_dname => k_is); (case k_dname => k_is); (case b_dname => exact fun _ _ _ _ _ _ us hl => match us, hl with | [_], _ => rfl))
    (case dunlike => refine' Kb.dn_of KX G ?a_dunlike ?l_dunlike ?c_dunlike ?k_dunlike ?b_dunlike; (case a_dunlike => k_is); (case l_dunlike => k_is); (case c_dunlike => k_is); (case k_dunlike => k_is); (case b_dunlike => exact fun _ _ _ _ _ _ us hl => match us, hl with | [_], _ => rfl))
    (case dany => refine' Kb.dn_of KX G ?a_dany ?l_dany ?c_dany ?k_dany ?b_dany; (case a_dany => k_is); (case l_dany => k_is); (case c_dany => k_is); (case k_dany => k_is); (case b_dany => exact fun _ _ _ _ _ _ us hl => match us, hl with | [_, _], _ => rfl))
    (case dnodes => refine' Kb.dn_of KX G ?a_dnodes ?l_dnodes ?c_dnodes ?k_dnodes ?b_dnodes; (case a_dnodes => k_is); (case l_dnodes => k_is); (case c_dnodes => k_is); (case k_dnodes => k_is); (case b_dnodes => exact fun _ _ _ _ _ _ us hl => match us, hl with | [_], _ => rfl))
    (case dchanged => refine' Kb.dn_of KX G ?a_dchanged ?l_dchanged ?c_dchanged ?k_dchanged ?b_dchanged; (case a_dchanged => k_is); (case l_dchanged => k_is); (case c_dchanged => k_is); (case k_dchanged => k_is); (case b_dchanged => exact fun _ _ _ _ _ _ us hl => match us, hl with | [_, _], _ => rfl))
    (case dspoilt => refine' Kb.dn_of KX G ?a_dspoilt ?l_dspoilt ?c_dspoilt ?k_dspoilt ?b_dspoilt; (case a_dspoilt => k_is); (case l_dspoilt => k_is); (case c_dspoilt => k_is); (case k_dspoilt => k_is); (case b_dspoilt => exact fun _ _ _ _ _ _ us hl => match us, hl with | [_, _, _], _ => rfl))
    (case dnames => refine' Kb.dn_of KX G ?a_dnames ?l_dnames ?c_dnames ?k_dnames ?b_dnames; (case a_dnames => k_is); (case l_dnames => k_is); (case c_dnames => k_is); (case k_dnames => k_is); (case b_dnames => exact fun _ _ _ _ _ _ us hl => match us, hl with | [_, _], _ => rfl))
    (case droom => refine' Kb.dn_of KX G ?a_droom ?l_droom ?c_droom ?k_droom ?b_droom; (case a_droom => k_is); (case l_droom => k_is); (case c_droom => k_is); (case k_droom => k_is); (case b_droom => exact fun _ _ _ _ _ _ us hl => match us, hl with | [_], _ => rfl))
    (case ditem => refine' Kb.dn_of KX G ?a_ditem ?l_ditem ?c_ditem ?k_ditem ?b_ditem; (case a_ditem => k_is); (case l_ditem => k_is); (case c_ditem => k_is); (case k_ditem => k_is); (case b_ditem => exact fun _ _ _ _ _ _ us hl => match us, hl with | [_, _], _ => rfl))
    (case dtree => refine' Kb.dn_of KX G ?a_dtree ?l_dtree ?c_dtree ?k_dtree ?b_dtree; (case a_dtree => k_is); (case l_dtree => k_is); (case c_dtree => k_is); (case k_dtree => k_is); (case b_dtree => exact fun _ _ _ _ _ _ us hl => match us, hl with | [_, _, _, _], _ => rfl))
    (case dthing => refine' Kb.dn_of KX G ?a_dthing ?l_dthing ?c_dthing ?k_dthing ?b_dthing; (case a_dthing => k_is); (case l_dthing => k_is); (case c_dthing => k_is); (case k_dthing => k_is); (case b_dthing => exact fun _ _ _ _ _ _ us hl => match us, hl with | [_], _ => rfl))
    (case dgreat => refine' Kb.dn_of KX G ?a_dgreat ?l_dgreat ?c_dgreat ?k_dgreat ?b_dgreat; (case a_dgreat => k_is); (case l_dgreat => k_is); (case c_dgreat => k_is); (case k_dgreat => k_is); (case b_dgreat => exact fun _ _ _ _ _ _ us hl => match us, hl with | [_], _ => rfl))
    (case dcounted => refine' Kb.dn_of KX G ?a_dcounted ?l_dcounted ?c_dcounted ?k_dcounted ?b_dcounted; (case a_dcounted => k_is); (case l_dcounted => k_is); (case c_dcounted => k_is); (case k_dcounted => k_is); (case b_dcounted => exact fun _ _ _ _ _ _ us hl => match us, hl with | [_], _ => rfl))
    (case ditems => refine' Kb.dn_of KX G ?a_ditems ?l_ditems ?c_ditems ?k_ditems ?b_ditems; (case a_ditems => k_is); (case l_ditems => k_is); (case c_ditems => k_is); (case k_ditems => k_is); (case b_ditems => exact fun _ _ _ _ _ _ us hl => match us, hl with | [_], _ => rfl))
    (case dpairs => refine' Kb.dn_of KX G ?a_dpairs ?l_dpairs ?c_dpairs ?k_dpairs ?b_dpairs; (case a_dpairs => k_is); (case l_dpairs => k_is); (case c_dpairs => k_is); (case k_dpairs => k_is); (case b_dpairs => exact fun _ _ _ _ _ _ us hl => match us, hl with | [_], _ => rfl))
    (case dcount => refine' Kb.dn_of KX G ?a_dcount ?l_dcount ?c_dcount ?k_dcount ?b_dcount; (case a_dcount => k_is); (case l_dcount => k_is); (case c_dcount => k_is); (case k_dcount => k_is); (case b_dcount => exact fun _ _ _ _ _ _ us hl => match us, hl with | [_], _ => rfl))
    (case dlong => refine' Kb.dn_of KX G ?a_dlong ?l_dlong ?c_dlong ?k_dlong ?b_dlong; (case a_dlong => k_is); (case l_dlong => k_is); (case c_dlong => k_is); (case k_dlong => k_is); (case b_dlong => exact fun _ _ _ _ _ _ us hl => match us, hl with | [_, _], _ => rfl))
    (case dname_fits => refine' Kb.dn_of KX G ?a_dname_fits ?l_dname_fits ?c_dname_fits ?k_dname_fits ?b_dname_fits; (case a_dname_fits => k_is); (case l_dname_fits => k_is); (case c_dname_fits => k_is); (case k_dname_fits => k_is); (case b_dname_fits => exact fun _ _ _ _ _ _ us hl => match us, hl with | [_], _ => rfl))
    (case dpair_fits => refine' Kb.dn_of KX G ?a_dpair_fits ?l_dpair_fits ?c_dpair_fits ?k_dpair_fits ?b_dpair_fits; (case a_dpair_fits => k_is); (case l_dpair_fits => k_is); (case c_dpair_fits => k_is); (case k_dpair_fits => k_is); (case b_dpair_fits => exact fun _ _ _ _ _ _ us hl => match us, hl with | [_], _ => rfl))
    (case dcounts_fit => refine' Kb.dn_of KX G ?a_dcounts_fit ?l_dcounts_fit ?c_dcounts_fit ?k_dcounts_fit ?b_dcounts_fit; (case a_dcounts_fit => k_is); (case l_dcounts_fit => k_is); (case c_dcounts_fit => k_is); (case k_dcounts_fit => k_is); (case b_dcounts_fit => exact fun _ _ _ _ _ _ us hl => match us, hl with | [_], _ => rfl))
    (case dalike => refine' Kb.dn_of KX G ?a_dalike ?l_dalike ?c_dalike ?k_dalike ?b_dalike; (case a_dalike => k_is); (case l_dalike => k_is); (case c_dalike => k_is); (case k_dalike => k_is); (case b_dalike => exact fun _ _ _ _ _ _ us hl => match us, hl with | [_, _], _ => rfl))
    (case dstep_fits => refine' Kb.dn_of KX G ?a_dstep_fits ?l_dstep_fits ?c_dstep_fits ?k_dstep_fits ?b_dstep_fits; (case a_dstep_fits => k_is); (case l_dstep_fits => k_is); (case c_dstep_fits => k_is); (case k_dstep_fits => k_is); (case b_dstep_fits => exact fun _ _ _ _ _ _ us hl => match us, hl with | [_], _ => rfl))
    (case dtree_fits => refine' Kb.dn_of KX G ?a_dtree_fits ?l_dtree_fits ?c_dtree_fits ?k_dtree_fits ?b_dtree_fits; (case a_dtree_fits => k_is); (case l_dtree_fits => k_is); (case c_dtree_fits => k_is); (case k_dtree_fits => k_is); (case b_dtree_fits => exact fun _ _ _ _ _ _ us hl => match us, hl with | [_], _ => rfl))
    (case drefused => refine' Kb.dn_of KX G ?a_drefused ?l_drefused ?c_drefused ?k_drefused ?b_drefused; (case a_drefused => k_is); (case l_drefused => k_is); (case c_drefused => k_is); (case k_drefused => k_is); (case b_drefused => exact fun _ _ _ _ _ _ us hl => match us, hl with | [_, _], _ => rfl))
    (case dcounts_told => refine' Kb.dn_of KX G ?a_dcounts_told ?l_dcounts_told ?c_dcounts_told ?k_dcounts_told ?b_dcounts_told; (case a_dcounts_told => k_is); (case l_dcounts_told => k_is); (case c_dcounts_told => k_is); (case k_dcounts_told => k_is); (case b_dcounts_told => exact fun _ _ _ _ _ _ us hl => match us, hl with | [_], _ => rfl))
    (case dholds => refine' Kb.dn_of KX G ?a_dholds ?l_dholds ?c_dholds ?k_dholds ?b_dholds; (case a_dholds => k_is); (case l_dholds => k_is); (case c_dholds => k_is); (case k_dholds => k_is); (case b_dholds => exact fun _ _ _ _ _ _ us hl => match us, hl with | [_, _], _ => rfl))

