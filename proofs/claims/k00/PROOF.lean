import PyProof.Rows.All
import HandS.ForMost
import HandS.ForExc
import HandS.SortKw
import HandS.SortRule
import HandS.DictTup
import HandS.DictComp
import HandS.ListItems
import HandS.Conv
import HandS.IsInst
import HandS.Codes
import HandS.Walk
import HandS.Style
import KE.KDictSum
import KE.KSortTupAny
import KE.KDictPairs
import HandS.ExcValue
import HandS.TupLe
import PySem.Challenge.RW_knownends_k00_errors_and_their_classes
import HandS.CallLocal
import HandS.List
import PyProof.ReprRoads
import PyProof.ReprText
import PyProof.EqKinds
import PyProof.EqAt
import HandS.ExcField
import HandS.ExcInit
import PyProof.NeData
import HandS.ExcIs
import HandS.StrMore
import HandS.TryMany
import HandS.TupMul
import HandS.Ends
import HandS.Words
import KE.KExcStr
import PyProof.ExcRepr
import PyProof.ReprReads
import PyProof.ReprNest
import HandS.TupAny
import HandS.Wide
import HandS.SetFor
import PyProof.Rows.CountFlat
import KE.KRevSl
import HandS.Text
import PyProof.ReprLen
import KE.KExcIs
import KE.KDictLaw
import HandS.ExcCtx
import HandS.HotCalls
import HandS.WordsExc
set_option Elab.async false
set_option linter.all false
set_option maxRecDepth 100000
set_option maxHeartbeats 0
/-! own rules: sorted of pairs (text, int), of views -/
namespace SrtZ
open PySem PyProof.Rows Srt SrtO PySem.W
abbrev ltZ (x y : Str) : Bool := decide (x.cps.toList < y.cps.toList)
theorem str_of {x y : Str} (h : x.cps.toList = y.cps.toList) : x = y := by
  cases x; cases y
  simp at h
  rw [h]
theorem ltZ_irr (x : Str) : ltZ x x = false := decide_eq_false (List.lt_irrefl _)
theorem ltZ_asym {x y : Str} (h : ltZ x y = true) : ltZ y x = false := decide_eq_false (List.lt_asymm (of_decide_eq_true h))
theorem ltZ_trans {x y z : Str} (h : ltZ x y = true) (k : ltZ y z = true) : ltZ x z = true := decide_eq_true (List.lt_trans (of_decide_eq_true h) (of_decide_eq_true k))
theorem ltZ_tri {x y : Str} (h : ltZ x y = false) (k : ltZ y x = false) : x = y :=
  str_of (List.le_antisymm (List.not_lt.mp (of_decide_eq_false k)) (List.not_lt.mp (of_decide_eq_false h)))
def lexZ (p q : Str × Int) : Bool := if p.1 = q.1 then decide (p.2 < q.2) else ltZ p.1 q.1
theorem lexZ_eq {p q : Str × Int} (e : p.1 = q.1) : lexZ p q = decide (p.2 < q.2) := if_pos e
theorem lexZ_ne {p q : Str × Int} (e : ¬ p.1 = q.1) : lexZ p q = ltZ p.1 q.1 := if_neg e
theorem swo_Z : Swo lexZ := by
  refine ⟨fun x y h => ?_, fun x y z h1 h2 => ?_⟩
  · by_cases e : x.1 = y.1
    · rw [lexZ_eq e, decide_eq_true_eq] at h
      rw [lexZ_eq e.symm]
      exact decide_eq_false (by omega)
    · rw [lexZ_ne e] at h
      rw [lexZ_ne (fun z => e z.symm)]
      exact ltZ_asym h
  · by_cases e : x.1 = y.1
    · rw [lexZ_eq e.symm, decide_eq_false_iff_not] at h1
      by_cases f : y.1 = z.1
      · rw [lexZ_eq f.symm, decide_eq_false_iff_not] at h2
        rw [lexZ_eq (e.trans f).symm]
        exact decide_eq_false (by omega)
      · rw [lexZ_ne (fun q => f q.symm)] at h2
        rw [lexZ_ne (fun q => f (e.symm.trans q.symm)), e]
        exact h2
    · rw [lexZ_ne (fun q => e q.symm)] at h1
      by_cases f : y.1 = z.1
      · rw [lexZ_ne (fun q => e (q.symm.trans f.symm)), ← f]
        exact h1
      · rw [lexZ_ne (fun q => f q.symm)] at h2
        have g1 : ltZ x.1 y.1 = true := by
          rcases bcase (ltZ x.1 y.1) with q | q
          · exact q
          · exact absurd (ltZ_tri q h1) e
        have g2 : ltZ y.1 z.1 = true := by
          rcases bcase (ltZ y.1 z.1) with q | q
          · exact q
          · exact absurd (ltZ_tri q h2) f
        have g := ltZ_trans g1 g2
        have ne : ¬ z.1 = x.1 := fun q => by
          rw [q, ltZ_irr] at g
          cases g
        rw [lexZ_ne ne]
        exact ltZ_asym g
/-- a tuple (text, int) -/
def IsPZ (h : Heap) (v : Value) (p : Str × Int) : Prop := ∃ a o t u n, v = .ref a ∧ h.get? a = some o ∧ o.cls = .type "tuple" ∧ o.data = .seq #[.str p.1 t, .int p.2 u] n
theorem IsPZ.keeps {h h' : Heap} {v : Value} {p : Str × Int} (x : IsPZ h v p) (k : ∀ b o, h.get? b = some o → o.cls = .type "tuple" → h'.get? b = some o) : IsPZ h' v p := by
  obtain ⟨a, o, t, u, n, e, ho, hc, hd⟩ := x
  exact ⟨a, o, t, u, n, e, k _ _ ho hc, hc, hd⟩
section
variable {prog : Program} {w : World} {A : Around} {E : Value → Shared → Prop} {s : Shared}
theorem firstsZ {h : Heap} : ∀ {vs : List Value}, (∀ v ∈ vs, ∃ p, IsPZ h v p) → ∃ fs : List Value, KatTups h vs fs ∧ fs.length = vs.length ∧ ∀ f ∈ fs, ∃ x t, f = Value.str x t
  | [], _ => ⟨[], KatTups.nil, rfl, fun _ hm => by simp at hm⟩
  | v :: vs, hp => by
    obtain ⟨fs, h1, h2, h3⟩ := firstsZ (vs := vs) fun v' hm => hp v' (List.mem_cons_of_mem _ hm)
    obtain ⟨p, a, o, t, u, n, e, ho, hc, hd⟩ := hp v List.mem_cons_self
    subst e
    refine ⟨.str p.1 t :: fs, KatTups.cons ho hc hd rfl h1, by rw [List.length_cons, List.length_cons, h2], fun f hm => ?_⟩
    rcases List.mem_cons.mp hm with rfl | hm
    · exact ⟨_, t, rfl⟩
    · exact h3 f hm
theorem pairZ_cmp {vs : List Value} {k : Value → Str × Int} (hp : ∀ v ∈ vs, IsPZ s.heap v (k v)) : Cmp prog w A s (tuples' true) (fun p => p.1 ∈ vs) (lt2 fun v u => lexZ (k v) (k u)) := by
  intro p q hm hm'
  have h1 := hp _ hm
  have h2 := hp _ hm'
  show wpAny (model prog w) A (keyLt' (tuples' true) p.1 q.1) (fun r s' => s' = s ∧ r = lexZ (k p.1) (k q.1)) (fun _ _ => False) s
  generalize k p.1 = x at h1 ⊢
  generalize k q.1 = y at h2 ⊢
  obtain ⟨a, o, t, u, n, e, ho, hc, hd⟩ := h1
  obtain ⟨a', o', t', u', n', e', ho', hc', hd'⟩ := h2
  rw [e, e']
  refine kat_lt ho hd ho' hd' ?_
  show KatLex prog w A true (decide (2 < 2)) _ [(.str x.1 t, .str y.1 t'), (.int x.2 u, .int y.2 u')] 0 s
  refine kat_cons (wpAny_eqBool_str ?_)
  refine kat_go (fun e1 => ?_) (fun e1 => ?_)
  · have ex : x.1 = y.1 := of_decide_eq_true e1
    refine kat_yes (kat_cons (wpAny_eqBool_int ?_))
    refine kat_go (fun e2 => ?_) (fun e2 => ?_)
    · have ey : x.2 = y.2 := by simpa using e2
      refine kat_yes (kat_nil ⟨rfl, ?_⟩)
      rw [lexZ_eq ex, ey]
      exact (decide_eq_false (Int.lt_irrefl _)).symm
    · exact kat_no (oneLt_any_int ⟨rfl, (lexZ_eq ex).symm⟩)
  · have ex : ¬ x.1 = y.1 := of_decide_eq_false e1
    exact kat_no (oneLt_any_str ⟨rfl, (lexZ_ne ex).symm⟩)
theorem pairsZ_sortable {a : Addr} {vs : List Value} {k : Value → Str × Int} (h0 : 0 < vs.length) (hp : ∀ v ∈ vs, IsPZ s.heap v (k v)) (ha : ∀ o, s.heap.get? a = some o → o.cls ≠ .type "tuple") : SortableO prog w A s a vs fun v u => lexZ (k v) (k u) := by
  intro h' keep
  have hp' : ∀ v ∈ vs, IsPZ h' v (k v) := fun v hm => (hp v hm).keeps fun b o e c => keep b o (fun z => by subst z; exact ha o e c) e
  obtain ⟨fs, h1, h2, h3⟩ := firstsZ fun v hm => ⟨_, hp' v hm⟩
  refine ⟨tuples' true, fun Q E hq => ?_, pairZ_cmp hp'⟩
  refine kat_kind (T := .type "str") h1 (by omega) (fun f hm => ?_) (by rfl) ?_
  · obtain ⟨x, t, rfl⟩ := h3 f hm
    exact Looks.now
  · have e : (Value.type "str" != Value.type "tuple") = true := by first | decide +kernel | rfl | decide
    rw [e]
    exact hq
theorem plain_rev (a : Addr) : Builtin.«list.sort» ⟨[.ref a], []⟩ = Builtin.«list.sort» ⟨[.ref a], [(Str.ofString "reverse", .bool false)]⟩ := by
  rw [list_sort_rev]
  first | rfl | kernel_rfl
/-- sorted(x, ..) over what is collected of x -/
theorem sorted_col {x : Value} {b : Bool} {kw : List (Str × Value)} {ltv : Heap → Value → Value → Bool} {Q : Value → Shared → Prop} {P : Heap → Nat → List Value → Prop}
    (hk : ∀ a, Builtin.«list.sort» ⟨[.ref a], kw⟩ = Builtin.«list.sort» ⟨[.ref a], [(Str.ofString "reverse", .bool b)]⟩) (ha1 : argsOk "sorted" ⟨[x], kw⟩) (ha2 : ∀ a, argsOk "list.sort" ⟨[a], kw⟩)
    (hcol : ∀ R : List Value → Shared → Prop, (∀ h' tk vs, (∀ b o, s.heap.get? b = some o → h'.get? b = some o) → P h' tk vs → R vs { s with heap := h', toks := tk }) → wpAny (model prog w) A.in1 (collect x) R E s)
    (O : ∀ h' tk vs, P h' tk vs → Swo (ltv h')) (hz : ∀ h' tk vs, P h' tk vs → vs.length ≤ sizeLine)
    (hS : ∀ h' tk vs, P h' tk vs → 2 ≤ vs.length → ∀ (h₁ : Heap) (a : Addr), h₁.get? a = some (seqObj "list" vs.toArray 0) → (∀ b o, h'.get? b = some o → b ≠ a ∧ h₁.get? b = some o) → SortableO prog w A.in1.in1 { s with heap := h₁, toks := tk } a vs (ltv h'))
    (h : ∀ h' tk vs out h2, (∀ b o, s.heap.get? b = some o → h'.get? b = some o) → P h' tk vs → Srtd (ltv h') out → Stb (ltv h') out (if b = true then vs.reverse else vs) → (∀ c o, h'.get? c = some o → h2.get? c = some o) →
      (∃ n, h2.get? h'.objs.size = some (seqObj "list" (if b = true then out.toArray.reverse else out.toArray) n)) → Q (.ref h'.objs.size) { s with heap := h2, toks := tk }) :
    wpAny (model prog w) A (call (.builtin "sorted") [x] kw) Q E s := by
  refine call_function_entry_kw kind_sorted plain_sorted entry_sorted ha1 ?_
  unfold Builtin.«sorted»
  refine wpAny_bind (m := checkCount "sorted" 1 1 _) (wpAny_pure ?_)
  refine wpAny_bind (hcol _ fun h' tk vs hkp hP => ?_)
  refine wpAny_bind (wpAny_newList ?_ (hz _ _ _ hP))
  have hoL : (h'.push (seqObj "list" vs.toArray 0)).get? h'.objs.size = some (seqObj "list" vs.toArray 0) := Heap.get?_push_size _ rfl
  have keep : ∀ b o, h'.get? b = some o → b ≠ h'.objs.size ∧ (h'.push (seqObj "list" vs.toArray 0)).get? b = some o := fun b o q => ⟨Nat.ne_of_lt (Heap.lt_size q), Heap.get?_push_of_some _ q⟩
  show wpAny _ _ _ _ _ { s with heap := h'.push (seqObj "list" vs.toArray 0), toks := tk }
  refine wpAny_bind (wpAny_holding (wpAny_call_entry_kw slot_list_sort ⟨_, hoL, rfl⟩ entry_list_sort ?_ (ha2 _)))
  rw [hk]
  refine SrtR.list_sort_ordR (s := { s with heap := h'.push (seqObj "list" vs.toArray 0), toks := tk }) (O _ _ _ hP) hoL (hz _ _ _ hP) (fun h2 => hS _ _ _ hP h2 _ _ hoL keep) fun out hs hb => ⟨_, rfl, ?_⟩
  refine wpAny_pure ⟨_, rfl, h h' tk vs out _ hkp hP hs hb (fun c o q => ?_) ?_⟩
  · exact (sortedHeap_old (keep c o q).1 (Heap.lt_size (keep c o q).2)).trans (keep c o q).2
  · exact sortedHeap_at hoL
end
end SrtZ

namespace L2
open PySem PySem.Spec PyProof.Rows SrtO SrtZ
/-- counts as a dict's pairs -/
abbrev entZ (e : Str × Int) : Key × V := (Sum.inr e.1, V.int e.2)
section
variable {X : Cx}
/-- d.items() -/
def rItemsK : V → List V → Hp → VK → Prop := fun x xs H Q => ∃ (a : Addr) (kvs : List (Key × V)), x = .ref a ∧ xs = [] ∧ H a = some (.dK kvs) ∧ ∀ p, H p = none → Q (.ref p) (upd H p (DX.itemsO p a))
theorem mt_itemsK : MtR X "dict.items" rItemsK := by
  intro pins s σ H x xs v us Q I rx rxs h
  obtain ⟨a, kvs, rfl, rfl, ha, q⟩ := h
  cases rx
  cases rxs
  obtain ⟨z, hd, vs, kv, o, es, ep, ho, hx, hdat, _⟩ := dk_of I.hok ha
  refine DT.callItems (es := es) (ep := ep) hd ⟨o, ho, hx, hdat⟩ ?_
  have hf : H s.heap.objs.size = none := I.hok.fresh (Nat.le_refl _)
  exact ⟨.ref s.heap.objs.size, upd H s.heap.objs.size (DX.itemsO s.heap.objs.size a), I.laid (t' := s.toks) (fun b u e => Heap.get?_push_of_some _ e) (Nat.le_refl _) (DX.itemsO_ok (Heap.get?_push_size _ rfl)), rfl, q _ hf⟩
/-- d.values() -/
def valuesO (p d : Addr) : HO := .ext fun h => h.IsValuesView p d
theorem valuesO_ok {P : Program} {w : World} {H : Hp} {h : Heap} {p d : Addr} (e : h.get? p = some { cls := .type "dict_values", data := .fields #[.ref d] }) : ObjOk P w H h p (valuesO p d) :=
  ⟨⟨_, e, rfl, rfl⟩, ⟨_, e⟩, fun h1 h2 x k => let ⟨o, ho, r⟩ := x; ⟨o, k o ho, r⟩⟩
def rValuesK : V → List V → Hp → VK → Prop := fun x xs H Q => ∃ (a : Addr) (kvs : List (Key × V)), x = .ref a ∧ xs = [] ∧ H a = some (.dK kvs) ∧ ∀ p, H p = none → Q (.ref p) (upd H p (valuesO p a))
theorem mt_valuesK : MtR X "dict.values" rValuesK := by
  intro pins s σ H x xs v us Q I rx rxs h
  obtain ⟨a, kvs, rfl, rfl, ha, q⟩ := h
  cases rx
  cases rxs
  obtain ⟨z, hd, vs, kv, dd⟩ := dk_of I.hok ha
  have hf : H s.heap.objs.size = none := I.hok.fresh (Nat.le_refl _)
  refine call_meetsIn PySem.F.slot_dict_values dd.typeIs PySem.F.entry_dict_values (PySem.F.args_dict_values_1 _) (meets_dict_values (mixKind X.prog X.w) a hd) ⟨⟨vs, dd⟩, ?_⟩
  exact ⟨.ref s.heap.objs.size, upd H s.heap.objs.size (valuesO s.heap.objs.size a), I.laid (t' := s.toks) (fun b u e => Heap.get?_push_of_some _ e) (Nat.le_refl _) (valuesO_ok (Heap.get?_push_size _ rfl)), rfl, q _ hf⟩
end
end L2

namespace L2
open PySem PySem.Spec PyProof.Rows SrtO SrtZ
theorem ent_paired {xs' : List (Key × Value)} : ∀ {ks : List (Str × Int)}, KV (ks.map entZ) xs' → ∀ {j : Nat} {x : Key × Value}, xs'[j]? = some x → ∃ e t, ks[j]? = some e ∧ x = (Sum.inr e.1, Value.int e.2 t) := fun {ks} h {j x} hx => by
  obtain ⟨y, hy, r1, r2⟩ := DX.pget h hx
  rw [List.getElem?_map] at hy
  cases e : ks[j]? with
  | none => rw [e] at hy; cases hy
  | some p =>
    rw [e] at hy
    have hy' : entZ p = y := Option.some.inj hy
    subst hy'
    obtain ⟨t, et⟩ := (show ∃ t, x.2 = Value.int p.2 t from r2)
    refine ⟨p, t, rfl, ?_⟩
    obtain ⟨x1, x2⟩ := x
    have r1' : Sum.inr p.1 = x1 := r1
    have et' : x2 = Value.int p.2 t := et
    rw [← r1', et']
section
variable {X : Cx}
/-- sorted(d.items()), keys texts, values ints, any number of them -/
def rSortedIZ : List V → Hp → VK → Prop := fun vs H Q => ∃ (p d : Addr) (ks : List (Str × Int)), vs = [V.ref p] ∧ H p = some (DX.itemsO p d) ∧ H d = some (.dK (ks.map entZ)) ∧
  ∀ (H' : Hp) (l : Addr) (ys : List (Str × Int)) (ts : List Addr), Same H H' → H l = none → (∀ t ∈ ts, H t = none) → l ∉ ts → ys.Perm ks → Srtd lexZ ys → H' l = some (.lst (ts.map V.ref)) → Paired (fun (t : Addr) (y : Str × Int) => H' t = some (.tup [.str y.1, .int y.2])) ts ys → Q (.ref l) H'
theorem paired_of {α β : Type} {F : α → β → Prop} {l : List (α × β)} (h : ∀ z ∈ l, F z.1 z.2) : Paired F (l.map (·.1)) (l.map (·.2)) := by
  induction l with
  | nil => exact .nil
  | cons a l ih => exact .cons (h a List.mem_cons_self) (ih fun z hz => h z (List.mem_cons_of_mem _ hz))
/-- a tuple's key, read off the heap -/
def keyZ (h : Heap) : Value → Str × Int
  | .ref a => match h.get? a with
    | some o => match o.data with
      | .seq xs _ => match xs.toList with
        | [.str x _, .int y _] => (x, y)
        | _ => (⟨#[]⟩, 0)
      | _ => (⟨#[]⟩, 0)
    | none => (⟨#[]⟩, 0)
  | _ => (⟨#[]⟩, 0)
theorem keyZ_of {h : Heap} {v : Value} {p : Str × Int} (x : IsPZ h v p) : keyZ h v = p := by
  obtain ⟨a, o, t, u, n, rfl, ho, hc, hd⟩ := x
  simp only [keyZ, ho, hd]
theorem swo_key (h : Heap) : Swo fun v u => lexZ (keyZ h v) (keyZ h u) := ⟨fun x y => swo_Z.asym _ _, fun x y z => swo_Z.tr _ _ _⟩
def adr : Value → Addr
  | .ref a => a
  | _ => 0
theorem adr_refs : ∀ as : List Addr, (as.map Value.ref).map adr = as
  | [] => rfl
  | a :: as => congrArg (List.cons a) (adr_refs as)
theorem refs_adr : ∀ out : List Value, (∀ v ∈ out, ∃ a, v = Value.ref a) → (out.map adr).map Value.ref = out
  | [], _ => rfl
  | v :: out, h => by
    obtain ⟨a, rfl⟩ := h v List.mem_cons_self
    show Value.ref a :: (out.map adr).map Value.ref = Value.ref a :: out
    rw [refs_adr out fun u hu => h u (List.mem_cons_of_mem _ hu)]
/-- pairs that were laid and sorted are tracked: a list of them at l, the tuples at ts -/
theorem sortZ_end {pins : List (Addr × Obj)} {σ : St} {H : Hp} {s : Shared} {h' h2 : Heap} {tk l n : Nat} {as : List Addr} {ks : List (Str × Int)} {out : List Value} {Q : VK} (I : Inv X pins σ H s)
    (hk : ∀ b o, s.heap.get? b = some o → h'.get? b = some o) (hk2 : ∀ b o, h'.get? b = some o → h2.get? b = some o) (hl : s.heap.objs.size ≤ l) (hle : as.length ≤ sizeLine) (hlas : ∀ t ∈ as, t ≠ l) (nd : as.Nodup) (ha : ∀ t ∈ as, s.heap.objs.size ≤ t) (hn : H l = none)
    (hks : as.map (fun t => keyZ h' (.ref t)) = ks) (hp : ∀ t ∈ as, ∃ p, IsPZ h' (.ref t) p) (hat : h2.get? l = some (seqObj "list" out.toArray n)) (h1 : Srtd (fun v u => lexZ (keyZ h' v) (keyZ h' u)) out) (hb : out.Perm (as.map Value.ref))
    (q : ∀ (H' : Hp) (ys : List (Str × Int)) (ts : List Addr), Same H H' → H l = none → (∀ t ∈ ts, H t = none) → l ∉ ts → ys.Perm ks → Srtd lexZ ys → H' l = some (.lst (ts.map V.ref)) → Paired (fun (t : Addr) (y : Str × Int) => H' t = some (.tup [.str y.1, .int y.2])) ts ys → Q (.ref l) H') :
    EP X pins σ Q (.ref l) { s with heap := h2, toks := tk } := by
  have isr : ∀ v ∈ out, ∃ a, v = Value.ref a := fun v hv => by
    obtain ⟨a, _, e⟩ := List.mem_map.mp (hb.mem_iff.mp hv)
    exact ⟨a, e.symm⟩
  have eo := refs_adr out isr
  generalize ets : out.map adr = ts at eo
  have pt : ts.Perm as := by
    have := hb.map adr
    rwa [adr_refs, ets] at this
  have kS : ∀ b o, s.heap.get? b = some o → h2.get? b = some o := fun b o e => hk2 b o (hk b o e)
  have I1 : Inv X pins σ H { s with heap := h2, toks := tk } := I.kept (t' := tk) kS
  have hlen : (ts.map V.ref).length ≤ sizeLine := by rw [List.length_map, pt.length_eq]; exact hle
  have rv : Vals (ts.map V.ref) out := by
    rw [← eo]
    exact LiI.vals_refs ts
  have I2 : Inv X pins σ (upd H l (.lst (ts.map V.ref))) { s with heap := h2, toks := tk } := I1.take (h' := h2) (t' := tk) (fun b ob _ e => e) (I.fpOk hl hn) ⟨hlen, out, n, rv, hat⟩
  obtain ⟨H2, I3, g, qt⟩ := DX.takeT (P := fun b vs => vs = [.str (keyZ h' (.ref b)).1, .int (keyZ h' (.ref b)).2]) I as _ I2 nd fun b hb' => by
    obtain ⟨p, hp'⟩ := hp b hb'
    have ek := keyZ_of hp'
    obtain ⟨a, o, t, u, m, e, ho, hc, hd⟩ := hp'
    cases e
    refine ⟨ha b hb', ?_, [.str (keyZ h' (.ref b)).1, .int (keyZ h' (.ref b)).2], rfl, fun H3 => ⟨(by rw [sizeLine_eq]; show 2 ≤ 16777216; omega), [Value.str p.1 t, Value.int p.2 u], by rw [ek]; exact .cons ⟨_, rfl⟩ (.cons ⟨_, rfl⟩ .nil), ⟨o, hk2 _ _ ho, hc, m, hd⟩⟩⟩
    rw [upd_ne (hlas b hb')]
    exact I.hok.fresh (ha b hb')
  have gr : Same H H2 := fun b o e => g b o (by rw [upd_ne (ne_of_none e hn)]; exact e)
  refine ⟨.ref l, H2, I3, rfl, q H2 (ts.map fun t => keyZ h' (.ref t)) ts gr hn (fun t ht => I.hok.fresh (ha t (pt.mem_iff.mp ht))) (fun z => hlas l (pt.mem_iff.mp z) rfl) ?_ ?_ (g _ _ upd_same) ?_⟩
  · rw [← hks]
    exact pt.map _
  · have e : ts.map (fun t => keyZ h' (.ref t)) = out.map (keyZ h') := by
      rw [← eo, List.map_map]
      rfl
    rw [e]
    exact srtd_map h1
  · have : ∀ L : List Addr, (∀ t ∈ L, t ∈ as) → Paired (fun (t : Addr) (y : Str × Int) => H2 t = some (.tup [.str y.1, .int y.2])) L (L.map fun t => keyZ h' (.ref t)) := by
      intro L
      induction L with
      | nil => exact fun _ => .nil
      | cons t L ih =>
        intro hL
        refine .cons ?_ (ih fun u hu => hL u (List.mem_cons_of_mem _ hu))
        obtain ⟨vs, ev, hv⟩ := qt t (hL t List.mem_cons_self)
        rw [← ev]
        exact hv
    exact this ts fun t ht => pt.mem_iff.mp ht
theorem cr_sortedIZ (hc : X.calm = true) : CallR X (.builtin "sorted") rSortedIZ := by
  intro pins s σ H xs us Q I r h
  obtain ⟨p, a, ks, rfl, hp, ha, q⟩ := h
  obtain rfl := Vals.ref1 r
  have view : s.heap.IsItemsView p a := (show ObjOk X.prog X.w H s.heap p (DX.itemsO p a) from I.hok p _ hp).1
  obtain ⟨z, hd, xs', rel, o, es, ep, ho, hx, hdat, _, hes, _⟩ := dk_of I.hok ha
  have l1 : ks.length = xs'.length := by
    have := Paired.length rel
    rwa [List.length_map] at this
  have l2 : es.size = xs'.length := by rw [← Array.length_toList, hes.length]
  have hh : X.A.handled = none := I.ok.hd hc
  have hz : es.size ≤ sizeLine := by rw [List.length_map] at z; omega
  have ent : ∀ (j : Nat) (en : DictEntry), es[j]? = some en → ∃ e t u, ks[j]? = some e ∧ en.key = Value.str e.1 t ∧ en.val = Value.int e.2 u := by
    intro j en he
    have he' : es.toList[j]? = some en := by rw [Array.getElem?_toList]; exact he
    have pz : ∀ {es : List DictEntry} {kvs : List (Key × Value)}, Pairs (mixKind X.prog X.w) es kvs → ∀ {j : Nat} {en : DictEntry}, es[j]? = some en → ∃ x, kvs[j]? = some x ∧ keyIs x.1 en.key = true ∧ en.val = x.2 := by
      intro es kvs h
      induction h with
      | nil => intro j en h; simp at h
      | cons h1 h2 h3 ih =>
        intro j en h
        cases j with
        | zero => cases (Option.some.inj h); exact ⟨_, rfl, h1, h2⟩
        | succ j => exact ih (by simpa using h)
    obtain ⟨x, ex, k1, k2⟩ := pz hes he'
    obtain ⟨e, t, e1, e2⟩ := ent_paired rel ex
    subst e2
    obtain ⟨u, eu⟩ := relV_key k1
    exact ⟨e, u, t, e1, eu, k2⟩
  refine sorted_col (x := .ref p) (b := false) (kw := []) (ltv := fun h' v u => lexZ (keyZ h' v) (keyZ h' u)) (P := fun h' _ vs => ∃ as, vs = as.map Value.ref ∧ as.length = es.size ∧ DT.Made es s.heap.objs.size h' as ∧ s.heap.objs.size < h'.objs.size)
    plain_rev (args_sorted1 _) (fun _ => args_list_sort _) (fun R hR => ?_) (fun h' _ _ _ => swo_key h') (fun h' _ vs hP => ?_) (fun h' tk vs hP h2 h₁ b hb keep => ?_) (fun h' tk vs out h2 hk hP h1 hb hk2 hat => ?_)
  · exact DT.collectI (A := X.A.in1) hh view ⟨o, ho, hx, hdat⟩ hz fun h' tk as hk hlt hl hM => hR h' tk _ hk ⟨as, rfl, hl, hM, hlt⟩
  · obtain ⟨as, rfl, hl, _⟩ := hP
    rw [List.length_map, hl]
    exact hz
  · obtain ⟨as, rfl, hl, hM, _⟩ := hP
    refine pairsZ_sortable (s := { s with heap := h₁, toks := tk }) (k := keyZ h') (by omega) (fun v hv => ?_) (fun ob e => ?_)
    · obtain ⟨t, ht, rfl⟩ := List.mem_map.mp hv
      obtain ⟨j, hj⟩ := List.mem_iff_getElem?.mp ht
      obtain ⟨en, he, hg⟩ := hM.pairs j t hj
      obtain ⟨e, t1, t2, _, k1, k2⟩ := ent j en he
      have x : IsPZ h' (.ref t) e := ⟨t, _, t1, t2, 0, rfl, hg, rfl, by rw [k1, k2]⟩
      rw [keyZ_of x]
      exact x.keeps fun b o e _ => (keep b o e).2
    · have e' : some ob = some (seqObj "list" (as.map Value.ref).toArray 0) := e.symm.trans hb
      cases e'
      intro c
      exact absurd (Value.type.inj c) (by decide)
  · obtain ⟨as, rfl, hl, hM, hlt⟩ := hP
    obtain ⟨n, hat⟩ := hat
    have pz : ∀ (j : Nat) (t : Addr), as[j]? = some t → ∃ e, ks[j]? = some e ∧ IsPZ h' (.ref t) e := fun j t hj => by
      obtain ⟨en, he, hg⟩ := hM.pairs j t hj
      obtain ⟨e, t1, t2, e1, k1, k2⟩ := ent j en he
      exact ⟨e, e1, t, _, t1, t2, 0, rfl, hg, rfl, by rw [k1, k2]⟩
    refine sortZ_end (as := as) (ks := ks) I hk hk2 (Nat.le_of_lt hlt) (by rw [hl]; exact hz) (fun t ht => Nat.ne_of_lt (hM.there ht)) (List.Pairwise.imp (fun h => Nat.ne_of_lt h) hM.rise) (fun t ht => Nat.le_of_lt (hM.above t ht)) (I.hok.fresh (Nat.le_of_lt hlt)) ?_ (fun t ht => ?_) hat h1 hb.perm fun H' ys ts => q H' _ ys ts
    · refine List.ext_getElem? fun j => ?_
      rw [List.getElem?_map]
      cases hj : as[j]? with
      | none =>
        have : ks[j]? = none := List.getElem?_eq_none (by have := List.getElem?_eq_none_iff.mp hj; omega)
        rw [this]
        rfl
      | some t =>
        obtain ⟨e, e1, x⟩ := pz j t hj
        rw [e1]
        show some (keyZ h' (.ref t)) = some e
        rw [keyZ_of x]
    · obtain ⟨j, hj⟩ := List.mem_iff_getElem?.mp ht
      obtain ⟨e, _, x⟩ := pz j t hj
      exact ⟨e, x⟩
end
end L2

namespace SrtZ
open PySem PyProof.Rows Srt SrtO PySem.W
def ltSv (v u : Value) : Bool := ltZ (strOf v) (strOf u)
theorem swo_str : Swo ltSv := by
  refine ⟨fun x y h => ltZ_asym h, fun x y z h1 h2 => ?_⟩
  rcases bcase (ltZ (strOf z) (strOf x)) with q | q
  · rcases bcase (ltZ (strOf x) (strOf y)) with p | p
    · rcases bcase (ltZ (strOf y) (strOf z)) with r | r
      · have := ltZ_asym (ltZ_trans p r)
        rw [q] at this
        cases this
      · have e := ltZ_tri r h2
        have q' : ltZ (strOf z) (strOf x) = true := q
        rw [← e, ltZ_asym p] at q'
        cases q'
    · have e := ltZ_tri p h1
      have q' : ltZ (strOf z) (strOf x) = true := q
      have h2' : ltZ (strOf z) (strOf y) = false := h2
      rw [e, h2'] at q'
      cases q'
  · exact q
theorem strOf_strs : ∀ {vs : List Value} {ss : List Str}, StrsAre vs ss → vs.map strOf = ss
  | _, _, .nil => rfl
  | _, _, .cons y t h => congrArg (y :: ·) (strOf_strs h)
section
variable {prog : Program} {w : World} {A : Around} {E : Value → Shared → Prop} {s : Shared}
theorem str_cmp {vs : List Value} {ss : List Str} (hI : StrsAre vs ss) : Cmp prog w A s oneType' (fun p => p.1 ∈ vs) (lt2 ltSv) := by
  intro p q hm hm'
  obtain ⟨a, t, e⟩ := StrsAre.all hI _ hm
  obtain ⟨b, u, e'⟩ := StrsAre.all hI _ hm'
  show wpAny (model prog w) A (keyLt' oneType' p.1 q.1) (fun r s' => s' = s ∧ r = ltSv p.1 q.1) (fun _ _ => False) s
  rw [e, e', keyLt'_oneType]
  exact oneLt_any_str ⟨rfl, rfl⟩
theorem strs_sortable {a : Addr} {vs : List Value} {ss : List Str} (hI : StrsAre vs ss) (h2 : 2 ≤ vs.length) : SortableO prog w A s a vs ltSv := by
  intro h' _
  refine ⟨oneType', fun Q E hq => ?_, str_cmp hI⟩
  match vs, hI, h2 with
  | v1 :: v2 :: rest, hI, _ =>
    rw [keyKind_strs hI]
    exact wpAny_pure hq
  | [], _, h => exact absurd h (by decide)
  | [v], _, h => exact absurd h (by simp)
end
end SrtZ
namespace L2
open PySem PySem.Spec PyProof.Rows SrtO SrtZ
section
variable {X : Cx}
/-- sorted(xs), xs a list of tuples (text, int), any number of them -/
def rSortedPZ (K : PySem.W.Frag) : List V → Hp → VK → Prop := fun vs H Q => ∃ (a : Addr) (ts : List Addr) (k : Addr → Str × Int), vs = [V.ref a] ∧ SqL K H a (ts.map V.ref) ∧ (∀ t ∈ ts, H t = some (.tup [.str (k t).1, .int (k t).2])) ∧
  ∀ (us : List Addr) (p : Addr), us.Perm ts → Srtd lexZ (us.map k) → H p = none → Q (.ref p) (upd H p (.lst (us.map V.ref)))
theorem cr_sortedPZ : CallR X (.builtin "sorted") (rSortedPZ X.K) := by
  intro pins s σ H vs us Q I r h
  obtain ⟨a, ts, k, rfl, hs, hx, q⟩ := h
  obtain ⟨its, rv, hl, hz⟩ := I.list hs
  obtain rfl := Vals.ref1 r
  obtain rfl := refs_at rv
  rw [List.length_map] at hz
  have hp : ∀ v ∈ ts.map Value.ref, IsPZ s.heap v (k (adr v)) := fun v hv => by
    obtain ⟨t, ht, rfl⟩ := List.mem_map.mp hv
    obtain ⟨_, its2, r2, o, ho, hc, n, hd⟩ := I.hok _ _ (hx t ht)
    obtain ⟨u1, u2, rfl, ri, rj⟩ := vals2 r2
    obtain ⟨t1, rfl⟩ := ri
    obtain ⟨t2, rfl⟩ := rj
    exact ⟨t, o, t1, t2, n, rfl, ho, hc, hd⟩
  refine SrtO.sorted_ord (ltv := fun v u => lexZ (k (adr v)) (k (adr u))) ⟨fun x y => swo_Z.asym _ _, fun x y z => swo_Z.tr _ _ _⟩ hl.isList (by rw [List.length_map]; exact hz) (fun h2 h₁ b hb kk => ?_) fun out h1 h2 => ?_
  · refine pairsZ_sortable (s := { s with heap := h₁ }) (k := fun v => k (adr v)) (by omega) (fun v hv => (hp v hv).keeps fun b o e _ => (kk b o e).2) fun o e => ?_
    have e' : some o = some (seqObj "list" (ts.map Value.ref).toArray 0) := e.symm.trans hb
    cases e'
    intro c
    exact absurd (Value.type.inj c) (by decide)
  · obtain ⟨ep, he'⟩ := PyProof.Rows.sortedAll_at s.heap (ts.map Value.ref) out.toArray
    have isr : ∀ v ∈ out, ∃ a, v = Value.ref a := fun v hv => by
      obtain ⟨a, _, e⟩ := List.mem_map.mp (h2.perm.mem_iff.mp hv)
      exact ⟨a, e.symm⟩
    have eo := refs_adr out isr
    generalize eus : out.map adr = us at eo
    have pt : us.Perm ts := by
      have := h2.perm.map adr
      rwa [adr_refs, eus] at this
    have hlen : (us.map V.ref).length ≤ sizeLine := by rw [List.length_map, pt.length_eq]; exact hz
    have rv : Vals (us.map V.ref) out := by
      rw [← eo]
      exact LiI.vals_refs us
    refine ⟨.ref _, upd H (s.heap.objs.size + 1) (.lst (us.map V.ref)), I.laid (t' := s.toks) (fun _ _ => PyProof.Rows.sortedAll_old) (Nat.le_succ _) ⟨hlen, out, ep, rv, he'⟩, rfl, q us _ pt ?_ (I.hok.fresh (Nat.le_succ _))⟩
    have e : us.map k = out.map fun v => k (adr v) := by
      rw [← eo, List.map_map]
      rfl
    rw [e]
    exact srtd_map h1
/-- the ints of a dict's values -/
theorem vals_ints' {xs' : List (Key × Value)} : ∀ {ks : List (Str × Int)}, KV (ks.map entZ) xs' → ∀ {vs : List Value}, vs.length = xs'.length → (∀ (j : Nat) (v : Value), vs[j]? = some v → ∃ k, xs'[j]? = some (k, v)) → IntsAre vs (ks.map (·.2)) := fun {ks} rel {vs} hl hv => by
  have e : vs = xs'.map (·.2) := PySem.W.kdl_vals_eq vs hl hv
  subst e
  have : ∀ {ks : List (Str × Int)} {xs : List (Key × Value)}, KV (ks.map entZ) xs → IntsAre (xs.map (·.2)) (ks.map (·.2)) := by
    intro ks
    induction ks with
    | nil =>
      intro xs r
      cases r
      exact .nil
    | cons e ks ih =>
      intro xs r
      cases r with
      | cons h t =>
        obtain ⟨u, eu⟩ := (show ∃ t, _ = Value.int e.2 t from h.2)
        rw [List.map_cons, eu]
        exact .cons _ _ (ih t)
  exact this rel
/-- sorted(d.values(), reverse=b), values ints -/
def rSortedVR (b : Bool) : List V → List V → Hp → VK → Prop := fun vs zs H Q => ∃ (p d : Addr) (ks : List (Str × Int)), vs = [V.ref p] ∧ zs = [.bl b] ∧ H p = some (valuesO p d) ∧ H d = some (.dK (ks.map entZ)) ∧
  ∀ (ns : List Int) (l : Addr), ns.Perm (ks.map (·.2)) → OrdB b ns → H l = none → Q (.ref l) (upd H l (.lst (ns.map V.int)))
theorem cr_sortedVR {b : Bool} (hc : X.calm = true) : CallRK X (.builtin "sorted") [Str.ofString "reverse"] (rSortedVR b) := by
  intro pins s σ H vs zs us ws Q I r rz h
  obtain ⟨p, d, ks, rfl, rfl, hp, ha, q⟩ := h
  obtain rfl := Vals.ref1 r
  obtain ⟨w1, rfl, e1⟩ := vals1 rz
  obtain rfl : w1 = Value.bool b := e1
  have view : s.heap.IsValuesView p d := (show ObjOk X.prog X.w H s.heap p (valuesO p d) from I.hok p _ hp).1
  obtain ⟨z, hd, xs', rel, dd⟩ := dk_of I.hok ha
  obtain ⟨ep, hat⟩ := dd.dictAt
  have l1 : ks.length = xs'.length := by
    have := Paired.length rel
    rwa [List.length_map] at this
  have hz : xs'.length ≤ sizeLine := by rw [List.length_map] at z; omega
  refine sorted_col (x := .ref p) (b := b) (kw := [(Str.ofString "reverse", .bool b)]) (ltv := fun _ => SrtO.ltIv) (P := fun h' _ vs => IntsAre vs (ks.map (·.2)))
    (fun _ => rfl) (args_sorted_rev _ _) (fun _ => args_list_sort_rev _ _) (fun R hR => ?_) (fun _ _ _ _ => SrtO.swo_int) (fun h' _ vs hP => ?_) (fun h' tk vs hP h2 h₁ c hb keep => ?_) (fun h' tk vs out h2 hk hP h1 hb hk2 hat => ?_)
  · refine PySem.W.kdu_collect (A := X.A.in1) (PySem.W.kdl_values (knd := mixKind X.prog X.w) (kvs := xs') (ep := ep) (r := p) (d := d)) (I.ok.hd hc) ⟨view, hat⟩ hz fun h' tk acc hk hacc => hR h' tk _ hk (vals_ints' rel (by rw [Array.length_toList]; exact hacc.1) fun j v e => hacc.2 j v (by rw [← Array.getElem?_toList]; exact e))
  · rw [hP.length, List.length_map, l1]
    exact hz
  · exact SrtO.ints_sortable hP h2
  · obtain ⟨n, hat⟩ := hat
    obtain ⟨ns', k1, k2, k3⟩ := SrtR.ints_outR hP h1 hb
    have hlen : (ns'.map V.int).length ≤ sizeLine := by
      rw [List.length_map, k2.length_eq, List.length_map, l1]
      exact hz
    have e0 : ((if b = true then out.toArray.reverse else out.toArray).toList).toArray = (if b = true then out.toArray.reverse else out.toArray) := by rw [Array.toArray_toList]
    have gone : s.heap.get? h'.objs.size = none := by
      cases e : s.heap.get? h'.objs.size with
      | none => rfl
      | some o => exact absurd (Heap.lt_size (hk _ _ e)) (Nat.lt_irrefl _)
    have hn := I.hok.gone gone
    exact ⟨.ref h'.objs.size, upd H h'.objs.size (.lst (ns'.map V.int)), I.laidN (t' := tk) (fun c o e => hk2 c o (hk c o e)) gone hn ⟨hlen, _, n, vals_of_ints k1, by rw [e0]; exact hat⟩, rfl, q _ _ k2 k3 hn⟩
/-- sorted(d), keys texts, any number of them -/
def rSortedDS : List V → Hp → VK → Prop := fun vs H Q => ∃ (d : Addr) (kvs : List (Key × V)) (ss : List Str), vs = [V.ref d] ∧ H d = some (.dK kvs) ∧ kvs.map (·.1) = ss.map Sum.inr ∧
  ∀ (ys : List Str) (l : Addr), ys.Perm ss → Srtd ltZ ys → H l = none → Q (.ref l) (upd H l (.lst (ys.map V.str)))
theorem keys_strs {P : Program} {w : World} {xs' : List (Key × Value)} : ∀ {kvs : List (Key × V)} {ss : List Str}, KV kvs xs' → kvs.map (·.1) = ss.map Sum.inr → ∀ {vs : List Value}, vs.length = xs'.length → (∀ (j : Nat) (v : Value), vs[j]? = some v → ∃ k x, xs'[j]? = some (k, x) ∧ (mixKind P w).is k v = true) → StrsAre vs ss := fun {kvs ss} rel hk {vs} hl hv => by
  have : ∀ {kvs : List (Key × V)} {ss : List Str} {xs : List (Key × Value)} {vs : List Value}, KV kvs xs → kvs.map (·.1) = ss.map Sum.inr → vs.length = xs.length → (∀ (j : Nat) (v : Value), vs[j]? = some v → ∃ k x, xs[j]? = some (k, x) ∧ (mixKind P w).is k v = true) → StrsAre vs ss := by
    intro kvs
    induction kvs with
    | nil =>
      intro ss xs vs r hk hl hv
      cases r
      cases ss with
      | nil =>
        have : vs = [] := List.eq_nil_of_length_eq_zero hl
        subst this
        exact .nil
      | cons _ _ => cases hk
    | cons kv kvs ih =>
      intro ss xs vs r hk hl hv
      cases r with
      | cons h t =>
        cases ss with
        | nil => cases hk
        | cons z ss =>
          cases vs with
          | nil => simp at hl
          | cons v vs =>
            rw [List.map_cons, List.map_cons] at hk
            obtain ⟨h1, h2⟩ := List.cons.inj hk
            obtain ⟨k, x, e1, e2⟩ := hv 0 v rfl
            have e1' := (Prod.mk.inj (Option.some.inj e1)).1
            have kk : k = Sum.inr z := by rw [← e1', ← h.1, h1]
            subst kk
            obtain ⟨u, eu⟩ := relV_key (show keyIs (Sum.inr z) v = true from e2)
            subst eu
            exact .cons _ _ (ih t h2 (by simpa using hl) fun j v' e => hv (j + 1) v' (by simpa using e))
  exact this rel hk hl hv
theorem cr_sortedDS (hc : X.calm = true) : CallR X (.builtin "sorted") rSortedDS := by
  intro pins s σ H xs us Q I r h
  obtain ⟨d, kvs, ss, rfl, ha, hks, q⟩ := h
  obtain rfl := Vals.ref1 r
  obtain ⟨z, hd, xs', rel, dd⟩ := dk_of I.hok ha
  obtain ⟨ep, hat⟩ := dd.dictAt
  have l1 : kvs.length = xs'.length := Paired.length rel
  have hz : xs'.length ≤ sizeLine := by omega
  refine sorted_col (x := .ref d) (b := false) (kw := []) (ltv := fun _ => ltSv) (P := fun _ _ vs => StrsAre vs ss)
    plain_rev (args_sorted1 _) (fun _ => args_list_sort _) (fun R hR => ?_) (fun _ _ _ _ => swo_str) (fun h' _ vs hP => ?_) (fun h' tk vs hP h2 h₁ c hb keep => strs_sortable hP h2) (fun h' tk vs out h2 hk hP h1 hb hk2 hat => ?_)
  · refine PySem.W.kdu_collect (A := X.A.in1) (PySem.W.kdl_dict (knd := mixKind X.prog X.w) (kvs := xs') (ep := ep) (d := d) hd) (I.ok.hd hc) hat hz fun h' tk acc hk hacc => hR h' tk _ hk (keys_strs rel hks (by rw [Array.length_toList]; exact hacc.1) fun j v e => hacc.2 j v (by rw [← Array.getElem?_toList]; exact e))
  · rw [hP.length, ← List.length_map (f := (Sum.inr : Str → Key)), ← hks, List.length_map]
    omega
  · obtain ⟨n, hat⟩ := hat
    have isS : ∀ v ∈ out, ∃ x t, v = Value.str x t := fun v hv => StrsAre.all hP v (hb.perm.mem_iff.mp hv)
    have kp : (out.map strOf).Perm ss := by
      have := hb.perm.map strOf
      rwa [if_neg (by decide), strOf_strs hP] at this
    have hlen : ((out.map strOf).map V.str).length ≤ sizeLine := by
      rw [List.length_map, kp.length_eq, ← List.length_map (f := (Sum.inr : Str → Key)), ← hks, List.length_map]
      omega
    have gone : s.heap.get? h'.objs.size = none := by
      cases e : s.heap.get? h'.objs.size with
      | none => rfl
      | some o => exact absurd (Heap.lt_size (hk _ _ e)) (Nat.lt_irrefl _)
    have hn := I.hok.gone gone
    exact ⟨.ref h'.objs.size, upd H h'.objs.size (.lst ((out.map strOf).map V.str)), I.laidN (t' := tk) (fun c o e => hk2 c o (hk c o e)) gone hn ⟨hlen, out, n, vals_of_strs (strsAre_map out isS), hat⟩, rfl, q _ _ kp (srtd_map h1) hn⟩
/-! plain tuples: such of which no attributes are held -/
def Ptp (H : Hp) (a : Addr) (xs : List V) : Prop := ∃ o : Obj, H a = some (.frz o (.tup xs)) ∧ o.dict = none
theorem Ptp.seq {K : PySem.W.Frag} {H : Hp} {a : Addr} {xs : List V} (h : Ptp H a xs) : SqT K H a xs := let ⟨o, e, _⟩ := h; .inl (.inr ⟨o, e⟩)
theorem Ptp.same {H H' : Hp} {a : Addr} {xs : List V} (h : Ptp H a xs) (s : Same H H') : Ptp H' a xs := let ⟨o, e, d⟩ := h; ⟨o, s _ _ e, d⟩
theorem Ptp.ne {H : Hp} {a p : Addr} {xs : List V} (h : Ptp H a xs) (hp : H p = none) : a ≠ p := let ⟨o, e, _⟩ := h; ne_of_none e hp
theorem Ptp.upd {H : Hp} {a p : Addr} {xs : List V} {u : HO} (h : Ptp H a xs) (n : a ≠ p) : Ptp (L2.upd H p u) a xs := let ⟨o, e, d⟩ := h; ⟨o, by rw [upd_ne n]; exact e, d⟩
/-- (a, b, ..), a plain tuple -/
def tTupF (t : TA) : TE := fun σ H Q => t σ H fun xs H1 => xs.length ≤ sizeLine ∧ ∀ p o, H1 p = none → o.dict = none → Q (.ref p) (upd H1 p (.frz o (.tup xs)))
theorem pe_tupF {x1} {es : List Expr} {t : TA} {pos : Pos} (h : PA X es t) : PE X (.Tuple es x1 pos) (tTupF t) := by
  refine ⟨fun pins s σ H Q I hq => ?_⟩
  refine wpAny_Tuple_spliced (thn (h.run pos pins s σ H _ I hq) fun us s1 ⟨xs, H1, I1, r, z, q⟩ => ⟨by rw [← r.length]; exact z, ?_⟩)
  have hf : H1 s1.heap.objs.size = none := I1.hok.fresh (Nat.le_refl _)
  refine ⟨.ref s1.heap.objs.size, _, I1.laid (t' := s1.toks) (fun b u e => Heap.get?_push_of_some _ e) (Nat.le_refl _) ?_, rfl, q _ { cls := .type "tuple", data := .seq us.toArray } hf rfl⟩
  exact ⟨Heap.get?_push_size _ rfl, z, us, r, ⟨_, Heap.get?_push_size _ rfl, rfl, _, rfl⟩⟩
/-- tuple(xs) of a list, a plain tuple -/
theorem call_tupleF : CallR X (.type "tuple") (fun xs H Q => ∃ p ys, xs = [.ref p] ∧ SqL X.K H p ys ∧ ∀ l o, H l = none → o.dict = none → Q (.ref l) (upd H l (.frz o (.tup ys)))) := by
  intro pins s σ H xs us Q I r h
  obtain ⟨p, ys, rfl, hq, q⟩ := h
  obtain ⟨u, rfl, rx⟩ := vals1 r
  cases rx
  obtain ⟨its, r', pl, hz⟩ := I.list hq
  have hlen := r'.length
  refine call_tuple_list pl.isList (fun h' kp => ?_) (by simp only [List.size_toArray] <;> omega)
  have I1 : Inv X pins σ H { s with heap := h' } := I.kept (t' := s.toks) kp
  have I2 : Inv X pins σ (upd H h'.objs.size (.frz _ (.tup ys))) { s with heap := h'.push { cls := .type "tuple", data := .seq its.toArray } } :=
    I1.laid (t' := s.toks) (fun b o e => Heap.get?_push_of_some _ e) (Nat.le_refl _) (show ObjOk X.prog X.w _ _ _ (.frz _ (.tup ys)) from ⟨Heap.get?_push_size _ rfl, hz, its, r', IsTup.new _ _⟩)
  exact ⟨.ref h'.objs.size, _, I2, rfl, q _ _ (I1.hok.fresh (Nat.le_refl _)) rfl⟩
theorem pairs_of2 {pins : List (Addr × Obj)} {σ : St} {H : Hp} {s : Shared} (I : Inv X pins σ H s) : ∀ {ps : List Addr} {kvs : List (Key × V)}, Paired (fun p kv => SqT X.K H p [kV kv.1, kv.2]) ps kvs →
    ∃ (prs : List (Key × Value)) (vps : List (Value × Value)), KV kvs prs ∧ prs.length = ps.length ∧ vps.length = prs.length ∧
      ∀ (j : Nat) (k v : Value), vps[j]? = some (k, v) → ∃ (b : Addr) (q : Key × Value), ps[j]? = some b ∧ prs[j]? = some q ∧ v = q.2 ∧ IsTup s.heap b #[k, v] ∧ keyIs q.1 k = true
  | _, _, .nil => ⟨[], [], .nil, rfl, rfl, fun j k v e => by simp at e⟩
  | _, _, .cons (a := p) (b := kv) h t => by
    obtain ⟨prs, vps, r, hl, hl2, hp⟩ := pairs_of2 I t
    obtain ⟨its, rv, ht, _⟩ := I.tuple h
    obtain ⟨u, y, ei, ru, ry⟩ := vals2 rv
    subst ei
    refine ⟨(kv.1, y) :: prs, (u, y) :: vps, .cons ⟨rfl, ry⟩ r, by rw [List.length_cons, List.length_cons, hl], by rw [List.length_cons, List.length_cons, hl2], fun j k v e => ?_⟩
    cases j with
    | zero =>
      have e' : (u, y) = (k, v) := Option.some.inj e
      cases e'
      exact ⟨p, _, rfl, rfl, rfl, ht, kV_is (P := X.prog) (w := X.w) ru⟩
    | succ j =>
      obtain ⟨b, q, e1, e2, e3⟩ := hp j k v (by simpa using e)
      exact ⟨b, q, by simpa using e1, by simpa using e2, e3⟩
/-- dict(t), t a plain tuple of pairs -/
theorem call_dictPT (hcalm : X.calm = true) : CallR X (.type "dict") (fun xs H Q => ∃ (a : Addr) (ps : List Addr) (kvs : List (Key × V)), xs = [.ref a] ∧ Ptp H a (ps.map V.ref) ∧ Paired (fun p kv => SqT X.K H p [kV kv.1, kv.2]) ps kvs ∧
    ∀ p, H p = none → Q (.ref p) (upd H p (.dK (mergeK [] kvs)))) := by
  intro pins s σ H xs us Q I r q
  obtain ⟨a, ps, kvs, ex, hq, hp, q⟩ := q
  subst ex
  obtain ⟨u, eu, rx⟩ := vals1 r
  subst eu
  cases rx
  obtain ⟨o, ha, hdn⟩ := hq
  obtain ⟨hao, hz, its, rv, o', hao', hc, n, hdat⟩ := (show ObjOk X.prog X.w H s.heap a (.frz o (.tup (ps.map V.ref))) from I.hok a _ ha)
  rw [hao] at hao'
  cases hao'
  have ei := refs_at rv
  subst ei
  rw [List.length_map] at hz
  obtain ⟨prs, vps, rel, hl, hvl, hvp⟩ := pairs_of2 I hp
  have hTs : ∀ j b, ps[j]? = some b → ps.getD j 0 = b := fun j b e => by simp [List.getD, e]
  refine PySem.call_dict_pairs (knd := mixKind X.prog X.w) (kvs := prs) (PairArg.tuple (prog := X.prog) (w := X.w) a (ps.map Value.ref).toArray (fun j => ps.getD j 0) vps) (I.ok.hd hcalm) ⟨⟨o, n, hao, hc, hdn, hdat⟩, ?_, fun j k v e => ?_⟩ ⟨hvl.symm, fun i key v h => ?_⟩ (by rw [hvl, hl]; exact hz) fun h' tk hd' k => ?_
  · simp [hvl, hl]
  · obtain ⟨b, q, e1, e2, e3, e4, e5⟩ := hvp j k v e
    show _ ∧ PairAt s.heap (ps.getD j 0) k v
    rw [hTs j b e1]
    have ed : (List.map Value.ref ps).toArray[j]? = some (Value.ref b) := by simp [e1]
    refine ⟨?_, .inl e4⟩
    show _ = some (Value.ref (ps.getD j 0))
    rw [hTs j b e1]
    exact ed
  · obtain ⟨b, q', e1, e2, e3, e4, e5⟩ := hvp i key v h
    exact ⟨q'.1, by rw [e2, e3], e5⟩
  · have hm : (s.heap.objs.size == sysModules) = false := beq_eq_false_iff_ne.mpr (Nat.ne_of_gt I.big)
    have hlen : (mergeK [] kvs).length ≤ sizeLine := by
      refine Nat.le_trans (length_mergeK kvs []) ?_
      rw [List.length_nil, Nat.zero_add, rel.length, hl]
      exact hz
    exact ⟨.ref s.heap.objs.size, upd H s.heap.objs.size (.dK (mergeK [] kvs)), I.laid (t' := tk) (fun b u e => k b u (by simp) e) (Nat.le_refl _) (show ObjOk X.prog X.w _ _ _ (.dK (mergeK [] kvs)) from ⟨hlen, hm, merged [] prs, KV.merge rel .nil, hd'⟩), rfl, q _ (I.hok.fresh (Nat.le_refl _))⟩
/-- o.f as a target -/
def gFld (K : PySem.W.Frag) (ta : TE) (f : Str) : TG := fun y σ H Q => ta σ H fun x H2 => ∃ a C dx fs, x = .ref a ∧ H2 a = some (.ins C dx fs) ∧ Cls K C ∧ NoAttr K C f ∧ fs.length < 1000 ∧ Q σ (upd H2 a (.ins C dx (putF f y fs)))
theorem pg_fld {o : Expr} {f : Str} {pos : Pos} {ta : TE} (ha : PE X o ta) : PG X (.Attribute o f pos) (gFld X.K ta f) := by
  refine ⟨fun pins s σ H v u Q I r h => ?_⟩
  rw [assign_Attribute]
  refine wpAny_bind (wpAny_holding (thn (ha.run pins s σ H _ I h) fun ov s2 ⟨x, H2, I2, rx, a, C, dx, fs, ex, ea, c, n, l, q2⟩ => ?_))
  subst ex
  obtain rfl : ov = Value.ref a := rx
  refine wpAny_bind (wpAny_standAt (wpAny_bind (wpAny_holding (setattr_ok I2 ea c n l r fun s3 I3 => ?_))))
  exact wpAny_release ⟨σ, _, I3, q2⟩
end
end L2

namespace L2
open PySem PySem.Spec PyProof.Rows SrtO SrtZ
section
variable {X : Cx}
/-- min(d.values()), values ints -/
def rMinV : List V → Hp → VK → Prop := fun vs H Q => ∃ (p d : Addr) (ks : List (Str × Int)), vs = [V.ref p] ∧ H p = some (valuesO p d) ∧ H d = some (.dK (ks.map entZ)) ∧ 0 < ks.length ∧
  ∀ m, m ∈ ks.map (·.2) → (∀ y ∈ ks.map (·.2), m ≤ y) → Q (.int m) H
theorem cr_minV (hc : X.calm = true) : CallR X (.builtin "min") rMinV := by
  intro pins s σ H vs us Q I r h
  obtain ⟨p, d, ks, rfl, hp, ha, hne, q⟩ := h
  obtain rfl := Vals.ref1 r
  have view : s.heap.IsValuesView p d := (show ObjOk X.prog X.w H s.heap p (valuesO p d) from I.hok p _ hp).1
  obtain ⟨z, hd, xs', rel, dd⟩ := dk_of I.hok ha
  obtain ⟨ep, hat⟩ := dd.dictAt
  have l1 : ks.length = xs'.length := by
    have := Paired.length rel
    rwa [List.length_map] at this
  have K := PySem.W.kdl_values (prog := X.prog) (w := X.w) (knd := mixKind X.prog X.w) (kvs := xs') (ep := ep) (r := p) (d := d)
  have hok : s.heap.IsValuesView p d ∧ s.heap.DictAt (mixKind X.prog X.w) d xs' ep := ⟨view, hat⟩
  have hval : ∀ (i : Nat) (v : Value), (∃ k, xs'[i]? = some (k, v)) → ∃ t : Tok, v = Value.int ((ks.map (·.2)).getD i 0) t := fun i v ⟨k, e⟩ => by
    obtain ⟨e', t, e1, e2⟩ := ent_paired rel e
    refine ⟨t, ?_⟩
    have : (ks.map (·.2)).getD i 0 = e'.2 := by simp [List.getD, e1]
    rw [this]
    exact (Prod.mk.inj e2).2
  refine PySem.call_min_walkS ?_
  obtain ⟨oI, St, hit, W, st⟩ := K.iter X.A.in1 s (I.ok.hd hc) hok
  refine hit _ _ ⟨s.heap.objs.size, _, _, _, xs'.length, _, _, fun i j => decide ((ks.map (·.2)).getD i 0 < (ks.map (·.2)).getD j 0), rfl, W.toS, st, fun b hb => ?_, by omega, PySem.CmpOf.ints_lt _ hval, fun v s' hP hm => ?_⟩
  · show b < (s.heap.push oI).objs.size
    rw [size_push']
    rcases List.mem_cons.mp hb with e | hb
    · rw [e]; exact Nat.lt_succ_self _
    · rw [List.mem_singleton.mp hb]; exact Nat.lt_succ_of_lt (K.there _ hok).2
  · have hk : ∀ b o, s.heap.get? b = some o → s'.heap.get? b = some o := fun b o e =>
      hm.heap b o (fun hI => absurd (Heap.lt_size e) (by rw [List.mem_singleton.mp hI]; exact Nat.lt_irrefl _)) (Heap.get?_push_of_some _ e)
    obtain ⟨t, rfl⟩ := hval _ v hP
    obtain ⟨h1, h2⟩ := argBest_lt (fun i => (ks.map (·.2)).getD i 0) (xs'.length - 1)
    have hI : Inv X pins σ H s' := by
      rw [Moved.eq_with hm]
      exact I.kept (t' := s'.toks) hk
    refine ⟨.int _, H, hI, ⟨t, rfl⟩, q _ ?_ fun a ha => ?_⟩
    · exact PySem.getD_mem (by rw [List.length_map]; omega)
    · obtain ⟨j, hj, rfl⟩ := mem_getD ha
      rw [List.length_map] at hj
      exact h2 j (by omega)
end
end L2

namespace L2
open PySem PySem.Spec PyProof.Rows SrtO SrtZ
/-! own rules: (int, text) < (int, text); sorted of a list of texts of any length -/
def ltNZ (i j : Int) (x y : Str) : Bool := if i = j then ltZ x y else decide (i < j)
section
variable {X : Cx}
def rLtNZ (K : PySem.W.Frag) : R2 := fun x y H Q => ∃ (a b : Addr) (i j : Int) (z w : Str), x = .ref a ∧ y = .ref b ∧ SqT K H a [.int i, .str z] ∧ SqT K H b [.int j, .str w] ∧ Q (.bl (ltNZ i j z w)) H
theorem op_ltNZ (hu : X.A.units < cLine) : OpR X (compareOp .Lt) (rLtNZ X.K) := by
  intro pins s σ H x y v u Q I rx ry h
  obtain ⟨a, b, i, j, z, w, rfl, rfl, ha, hb, q⟩ := h
  cases rx
  cases ry
  obtain ⟨its, r1, p1, _⟩ := I.tuple ha
  obtain ⟨its2, r2, p2, _⟩ := I.tuple hb
  obtain ⟨u1, u2, rfl, ri, rj⟩ := vals2 r1
  obtain ⟨w1, w2, rfl, si, sj⟩ := vals2 r2
  obtain ⟨t1, rfl⟩ := ri
  obtain ⟨t2, rfl⟩ := rj
  obtain ⟨t3, rfl⟩ := si
  obtain ⟨t4, rfl⟩ := sj
  have R := Ob.RcOp.tuples_lt (A := X.A) (s := s) (e := fun k => match k with | 0 => (i == j) | _ => (z == w)) (r := fun k => match k with | 0 => decide (i < j) | _ => ltZ z w) p1 p2 hu (fun k h1 h2 => by
    match k, h1, h2 with
    | 0, _, _ => exact SeqAt.EqAt.int_int _ _ _ _
    | 1, _, _ => exact SeqAt.EqAt.str_str _ _ _ _
    | k + 2, h1, _ => exact absurd h1 (by simp)) (fun k h1 h2 _ => by
    match k, h1, h2 with
    | 0, _, _ => exact Ob.RcOp.lt_int _ _ _ _
    | 1, _, _ => exact fun _ _ _ _ h => PyProof.Rows.lt_str h
    | k + 2, h1, _ => exact absurd h1 (by simp))
  have e : Ob.lexAt (fun k => match k with | 0 => (i == j) | _ => (z == w)) (fun k => match k with | 0 => decide (i < j) | _ => ltZ z w) (decide (2 < 2)) 0 2 = ltNZ i j z w := by
    unfold ltNZ
    rw [Ob.lexAt_succ, Ob.lexAt_succ, Ob.lexAt_zero]
    show (if (i == j) = true then (if (z == w) = true then decide (2 < 2) else ltZ z w) else decide (i < j)) = _
    by_cases h1 : i = j
    · rw [if_pos (beq_iff_eq.mpr h1), if_pos h1]
      by_cases h2 : z = w
      · rw [if_pos (by rw [h2]; exact beq_self_eq_true w), h2, ltZ_irr]
        rfl
      · rw [if_neg (fun q => h2 (eq_of_beq q))]
    · rw [if_neg (fun q => h1 (eq_of_beq q)), if_neg h1]
  have R' : Ob.RcOp .Lt X.A s (.ref a) (.ref b) (ltNZ i j z w) := by
    rw [← e]
    exact R
  exact R' X.prog X.w X.xe (EP X pins σ Q) ⟨.bl _, H, I, rfl, q⟩
/-- sorted(xs), xs a list of texts of any length -/
def rSortedSL (K : PySem.W.Frag) : List V → Hp → VK → Prop := fun vs H Q => ∃ (a : Addr) (xs : List Str), vs = [V.ref a] ∧ SqL K H a (xs.map V.str) ∧ ∀ (ys : List Str) (p : Addr), ys.Perm xs → Srtd ltZ ys → H p = none → Q (.ref p) (upd H p (.lst (ys.map V.str)))
theorem cr_sortedSL : CallR X (.builtin "sorted") (rSortedSL X.K) := by
  intro pins s σ H vs us Q I r h
  obtain ⟨a, xs, rfl, hs, q⟩ := h
  obtain ⟨its, rv, hl, hz⟩ := I.list hs
  obtain rfl := Vals.ref1 r
  have hI : StrsAre its xs := strs_of_vals rv
  rw [List.length_map] at hz
  have il : its.length = xs.length := hI.length
  refine SrtO.sorted_ord (ltv := ltSv) ⟨fun x y => swo_str.asym _ _, fun x y z => swo_str.tr _ _ _⟩ hl.isList (by rw [il]; exact hz) (fun h2 h₁ b hb kk => strs_sortable (s := { s with heap := h₁ }) hI h2) fun out h1 h2 => ?_
  obtain ⟨ep, he'⟩ := PyProof.Rows.sortedAll_at s.heap its out.toArray
  have isO : ∀ v ∈ out, ∃ x t, v = Value.str x t := fun v hv => hI.all v (h2.perm.mem_iff.mp hv)
  have hO := strsAre_map out isO
  have pt : (out.map strOf).Perm xs := by
    have := h2.perm.map strOf
    rwa [show its.map strOf = xs from hI.strs] at this
  have hlen : ((out.map strOf).map V.str).length ≤ sizeLine := by rw [List.length_map, pt.length_eq]; exact hz
  refine ⟨.ref _, upd H (s.heap.objs.size + 1) (.lst ((out.map strOf).map V.str)), I.laid (t' := s.toks) (fun _ _ => PyProof.Rows.sortedAll_old) (Nat.le_succ _) ⟨hlen, out, ep, vals_of_strs hO, he'⟩, rfl, q _ _ pt (srtd_map h1) (I.hok.fresh (Nat.le_succ _))⟩
end
end L2


namespace Kb
open PySem PySem.Spec PyProof.Rows L2
/-! the text -/
def topS (i : Nat) : Stmt := PySem.Challenge.pw_knownends_k00_errors_and_their_classes.main.body.getD i (.Pass ⟨0, 0, 0, 0⟩)
/-! facts -/
structure Dn (K : PySem.W.Frag) (mg : Str → Option Value) (nm : Str) (st : Stmt) (ps : List Str) where
  f : Addr
  fd : FuncData
  F : Fun K nm nm st f fd
  g : mg nm = some (.ref f)
  b : Binds K fd ps []
structure Cst (mg : Str → Option Value) (nm : Str) (v : V) where
  u : Value
  g : mg nm = some u
  r : RelV v u
structure Blt (mg : Str → Option Value) : Prop where
  n_len : mg "len" = none
  n_int : mg "int" = none
  n_abs : mg "abs" = none
  n_range : mg "range" = none
  n_isinstance : mg "isinstance" = none
  n_str : mg "str" = none
  n_all : mg "all" = none
  n_tuple : mg "tuple" = none
  n_bool : mg "bool" = none
  n_list : mg "list" = none
  n_dict : mg "dict" = none
  n_sum : mg "sum" = none
  n_min : mg "min" = none
  n_sorted : mg "sorted" = none
/-! heaps -/
theorem same_upd {H : Hp} {p : Addr} {o : HO} (h : H p = none) : Same H (upd H p o) := fun b x e => by
  rw [upd_ne (ne_of_none e h)]
  exact e
theorem Same.new {H H1 : Hp} {p : Addr} {o : HO} (x : Same H H1) (h : H1 p = none) : Same H (upd H1 p o) := fun b u e => same_upd h b u (x b u e)
theorem Same.gone {H H1 : Hp} {p : Addr} (x : Same H H1) (h : H1 p = none) : H p = none := by
  cases e : H p with
  | none => rfl
  | some o =>
    have := x _ _ e
    rw [h] at this
    cases this
/-- an object that was new is stored anew -/
theorem Same.put {H H1 : Hp} {p : Addr} {o : HO} (x : Same H H1) (h : H p = none) : Same H (upd H1 p o) := fun b u e => by
  rw [upd_ne (ne_of_none e h)]
  exact x b u e
theorem sql {K : PySem.W.Frag} {H : Hp} {a : Addr} {xs : List V} (h : H a = some (.lst xs)) : SqL K H a xs := .inl (.inl h)
theorem seqT {K : PySem.W.Frag} {H H' : Hp} {a : Addr} {xs : List V} (h : SqT K H a xs) (s : Same H H') : SqT K H' a xs := by
  rcases h with (h | ⟨o, h⟩) | h
  · exact .inl (.inl (s _ _ h))
  · exact .inl (.inr ⟨o, s _ _ h⟩)
  · exact .inr h
theorem tyT {K : PySem.W.Frag} {H : Hp} {a : Addr} {xs : List V} (h : SqT K H a xs) : TyX K H (.ref a) (.type "tuple") := by
  rcases h with (h | ⟨o, h⟩) | ⟨o, its, n, h, c, _⟩
  · exact .base (.tup h)
  · exact .fTuple h
  · exact .kTuple h c
/-- %, the rest as a letter -/
def rModB : R2 := fun x y H Q => ∃ i j, x = .int i ∧ y = .int j ∧ 0 < j ∧ ∀ m : Int, 0 ≤ m → m < j → m = i % j → Q (.int m) H
theorem op_modB {X : Cx} : OpR X (binaryOp .Mod) rModB := fun pins s σ H x y v u Q I rx ry h => by
  obtain ⟨i, j, e1, e2, hj, q⟩ := h
  exact op_mod pins s σ H x y v u Q I rx ry ⟨i, j, e1, e2, hj, q _ (Int.emod_nonneg _ (by omega)) (Int.emod_lt_of_pos _ hj) rfl⟩
theorem cmulR {i j : Int} (h1 : 0 ≤ j) (h2 : j < 10000000000) : CMul i j := .inr ⟨by omega, by omega⟩
theorem cmulL {i j : Int} (h1 : 0 ≤ i) (h2 : i < 10000000000) : CMul i j := .inl ⟨by omega, by omega⟩
/-! names -/
def cs (z : Str) : List Nat := z.cps.toList
theorem cs_len (z : Str) : (cs z).length = z.length := by simp [cs, Str.length]
theorem cs_inj {a b : Str} (h : cs a = cs b) : a = b := by
  cases a; cases b
  simp [cs] at h
  rw [h]
def nmC (c : Nat) : Bool := !decide (c < 97) && !decide (122 < c)
/-- a name -/
structure Nm (z : Str) : Prop where
  pos : 1 ≤ z.length
  len : z.length ≤ 8
  abc : ∀ c ∈ cs z, nmC c = true
theorem lt_one (a b : Nat) : decide ([a] < [b]) = decide (a < b) := by
  have : ([a] < [b]) ↔ a < b := by simp [List.cons_lt_cons_iff]
  by_cases h : a < b
  · rw [decide_eq_true h, decide_eq_true (this.mpr h)]
  · rw [decide_eq_false h, decide_eq_false (fun z => h (this.mp z))]
abbrev sP_is_int : Stmt := topS 31
abbrev NP_is_int : List Str := ["thing"]
theorem scP_is_int : FnScope ["thing"] ["thing"] (defScope sP_is_int) := ⟨rfl, rfl, rfl, by decide +kernel, rfl, by decide +kernel, by decide +kernel⟩
abbrev sP_is_number : Stmt := topS 32
abbrev NP_is_number : List Str := ["thing"]
theorem scP_is_number : FnScope ["thing"] ["thing"] (defScope sP_is_number) := ⟨rfl, rfl, rfl, by decide +kernel, rfl, by decide +kernel, by decide +kernel⟩
abbrev sP_is_room : Stmt := topS 33
abbrev NP_is_room : List Str := ["thing"]
theorem scP_is_room : FnScope ["thing"] ["thing"] (defScope sP_is_room) := ⟨rfl, rfl, rfl, by decide +kernel, rfl, by decide +kernel, by decide +kernel⟩
abbrev sP_is_name : Stmt := topS 38
abbrev NP_is_name : List Str := ["thing", "letter"]
theorem scP_is_name : FnScope ["thing", "letter"] ["thing"] (defScope sP_is_name) := ⟨rfl, rfl, rfl, by decide +kernel, rfl, by decide +kernel, by decide +kernel⟩
abbrev NP_is_stream : List Str := ["thing", "item"]
abbrev DnIsInt (K : PySem.W.Frag) (mg : Str → Option Value) := Dn K mg "is_int" sP_is_int ["thing"]
abbrev DnIsNumber (K : PySem.W.Frag) (mg : Str → Option Value) := Dn K mg "is_number" sP_is_number ["thing"]
abbrev DnIsRoom (K : PySem.W.Frag) (mg : Str → Option Value) := Dn K mg "is_room" sP_is_room ["thing"]
abbrev DnIsName (K : PySem.W.Frag) (mg : Str → Option Value) := Dn K mg "is_name" sP_is_name ["thing"]
section
variable {P : Program} {w : World} {K : PySem.W.Frag} {mg : Str → Option Value} {base : Heap}
/-! is_int, of ints -/
def spIsInt : Sp := fun vs H Q _ => ∃ i : Int, vs = [.int i] ∧ Q (.bl true) H
theorem ok_is_int (T : Blt mg) (d : DnIsInt K mg) : FnOk P w K mg base CX0 1 d.f d.fd ["thing"] spIsInt := by
  refine d.F.ok scP_is_int (fun vs H Q E h => ?_) (fun cdv A outer s H vs Q E hr h => ?_)
  · obtain ⟨i, rfl, _⟩ := h
    rfl
  · obtain ⟨i, rfl, q⟩ := h
    refine ⟨_, (pss_one (ps_ret (pe_and (pe_callB call_isi (by rfl) T.n_isinstance (by decide +kernel) (pa_cons (pv 0) (pa_cons (pe_bltn (v := .ty "int") (by rfl) T.n_int (by decide +kernel) rfl) pa_nil))) (pe_one (pe_not (pe_callB call_isi (by rfl) T.n_isinstance (by decide +kernel) (pa_cons (pv 0) (pa_cons (pe_bltn (v := .ty "bool") (by rfl) T.n_bool (by decide +kernel) rfl) pa_nil)))))))), ?_⟩
    refine ⟨.int i, rfl, .int i, _, _, _, true, rfl, .ty "int", .base (.int i), kit_ty (by decide +kernel), true, rfl, iteT ?_⟩
    exact ⟨.int i, rfl, .int i, _, _, _, false, rfl, .ty "bool", .base (.int i), kit_ty (by decide +kernel), false, rfl, q⟩
/-! is_number, of ints -/
def spIsNumber : Sp := fun vs H Q _ => ∃ i : Int, vs = [.int i] ∧ Q (.bl (decide (0 ≤ i))) H
theorem ok_is_number (T : Blt mg) (dP_is_int : DnIsInt K mg) (d : DnIsNumber K mg) : FnOk P w K mg base CX0 2 d.f d.fd ["thing"] spIsNumber := by
  have GP_is_int : FnOk P w K mg base CX0 1 dP_is_int.f dP_is_int.fd ["thing"] spIsInt := ok_is_int T dP_is_int
  refine d.F.ok scP_is_number (fun vs H Q E h => ?_) (fun cdv A outer s H vs Q E hr h => ?_)
  · obtain ⟨i, rfl, _⟩ := h
    rfl
  · obtain ⟨i, rfl, q⟩ := h
    refine ⟨_, (pss_one (ps_ret (pe_and (pe_call GP_is_int (hr.mono (by omega)) (by rfl) dP_is_int.g dP_is_int.F.kp dP_is_int.b .nil pass0 (pa_cons (pv 0) pa_nil)) (pe_one (pe_cmpR op_ge (pv 0) pe_int (nomark _)))))), ?_⟩
    exact ⟨.int i, rfl, i, rfl, true, rfl, iteT ⟨.int i, rfl, _, _, rfl, rfl, q⟩⟩
/-! is_room, of ints -/
def spIsRoom : Sp := fun vs H Q _ => ∃ i : Int, vs = [.int i] ∧ Q (.bl (decide (1 ≤ i) && decide (i ≤ 64))) H
theorem ok_is_room (T : Blt mg) (cM : Cst mg "MOST_ROOM" (.int 64)) (dP_is_int : DnIsInt K mg) (d : DnIsRoom K mg) : FnOk P w K mg base CX0 2 d.f d.fd ["thing"] spIsRoom := by
  have GP_is_int : FnOk P w K mg base CX0 1 dP_is_int.f dP_is_int.fd ["thing"] spIsInt := ok_is_int T dP_is_int
  refine d.F.ok scP_is_room (fun vs H Q E h => ?_) (fun cdv A outer s H vs Q E hr h => ?_)
  · obtain ⟨i, rfl, _⟩ := h
    rfl
  · obtain ⟨i, rfl, q⟩ := h
    refine ⟨_, (pss_one (ps_ret (pe_and (pe_call GP_is_int (hr.mono (by omega)) (by rfl) dP_is_int.g dP_is_int.F.kp dP_is_int.b .nil pass0 (pa_cons (pv 0) pa_nil)) (pe_one (pe_chain op_le op_le pe_int (pv 0) (pe_glob rfl cM.g cM.r)))))), ?_⟩
    refine ⟨.int i, rfl, i, rfl, true, rfl, iteT ⟨.int i, rfl, _, _, rfl, rfl, decide (1 ≤ i), rfl, ite2 (fun e => ⟨_, _, rfl, rfl, ?_⟩) (fun e => ?_)⟩⟩
    · rw [e, Bool.true_and] at q
      exact q
    · rw [show decide (1 ≤ i) = false from by simpa using e, Bool.false_and] at q
      exact q
/-! is_name, of names -/
def spIsName : Sp := fun vs H Q _ => ∃ z : Str, vs = [.str z] ∧ Nm z ∧ ∀ H', Same H H' → Q (.bl true) H'
theorem ok_is_name (T : Blt mg) (cL : Cst mg "LONGEST_NAME" (.int 8)) (d : DnIsName K mg) : FnOk P w K mg base CX0 1 d.f d.fd ["thing"] spIsName := by
  refine d.F.ok scP_is_name (fun vs H Q E h => ?_) (fun cdv A outer s H vs Q E hr h => ?_)
  · obtain ⟨z, rfl, _⟩ := h
    rfl
  · obtain ⟨z, rfl, nm, q⟩ := h
    refine ⟨_, (pss_cons (ps_if (PW.pt (pw_or (pt_not (pt_val (pe_callB call_isi (by rfl) T.n_isinstance (by decide +kernel) (pa_cons (pv 0) (pa_cons (pe_bltn (v := .ty "str") (by rfl) T.n_str (by decide +kernel) rfl) pa_nil))))) (pw_or1 (pt_not (pt_chain op_le op_le pe_int (pe_callB call_len_str (by rfl) T.n_len (by decide +kernel) (pa_cons (pv 0) pa_nil)) (pe_glob rfl cL.g cL.r))))))
      (pss_one (ps_ret pe_bl))
      pss_nil)
    (pss_one (ps_ret (pe_callB (cr_all rfl) (by rfl) T.n_all (by decide +kernel) (pa_cons (pe_lc (own := [("letter", 1)]) (g := gName 1) (tt := tYes) rfl scP_is_name.nd (pi_str (pv 0)) (blkOk_by (N := NP_is_name) (sc := defScope sP_is_name) (by decide +kernel)) (fun _ _ _ _ _ => pg_name (i := 1) scP_is_name.nd rfl (Or.inl rfl)) (fun _ _ _ _ _ => pts_nil) (fun _ _ _ _ _ => (pe_chain op_le_str op_le_str pe_str (pv 1) pe_str))) pa_nil))))), ?_⟩
    have h1 : decide ((1 : Int) ≤ (z.length : Int)) = true := decide_eq_true (by have := nm.pos; omega)
    have h8 : decide ((z.length : Int) ≤ 8) = true := decide_eq_true (by have := nm.len; omega)
    refine ⟨.str z, rfl, .str z, _, _, _, true, rfl, .ty "str", .base (.str z), kit_ty (by decide +kernel), true, rfl, iteF ?_⟩
    refine ⟨.str z, rfl, z, rfl, (by rw [sizeLine_eq]; have := nm.len; omega), _, _, rfl, rfl, true, congrArg V.bl h1, iteT ⟨_, _, rfl, rfl, true, congrArg V.bl h8, iteF ?_⟩⟩
    refine ⟨.str z, rfl, z, rfl, fun D nD => ?_⟩
    refine lc_it walk_str (fun i H3 => Same H H3 ∧ H3 D = some (.lst (((cs z).take i).map fun c => V.bl true))) ⟨same_upd nD, upd_same⟩ (fun _ _ _ _ => trivial) (fun i x H3 H4 hi h3 y => ?_) (fun H3 h3 => ?_)
    · obtain ⟨rfl, c, hc, rfl⟩ := y
      have hc2 : (cs z)[i]? = some c := by
        rw [← hc]
        simp [cs]
      have hcn := nm.abc c (List.mem_of_getElem? hc2)
      unfold nmC at hcn
      have ha : (!decide (c < 97)) = true := by cases h : (!decide (c < 97)) <;> simp_all
      have hz : (!decide (122 < c)) = true := by rw [ha, Bool.true_and] at hcn; exact hcn
      refine ⟨rfl, .str ⟨#[c]⟩, rfl, _, _, rfl, rfl, true, ?_, iteT ⟨_, _, rfl, rfl, ?_⟩⟩
      · show V.bl (!decide ([c] < (Str.ofString "a").cps.toList)) = _
        rw [show (Str.ofString "a").cps.toList = [97] by decide +kernel, lt_one, ha]
      · rw [show (!decide ((Str.ofString "z").cps.toList < [c])) = true by
          rw [show (Str.ofString "z").cps.toList = [122] by decide +kernel, lt_one, hz]]
        refine ⟨_, h3.2, ?_, fun b o e => ?_, ?_⟩
        · rw [List.length_map, List.length_take, sizeLine_eq]
          have := cs_len z
          have := nm.len
          omega
        · rw [upd_ne (ne_of_none e nD)]
          exact h3.1 b o e
        · rw [upd_same, List.take_add_one, hc2, List.map_append]
          rfl
    · refine ⟨D, (cs z).map fun _ => true, rfl, sql ?_, ?_⟩
      · rw [h3.2, List.map_map]
        rw [List.take_of_length_le (by
          show (cs z).length ≤ z.cps.size
          simp [cs])]
        rfl
      · rw [show (((cs z).map fun _ => true).all id) = true by simp]
        exact q H3 h3.1
/-! is_stream, of tuples of names -/
def spIsStream (K : PySem.W.Frag) : Sp := fun vs H Q _ => ∃ (a : Addr) (zs : List Str), vs = [.ref a] ∧ SqT K H a (zs.map V.str) ∧ (∀ z ∈ zs, Nm z) ∧ zs.length ≤ 100000 ∧ ∀ H', Same H H' → Q (.bl true) H'
end
end Kb


namespace Kb
open PySem PySem.Spec PyProof.Rows L2
abbrev NP_is_tree : List Str := ["thing"]
abbrev NP_is_tree_of : List Str := ["thing", "word", "is_right", "many", "height", "step"]
abbrev NP_is_put : List Str := ["step", "word"]
abbrev NP_is_pour : List Str := ["step"]
/-! trees -/
inductive Stp
  | put (zs : List Str)
  | pour
def StpAt (K : PySem.W.Frag) (H : Hp) (v : V) : Stp → Prop
  | .put zs => ∃ a b, v = .ref a ∧ SqT K H a [.str (Str.ofString "stream"), .ref b] ∧ SqT K H b (zs.map V.str) ∧ (∀ z ∈ zs, Nm z) ∧ zs.length ≤ 100000
  | .pour => ∃ a, v = .ref a ∧ SqT K H a [.str (Str.ofString "pour")]
theorem StpAt.same {K : PySem.W.Frag} {H H' : Hp} {v : V} {t : Stp} (h : StpAt K H v t) (s : Same H H') : StpAt K H' v t := by
  cases t with
  | put zs =>
    obtain ⟨a, b, e, h1, h2, r⟩ := h
    exact ⟨a, b, e, seqT h1 s, seqT h2 s, r⟩
  | pour =>
    obtain ⟨a, e, h1⟩ := h
    exact ⟨a, e, seqT h1 s⟩
def hS (h : Int) : Stp → Int
  | .put _ => h + 1
  | .pour => h - 1
def cS (m : Int) : Stp → Int
  | .put zs => m + (zs.length : Nat)
  | .pour => m
def hgt (l : List Stp) : Int := l.foldl hS 0
def mny (l : List Stp) : Int := l.foldl cS 0
structure Tree (l : List Stp) : Prop where
  two : ∀ i, l[i]? = some .pour → 2 ≤ hgt (l.take i)
  one : hgt l = 1
  few : mny l ≤ 50000
  len : l.length ≤ 5000
theorem hgt_snoc {l : List Stp} {i : Nat} {t : Stp} (h : l[i]? = some t) : hgt (l.take (i + 1)) = hS (hgt (l.take i)) t := by
  unfold hgt
  rw [List.take_add_one, h, List.foldl_append]
  rfl
theorem mny_snoc {l : List Stp} {i : Nat} {t : Stp} (h : l[i]? = some t) : mny (l.take (i + 1)) = cS (mny (l.take i)) t := by
  unfold mny
  rw [List.take_add_one, h, List.foldl_append]
  rfl
def TreeAt (K : PySem.W.Frag) (H : Hp) (a : Addr) (l : List Stp) : Prop := ∃ vs, SqT K H a vs ∧ Paired (StpAt K H) vs l
theorem paired_same {K : PySem.W.Frag} {H H' : Hp} (s : Same H H') : ∀ {vs : List V} {l : List Stp}, Paired (StpAt K H) vs l → Paired (StpAt K H') vs l
  | _, _, .nil => .nil
  | _, _, .cons h t => .cons (h.same s) (paired_same s t)
theorem TreeAt.same {K : PySem.W.Frag} {H H' : Hp} {a : Addr} {l : List Stp} (h : TreeAt K H a l) (s : Same H H') : TreeAt K H' a l := by
  obtain ⟨vs, h1, h2⟩ := h
  exact ⟨vs, seqT h1 s, paired_same s h2⟩
theorem stream_ne : ¬ (V.str (Str.ofString "pour") = V.str (Str.ofString "stream")) := by decide +kernel
section
variable {P : Program} {w : World} {K : PySem.W.Frag} {mg : Str → Option Value} {base : Heap}
/-! _is_put -/
def isPut : Stp → Bool
  | .put _ => true
  | .pour => false
def spIsPut (K : PySem.W.Frag) : Sp := fun vs H Q _ => ∃ (v : V) (t : Stp), vs = [v, .str (Str.ofString "stream")] ∧ StpAt K H v t ∧ Q (.bl (isPut t)) H
/-! _is_pour -/
def spIsPour (K : PySem.W.Frag) : Sp := fun vs H Q _ => ∃ v : V, vs = [v] ∧ StpAt K H v .pour ∧ Q (.bl true) H
/-! is_tree_of, is_tree -/
theorem paired_at {α β : Type} {F : α → β → Prop} : ∀ {xs : List α} {ys : List β}, Paired F xs ys → ∀ {i : Nat} {x : α}, xs[i]? = some x → ∃ y, ys[i]? = some y ∧ F x y := LiI.paired_get
def spIsTreeOf (K : PySem.W.Frag) (g : Addr) : Sp := fun vs H Q _ => ∃ (a : Addr) (l : List Stp), vs = [.ref a, .str (Str.ofString "stream"), .ref g] ∧ TreeAt K H a l ∧ Tree l ∧ ∀ H', Same H H' → Q (.bl true) H'
def spIsTree (K : PySem.W.Frag) : Sp := fun vs H Q _ => ∃ (a : Addr) (l : List Stp), vs = [.ref a] ∧ TreeAt K H a l ∧ Tree l ∧ ∀ H', Same H H' → Q (.bl true) H'
end
end Kb


namespace Kb
open PySem PySem.Spec PyProof.Rows L2 SrtZ
abbrev sP_are_counts : Stmt := topS 44
abbrev NP_are_counts : List Str := ["thing", "last", "pair"]
theorem scP_are_counts : FnScope ["thing", "last", "pair"] ["thing"] (defScope sP_are_counts) := ⟨rfl, rfl, rfl, by decide +kernel, rfl, by decide +kernel, by decide +kernel⟩
abbrev sP_is_counted : Stmt := topS 45
abbrev NP_is_counted : List Str := ["pair"]
theorem scP_is_counted : FnScope ["pair"] ["pair"] (defScope sP_is_counted) := ⟨rfl, rfl, rfl, by decide +kernel, rfl, by decide +kernel, by decide +kernel⟩
abbrev sP_lost_of : Stmt := topS 50
abbrev NP_lost_of : List Str := ["sketch", "_", "count"]
theorem scP_lost_of : FnScope ["sketch", "_", "count"] ["sketch"] (defScope sP_lost_of) := ⟨rfl, rfl, rfl, by decide +kernel, rfl, by decide +kernel, by decide +kernel⟩
abbrev sP_is_sketch : Stmt := topS 51
abbrev NP_is_sketch : List Str := ["thing", "room", "many", "off", "kept"]
theorem scP_is_sketch : FnScope ["thing", "room", "many", "off", "kept"] ["thing"] (defScope sP_is_sketch) := ⟨rfl, rfl, rfl, by decide +kernel, rfl, by decide +kernel, by decide +kernel⟩
abbrev sP_bare : Stmt := topS 52
abbrev NP_bare : List Str := ["room"]
theorem scP_bare : FnScope ["room"] ["room"] (defScope sP_bare) := ⟨rfl, rfl, rfl, by decide +kernel, rfl, by decide +kernel, by decide +kernel⟩
abbrev DnAreCounts (K : PySem.W.Frag) (mg : Str → Option Value) := Dn K mg "are_counts" sP_are_counts ["thing"]
abbrev DnIsCounted (K : PySem.W.Frag) (mg : Str → Option Value) := Dn K mg "_is_counted" sP_is_counted ["pair"]
abbrev DnLostOf (K : PySem.W.Frag) (mg : Str → Option Value) := Dn K mg "lost_of" sP_lost_of ["sketch"]
abbrev DnIsSketch (K : PySem.W.Frag) (mg : Str → Option Value) := Dn K mg "is_sketch" sP_is_sketch ["thing"]
abbrev DnBare (K : PySem.W.Frag) (mg : Str → Option Value) := Dn K mg "bare" sP_bare ["room"]
/-! counts -/
abbrev Ct := List (Str × Int)
def PrAt (K : PySem.W.Frag) (H : Hp) (t : Addr) (e : Str × Int) : Prop := SqT K H t [.str e.1, .int e.2]
/-- the tuple at k holds these pairs -/
def CtAt (K : PySem.W.Frag) (H : Hp) (k : Addr) (kvs : Ct) : Prop := ∃ ts : List Addr, SqT K H k (ts.map V.ref) ∧ Paired (PrAt K H) ts kvs
theorem prs_same {K : PySem.W.Frag} {H H' : Hp} (s : Same H H') : ∀ {ts : List Addr} {kvs : Ct}, Paired (PrAt K H) ts kvs → Paired (PrAt K H') ts kvs
  | _, _, .nil => .nil
  | _, _, .cons h t => .cons (seqT h s) (prs_same s t)
theorem CtAt.same {K : PySem.W.Frag} {H H' : Hp} {k : Addr} {kvs : Ct} (h : CtAt K H k kvs) (s : Same H H') : CtAt K H' k kvs := by
  obtain ⟨ts, h1, h2⟩ := h
  exact ⟨ts, seqT h1 s, prs_same s h2⟩
structure Cts (kvs : Ct) : Prop where
  nm : ∀ e ∈ kvs, Nm e.1
  pos : ∀ e ∈ kvs, 1 ≤ e.2
  asc : kvs.Pairwise fun a b => ltZ a.1 b.1 = true
def sumC (kvs : Ct) : Int := (kvs.map (·.2)).sum
theorem map_at {α β : Type} {f : α → β} {xs : List α} {i : Nat} {y : β} (h : (xs.map f)[i]? = some y) : ∃ x, xs[i]? = some x ∧ y = f x := by
  rw [List.getElem?_map] at h
  cases e : xs[i]? with
  | none => rw [e] at h; cases h
  | some x => rw [e] at h; exact ⟨x, rfl, (Option.some.inj h).symm⟩
section
variable {P : Program} {w : World} {K : PySem.W.Frag} {mg : Str → Option Value} {base : Heap}
/-! _is_counted -/
def spIsCounted (K : PySem.W.Frag) : Sp := fun vs H Q _ => ∃ (t : Addr) (e : Str × Int), vs = [.ref t] ∧ PrAt K H t e ∧ Nm e.1 ∧ 1 ≤ e.2 ∧ ∀ H', Same H H' → Q (.bl true) H'
theorem ok_is_counted (T : Blt mg) (cL : Cst mg "LONGEST_NAME" (.int 8)) (dP_is_int : DnIsInt K mg) (dP_is_name : DnIsName K mg) (d : DnIsCounted K mg) : FnOk P w K mg base CX0 2 d.f d.fd ["pair"] (spIsCounted K) := by
  have GP_is_int : FnOk P w K mg base CX0 1 dP_is_int.f dP_is_int.fd ["thing"] spIsInt := ok_is_int T dP_is_int
  have GP_is_name : FnOk P w K mg base CX0 1 dP_is_name.f dP_is_name.fd ["thing"] spIsName := ok_is_name T cL dP_is_name
  refine d.F.ok scP_is_counted (fun vs H Q E h => ?_) (fun cdv A outer s H vs Q E hr h => ?_)
  · obtain ⟨t, e, rfl, _⟩ := h
    rfl
  · obtain ⟨t, e, rfl, hp, hn, h1, q⟩ := h
    refine ⟨_, (pss_cons (ps_if (PW.pt (pw_or (pt_not (pt_val (pe_callB call_isi (by rfl) T.n_isinstance (by decide +kernel) (pa_cons (pv 0) (pa_cons (pe_bltn (v := .ty "tuple") (by rfl) T.n_tuple (by decide +kernel) rfl) pa_nil))))) (pw_or1 (pt_cmpR op_ne (pe_callB call_len_seq (by rfl) T.n_len (by decide +kernel) (pa_cons (pv 0) pa_nil)) pe_int (nomark _)))))
      (pss_one (ps_ret pe_bl))
      pss_nil)
    (pss_one (ps_ret (pe_and (pe_call GP_is_name (hr.mono (by omega)) (by rfl) dP_is_name.g dP_is_name.F.kp dP_is_name.b .nil pass0 (pa_cons (pe_ix ix_tup (pv 0) pe_int (fun _ _ => rfl)) pa_nil)) (pe_and (pe_call GP_is_int (hr.mono (by omega)) (by rfl) dP_is_int.g dP_is_int.F.kp dP_is_int.b .nil pass0 (pa_cons (pe_ix ix_tup (pv 0) pe_int (fun _ _ => rfl)) pa_nil)) (pe_one (pe_cmpR op_ge (pe_ix ix_tup (pv 0) pe_int (fun _ _ => rfl)) pe_int (nomark _)))))))), ?_⟩
    refine ⟨.ref t, rfl, .ref t, _, _, _, true, rfl, .ty "tuple", tyT hp, kit_ty (by decide +kernel), true, rfl, iteF ?_⟩
    refine ⟨.ref t, rfl, t, _, rfl, .inr hp, rfl, false, rfl, iteF ?_⟩
    refine ⟨.ref t, rfl, t, _, _, _, rfl, rfl, hp, atI_nat (j := 0) rfl, e.1, rfl, hn, fun H1 s1 => ⟨true, rfl, iteT ?_⟩⟩
    have hp1 : PrAt K H1 t e := seqT hp s1
    refine ⟨.ref t, rfl, t, _, _, _, rfl, rfl, hp1, atI_nat (j := 1) rfl, e.2, rfl, true, rfl, iteT ?_⟩
    refine ⟨.ref t, rfl, t, _, _, _, rfl, rfl, hp1, atI_nat (j := 1) rfl, _, _, rfl, rfl, ?_⟩
    show Q (.bl (decide (1 ≤ e.2))) H1
    rw [decide_eq_true h1]
    exact q H1 s1
/-! are_counts -/
def spAreCounts (K : PySem.W.Frag) : Sp := fun vs H Q _ => ∃ (k : Addr) (kvs : Ct), vs = [.ref k] ∧ CtAt K H k kvs ∧ Cts kvs ∧ ∀ H', Same H H' → Q (.bl true) H'
theorem ok_are_counts (T : Blt mg) (cL : Cst mg "LONGEST_NAME" (.int 8)) (dP_is_int : DnIsInt K mg) (dP_is_name : DnIsName K mg) (dP_is_counted : DnIsCounted K mg) (d : DnAreCounts K mg) : FnOk P w K mg base CX0 3 d.f d.fd ["thing"] (spAreCounts K) := by
  have GP_is_counted : FnOk P w K mg base CX0 2 dP_is_counted.f dP_is_counted.fd ["pair"] (spIsCounted K) := ok_is_counted T cL dP_is_int dP_is_name dP_is_counted
  refine d.F.ok scP_are_counts (fun vs H Q E h => ?_) (fun cdv A outer s H vs Q E hr h => ?_)
  · obtain ⟨k, kvs, rfl, _⟩ := h
    rfl
  · obtain ⟨k, kvs, rfl, ⟨ts, hS, hp⟩, hc, q⟩ := h
    refine ⟨_, (pss_cons (ps_if (pt_not (pt_val (pe_callB call_isi (by rfl) T.n_isinstance (by decide +kernel) (pa_cons (pv 0) (pa_cons (pe_bltn (v := .ty "tuple") (by rfl) T.n_tuple (by decide +kernel) rfl) pa_nil)))))
      (pss_one (ps_ret pe_bl))
      pss_nil)
    (pss_cons (ps_set (i := 1) scP_are_counts.nd rfl (Or.inl rfl) pe_str)
    (pss_cons (ps_for PassesOwn.never rfl (pi_tup (pv 0)) (pg_name (i := 2) scP_are_counts.nd rfl (Or.inl rfl))
      (pss_cons (ps_if (PW.pt (pw_or (pt_not (pt_val (pe_call GP_is_counted (hr.mono (by omega)) (by rfl) dP_is_counted.g dP_is_counted.F.kp dP_is_counted.b .nil pass0 (pa_cons (pv 2) pa_nil)))) (pw_or1 (pt_cmpR op_le_str (pe_ix ix_tup (pv 2) pe_int (fun _ _ => rfl)) (pv 1) (nomark _)))))
        (pss_one (ps_ret pe_bl))
        pss_nil)
      (pss_one (ps_set (i := 1) scP_are_counts.nd rfl (Or.inl rfl) (pe_ix ix_tup (pv 2) pe_int (fun _ _ => rfl))))))
    (pss_one (ps_ret pe_bl))))), ?_⟩
    refine ⟨.ref k, rfl, .ref k, _, _, _, true, rfl, .ty "tuple", tyT hS, kit_ty (by decide +kernel), true, rfl, iteF ?_⟩
    refine ⟨.ref k, rfl, k, rfl, ⟨_, hS⟩, for_tup (xs := ts.map V.ref) (fun i σ H3 => ∃ (la : Str) (x : Option V), σ = [some (.ref k), some (.str la), x] ∧ Same H H3 ∧ (i = 0 → la = Str.ofString "") ∧ ∀ j e, i = j + 1 → kvs[j]? = some e → la = e.1)
      ⟨Str.ofString "", none, rfl, Same.refl H, fun _ => rfl, fun j e h => by omega⟩ (fun i σ H3 _ ⟨_, _, _, s3, _⟩ => seqT hS s3) ?_ ?_⟩
    · rintro i v σ H3 hi ⟨la, x, rfl, s3, e0, e1⟩
      obtain ⟨t, ht, rfl⟩ := map_at hi
      obtain ⟨e, he, hat⟩ := paired_at hp ht
      have hm := List.mem_of_getElem? he
      refine ⟨.ref t, rfl, t, e, rfl, seqT hat s3, hc.nm e hm, hc.pos e hm, fun H4 s4 => ⟨true, rfl, iteF ?_⟩⟩
      have hat4 : PrAt K H4 t e := seqT hat fun b o z => s4 b o (s3 b o z)
      have hlt : decide (la.cps.toList < e.1.cps.toList) = true := by
        cases i with
        | zero =>
          rw [e0 rfl]
          have h1 := (hc.nm e hm).pos
          have : (Str.ofString "").cps.toList = [] := by decide +kernel
          rw [this]
          refine decide_eq_true ?_
          cases hz : e.1.cps.toList with
          | nil =>
            have : e.1.length = 0 := by rw [← cs_len]; unfold cs; rw [hz]; rfl
            omega
          | cons c r => exact List.nil_lt_cons c r
        | succ j =>
          obtain ⟨e', he'⟩ : ∃ e', kvs[j]? = some e' := ⟨kvs[j]'(by have := (List.getElem?_eq_some_iff.mp he).1; omega), by simp⟩
          rw [e1 j e' rfl he']
          exact (List.pairwise_iff_getElem.mp hc.asc) j (j + 1) (List.getElem?_eq_some_iff.mp he').1 (List.getElem?_eq_some_iff.mp he).1 (by omega) |> fun h => by
            rw [(List.getElem?_eq_some_iff.mp he').2, (List.getElem?_eq_some_iff.mp he).2] at h
            exact h
      refine ⟨.ref t, rfl, t, _, _, _, rfl, rfl, hat4, atI_nat (j := 0) rfl, .str la, rfl, _, _, rfl, rfl, false, ?_, iteF ?_⟩
      · show V.bl (!decide (la.cps.toList < e.1.cps.toList)) = _
        rw [hlt]
        rfl
      refine ⟨.ref t, rfl, t, _, _, _, rfl, rfl, hat4, atI_nat (j := 0) rfl, e.1, some (.ref t), rfl, fun b o z => s4 b o (s3 b o z), fun h => by omega, fun j e' h1 h2 => ?_⟩
      have : j = i := by omega
      subst this
      rw [he] at h2
      cases h2
      rfl
    · rintro σ H3 ⟨la, x, rfl, s3, _⟩
      exact q H3 s3
/-! lost_of -/
def spLostOf (K : PySem.W.Frag) : Sp := fun vs H Q _ => ∃ (s k : Addr) (room many off : Int) (kvs : Ct), vs = [.ref s] ∧ SqT K H s [.int room, .int many, .int off, .ref k] ∧ CtAt K H k kvs ∧ kvs.length ≤ 1000 ∧ ∀ H', Same H H' → Q (.int (many - sumC kvs)) H'
theorem ok_lost_of (T : Blt mg) (d : DnLostOf K mg) : FnOk P w K mg base CX0 1 d.f d.fd ["sketch"] (spLostOf K) := by
  refine d.F.ok scP_lost_of (fun vs H Q E h => ?_) (fun cdv A outer s H vs Q E hr h => ?_)
  · obtain ⟨s, k, _, _, _, _, rfl, _⟩ := h
    rfl
  · obtain ⟨s, k, room, many, off, kvs, rfl, hs, ⟨ts, hS, hp⟩, hl, q⟩ := h
    refine ⟨_, (pss_one (ps_ret (pe_op op_sub (pe_ix ix_tup (pv 0) pe_int (fun _ _ => rfl)) (pe_callB (cr_sum rfl) (by rfl) T.n_sum (by decide +kernel) (pa_cons (pe_lc (own := [("_", 1), ("count", 2)]) (g := gTup K 2 (gCons (gName 1) (gCons (gName 2) gNil))) (tt := tYes) rfl scP_lost_of.nd (pi_tup (pe_ix ix_tup (pv 0) pe_int (fun _ _ => rfl))) (blkOk_by (N := NP_lost_of) (sc := defScope sP_lost_of) (by decide +kernel)) (fun _ _ _ _ _ => pg_tup (by rfl) (pgs_cons (pg_name (i := 1) scP_lost_of.nd rfl (Or.inl rfl)) (pgs_cons (pg_name (i := 2) scP_lost_of.nd rfl (Or.inl rfl)) pgs_nil))) (fun _ _ _ _ _ => pts_nil) (fun _ _ _ _ _ => (pv 2))) pa_nil))))), ?_⟩
    refine ⟨.ref s, rfl, s, _, _, _, rfl, rfl, hs, atI_nat (j := 1) rfl, .ref s, rfl, s, _, _, _, rfl, rfl, hs, atI_nat (j := 3) rfl, k, rfl, ⟨_, hS⟩, fun D nD => lc_tup (xs := ts.map V.ref) (fun i H3 => Same H H3 ∧ H3 D = some (.lst ((kvs.take i).map fun e => V.int e.2))) ⟨same_upd nD, upd_same⟩ (fun i H3 _ h3 => seqT hS h3.1) (fun i x H3 hx h3 => ?_) (fun H3 h3 => ?_)⟩
    · obtain ⟨t, ht, rfl⟩ := map_at hx
      obtain ⟨e, he, hat⟩ := paired_at hp ht
      refine ⟨t, _, rfl, seqT hat h3.1, rfl, _, _, rfl, _, _, rfl, rfl, rfl, .int e.2, rfl, _, h3.2, ?_, fun b o z => ?_, ?_⟩
      · rw [List.length_map, List.length_take, sizeLine_eq]
        omega
      · rw [upd_ne (ne_of_none z nD)]
        exact h3.1 b o z
      · rw [upd_same, List.take_add_one, he, List.map_append]
        rfl
    · refine ⟨D, kvs.map (fun e : Str × Int => e.2), rfl, sql ?_, _, _, rfl, rfl, q H3 h3.1⟩
      rw [h3.2, List.length_map, Paired.length hp, List.take_length, List.map_map]
      rfl
/-! is_sketch -/
def skB (room many off : Int) (kvs : Ct) : Bool :=
  (decide (1 ≤ room) && decide (room ≤ 64)) && (decide (0 ≤ many) && (decide (0 ≤ off) && (decide ((kvs.length : Int) ≤ room) && (decide ((room + 1) * off ≤ many - sumC kvs) && decide (many - sumC kvs ≤ 2 * room * off)))))
def spIsSketch (K : PySem.W.Frag) : Sp := fun vs H Q _ => ∃ (s k : Addr) (room many off : Int) (kvs : Ct), vs = [.ref s] ∧ SqT K H s [.int room, .int many, .int off, .ref k] ∧ CtAt K H k kvs ∧ Cts kvs ∧ kvs.length ≤ 1000 ∧ ∀ H', Same H H' → Q (.bl (skB room many off kvs)) H'
theorem ok_is_sketch (T : Blt mg) (cM : Cst mg "MOST_ROOM" (.int 64)) (cL : Cst mg "LONGEST_NAME" (.int 8)) (dP_is_int : DnIsInt K mg) (dP_is_number : DnIsNumber K mg) (dP_is_room : DnIsRoom K mg) (dP_is_name : DnIsName K mg) (dP_is_counted : DnIsCounted K mg) (dP_are_counts : DnAreCounts K mg)
    (dP_lost_of : DnLostOf K mg) (d : DnIsSketch K mg) : FnOk P w K mg base CX0 4 d.f d.fd ["thing"] (spIsSketch K) := by
  have GP_is_room : FnOk P w K mg base CX0 2 dP_is_room.f dP_is_room.fd ["thing"] spIsRoom := ok_is_room T cM dP_is_int dP_is_room
  have GP_is_number : FnOk P w K mg base CX0 2 dP_is_number.f dP_is_number.fd ["thing"] spIsNumber := ok_is_number T dP_is_int dP_is_number
  have GP_are_counts : FnOk P w K mg base CX0 3 dP_are_counts.f dP_are_counts.fd ["thing"] (spAreCounts K) := ok_are_counts T cL dP_is_int dP_is_name dP_is_counted dP_are_counts
  have GP_lost_of : FnOk P w K mg base CX0 1 dP_lost_of.f dP_lost_of.fd ["sketch"] (spLostOf K) := ok_lost_of T dP_lost_of
  refine d.F.ok scP_is_sketch (fun vs H Q E h => ?_) (fun cdv A outer s H vs Q E hr h => ?_)
  · obtain ⟨s, k, _, _, _, _, rfl, _⟩ := h
    rfl
  · obtain ⟨s, k, room, many, off, kvs, rfl, hs, hk, hc, hl, q⟩ := h
    refine ⟨_, (pss_cons (ps_if (PW.pt (pw_or (pt_not (pt_val (pe_callB call_isi (by rfl) T.n_isinstance (by decide +kernel) (pa_cons (pv 0) (pa_cons (pe_bltn (v := .ty "tuple") (by rfl) T.n_tuple (by decide +kernel) rfl) pa_nil))))) (pw_or1 (pt_cmpR op_ne (pe_callB call_len_seq (by rfl) T.n_len (by decide +kernel) (pa_cons (pv 0) pa_nil)) pe_int (nomark _)))))
      (pss_one (ps_ret pe_bl))
      pss_nil)
    (pss_cons (ps_asg (pv 0) (pg_tup (by rfl) (pgs_cons (pg_name (i := 1) scP_is_sketch.nd rfl (Or.inl rfl)) (pgs_cons (pg_name (i := 2) scP_is_sketch.nd rfl (Or.inl rfl)) (pgs_cons (pg_name (i := 3) scP_is_sketch.nd rfl (Or.inl rfl)) (pgs_cons (pg_name (i := 4) scP_is_sketch.nd rfl (Or.inl rfl)) pgs_nil))))))
    (pss_cons (ps_if (PW.pt (pw_or (pt_not (pt_val (pe_call GP_is_room (hr.mono (by omega)) (by rfl) dP_is_room.g dP_is_room.F.kp dP_is_room.b .nil pass0 (pa_cons (pv 1) pa_nil)))) (pw_or (pt_not (pt_val (pe_call GP_is_number (hr.mono (by omega)) (by rfl) dP_is_number.g dP_is_number.F.kp dP_is_number.b .nil pass0 (pa_cons (pv 2) pa_nil)))) (pw_or1 (pt_not (pt_val (pe_call GP_is_number (hr.mono (by omega)) (by rfl) dP_is_number.g dP_is_number.F.kp dP_is_number.b .nil pass0 (pa_cons (pv 3) pa_nil))))))))
      (pss_one (ps_ret pe_bl))
      pss_nil)
    (pss_cons (ps_if (PW.pt (pw_or (pt_not (pt_val (pe_call GP_are_counts (hr.mono (by omega)) (by rfl) dP_are_counts.g dP_are_counts.F.kp dP_are_counts.b .nil pass0 (pa_cons (pv 4) pa_nil)))) (pw_or1 (pt_cmpR op_gt (pe_callB call_len_seq (by rfl) T.n_len (by decide +kernel) (pa_cons (pv 4) pa_nil)) (pv 1) (nomark _)))))
      (pss_one (ps_ret pe_bl))
      pss_nil)
    (pss_one (ps_ret (pe_chain op_le op_le (pe_op op_mul (pe_op op_add (pv 1) pe_int) (pv 3)) (pe_call GP_lost_of (hr.mono (by omega)) (by rfl) dP_lost_of.g dP_lost_of.F.kp dP_lost_of.b .nil pass0 (pa_cons (pv 0) pa_nil)) (pe_op op_mul (pe_op op_mul pe_int (pv 1)) (pv 3))))))))), ?_⟩
    refine ⟨.ref s, rfl, .ref s, _, _, _, true, rfl, .ty "tuple", tyT hs, kit_ty (by decide +kernel), true, rfl, iteF ?_⟩
    refine ⟨.ref s, rfl, s, _, rfl, .inr hs, rfl, false, rfl, iteF ?_⟩
    refine ⟨.ref s, rfl, s, _, rfl, hs, rfl, _, _, rfl, _, _, rfl, _, _, rfl, _, _, rfl, rfl, ?_⟩
    unfold skB at q
    refine ⟨.int room, rfl, room, rfl, _, rfl, ?_⟩
    cases eR : (decide (1 ≤ room) && decide (room ≤ 64)) with
    | false =>
      rw [eR, Bool.false_and] at q
      exact iteT (iteT (q H (Same.refl H)))
    | true =>
      rw [eR, Bool.true_and] at q
      refine iteF ⟨.int many, rfl, many, rfl, _, rfl, ?_⟩
      cases eM : decide (0 ≤ many) with
      | false =>
        rw [eM, Bool.false_and] at q
        exact iteT (iteT (q H (Same.refl H)))
      | true =>
        rw [eM, Bool.true_and] at q
        refine iteF ⟨.int off, rfl, off, rfl, _, rfl, ?_⟩
        cases eO : decide (0 ≤ off) with
        | false =>
          rw [eO, Bool.false_and] at q
          exact iteT (q H (Same.refl H))
        | true =>
          rw [eO, Bool.true_and] at q
          refine iteF ⟨.ref k, rfl, k, kvs, rfl, hk, hc, fun H1 s1 => ⟨true, rfl, iteF ?_⟩⟩
          have hr1 : 1 ≤ room ∧ room ≤ 64 := by
            rw [Bool.and_eq_true, decide_eq_true_eq, decide_eq_true_eq] at eR
            exact eR
          obtain ⟨ts, hS, hp⟩ := hk.same s1
          have el : (ts.map V.ref).length = kvs.length := by rw [List.length_map, Paired.length hp]
          refine ⟨.ref k, rfl, k, _, rfl, .inr hS, .int room, rfl, _, _, rfl, rfl, _, rfl, ?_⟩
          rw [el]
          by_cases eL : (kvs.length : Int) ≤ room
          · rw [show decide ((kvs.length : Int) > room) = false from decide_eq_false (by omega)]
            rw [decide_eq_true eL, Bool.true_and] at q
            refine iteF ?_
            refine ⟨.int room, rfl, _, _, rfl, rfl, .int off, rfl, _, _, rfl, rfl, cmulL (by omega) (by omega), .ref s, rfl, s, k, room, many, off, kvs, rfl, seqT hs s1, ⟨ts, hS, hp⟩, hl, fun H2 s2 => ⟨_, _, rfl, rfl, _, rfl, ?_⟩⟩
            by_cases e1 : (room + 1) * off ≤ many - sumC kvs
            · rw [decide_eq_true e1] at q ⊢
              rw [Bool.true_and] at q
              refine iteT ⟨.int room, rfl, _, _, rfl, rfl, cmulL (by decide) (by decide), .int off, rfl, _, _, rfl, rfl, cmulL (by omega) (by omega), _, _, rfl, rfl, ?_⟩
              exact q H2 fun b o z => s2 b o (s1 b o z)
            · rw [decide_eq_false e1] at q ⊢
              rw [Bool.false_and] at q
              exact iteF (q H2 fun b o z => s2 b o (s1 b o z))
          · rw [show decide ((kvs.length : Int) > room) = true from decide_eq_true (by omega)]
            rw [decide_eq_false eL, Bool.false_and] at q
            exact iteT (q H1 s1)
/-! bare -/
def spBare : Sp := fun vs H Q _ => ∃ room : Int, vs = [.int room] ∧ 1 ≤ room ∧ room ≤ 64 ∧ ∀ H' s k, Same H H' → H s = none → H' s = some (.tup [.int room, .int 0, .int 0, .ref k]) → Ptp H' k [] → Q (.ref s) H'
theorem ok_bare (T : Blt mg) (cM : Cst mg "MOST_ROOM" (.int 64)) (dP_is_int : DnIsInt K mg) (dP_is_room : DnIsRoom K mg) (d : DnBare K mg) : FnOk P w K mg base CX0 3 d.f d.fd ["room"] spBare := by
  have GP_is_room : FnOk P w K mg base CX0 2 dP_is_room.f dP_is_room.fd ["thing"] spIsRoom := ok_is_room T cM dP_is_int dP_is_room
  refine d.F.ok scP_bare (fun vs H Q E h => ?_) (fun cdv A outer s H vs Q E hr h => ?_)
  · obtain ⟨room, rfl, _⟩ := h
    rfl
  · obtain ⟨room, rfl, h1, h2, q⟩ := h
    refine ⟨_, (pss_cons (ps_if (pt_not (pt_val (pe_call GP_is_room (hr.mono (by omega)) (by rfl) dP_is_room.g dP_is_room.F.kp dP_is_room.b .nil pass0 (pa_cons (pv 0) pa_nil))))
      (pss_one ps_never)
      pss_nil)
    (pss_one (ps_ret (pe_tup (pa_cons (pv 0) (pa_cons pe_int (pa_cons pe_int (pa_cons (pe_tupF pa_nil) pa_nil)))))))), ?_⟩
    refine ⟨.int room, rfl, room, rfl, true, ?_, iteF ?_⟩
    · rw [decide_eq_true h1, decide_eq_true h2]
      rfl
    · refine ⟨.int room, rfl, (by show 0 ≤ sizeLine; decide), fun k o nk ho => ⟨(by show 4 ≤ sizeLine; decide), fun p np => ?_⟩⟩
      have s1 : Same H (upd H k (.frz o (.tup []))) := same_upd nk
      refine q _ p k (Same.new s1 np) (Same.gone s1 np) upd_same ⟨o, ?_, ho⟩
      rw [upd_ne (ne_of_none upd_same np)]
      exact upd_same
end
end Kb


namespace Kb
open PySem PySem.Spec PyProof.Rows L2 SrtZ
abbrev sTinit : Stmt := inClass (topS 48) 0
abbrev NTinit : List Str := ["self", "sketch", "kept"]
theorem scTinit : FnScope ["self", "sketch", "kept"] ["self", "sketch"] (defScope sTinit) := ⟨rfl, rfl, rfl, by decide +kernel, rfl, by decide +kernel, by decide +kernel⟩
abbrev sTsketch : Stmt := inClass (topS 48) 1
abbrev NTsketch : List Str := ["self"]
theorem scTsketch : FnScope ["self"] ["self"] (defScope sTsketch) := ⟨rfl, rfl, rfl, by decide +kernel, rfl, by decide +kernel, by decide +kernel⟩
abbrev sTfeed : Stmt := inClass (topS 48) 2
abbrev NTfeed : List Str := ["self", "name", "times", "amount"]
theorem scTfeed : FnScope ["self", "name", "times", "amount"] ["self", "name", "times"] (defScope sTfeed) := ⟨rfl, rfl, rfl, by decide +kernel, rfl, by decide +kernel, by decide +kernel⟩
abbrev sTpour : Stmt := inClass (topS 48) 3
abbrev NTpour : List Str := ["self", "sketch", "_", "many", "off", "kept", "name", "count", "falling"]
theorem scTpour : FnScope ["self", "sketch", "_", "many", "off", "kept", "name", "count", "falling"] ["self", "sketch"] (defScope sTpour) := ⟨rfl, rfl, rfl, by decide +kernel, rfl, by decide +kernel, by decide +kernel⟩
abbrev sTtake : Stmt := inClass (topS 48) 4
abbrev NTtake : List Str := ["self", "amount", "name", "count"]
theorem scTtake : FnScope ["self", "amount", "name", "count"] ["self", "amount"] (defScope sTtake) := ⟨rfl, rfl, rfl, by decide +kernel, rfl, by decide +kernel, by decide +kernel⟩
/-! the fields -/
theorem k_mr : ¬ (("room" : Str) = "seen") := by decide +kernel
theorem k_or : ¬ (("room" : Str) = "off") := by decide +kernel
theorem k_om : ¬ (("seen" : Str) = "off") := by decide +kernel
theorem k_cr : ¬ (("room" : Str) = "counts") := by decide +kernel
theorem k_cm : ¬ (("seen" : Str) = "counts") := by decide +kernel
theorem k_co : ¬ (("off" : Str) = "counts") := by decide +kernel
def fl (r m o : Int) (d : Addr) : List (Str × V) := [(("room" : Str), V.int r), (("seen" : Str), V.int m), (("off" : Str), V.int o), (("counts" : Str), V.ref d)]
theorem fl_mk (r m o : Int) (d : Addr) : putF "counts" (.ref d) (putF "off" (.int o) (putF "seen" (.int m) (putF "room" (.int r) []))) = fl r m o d := by
  show putF "counts" (.ref d) (putF "off" (.int o) (if ("room" : Str) = "seen" then _ else (("room" : Str), V.int r) :: [(("seen" : Str), V.int m)])) = _
  rw [if_neg k_mr]
  show putF "counts" (.ref d) (if ("room" : Str) = "off" then _ else (("room" : Str), V.int r) :: (if ("seen" : Str) = "off" then _ else (("seen" : Str), V.int m) :: [(("off" : Str), V.int o)])) = _
  rw [if_neg k_or, if_neg k_om]
  show (if ("room" : Str) = "counts" then _ else (("room" : Str), V.int r) :: (if ("seen" : Str) = "counts" then _ else (("seen" : Str), V.int m) :: (if ("off" : Str) = "counts" then _ else (("off" : Str), V.int o) :: [(("counts" : Str), V.ref d)]))) = _
  rw [if_neg k_cr, if_neg k_cm, if_neg k_co]
  rfl
theorem fl_many (r m o x : Int) (d : Addr) : putF "seen" (.int x) (fl r m o d) = fl r x o d := by
  show (if ("room" : Str) = "seen" then _ else (("room" : Str), V.int r) :: (if ("seen" : Str) = "seen" then _ else _)) = _
  rw [if_neg k_mr, if_pos rfl]
  rfl
theorem fl_off (r m o x : Int) (d : Addr) : putF "off" (.int x) (fl r m o d) = fl r m x d := by
  show (if ("room" : Str) = "off" then _ else (("room" : Str), V.int r) :: (if ("seen" : Str) = "off" then _ else (("seen" : Str), V.int m) :: (if ("off" : Str) = "off" then _ else _))) = _
  rw [if_neg k_or, if_neg k_om, if_pos rfl]
  rfl
theorem fl_counts (r m o : Int) (d x : Addr) : putF "counts" (.ref x) (fl r m o d) = fl r m o x := by
  show (if ("room" : Str) = "counts" then _ else (("room" : Str), V.int r) :: (if ("seen" : Str) = "counts" then _ else (("seen" : Str), V.int m) :: (if ("off" : Str) = "counts" then _ else (("off" : Str), V.int o) :: (if ("counts" : Str) = "counts" then _ else _)))) = _
  rw [if_neg k_cr, if_neg k_cm, if_neg k_co, if_pos rfl]
  rfl
theorem g_room (r m o : Int) (d : Addr) : (fl r m o d).lookup ("room" : Str) = some (.int r) := by
  rw [← fl_mk, lookup_putF, if_neg k_cr, lookup_putF, if_neg k_or, lookup_putF, if_neg k_mr, lookup_putF, if_pos rfl]
theorem g_many (r m o : Int) (d : Addr) : (fl r m o d).lookup ("seen" : Str) = some (.int m) := by
  rw [← fl_mk, lookup_putF, if_neg k_cm, lookup_putF, if_neg k_om, lookup_putF, if_pos rfl]
theorem g_off (r m o : Int) (d : Addr) : (fl r m o d).lookup ("off" : Str) = some (.int o) := by
  rw [← fl_mk, lookup_putF, if_neg k_co, lookup_putF, if_pos rfl]
theorem g_counts (r m o : Int) (d : Addr) : (fl r m o d).lookup ("counts" : Str) = some (.ref d) := by
  rw [← fl_mk, lookup_putF, if_pos rfl]
theorem g_no (r m o : Int) (d : Addr) {f : Str} (h1 : ¬ f = "counts") (h2 : ¬ f = "off") (h3 : ¬ f = "seen") (h4 : ¬ f = "room") : (fl r m o d).lookup f = none := by
  rw [← fl_mk, lookup_putF, if_neg h1, lookup_putF, if_neg h2, lookup_putF, if_neg h3, lookup_putF, if_neg h4]
  rfl
/-! counts in a dict -/
def getZ (kvs : Ct) (n : Str) : Option Int := (kvs.find? fun e => decide (e.1 = n)).map (·.2)
def putZ (kvs : Ct) (n : Str) (v : Int) : Ct := if (kvs.any fun e => decide (e.1 = n)) = true then kvs.map (fun e => if e.1 = n then (e.1, v) else e) else kvs ++ [(n, v)]
def addZ (kvs : Ct) (n : Str) (c : Int) : Ct := putZ kvs n ((getZ kvs n).getD 0 + c)
def takeZ (a : Int) (kvs : Ct) : Ct := (kvs.filter fun e => decide (a < e.2)).map fun e => (e.1, e.2 - a)
theorem ent_dec (e : Str × Int) (n : Str) : decide ((entZ e).1 = (Sum.inr n : Key)) = decide (e.1 = n) := key_rr _ _
theorem getZ_val (n : Str) : ∀ kvs : Ct, valV (kvs.map entZ) (Sum.inr n : Key) = (getZ kvs n).map V.int
  | [] => rfl
  | e :: r => by
    have ih := getZ_val n r
    unfold getZ at ih ⊢
    rw [List.map_cons]
    by_cases h : e.1 = n
    · rw [valV_pos (show (entZ e).1 = Sum.inr n by rw [← h])]
      simp [h]
    · rw [valV_neg (show ¬ (entZ e).1 = Sum.inr n from fun z => h (Sum.inr.inj z)), ih]
      simp [h]
theorem putZ_put (kvs : Ct) (n : Str) (v : Int) : putK (kvs.map entZ) (Sum.inr n : Key) (.int v) = (putZ kvs n v).map entZ := by
  unfold putK putZ
  have e : ((kvs.map entZ).any fun kv => decide (kv.1 = (Sum.inr n : Key))) = kvs.any fun e => decide (e.1 = n) := by
    rw [List.any_map]
    congr 1
    funext e
    exact ent_dec e n
  rw [e]
  by_cases h : (kvs.any fun e => decide (e.1 = n)) = true
  · rw [if_pos h, if_pos h, List.map_map, List.map_map]
    refine List.map_congr_left fun e _ => ?_
    show (if (Sum.inr e.1 : Key) = Sum.inr n then _ else _) = entZ (if e.1 = n then _ else _)
    by_cases h2 : e.1 = n
    · rw [if_pos h2, if_pos (by rw [h2])]
    · rw [if_neg h2, if_neg (fun z => h2 (Sum.inr.inj z))]
  · rw [if_neg h, if_neg h, List.map_append]
    rfl
abbrev NdZ (kvs : Ct) : Prop := (kvs.map (·.1)).Nodup
theorem getZ_none {kvs : Ct} {n : Str} : getZ kvs n = none ↔ n ∉ kvs.map (·.1) := by
  unfold getZ
  rw [Option.map_eq_none_iff, List.find?_eq_none]
  constructor
  · intro h z
    obtain ⟨e, he, rfl⟩ := List.mem_map.mp z
    have := h e he
    simp at this
  · intro h e he z
    exact h (List.mem_map.mpr ⟨e, he, of_decide_eq_true z⟩)
theorem any_getZ (n : Str) (kvs : Ct) : (kvs.any fun e => decide (e.1 = n)) = (getZ kvs n).isSome := by
  cases h : getZ kvs n with
  | none =>
    rw [getZ_none] at h
    show _ = false
    rw [List.any_eq_false]
    intro e he z
    exact h (List.mem_map.mpr ⟨e, he, of_decide_eq_true z⟩)
  | some v =>
    show _ = true
    rw [List.any_eq_true]
    unfold getZ at h
    cases hf : kvs.find? fun e => decide (e.1 = n) with
    | none => rw [hf] at h; cases h
    | some e =>
      have h2 := List.find?_some (p := fun e : Str × Int => decide (e.1 = n)) hf
      exact ⟨e, List.mem_of_find?_eq_some hf, h2⟩
theorem putZ_new {kvs : Ct} {n : Str} {v : Int} (h : getZ kvs n = none) : putZ kvs n v = kvs ++ [(n, v)] := by
  unfold putZ
  rw [any_getZ, h]
  exact if_neg (by decide)
theorem putZ_keys_old {kvs : Ct} {n : Str} {v : Int} (h : (getZ kvs n).isSome = true) : (putZ kvs n v).map (·.1) = kvs.map (·.1) := by
  unfold putZ
  rw [any_getZ, if_pos h, List.map_map]
  refine List.map_congr_left fun e _ => ?_
  show (if e.1 = n then _ else _ : Str × Int).1 = e.1
  split <;> rfl
theorem putZ_nd {kvs : Ct} {n : Str} {v : Int} (nd : NdZ kvs) : NdZ (putZ kvs n v) := by
  unfold NdZ
  cases h : getZ kvs n with
  | none =>
    rw [putZ_new h, List.map_append, List.nodup_append]
    refine ⟨nd, by simp, fun a ha b hb => ?_⟩
    rw [List.map_cons, List.map_nil, List.mem_singleton] at hb
    rw [hb]
    intro e
    have e' : a = n := e
    exact getZ_none.mp h (by rw [← e']; exact ha)
  | some x =>
    rw [putZ_keys_old (by rw [h]; rfl)]
    exact nd
theorem putZ_len {kvs : Ct} {n : Str} {v : Int} : (putZ kvs n v).length ≤ kvs.length + 1 := by
  cases h : getZ kvs n with
  | none => rw [putZ_new h, List.length_append]; exact Nat.le_refl _
  | some x =>
    have := congrArg List.length (putZ_keys_old (v := v) (show (getZ kvs n).isSome = true by rw [h]; rfl))
    rw [List.length_map, List.length_map] at this
    omega
theorem takeZ_nd {a : Int} {kvs : Ct} (nd : NdZ kvs) : NdZ (takeZ a kvs) := by
  unfold NdZ takeZ
  rw [List.map_map]
  exact List.Nodup.sublist (List.Sublist.map _ List.filter_sublist) nd
theorem takeZ_len {a : Int} {kvs : Ct} : (takeZ a kvs).length ≤ kvs.length := by
  unfold takeZ
  rw [List.length_map]
  exact List.length_filter_le _ _
theorem mergeZ : ∀ (more kvs : Ct), NdZ (kvs ++ more) → mergeK (kvs.map entZ) (more.map entZ) = (kvs ++ more).map entZ
  | [], kvs, _ => by
    rw [List.append_nil]
    rfl
  | e :: r, kvs, nd => by
    have nm : getZ kvs e.1 = none := getZ_none.mpr fun z => by
      unfold NdZ at nd
      rw [List.map_append, List.nodup_append] at nd
      exact nd.2.2 _ z _ (List.mem_map.mpr ⟨e, List.mem_cons_self, rfl⟩) rfl
    show mergeK (putK (kvs.map entZ) (Sum.inr e.1) (.int e.2)) (r.map entZ) = _
    rw [putZ_put, putZ_new nm, mergeZ r (kvs ++ [e]) (by rw [List.append_assoc]; exact nd), List.append_assoc]
    rfl
/-! a Tally -/
structure TalAt (C : Addr) (H : Hp) (t d : Addr) (r m o : Int) (kvs : Ct) : Prop where
  ob : ∃ dx, H t = some (.ins C dx (fl r m o d))
  dc : H d = some (.dK (kvs.map entZ))
theorem TalAt.ne {C : Addr} {H : Hp} {t d : Addr} {r m o : Int} {kvs : Ct} (h : TalAt C H t d r m o kvs) : t ≠ d := by
  obtain ⟨dx, e⟩ := h.ob
  exact ne_of e h.dc (by intro z; cases z)
theorem TalAt.same {C : Addr} {H H' : Hp} {t d : Addr} {r m o : Int} {kvs : Ct} (h : TalAt C H t d r m o kvs) (s : Same H H') : TalAt C H' t d r m o kvs := by
  obtain ⟨⟨dx, e⟩, e2⟩ := h
  exact ⟨⟨dx, s _ _ e⟩, s _ _ e2⟩
/-- all but the tally stays -/
def But (t d : Addr) (H H' : Hp) : Prop := ∀ b u, b ≠ t → b ≠ d → H b = some u → H' b = some u
theorem But.refl (t d : Addr) (H : Hp) : But t d H H := fun _ _ _ _ e => e
theorem But.trans {t d : Addr} {H H1 H2 : Hp} (x : But t d H H1) (y : But t d H1 H2) : But t d H H2 := fun b u n1 n2 e => y b u n1 n2 (x b u n1 n2 e)
theorem But.same {t d : Addr} {H H1 H2 : Hp} (x : But t d H H1) (y : Same H1 H2) : But t d H H2 := fun b u n1 n2 e => y b u (x b u n1 n2 e)
theorem But.upT {t d : Addr} {H H1 : Hp} {u : HO} (x : But t d H H1) : But t d H (upd H1 t u) := fun b v n1 n2 e => by
  rw [upd_ne n1]
  exact x b v n1 n2 e
theorem But.upD {t d : Addr} {H H1 : Hp} {u : HO} (x : But t d H H1) : But t d H (upd H1 d u) := fun b v n1 n2 e => by
  rw [upd_ne n2]
  exact x b v n1 n2 e
theorem But.new {t d p : Addr} {H H1 : Hp} {u : HO} (x : But t d H H1) (h : H1 p = none) : But t d H (upd H1 p u) := x.same (same_upd h)
/-- of the class, as the top has made it -/
structure Tal (K : PySem.W.Frag) (mg : Str → Option Value) where
  C : Addr
  fI : Addr
  fS : Addr
  fF : Addr
  fP : Addr
  fT : Addr
  dI : FuncData
  dS : FuncData
  dF : FuncData
  dP : FuncData
  dT : FuncData
  FI : Fun K "__init__" "Tally.__init__" sTinit fI dI
  FS : Fun K "sketch" "Tally.sketch" sTsketch fS dS
  FF : Fun K "gain" "Tally.gain" sTfeed fF dF
  FP : Fun K "pour" "Tally.pour" sTpour fP dP
  FT : Fun K "_take" "Tally._take" sTtake fT dT
  bI : Binds K dI ["self", "sketch"] []
  bS : Binds K dS ["self"] []
  bF : Binds K dF ["self", "name", "times"] []
  bP : Binds K dP ["self", "sketch"] []
  bT : Binds K dT ["self", "amount"] []
  mI : Mk K C fI
  mS : Meth K C "sketch" fS
  mF : Meth K C "gain" fF
  mP : Meth K C "pour" fP
  mT : Meth K C "_take" fT
  cl : Cls K C
  nR : NoAttr K C "room"
  nM : NoAttr K C "seen"
  nO : NoAttr K C "off"
  nC : NoAttr K C "counts"
  g : mg "Tally" = some (.ref C)
theorem ents_paired {K : PySem.W.Frag} {H : Hp} : ∀ {ts : List Addr} {kvs : Ct}, Paired (PrAt K H) ts kvs → Paired (fun p kv => SqT K H p [kV kv.1, kv.2]) ts (kvs.map entZ)
  | _, _, .nil => .nil
  | _, _, .cons h t => .cons h (ents_paired t)
theorem seq_upd {K : PySem.W.Frag} {H : Hp} {a t : Addr} {xs : List V} {C dx : Addr} {fs : List (Str × V)} {u : HO} (h : SqT K H a xs) (ht : H t = some (.ins C dx fs)) : SqT K (upd H t u) a xs := by
  rcases h with (h | ⟨o, h⟩) | h
  · exact .inl (.inl (by rw [upd_ne (ne_of h ht (by intro z; cases z))]; exact h))
  · exact .inl (.inr ⟨o, by rw [upd_ne (ne_of h ht (by intro z; cases z))]; exact h⟩)
  · exact .inr h
theorem prs_upd {K : PySem.W.Frag} {H : Hp} {t : Addr} {C dx : Addr} {fs : List (Str × V)} {u : HO} (ht : H t = some (.ins C dx fs)) : ∀ {ts : List Addr} {kvs : Ct}, Paired (PrAt K H) ts kvs → Paired (PrAt K (upd H t u)) ts kvs
  | _, _, .nil => .nil
  | _, _, .cons h q => .cons (seq_upd h ht) (prs_upd ht q)
section
variable {P : Program} {w : World} {K : PySem.W.Frag} {mg : Str → Option Value} {base : Heap}
/-! Tally.__init__ -/
def spTinit (K : PySem.W.Frag) (C : Addr) : Sp := fun vs H Q _ => ∃ (t dx s k : Addr) (r m o : Int) (ts : List Addr) (kvs : Ct), vs = [.ref t, .ref s] ∧ H t = some (.ins C dx []) ∧ SqT K H s [.int r, .int m, .int o, .ref k] ∧ Ptp H k (ts.map V.ref) ∧ Paired (PrAt K H) ts kvs ∧ NdZ kvs ∧
  ∀ H' d, (∀ b u, b ≠ t → H b = some u → H' b = some u) → H d = none → TalAt C H' t d r m o kvs → Q .non H'
theorem ok_Tinit (T : Blt mg) (L : Tal K mg) : FnOk P w K mg base CX0 1 L.fI L.dI ["self", "sketch"] (spTinit K L.C) := by
  refine L.FI.ok scTinit (fun vs H Q E h => ?_) (fun cdv A outer s H vs Q E hr h => ?_)
  · obtain ⟨t, dx, s, k, r, m, o, ts, kvs, rfl, _⟩ := h
    rfl
  · obtain ⟨t, dx, s, k, r, m, o, ts, kvs, rfl, ht, hs, hk, hp, nd, q⟩ := h
    refine ⟨_, (pss_cons (ps_asg (pv 1) (pg_tup (by rfl) (pgs_cons (pg_fld (pv 0)) (pgs_cons (pg_fld (pv 0)) (pgs_cons (pg_fld (pv 0)) (pgs_cons (pg_name (i := 2) scTinit.nd rfl (Or.inl rfl)) pgs_nil))))))
    (pss_one (ps_fld (pv 0) (pe_callTy (call_dictPT rfl) (by rfl) T.n_dict (by decide +kernel) (pa_cons (pv 2) pa_nil)) rfl))), ?_⟩
    have kt : k ≠ t := by
      obtain ⟨ob, e, _⟩ := hk
      exact ne_of e ht (by intro z; cases z)
    refine ⟨.ref s, rfl, s, _, rfl, hs, rfl, _, _, rfl, .ref t, rfl, t, L.C, dx, _, rfl, ht, L.cl, L.nR, (by show 0 < 1000; decide), ?_⟩
    refine ⟨_, _, rfl, .ref t, rfl, t, L.C, dx, _, rfl, upd_same, L.cl, L.nM, (by show 1 < 1000; decide), ?_⟩
    have l2 : (putF "seen" (V.int m) (putF "room" (V.int r) [])).length < 1000 := by
      show (if ("room" : Str) = "seen" then _ else (("room" : Str), V.int r) :: [(("seen" : Str), V.int m)]).length < 1000
      rw [if_neg k_mr]
      show 2 < 1000
      decide
    have l3 : (putF "off" (V.int o) (putF "seen" (V.int m) (putF "room" (V.int r) []))).length < 1000 := by
      show (putF "off" (V.int o) (if ("room" : Str) = "seen" then _ else (("room" : Str), V.int r) :: [(("seen" : Str), V.int m)])).length < 1000
      rw [if_neg k_mr]
      show (if ("room" : Str) = "off" then _ else (("room" : Str), V.int r) :: (if ("seen" : Str) = "off" then _ else (("seen" : Str), V.int m) :: [(("off" : Str), V.int o)])).length < 1000
      rw [if_neg k_or, if_neg k_om]
      show 3 < 1000
      decide
    refine ⟨_, _, rfl, .ref t, rfl, t, L.C, dx, _, rfl, upd_same, L.cl, L.nO, l2, ?_⟩
    rw [upd_upd, upd_upd]
    refine ⟨_, _, rfl, rfl, .ref k, rfl, k, ts, kvs.map entZ, rfl, hk.upd kt, ents_paired (prs_upd ht hp), fun d nd2 => ?_⟩
    have td : t ≠ d := ne_of_none upd_same nd2
    have nd0 : H d = none := by rw [upd_ne td.symm] at nd2; exact nd2
    refine ⟨.ref t, rfl, t, L.C, dx, _, rfl, (by rw [upd_ne td]; exact upd_same), L.cl, L.nC, l3, ?_⟩
    rw [fl_mk, show mergeK [] (kvs.map entZ) = kvs.map entZ from mergeZ kvs [] nd]
    refine q _ d (fun b u hb e => ?_) nd0 ⟨⟨dx, upd_same⟩, by rw [upd_ne td.symm]; exact upd_same⟩
    rw [upd_ne hb, upd_ne (ne_of_none e nd0), upd_ne hb]
    exact e
end
end Kb


namespace L2
section
variable {J : It} {n : Nat} {G : Hp → Prop} {Y : Nat → Hp → V → Hp → Prop}
/-- a dict comprehension over a walk -/
theorem dc_it (w : Walk J n G Y) {g : TG} {tt : TT} {tk tv : TE} {vs : List Nat} {σ : St} {H1 : Hp} {D : PySem.Addr} {Qd : Hp → Prop} (Pv : Nat → Hp → Prop) (h0 : Pv 0 (upd H1 D (.dK []))) (hG : ∀ i H, i ≤ n → Pv i H → G H)
    (hs : ∀ i x H H', i < n → Pv i H → Y i H x H' → g x (wipe σ vs) H' fun σ2 H2 => wipe σ2 vs = wipe σ vs ∧ tt σ2 H2 fun b H3 =>
      if b = true then tk σ2 H3 fun y H4 => tv σ2 H4 fun z H5 => ∃ kvs k, y = kV k ∧ H5 D = some (.dK kvs) ∧ kvs.length < PySem.sizeLine ∧ Pv (i + 1) (upd H5 D (.dK (putK kvs k z))) else Pv (i + 1) H3) (hd : ∀ H, Pv n H → Qd H) :
    ∃ W : Nat → Nat → Hp → Prop, (∃ m, W 0 m (upd H1 D (.dK []))) ∧ ∀ i m H, W i m H →
      (J.stop i H ∧ Qd H) ∨ (J.go i H ∧ ∃ Nx : Hp → Prop, (∀ H', Nx H' → ∃ m', m' < m ∧ W (i + 1) m' H') ∧ ∀ x H', J.yld i H x H' → g x (wipe σ vs) H' fun σ2 H2 => wipe σ2 vs = wipe σ vs ∧ tt σ2 H2 fun b H3 =>
        if b = true then tk σ2 H3 fun y H4 => tv σ2 H4 fun z H5 => ∃ kvs k, y = kV k ∧ H5 D = some (.dK kvs) ∧ kvs.length < PySem.sizeLine ∧ Nx (upd H5 D (.dK (putK kvs k z))) else Nx H3) := by
  refine ⟨fun i m H => m = n - i ∧ i ≤ n ∧ Pv i H, ⟨n, by simp, Nat.zero_le _, h0⟩, ?_⟩
  rintro i m H ⟨rfl, hi, p⟩
  have q := hG i H hi p
  by_cases hlt : i < n
  · refine .inr ⟨w.goes i H hlt q, Pv (i + 1), fun H' p' => ⟨n - (i + 1), by omega, rfl, hlt, p'⟩, fun x H' y => hs i x H H' hlt p (w.yields i H x H' hlt q y)⟩
  · have e : i = n := by omega
    subst e
    exact .inl ⟨w.stops H q, hd H p⟩
end
end L2
namespace Kb
open PySem PySem.Spec PyProof.Rows L2 SrtZ SrtO
def Asc (kvs : Ct) : Prop := kvs.Pairwise fun a b => ltZ a.1 b.1 = true
/-- sorted, names unlike: ascending -/
theorem asc_of {ys kvs : Ct} (h : Srtd lexZ ys) (p : ys.Perm kvs) (nd : NdZ kvs) : Asc ys := by
  have nd2 : (ys.map (·.1)).Nodup := (p.map (·.1)).nodup_iff.mpr nd
  rw [List.Nodup, List.pairwise_map] at nd2
  refine List.Pairwise.imp₂ (fun {a b} h1 h2 => ?_) h nd2
  rw [lexZ_ne (fun e => h2 e.symm)] at h1
  rcases bcase (ltZ a.1 b.1) with q | q
  · exact q
  · exact absurd (ltZ_tri q h1) h2
theorem asc_uniq {xs ys : Ct} (hx : Asc xs) (hy : Asc ys) (p : xs.Perm ys) : xs = ys :=
  List.Perm.eq_of_pairwise (le := fun (a b : Str × Int) => ltZ a.1 b.1 = true) (fun a b _ _ h1 h2 => by
    have := ltZ_asym h1
    rw [h2] at this
    cases this) hx hy p
theorem putZ_snoc {kvs : Ct} {n : Str} {v : Int} (h : n ∉ kvs.map (·.1)) : putZ kvs n v = kvs ++ [(n, v)] := putZ_new (getZ_none.mpr h)
theorem takeZ_snoc (a : Int) (kvs : Ct) (e : Str × Int) : takeZ a (kvs ++ [e]) = takeZ a kvs ++ (if a < e.2 then [(e.1, e.2 - a)] else []) := by
  unfold takeZ
  rw [List.filter_append, List.map_append]
  by_cases h : a < e.2
  · rw [if_pos h, List.filter_cons_of_pos (by simpa using h)]
    rfl
  · rw [if_neg h, List.filter_cons_of_neg (by simpa using h)]
    rfl
theorem takeZ_keys {a : Int} {kvs : Ct} {n : Str} (h : n ∈ (takeZ a kvs).map (·.1)) : n ∈ kvs.map (·.1) := by
  unfold takeZ at h
  rw [List.map_map] at h
  obtain ⟨e, he, rfl⟩ := List.mem_map.mp h
  exact List.mem_map.mpr ⟨e, (List.mem_filter.mp he).1, rfl⟩
section
variable {P : Program} {w : World} {K : PySem.W.Frag} {mg : Str → Option Value} {base : Heap}
/-! Tally.sketch -/
def spTsketch (C : Addr) : Sp := fun vs H Q _ => ∃ (t d : Addr) (r m o : Int) (kvs : Ct), vs = [.ref t] ∧ TalAt C H t d r m o kvs ∧ NdZ kvs ∧ kvs.length ≤ 1000 ∧
  ∀ H' s k (ys : Ct) (ts : List Addr), Same H H' → H s = none → H' s = some (.tup [.int r, .int m, .int o, .ref k]) → Ptp H' k (ts.map V.ref) → Paired (fun (t : Addr) (y : Str × Int) => H' t = some (.tup [.str y.1, .int y.2])) ts ys → ys.Perm kvs → Asc ys → Q (.ref s) H'
theorem ok_Tsketch (T : Blt mg) (L : Tal K mg) : FnOk P w K mg base CX0 1 L.fS L.dS ["self"] (spTsketch L.C) := by
  refine L.FS.ok scTsketch (fun vs H Q E h => ?_) (fun cdv A outer s H vs Q E hr h => ?_)
  · obtain ⟨t, d, r, m, o, kvs, rfl, _⟩ := h
    rfl
  · obtain ⟨t, d, r, m, o, kvs, rfl, ta, nd, hl, q⟩ := h
    refine ⟨_, (pss_one (ps_ret (pe_tup (pa_cons (pe_fld (pv 0) rfl) (pa_cons (pe_fld (pv 0) rfl) (pa_cons (pe_fld (pv 0) rfl) (pa_cons (pe_callTy call_tupleF (by rfl) T.n_tuple (by decide +kernel) (pa_cons (pe_callB (cr_sortedIZ rfl) (by rfl) T.n_sorted (by decide +kernel) (pa_cons (pe_bm0 PySem.F.plainAttrs_dict PySem.F.slot_dict_items PySem.F.type_dict_items mt_itemsK (pe_fld (pv 0) rfl)) pa_nil)) pa_nil)) pa_nil))))))), ?_⟩
    obtain ⟨⟨dx, ht⟩, hd⟩ := id ta
    refine ⟨.ref t, rfl, t, L.C, dx, _, _, rfl, ht, L.cl, L.nR, g_room _ _ _ _, .ref t, rfl, t, L.C, dx, _, _, rfl, ht, L.cl, L.nM, g_many _ _ _ _, .ref t, rfl, t, L.C, dx, _, _, rfl, ht, L.cl, L.nO, g_off _ _ _ _, ?_⟩
    refine ⟨.ref t, rfl, t, L.C, dx, _, _, rfl, ht, L.cl, L.nC, g_counts _ _ _ _, .inr (.inr (.inl ⟨rfl, .inl ⟨_, hd⟩⟩)), d, _, rfl, rfl, hd, fun p np => ?_⟩
    refine ⟨p, d, kvs, rfl, upd_same, (by rw [upd_ne (ne_of_none hd np)]; exact hd), fun H1 l ys ts s1 nl nts lts pm so hl1 hts => ?_⟩
    refine ⟨l, _, rfl, sql hl1, fun k ob nk ho => ⟨(by show 4 ≤ sizeLine; decide), fun s ns => ?_⟩⟩
    have sa : Same H (upd H p (DX.itemsO p d)) := same_upd np
    have sb : Same H H1 := fun b u e => s1 b u (sa b u e)
    have sc : Same H (upd H1 k (.frz ob (.tup (ts.map V.ref)))) := Same.new sb nk
    refine q _ s k ys ts (Same.new sc ns) (Same.gone sc ns) upd_same ⟨ob, ?_, ho⟩ ?_ pm (asc_of so pm nd)
    · rw [upd_ne (ne_of_none upd_same ns)]
      exact upd_same
    · have : ∀ {ts : List Addr} {ys : Ct}, Paired (fun (t : Addr) (y : Str × Int) => H1 t = some (.tup [.str y.1, .int y.2])) ts ys → Paired (fun (t : Addr) (y : Str × Int) => (upd (upd H1 k (.frz ob (.tup (ts.map V.ref)))) s (.tup [.int r, .int m, .int o, .ref k])) t = some (.tup [.str y.1, .int y.2])) ts ys := by
        intro ts ys h
        have gen : ∀ (u : HO) (ns' : (upd H1 k u) s = none) (v : HO) {ts : List Addr} {ys : Ct}, Paired (fun (t : Addr) (y : Str × Int) => H1 t = some (.tup [.str y.1, .int y.2])) ts ys → Paired (fun (t : Addr) (y : Str × Int) => (upd (upd H1 k u) s v) t = some (.tup [.str y.1, .int y.2])) ts ys := by
          intro u ns' v ts ys h
          induction h with
          | nil => exact .nil
          | cons h _ ih => exact .cons ((Same.new (same_upd nk) ns') _ _ h) ih
        exact gen _ (by
          have e : s ≠ k := (ne_of_none upd_same ns).symm
          rw [upd_ne e] at ns ⊢
          exact ns) _ h
      exact this hts
/-! Tally._take -/
def spTtake (C : Addr) : Sp := fun vs H Q _ => ∃ (t d : Addr) (r m o a : Int) (kvs : Ct), vs = [.ref t, .int a] ∧ TalAt C H t d r m o kvs ∧ NdZ kvs ∧ kvs.length ≤ 1000 ∧
  ∀ H' d', But t d H H' → H d' = none → TalAt C H' t d' r m (o + a) (takeZ a kvs) → Q .non H'
theorem ok_Ttake (T : Blt mg) (L : Tal K mg) : FnOk P w K mg base CX0 1 L.fT L.dT ["self", "amount"] (spTtake L.C) := by
  refine L.FT.ok scTtake (fun vs H Q E h => ?_) (fun cdv A outer s H vs Q E hr h => ?_)
  · obtain ⟨t, d, r, m, o, a, kvs, rfl, _⟩ := h
    rfl
  · obtain ⟨t, d, r, m, o, a, kvs, rfl, ta, nd, hl, q⟩ := h
    refine ⟨_, (pss_cons (ps_fldaug (pv 0) (pv 1) in_add)
    (pss_one (ps_fld (pv 0) (pe_lock (pe_dc rfl scTtake.nd (own := [("name", 2), ("count", 3)]) (g := gTup K 2 (gCons (gName 2) (gCons (gName 3) gNil))) (pi_items (pe_fld (pv 0) rfl)) (blkOk_by (N := NTtake) (sc := defScope sTtake) (by decide +kernel)) (fun _ _ _ _ _ => pg_tup (by rfl) (pgs_cons (pg_name (i := 2) scTtake.nd rfl (Or.inl rfl)) (pgs_cons (pg_name (i := 3) scTtake.nd rfl (Or.inl rfl)) pgs_nil))) (fun _ _ _ _ _ => pts_one (pt_cmpR op_gt (pv 3) (pv 1) (nomark _))) (fun _ _ _ _ _ => (pv 2)) (fun _ _ _ _ _ => (pe_op op_sub (pv 3) (pv 1))))) rfl))), ?_⟩
    obtain ⟨⟨dx, ht⟩, hd⟩ := id ta
    have td := ta.ne
    refine ⟨.ref t, rfl, t, L.C, dx, _, _, rfl, ht, L.cl, L.nO, g_off _ _ _ _, .int a, rfl, _, _, rfl, rfl, dx, _, ht, (by show 4 < 1000; decide), ?_⟩
    rw [fl_off]
    have hd1 : (upd H t (.ins L.C dx (fl r m (o + a) d))) d = some (.dK (kvs.map entZ)) := by rw [upd_ne td.symm]; exact hd
    refine ⟨d, _, hd1, trivial, fun od => ⟨.ref t, rfl, t, L.C, dx, _, _, rfl, (by rw [upd_ne td]; exact upd_same), L.cl, L.nC, g_counts _ _ _ _, d, od, kvs.map entZ, rfl, upd_same, fun D nD => ?_⟩⟩
    have tD : t ≠ D := ne_of_none (by rw [upd_ne td]; exact upd_same) nD
    have dD : d ≠ D := ne_of_none upd_same nD
    generalize hHl : upd (upd H t (.ins L.C dx (fl r m (o + a) d))) d (.frz od (.dK (kvs.map entZ))) = Hl at nD ⊢
    have hlt : Hl t = some (.ins L.C dx (fl r m (o + a) d)) := by rw [← hHl, upd_ne td]; exact upd_same
    have hld : Hl d = some (.frz od (.dK (kvs.map entZ))) := by rw [← hHl]; exact upd_same
    refine dc_it (walk_items (kvs := kvs.map entZ)) (fun i H3 => (∀ b u, b ≠ D → Hl b = some u → H3 b = some u) ∧ H3 D = some (.dK ((takeZ a (kvs.take i)).map entZ))) ⟨fun b u n e => by rw [upd_ne n]; exact e, upd_same⟩ (fun i H3 _ h3 => h3.1 d _ dD hld) (fun i x H3 H4 hi h3 y => ?_) (fun H3 h3 => ?_)
    · obtain ⟨Tp, x1, y1, rfl, nT, rfl, hx, hy⟩ := y
      dsimp only at hx hy
      rw [List.length_map] at hi
      have he : kvs[i]? = some kvs[i] := List.getElem?_eq_getElem hi
      generalize kvs[i] = e at he
      have hx1 : x1 = .str e.1 := by
        rw [List.getElem?_map, he] at hx
        exact (Option.some.inj hx).symm
      have hy1 : y1 = .int e.2 := by
        rw [List.getElem?_map, he] at hy
        exact (Option.some.inj hy).symm
      subst hx1 hy1
      have TD : Tp ≠ D := (ne_of_none h3.2 nT).symm
      refine ⟨Tp, _, rfl, .inl (.inl upd_same), rfl, _, _, rfl, _, _, rfl, rfl, rfl, .int e.2, rfl, .int a, rfl, _, _, rfl, rfl, _, rfl, ?_⟩
      have tk := takeZ_snoc a (kvs.take i) e
      have te : kvs.take (i + 1) = kvs.take i ++ [e] := by rw [List.take_add_one, he]; rfl
      refine ite2 (fun hgt => ?_) (fun hgt => ?_)
      · have hga : a < e.2 := of_decide_eq_true hgt
        refine ⟨.str e.1, rfl, .int e.2, rfl, .int a, rfl, _, _, rfl, rfl, _, Sum.inr e.1, rfl, (by rw [upd_ne TD.symm]; exact h3.2), ?_, fun b u nb e' => ?_, ?_⟩
        · rw [List.length_map, sizeLine_eq]
          have := takeZ_len (a := a) (kvs := kvs.take i)
          rw [List.length_take] at this
          omega
        · rw [upd_ne nb]
          by_cases hb : b = Tp
          · subst hb
            have := h3.1 b u nb e'
            rw [nT] at this
            cases this
          · rw [upd_ne hb]
            exact h3.1 b u nb e'
        · rw [upd_same, putZ_put, putZ_snoc, te, tk, if_pos hga]
          intro z
          have z2 := takeZ_keys z
          have nd2 := nd
          unfold NdZ at nd2
          rw [← List.take_append_drop i kvs, List.map_append, List.nodup_append] at nd2
          refine nd2.2.2 _ z2 e.1 (List.mem_map.mpr ⟨e, ?_, rfl⟩) rfl
          rw [List.drop_eq_getElem_cons hi]
          have := (List.getElem?_eq_some_iff.mp he).2
          rw [this]
          exact List.mem_cons_self
      · have hga : ¬ a < e.2 := fun z => hgt (decide_eq_true z)
        refine ⟨fun b u nb e' => ?_, ?_⟩
        · by_cases hb : b = Tp
          · subst hb
            have := h3.1 b u nb e'
            rw [nT] at this
            cases this
          · rw [upd_ne hb]
            exact h3.1 b u nb e'
        · rw [upd_ne TD.symm, te, tk, if_neg hga, List.append_nil]
          exact h3.2
    · have h3t := h3.1 t _ tD hlt
      have h3d := h3.1 d _ dD hld
      refine ⟨h3d, .ref t, rfl, t, L.C, dx, _, rfl, (by rw [upd_ne td]; exact h3t), L.cl, L.nC, (by show 4 < 1000; decide), ?_⟩
      rw [fl_counts]
      have h3D : H3 D = some (.dK ((takeZ a kvs).map entZ)) := by
        have := h3.2
        rw [List.length_map, List.take_length] at this
        exact this
      have nD0 : H D = none := by
        rw [← hHl, upd_ne dD.symm, upd_ne tD.symm] at nD
        exact nD
      refine q _ D (fun b u n1 n2 e => ?_) nD0 ⟨⟨dx, upd_same⟩, by rw [upd_ne tD.symm, upd_ne dD.symm]; exact h3D⟩
      rw [upd_ne n1, upd_ne n2]
      refine h3.1 b u (ne_of_none e nD0) ?_
      rw [← hHl, upd_ne n2, upd_ne n1]
      exact e
end
end Kb


namespace Kb
open PySem PySem.Spec PyProof.Rows L2 SrtZ SrtO
/-- the least count -/
def mnC : Ct → Int
  | [] => 0
  | [e] => e.2
  | e :: r => if e.2 ≤ mnC r then e.2 else mnC r
theorem mnC_spec : ∀ {kvs : Ct}, kvs ≠ [] → mnC kvs ∈ kvs.map (·.2) ∧ ∀ y ∈ kvs.map (·.2), mnC kvs ≤ y
  | [], h => absurd rfl h
  | [e], _ => ⟨by simp [mnC], fun y hy => by
    have : y = e.2 := by simpa using hy
    rw [this]
    exact Int.le_refl _⟩
  | e :: f :: r, _ => by
    obtain ⟨h1, h2⟩ := mnC_spec (kvs := f :: r) (by simp)
    show (if e.2 ≤ mnC (f :: r) then e.2 else mnC (f :: r)) ∈ _ ∧ ∀ y ∈ _, (if e.2 ≤ mnC (f :: r) then e.2 else mnC (f :: r)) ≤ y
    by_cases h : e.2 ≤ mnC (f :: r)
    · rw [if_pos h]
      refine ⟨by simp, fun y hy => ?_⟩
      rw [List.map_cons] at hy
      rcases List.mem_cons.mp hy with rfl | hy
      · exact Int.le_refl _
      · exact Int.le_trans h (h2 y hy)
    · rw [if_neg h]
      refine ⟨by rw [List.map_cons]; exact List.mem_cons_of_mem _ h1, fun y hy => ?_⟩
      rw [List.map_cons] at hy
      rcases List.mem_cons.mp hy with rfl | hy
      · omega
      · exact h2 y hy
theorem mnC_uniq {kvs : Ct} {m : Int} (h : m ∈ kvs.map (·.2)) (hm : ∀ y ∈ kvs.map (·.2), m ≤ y) : m = mnC kvs := by
  have ne : kvs ≠ [] := by
    rintro rfl
    simp at h
  obtain ⟨h1, h2⟩ := mnC_spec ne
  have a := h2 _ h
  have b := hm _ h1
  omega
/-- what a tally holds: many, off, counts -/
structure Tl where
  m : Int
  o : Int
  c : Ct
def full (r : Int) (n : Str) (kvs : Ct) : Bool := !(getZ kvs n).isSome && decide ((kvs.length : Int) = r)
def feedT (r : Int) (n : Str) (c : Int) (x : Tl) : Tl :=
  if full r n x.c = true then
    let a := if mnC x.c < c then mnC x.c else c
    ⟨x.m + c, x.o + a, if 0 < c - a then addZ (takeZ a x.c) n (c - a) else takeZ a x.c⟩
  else ⟨x.m + c, x.o, if 0 < c then addZ x.c n c else x.c⟩
def sumsZ (more kvs : Ct) : Ct := more.foldl (fun a e => addZ a e.1 e.2) kvs
def fallZ (kvs : Ct) (r : Int) : Int := ((kvs.map (·.2)).mergeSort (fun a b => decide (b ≤ a))).getD r.toNat 0
def pourT (r : Int) (y x : Tl) : Tl :=
  let all := sumsZ y.c x.c
  if r < (all.length : Int) then ⟨x.m + y.m, x.o + y.o + fallZ all r, takeZ (fallZ all r) all⟩ else ⟨x.m + y.m, x.o + y.o, all⟩
theorem fall_uniq {kvs : Ct} {ns : List Int} (p : ns.Perm (kvs.map (·.2))) (h : ns.Pairwise (· ≥ ·)) : ns = (kvs.map (·.2)).mergeSort (fun a b => decide (b ≤ a)) := by
  refine List.Perm.eq_of_pairwise (le := fun (a b : Int) => b ≤ a) (fun a b _ _ h1 h2 => Int.le_antisymm h2 h1) h ?_ (p.trans (List.mergeSort_perm _ _).symm)
  have := List.pairwise_mergeSort (le := fun (a b : Int) => decide (b ≤ a)) (fun a b c h1 h2 => by simp at *; omega) (fun a b => by simp; omega) (kvs.map (·.2))
  exact this.imp fun h => of_decide_eq_true h
theorem addZ_nd {kvs : Ct} {n : Str} {c : Int} (nd : NdZ kvs) : NdZ (addZ kvs n c) := putZ_nd nd
theorem addZ_len {kvs : Ct} {n : Str} {c : Int} : (addZ kvs n c).length ≤ kvs.length + 1 := putZ_len
theorem sumsZ_nd : ∀ {more kvs : Ct}, NdZ kvs → NdZ (sumsZ more kvs)
  | [], _, h => h
  | e :: r, kvs, h => sumsZ_nd (more := r) (addZ_nd (n := e.1) (c := e.2) h)
theorem sumsZ_len : ∀ {more kvs : Ct}, (sumsZ more kvs).length ≤ kvs.length + more.length
  | [], kvs => Nat.le_refl _
  | e :: r, kvs => by
    have h := sumsZ_len (more := r) (kvs := addZ kvs e.1 e.2)
    have h2 := addZ_len (kvs := kvs) (n := e.1) (c := e.2)
    show (sumsZ r (addZ kvs e.1 e.2)).length ≤ kvs.length + (r.length + 1)
    omega
theorem sumsZ_snoc {more kvs : Ct} {i : Nat} {e : Str × Int} (h : more[i]? = some e) : sumsZ (more.take (i + 1)) kvs = addZ (sumsZ (more.take i) kvs) e.1 e.2 := by
  unfold sumsZ
  rw [List.take_add_one, h, List.foldl_append]
  rfl
section
variable {P : Program} {w : World} {K : PySem.W.Frag} {mg : Str → Option Value} {base : Heap}
/-! Tally.feed -/
def spTfeed (C : Addr) : Sp := fun vs H Q _ => ∃ (t d : Addr) (r c : Int) (n : Str) (x : Tl), vs = [.ref t, .str n, .int c] ∧ TalAt C H t d r x.m x.o x.c ∧ NdZ x.c ∧ x.c.length ≤ 500 ∧ 1 ≤ r ∧
  ∀ H' d', But t d H H' → (d' = d ∨ H d' = none) → TalAt C H' t d' r (feedT r n c x).m (feedT r n c x).o (feedT r n c x).c → Q .non H'
theorem ok_Tfeed (T : Blt mg) (L : Tal K mg) : FnOk P w K mg base CX0 2 L.fF L.dF ["self", "name", "times"] (spTfeed L.C) := by
  have G_take : FnOk P w K mg base CX0 1 L.fT L.dT ["self", "amount"] (spTtake L.C) := ok_Ttake T L
  refine L.FF.ok scTfeed (fun vs H Q E h => ?_) (fun cdv A outer s H vs Q E hr h => ?_)
  · obtain ⟨t, d, r, c, n, x, rfl, _⟩ := h
    rfl
  · obtain ⟨t, d, r, c, n, ⟨m, o, kvs⟩, rfl, ta, nd, hl, hr1, q⟩ := h
    dsimp only at ta nd hl q
    have hu := hu_of hr
    refine ⟨_, (pss_cons (ps_fldaug (pv 0) (pv 2) in_add)
    (C8.pss_cut (ps_if (PW.pt (pw_and (pt_cmp (pc_dnotin hu (pv 1) (pe_fld (pv 0) rfl))) (pw_and1 (pt_cmpR op_eq (pe_callB call_lenD (by rfl) T.n_len (by decide +kernel) (pa_cons (pe_fld (pv 0) rfl) pa_nil)) (pe_fld (pv 0) rfl) (nomark _)))))
      (pss_cons (ps_set (i := 3) scTfeed.nd rfl (Or.inl rfl) (pe_callB (call_min2 rfl) (by rfl) T.n_min (by decide +kernel) (pa_cons (pv 2) (pa_cons (pe_callB (cr_minV rfl) (by rfl) T.n_min (by decide +kernel) (pa_cons (pe_bm0 PySem.F.plainAttrs_dict PySem.F.slot_dict_values PySem.F.type_dict_values mt_valuesK (pe_fld (pv 0) rfl)) pa_nil)) pa_nil))))
      (pss_cons (ps_expr (pe_meth (pv 0) L.cl L.mT G_take (hr.mono (by omega)) L.bT .nil pass0 (pa_cons (pv 3) pa_nil)))
      (pss_one (ps_aug (i := 2) scTfeed.nd rfl (Or.inl rfl) (pv 3) ip_sub))))
      pss_nil)
    (pss_one (ps_if (pt_cmpR op_gt (pv 2) pe_int (nomark _))
      (pss_one (ps_dput hu (pe_fld (pv 0) rfl) (pv 1) (pe_op op_add (pe_dget2 hu (pe_fld (pv 0) rfl) (pv 1) pe_int ⟨rfl, rfl, rfl, rfl⟩) (pv 2)) rfl))
      pss_nil)))), ?_⟩
    obtain ⟨⟨dx, ht⟩, hd⟩ := id ta
    have td := ta.ne
    refine ⟨.ref t, rfl, t, L.C, dx, _, _, rfl, ht, L.cl, L.nM, g_many _ _ _ _, .int c, rfl, _, _, rfl, rfl, dx, _, ht, (by show 4 < 1000; decide), ?_⟩
    rw [fl_many]
    have ta1 : TalAt L.C (upd H t (.ins L.C dx (fl r (m + c) o d))) t d r (m + c) o kvs := ⟨⟨dx, upd_same⟩, by rw [upd_ne td.symm]; exact hd⟩
    have bt1 : But t d H (upd H t (.ins L.C dx (fl r (m + c) o d))) := (But.refl t d H).upT
    generalize upd H t (.ins L.C dx (fl r (m + c) o d)) = H1 at ta1 bt1
    -- what stands behind the first if
    refine ⟨fun σ H2 => ∃ (d2 : Addr) (o2 c2 : Int) (kvs2 : Ct) (y : Option V), σ = [some (.ref t), some (.str n), some (.int c2), y] ∧ But t d H H2 ∧ (d2 = d ∨ H d2 = none) ∧ TalAt L.C H2 t d2 r (m + c) o2 kvs2 ∧ NdZ kvs2 ∧ kvs2.length ≤ 500 ∧
      feedT r n c ⟨m, o, kvs⟩ = ⟨m + c, o2, if 0 < c2 then addZ kvs2 n c2 else kvs2⟩, ?_, ?_⟩
    · obtain ⟨⟨dx1, ht1⟩, hd1⟩ := id ta1
      refine ⟨.str n, rfl, .ref t, rfl, t, L.C, dx1, _, _, rfl, ht1, L.cl, L.nC, g_counts _ _ _ _, d, _, rfl, DGet.k (k := Sum.inr n) hd1, _, rfl, ?_⟩
      rw [getZ_val]
      have stay : full r n kvs = false → ∃ (d2 : Addr) (o2 c2 : Int) (kvs2 : Ct) (y : Option V), [some (V.ref t), some (V.str n), some (V.int c), none] = [some (.ref t), some (.str n), some (.int c2), y] ∧ But t d H H1 ∧ (d2 = d ∨ H d2 = none) ∧ TalAt L.C H1 t d2 r (m + c) o2 kvs2 ∧ NdZ kvs2 ∧ kvs2.length ≤ 500 ∧
          feedT r n c ⟨m, o, kvs⟩ = ⟨m + c, o2, if 0 < c2 then addZ kvs2 n c2 else kvs2⟩ := fun hf => ⟨d, o, c, kvs, none, rfl, bt1, .inl rfl, ta1, nd, hl, by unfold feedT; rw [if_neg (by rw [hf]; decide)]⟩
      cases hg : getZ kvs n with
      | some v =>
        refine iteF ?_
        exact stay (by unfold full; rw [hg]; rfl)
      | none =>
        refine iteT ⟨.ref t, rfl, t, L.C, dx1, _, _, rfl, ht1, L.cl, L.nC, g_counts _ _ _ _, d, _, rfl, hd1, .ref t, rfl, t, L.C, dx1, _, _, rfl, ht1, L.cl, L.nR, g_room _ _ _ _, rfl, _, rfl, ?_⟩
        rw [List.length_map]
        by_cases hfull : (kvs.length : Int) = r
        · have hf : full r n kvs = true := by
            unfold full
            rw [hg, decide_eq_true hfull]
            rfl
          rw [show decide (V.int (kvs.length : Int) = V.int r) = true from decide_eq_true (by rw [hfull])]
          refine iteT ?_
          have hne : kvs ≠ [] := by
            rintro rfl
            have : (0 : Int) = r := hfull
            omega
          refine ⟨.int c, rfl, .ref t, rfl, t, L.C, dx1, _, _, rfl, ht1, L.cl, L.nC, g_counts _ _ _ _, .inr (.inr (.inl ⟨rfl, .inl ⟨_, hd1⟩⟩)), d, _, rfl, rfl, hd1, fun p np => ?_⟩
          refine ⟨p, d, kvs, rfl, upd_same, (by rw [upd_ne (ne_of_none hd1 np)]; exact hd1), List.length_pos_iff.mpr hne, fun mn h1 h2 => ?_⟩
          have emn := mnC_uniq h1 h2
          subst emn
          refine ⟨_, _, rfl, ?_⟩
          generalize ha : (if mnC kvs < c then mnC kvs else c) = a
          have ta2 : TalAt L.C (upd H1 p (valuesO p d)) t d r (m + c) o kvs := ta1.same (same_upd np)
          obtain ⟨⟨dx2, ht2⟩, _⟩ := id ta2
          refine ⟨.ref t, rfl, t, dx2, _, rfl, ht2, g_no _ _ _ _ (by decide +kernel) (by decide +kernel) (by decide +kernel) (by decide +kernel), .int a, rfl, t, d, r, m + c, o, a, kvs, rfl, ta2, nd, (by omega), fun H3 d3 b3 nd3 ta3 => ?_⟩
          refine ⟨.int c, rfl, .int a, rfl, _, _, rfl, rfl, d3, o + a, c - a, takeZ a kvs, some (.int a), rfl, ?_, .inr ?_, ta3, takeZ_nd nd, Nat.le_trans takeZ_len hl, ?_⟩
          · exact (bt1.new np).trans b3
          · have nd4 : H1 d3 = none := Same.gone (same_upd np) nd3
            cases e : H d3 with
            | none => rfl
            | some u =>
              by_cases e1 : d3 = t
              · subst e1
                rw [ht1] at nd4
                cases nd4
              · by_cases e2 : d3 = d
                · subst e2
                  rw [hd1] at nd4
                  cases nd4
                · have := bt1 d3 u e1 e2 e
                  rw [nd4] at this
                  cases this
          · unfold feedT
            rw [if_pos hf]
            dsimp only
            rw [ha]
        · have hf : full r n kvs = false := by
            unfold full
            rw [hg, decide_eq_false hfull]
            rfl
          rw [show decide (V.int (kvs.length : Int) = V.int r) = false from decide_eq_false (fun z => hfull (by injection z))]
          exact iteF (stay hf)
    · rintro σ H2 ⟨d2, o2, c2, kvs2, y, rfl, bt2, hd2, ta2, nd2, hl2, hf⟩
      rw [hf] at q
      dsimp only at q
      obtain ⟨⟨dx2, ht2⟩, hdd⟩ := id ta2
      have td2 := ta2.ne
      refine ⟨.int c2, rfl, _, _, rfl, rfl, _, rfl, ite2 (fun hp => ?_) fun hp => ?_⟩
      · have hp' : 0 < c2 := of_decide_eq_true hp
        rw [if_pos hp'] at q
        refine ⟨.ref t, rfl, t, L.C, dx2, _, _, rfl, ht2, L.cl, L.nC, g_counts _ _ _ _, d2, rfl, .inl ⟨_, .inl hdd⟩, .str n, rfl, _, DGet.k (k := Sum.inr n) hdd, ?_⟩
        rw [getZ_val]
        refine ⟨.int c2, rfl, (getZ kvs2 n).getD 0, c2, ?_, rfl, ?_⟩
        · cases getZ kvs2 n <;> rfl
        · refine ⟨.ref t, rfl, t, L.C, dx2, _, _, rfl, ht2, L.cl, L.nC, g_counts _ _ _ _, .str n, rfl, d2, _, rfl, DPut.k (k := Sum.inr n) hdd (by rw [List.length_map, sizeLine_eq]; omega), ?_⟩
          rw [putZ_put]
          refine q _ d2 (fun b u n1 n2 e => ?_) hd2 ⟨⟨dx2, by rw [upd_ne td2]; exact ht2⟩, upd_same⟩
          by_cases hb : b = d2
          · subst hb
            rcases hd2 with rfl | hd2
            · exact absurd rfl n2
            · rw [e] at hd2
              cases hd2
          · rw [upd_ne hb]
            exact bt2 b u n1 n2 e
      · have hp' : ¬ 0 < c2 := fun z => hp (decide_eq_true z)
        rw [if_neg hp'] at q
        exact q H2 d2 bt2 hd2 ta2
end
end Kb


namespace Kb
open PySem PySem.Spec PyProof.Rows L2 SrtZ SrtO
theorem seqT_but {K : PySem.W.Frag} {C : Addr} {H H' : Hp} {t d a : Addr} {r m o : Int} {kvs : Ct} {xs : List V} (h : SqT K H a xs) (ta : TalAt C H t d r m o kvs) (b : But t d H H') : SqT K H' a xs := by
  obtain ⟨⟨dx, ht⟩, hd⟩ := ta
  rcases h with (h | ⟨o, h⟩) | h
  · exact .inl (.inl (b a _ (ne_of h ht (by intro z; cases z)) (ne_of h hd (by intro z; cases z)) h))
  · exact .inl (.inr ⟨o, b a _ (ne_of h ht (by intro z; cases z)) (ne_of h hd (by intro z; cases z)) h⟩)
  · exact .inr h
theorem prs_but {K : PySem.W.Frag} {C : Addr} {H H' : Hp} {t d : Addr} {r m o : Int} {kvs : Ct} (ta : TalAt C H t d r m o kvs) (b : But t d H H') : ∀ {ts : List Addr} {ks : Ct}, Paired (PrAt K H) ts ks → Paired (PrAt K H') ts ks
  | _, _, .nil => .nil
  | _, _, .cons h q => .cons (seqT_but h ta b) (prs_but ta b q)
section
variable {P : Program} {w : World} {K : PySem.W.Frag} {mg : Str → Option Value} {base : Heap}
/-! Tally.pour -/
def spTpour (K : PySem.W.Frag) (C : Addr) : Sp := fun vs H Q _ => ∃ (t d s k : Addr) (r r2 : Int) (x y : Tl), vs = [.ref t, .ref s] ∧ TalAt C H t d r x.m x.o x.c ∧ NdZ x.c ∧ x.c.length ≤ 200 ∧ SqT K H s [.int r2, .int y.m, .int y.o, .ref k] ∧ CtAt K H k y.c ∧ y.c.length ≤ 200 ∧ 0 ≤ r ∧
  ∀ H' d', But t d H H' → (d' = d ∨ H d' = none) → TalAt C H' t d' r (pourT r y x).m (pourT r y x).o (pourT r y x).c → Q .non H'
theorem ok_Tpour (T : Blt mg) (L : Tal K mg) : FnOk P w K mg base CX0 2 L.fP L.dP ["self", "sketch"] (spTpour K L.C) := by
  have G_take : FnOk P w K mg base CX0 1 L.fT L.dT ["self", "amount"] (spTtake L.C) := ok_Ttake T L
  refine L.FP.ok scTpour (fun vs H Q E h => ?_) (fun cdv A outer s H vs Q E hr h => ?_)
  · obtain ⟨t, d, s, k, r, r2, x, y, rfl, _⟩ := h
    rfl
  · obtain ⟨t, d, s, k, r, r2, ⟨m, o, kvs⟩, ⟨m2, o2, ks⟩, rfl, ta, nd, hl, hs, ⟨ts, hS, hp⟩, hl2, hr0, q⟩ := h
    dsimp only at ta nd hl hs hp hl2 q
    have hu := hu_of hr
    obtain ⟨rn, rfl⟩ := Int.eq_ofNat_of_zero_le hr0
    refine ⟨_, (pss_cons (ps_asg (pv 1) (pg_tup (by rfl) (pgs_cons (pg_name (i := 2) scTpour.nd rfl (Or.inl rfl)) (pgs_cons (pg_name (i := 3) scTpour.nd rfl (Or.inl rfl)) (pgs_cons (pg_name (i := 4) scTpour.nd rfl (Or.inl rfl)) (pgs_cons (pg_name (i := 5) scTpour.nd rfl (Or.inl rfl)) pgs_nil))))))
    (pss_cons (ps_fldaug (pv 0) (pv 3) in_add)
    (pss_cons (ps_fldaug (pv 0) (pv 4) in_add)
    (pss_cons (ps_for PassesOwn.never rfl (pi_tup (pv 5)) (pg_tup (by rfl) (pgs_cons (pg_name (i := 6) scTpour.nd rfl (Or.inl rfl)) (pgs_cons (pg_name (i := 7) scTpour.nd rfl (Or.inl rfl)) pgs_nil)))
      (pss_one (ps_dput hu (pe_fld (pv 0) rfl) (pv 6) (pe_op op_add (pe_dget2 hu (pe_fld (pv 0) rfl) (pv 6) pe_int ⟨rfl, rfl, rfl, rfl⟩) (pv 7)) rfl)))
    (pss_one (ps_if (pt_cmpR op_gt (pe_callB call_lenD (by rfl) T.n_len (by decide +kernel) (pa_cons (pe_fld (pv 0) rfl) pa_nil)) (pe_fld (pv 0) rfl) (nomark _))
      (pss_cons (ps_set (i := 8) scTpour.nd rfl (Or.inl rfl) (pe_callBK (cr_sortedVR (b := true) rfl) (by rfl) T.n_sorted (by decide +kernel) (pa_cons (pe_bm0 PySem.F.plainAttrs_dict PySem.F.slot_dict_values PySem.F.type_dict_values mt_valuesK (pe_fld (pv 0) rfl)) pa_nil) (pk_cons pe_bl pk_nil)))
      (pss_one (ps_expr (pe_meth (pv 0) L.cl L.mT G_take (hr.mono (by omega)) L.bT .nil pass0 (pa_cons (pe_ix ix_list (pv 8) (pe_fld (pv 0) rfl) (fun _ _ => rfl)) pa_nil)))))
      pss_nil)))))), ?_⟩
    obtain ⟨⟨dx, ht⟩, hd⟩ := id ta
    have td := ta.ne
    refine ⟨.ref s, rfl, s, _, rfl, hs, rfl, _, _, rfl, _, _, rfl, _, _, rfl, _, _, rfl, rfl, ?_⟩
    refine ⟨.ref t, rfl, t, L.C, dx, _, _, rfl, ht, L.cl, L.nM, g_many _ _ _ _, .int m2, rfl, _, _, rfl, rfl, dx, _, ht, (by show 4 < 1000; decide), ?_⟩
    rw [fl_many]
    refine ⟨.ref t, rfl, t, L.C, dx, _, _, rfl, upd_same, L.cl, L.nO, g_off _ _ _ _, .int o2, rfl, _, _, rfl, rfl, dx, _, upd_same, (by show 4 < 1000; decide), ?_⟩
    rw [fl_off, upd_upd]
    have ta1 : TalAt L.C (upd H t (.ins L.C dx (fl rn (m + m2) (o + o2) d))) t d rn (m + m2) (o + o2) kvs := ⟨⟨dx, upd_same⟩, by rw [upd_ne td.symm]; exact hd⟩
    have bt1 : But t d H (upd H t (.ins L.C dx (fl rn (m + m2) (o + o2) d))) := (But.refl t d H).upT
    generalize upd H t (.ins L.C dx (fl rn (m + m2) (o + o2) d)) = H1 at ta1 bt1
    refine ⟨.ref k, rfl, k, rfl, ⟨_, seqT_but hS ta bt1⟩, for_tup (xs := ts.map V.ref) (fun i σ H3 => ∃ y6 y7 : Option V, σ = [some (.ref t), some (.ref s), some (.int r2), some (.int m2), some (.int o2), some (.ref k), y6, y7, none] ∧ But t d H H3 ∧ TalAt L.C H3 t d rn (m + m2) (o + o2) (sumsZ (ks.take i) kvs))
      ⟨none, none, rfl, bt1, ta1⟩ (fun i σ H3 _ ⟨_, _, _, b3, _⟩ => seqT_but hS ta b3) ?_ ?_⟩
    · rintro i v σ H3 hi ⟨y6, y7, rfl, b3, ta3⟩
      obtain ⟨tp, htp, rfl⟩ := map_at hi
      obtain ⟨e, he, hat⟩ := paired_at hp htp
      obtain ⟨⟨dx3, ht3⟩, hd3⟩ := id ta3
      refine ⟨tp, _, rfl, seqT_but hat ta b3, rfl, _, _, rfl, _, _, rfl, rfl, ?_⟩
      refine ⟨.ref t, rfl, t, L.C, dx3, _, _, rfl, ht3, L.cl, L.nC, g_counts _ _ _ _, d, rfl, .inl ⟨_, .inl hd3⟩, .str e.1, rfl, _, DGet.k (k := Sum.inr e.1) hd3, ?_⟩
      rw [getZ_val]
      refine ⟨.int e.2, rfl, (getZ (sumsZ (ks.take i) kvs) e.1).getD 0, e.2, ?_, rfl, ?_⟩
      · cases getZ (sumsZ (ks.take i) kvs) e.1 <;> rfl
      · have hlen := sumsZ_len (more := ks.take i) (kvs := kvs)
        rw [List.length_take] at hlen
        refine ⟨.ref t, rfl, t, L.C, dx3, _, _, rfl, ht3, L.cl, L.nC, g_counts _ _ _ _, .str e.1, rfl, d, _, rfl, DPut.k (k := Sum.inr e.1) hd3 (by rw [List.length_map, sizeLine_eq]; omega), ?_⟩
        rw [putZ_put]
        refine ⟨some (.str e.1), some (.int e.2), rfl, b3.upD, ⟨dx3, by rw [upd_ne td]; exact ht3⟩, ?_⟩
        rw [upd_same, sumsZ_snoc he]
        rfl
    · rintro σ H3 ⟨y6, y7, rfl, b3, ta3⟩
      have e1 : ks.take (ts.map V.ref).length = ks := by rw [List.length_map, Paired.length hp, List.take_length]
      rw [e1] at ta3
      obtain ⟨⟨dx3, ht3⟩, hd3⟩ := id ta3
      have hlen := sumsZ_len (more := ks) (kvs := kvs)
      have hnd := sumsZ_nd (more := ks) nd
      unfold pourT at q
      dsimp only at q
      generalize sumsZ ks kvs = all at ta3 hd3 hlen hnd q
      refine ⟨.ref t, rfl, t, L.C, dx3, _, _, rfl, ht3, L.cl, L.nC, g_counts _ _ _ _, d, _, rfl, hd3, .ref t, rfl, t, L.C, dx3, _, _, rfl, ht3, L.cl, L.nR, g_room _ _ _ _, _, _, rfl, rfl, _, rfl, ?_⟩
      rw [List.length_map]
      refine ite2 (fun hgt => ?_) fun hgt => ?_
      · have hlt : (rn : Int) < (all.length : Int) := of_decide_eq_true hgt
        rw [if_pos hlt] at q
        refine ⟨.ref t, rfl, t, L.C, dx3, _, _, rfl, ht3, L.cl, L.nC, g_counts _ _ _ _, .inr (.inr (.inl ⟨rfl, .inl ⟨_, hd3⟩⟩)), d, _, rfl, rfl, hd3, fun p np => ?_⟩
        refine ⟨p, d, all, rfl, rfl, upd_same, (by rw [upd_ne (ne_of_none hd3 np)]; exact hd3), fun ns l pm hdesc nl => ?_⟩
        have eu := fall_uniq pm hdesc
        have ta4 : TalAt L.C (upd (upd H3 p (valuesO p d)) l (.lst (ns.map V.int))) t d rn (m + m2) (o + o2) all := (ta3.same (same_upd np)).same (same_upd nl)
        obtain ⟨⟨dx4, ht4⟩, _⟩ := id ta4
        have hln : ns.length = all.length := by rw [pm.length_eq, List.length_map]
        have hat : (ns.map V.int)[rn]? = some (.int (fallZ all rn)) := by
          have h1 : rn < ns.length := by omega
          rw [List.getElem?_map, List.getElem?_eq_getElem h1]
          show some (V.int ns[rn]) = _
          unfold fallZ
          rw [← eu]
          simp [List.getD, h1]
        refine ⟨.ref t, rfl, t, dx4, _, rfl, ht4, g_no _ _ _ _ (by decide +kernel) (by decide +kernel) (by decide +kernel) (by decide +kernel), .ref l, rfl, .ref t, rfl, t, L.C, dx4, _, _, rfl, ht4, L.cl, L.nR, g_room _ _ _ _, l, _, _, _, rfl, rfl, sql upd_same, atI_nat hat, t, d, rn, m + m2, o + o2, fallZ all rn, all, rfl, ta4, hnd, (by omega), fun H5 d5 b5 nd5 ta5 => ?_⟩
        refine q H5 d5 (((b3.new np).new nl).trans b5) (.inr ?_) ta5
        have nd6 : H3 d5 = none := Same.gone (same_upd np) (Same.gone (same_upd nl) nd5)
        cases e : H d5 with
        | none => rfl
        | some u =>
          by_cases e1 : d5 = t
          · subst e1
            rw [ht3] at nd6
            cases nd6
          · by_cases e2 : d5 = d
            · subst e2
              rw [hd3] at nd6
              cases nd6
            · have := b3 d5 u e1 e2 e
              rw [nd6] at this
              cases this
      · have hlt : ¬ (rn : Int) < (all.length : Int) := fun z => hgt (decide_eq_true z)
        rw [if_neg hlt] at q
        exact q H3 d b3 (.inl rfl) ta3
end
end Kb


namespace Kb
open PySem PySem.Spec PyProof.Rows L2 SrtZ SrtO
/-! what stays true of a tally -/
structure TlOk (r : Int) (x : Tl) : Prop where
  nd : NdZ x.c
  len : (x.c.length : Int) ≤ r
  pos : ∀ e ∈ x.c, 1 ≤ e.2
  nm : ∀ e ∈ x.c, Nm e.1
theorem getZ_pos {kvs : Ct} {n : Str} (pos : ∀ e ∈ kvs, 1 ≤ e.2) : 0 ≤ (getZ kvs n).getD 0 := by
  unfold getZ
  cases h : kvs.find? fun e => decide (e.1 = n) with
  | none => exact Int.le_refl _
  | some e =>
    have := pos e (List.mem_of_find?_eq_some h)
    show 0 ≤ e.2
    omega
theorem putZ_mem {kvs : Ct} {n : Str} {v : Int} {e : Str × Int} (h : e ∈ putZ kvs n v) : e ∈ kvs ∨ e = (n, v) := by
  unfold putZ at h
  split at h
  · obtain ⟨f, hf, rfl⟩ := List.mem_map.mp h
    by_cases hn : f.1 = n
    · rw [if_pos hn]
      exact .inr (by rw [hn])
    · rw [if_neg hn]
      exact .inl hf
  · rcases List.mem_append.mp h with h | h
    · exact .inl h
    · exact .inr (List.mem_singleton.mp h)
theorem addZ_pos {kvs : Ct} {n : Str} {c : Int} (pos : ∀ e ∈ kvs, 1 ≤ e.2) (hc : 1 ≤ c) : ∀ e ∈ addZ kvs n c, 1 ≤ e.2 := fun e he => by
  rcases putZ_mem he with h | h
  · exact pos e h
  · have := getZ_pos (n := n) pos
    rw [h]
    show 1 ≤ _ + c
    omega
theorem addZ_nm {kvs : Ct} {n : Str} {c : Int} (nm : ∀ e ∈ kvs, Nm e.1) (hn : Nm n) : ∀ e ∈ addZ kvs n c, Nm e.1 := fun e he => by
  rcases putZ_mem he with h | h
  · exact nm e h
  · rw [h]
    exact hn
theorem addZ_len_old {kvs : Ct} {n : Str} {c : Int} (h : (getZ kvs n).isSome = true) : (addZ kvs n c).length = kvs.length := by
  have := congrArg List.length (putZ_keys_old (v := (getZ kvs n).getD 0 + c) h)
  rwa [List.length_map, List.length_map] at this
theorem takeZ_mem {a : Int} {kvs : Ct} {e : Str × Int} (h : e ∈ takeZ a kvs) : ∃ f ∈ kvs, a < f.2 ∧ e = (f.1, f.2 - a) := by
  unfold takeZ at h
  obtain ⟨f, hf, rfl⟩ := List.mem_map.mp h
  obtain ⟨h1, h2⟩ := List.mem_filter.mp hf
  exact ⟨f, h1, of_decide_eq_true h2, rfl⟩
theorem takeZ_pos {a : Int} {kvs : Ct} : ∀ e ∈ takeZ a kvs, 1 ≤ e.2 := fun e he => by
  obtain ⟨f, _, h, rfl⟩ := takeZ_mem he
  show 1 ≤ f.2 - a
  omega
theorem takeZ_nm {a : Int} {kvs : Ct} (nm : ∀ e ∈ kvs, Nm e.1) : ∀ e ∈ takeZ a kvs, Nm e.1 := fun e he => by
  obtain ⟨f, hf, _, rfl⟩ := takeZ_mem he
  exact nm f hf
/-- the least one goes when it is taken off -/
theorem takeZ_less {kvs : Ct} (ne : kvs ≠ []) : (takeZ (mnC kvs) kvs).length < kvs.length := by
  obtain ⟨h1, _⟩ := mnC_spec ne
  obtain ⟨e, he, h⟩ := List.mem_map.mp h1
  unfold takeZ
  rw [List.length_map]
  have h2 : (kvs.filter fun e => decide (mnC kvs < e.2)).length ≤ kvs.length := List.length_filter_le _ _
  rcases Nat.lt_or_ge (kvs.filter fun e => decide (mnC kvs < e.2)).length kvs.length with h3 | h3
  · exact h3
  · have h4 : (kvs.filter fun e => decide (mnC kvs < e.2)) = kvs := List.filter_sublist.eq_of_length (by omega)
    rw [← h4] at he
    have := of_decide_eq_true (List.mem_filter.mp he).2
    omega
theorem feedT_ok {r c : Int} {n : Str} {x : Tl} (h : TlOk r x) (hr : 1 ≤ r) (hn : Nm n) (hc : 0 ≤ c) : TlOk r (feedT r n c x) := by
  obtain ⟨nd, len, pos, nm⟩ := h
  unfold feedT
  cases hf : full r n x.c with
  | true =>
    have hfull : (x.c.length : Int) = r := by
      unfold full at hf
      rw [Bool.and_eq_true] at hf
      exact of_decide_eq_true hf.2
    have ne : x.c ≠ [] := by
      intro e
      rw [e] at hfull
      have : (0 : Int) = r := hfull
      omega
    rw [if_pos rfl]
    dsimp only
    generalize ha : (if mnC x.c < c then mnC x.c else c) = a
    by_cases hp : 0 < c - a
    · have ea : a = mnC x.c := by
        by_cases hm : mnC x.c < c
        · rw [if_pos hm] at ha
          exact ha.symm
        · rw [if_neg hm] at ha
          omega
      have hl := takeZ_less ne
      have hl2 := addZ_len (kvs := takeZ a x.c) (n := n) (c := c - a)
      refine ⟨?_, ?_, ?_, ?_⟩ <;> dsimp only <;> rw [if_pos hp]
      · exact addZ_nd (takeZ_nd nd)
      · rw [ea] at hl2 ⊢
        omega
      · exact addZ_pos takeZ_pos (by omega)
      · exact addZ_nm (takeZ_nm nm) hn
    · refine ⟨?_, ?_, ?_, ?_⟩ <;> dsimp only <;> rw [if_neg hp]
      · exact takeZ_nd nd
      · have := takeZ_len (a := a) (kvs := x.c)
        omega
      · exact takeZ_pos
      · exact takeZ_nm nm
  | false =>
    rw [if_neg (by decide)]
    by_cases hp : 0 < c
    · refine ⟨?_, ?_, ?_, ?_⟩ <;> dsimp only <;> rw [if_pos hp]
      · exact addZ_nd nd
      · cases hg : getZ x.c n with
        | some v =>
          rw [addZ_len_old (by rw [hg]; rfl)]
          exact len
        | none =>
          have h1 := addZ_len (kvs := x.c) (n := n) (c := c)
          unfold full at hf
          rw [hg] at hf
          have h2 : ¬ (x.c.length : Int) = r := by
            intro e
            rw [decide_eq_true e] at hf
            cases hf
          omega
      · exact addZ_pos pos (by omega)
      · exact addZ_nm nm hn
    · refine ⟨?_, ?_, ?_, ?_⟩ <;> dsimp only <;> rw [if_neg hp]
      · exact nd
      · exact len
      · exact pos
      · exact nm
def feedsT (r : Int) (zs : List Str) (x : Tl) : Tl := zs.foldl (fun x n => feedT r n 1 x) x
theorem feedsT_snoc {r : Int} {zs : List Str} {x : Tl} {i : Nat} {n : Str} (h : zs[i]? = some n) : feedsT r (zs.take (i + 1)) x = feedT r n 1 (feedsT r (zs.take i) x) := by
  unfold feedsT
  rw [List.take_add_one, h, List.foldl_append]
  rfl
theorem feedsT_ok {r : Int} (hr : 1 ≤ r) : ∀ {zs : List Str} {x : Tl}, TlOk r x → (∀ z ∈ zs, Nm z) → TlOk r (feedsT r zs x)
  | [], _, h, _ => h
  | z :: zs, x, h, hn => feedsT_ok (zs := zs) hr (feedT_ok h hr (hn z List.mem_cons_self) (by decide)) fun y hy => hn y (List.mem_cons_of_mem _ hy)
def tl0 : Tl := ⟨0, 0, []⟩
theorem tl0_ok {r : Int} (hr : 1 ≤ r) : TlOk r tl0 := ⟨List.nodup_nil, (by show (0 : Int) ≤ r; omega), (fun _ h => nomatch h), (fun _ h => nomatch h)⟩
theorem sumsZ_pos : ∀ {more kvs : Ct}, (∀ e ∈ more, 1 ≤ e.2) → (∀ e ∈ kvs, 1 ≤ e.2) → ∀ e ∈ sumsZ more kvs, 1 ≤ e.2
  | [], _, _, h => h
  | f :: r, kvs, hm, h => sumsZ_pos (more := r) (fun e he => hm e (List.mem_cons_of_mem _ he)) (addZ_pos h (hm f List.mem_cons_self))
theorem sumsZ_nm : ∀ {more kvs : Ct}, (∀ e ∈ more, Nm e.1) → (∀ e ∈ kvs, Nm e.1) → ∀ e ∈ sumsZ more kvs, Nm e.1
  | [], _, _, h => h
  | f :: r, kvs, hm, h => sumsZ_nm (more := r) (fun e he => hm e (List.mem_cons_of_mem _ he)) (addZ_nm h (hm f List.mem_cons_self))
/-- what is above the count at place r is at most r names -/
theorem fall_len {kvs : Ct} {r : Nat} (h : r < kvs.length) : (takeZ (fallZ kvs r) kvs).length ≤ r := by
  unfold takeZ
  rw [List.length_map]
  have hp := List.mergeSort_perm (kvs.map (·.2)) (fun a b => decide (b ≤ a))
  have hs := List.pairwise_mergeSort (le := fun (a b : Int) => decide (b ≤ a)) (fun a b c h1 h2 => by simp at *; omega) (fun a b => by simp; omega) (kvs.map (·.2))
  have e1 : (kvs.filter fun e => decide (fallZ kvs r < e.2)).length = ((kvs.map (·.2)).filter fun c => decide (fallZ kvs r < c)).length := by
    rw [List.filter_map, List.length_map]
    rfl
  rw [e1, ← (hp.filter _).length_eq]
  unfold fallZ
  rw [Int.toNat_natCast]
  generalize (kvs.map (·.2)).mergeSort (fun a b => decide (b ≤ a)) = s at hp hs
  have hl : r < s.length := by rw [hp.length_eq, List.length_map]; exact h
  have eg : s.getD r 0 = s[r] := by simp [List.getD, hl]
  rw [eg]
  generalize hv : s[r] = v
  have h1 : ((s.take r).filter fun c => decide (v < c)).length ≤ r := by
    have := List.length_filter_le (fun c => decide (v < c)) (s.take r)
    rw [List.length_take] at this
    omega
  have h2 : ((s.drop r).filter fun c => decide (v < c)) = [] := by
    rw [List.filter_eq_nil_iff]
    intro c hc z
    have z := of_decide_eq_true z
    have hd : (s.drop r).Pairwise fun a b => decide (b ≤ a) = true := hs.sublist (List.drop_sublist _ _)
    rw [List.drop_eq_getElem_cons hl] at hc hd
    rcases List.mem_cons.mp hc with e | hc
    · omega
    · have := of_decide_eq_true ((List.pairwise_cons.mp hd).1 c hc)
      omega
  have e3 : (s.filter fun c => decide (v < c)) = ((s.take r).filter fun c => decide (v < c)) ++ ((s.drop r).filter fun c => decide (v < c)) := by
    rw [← List.filter_append, List.take_append_drop]
  rw [e3, h2, List.append_nil]
  exact h1
theorem pourT_ok {r : Int} {x y : Tl} (hx : TlOk r x) (hy : TlOk r y) (hr : 0 ≤ r) : TlOk r (pourT r y x) := by
  obtain ⟨rn, rfl⟩ := Int.eq_ofNat_of_zero_le hr
  unfold pourT
  dsimp only
  have nd := sumsZ_nd (more := y.c) hx.nd
  have pos := sumsZ_pos hy.pos hx.pos
  have nm := sumsZ_nm hy.nm hx.nm
  generalize sumsZ y.c x.c = all at nd pos nm
  by_cases h : (rn : Int) < (all.length : Int)
  · rw [if_pos h]
    refine ⟨takeZ_nd nd, ?_, takeZ_pos, takeZ_nm nm⟩
    have := fall_len (kvs := all) (r := rn) (by omega)
    dsimp only
    omega
  · rw [if_neg h]
    exact ⟨nd, (by dsimp only; omega), pos, nm⟩
/-! the order of names -/
def srtZ (kvs : Ct) : Ct := kvs.mergeSort fun a b => !ltZ b.1 a.1
theorem srtZ_perm (kvs : Ct) : (srtZ kvs).Perm kvs := List.mergeSort_perm _ _
theorem srtZ_asc {kvs : Ct} (nd : NdZ kvs) : Asc (srtZ kvs) := by
  have hs := List.pairwise_mergeSort (le := fun (a b : Str × Int) => !ltZ b.1 a.1) (fun a b c h1 h2 => ?_) (fun a b => ?_) kvs
  · have nd2 : ((srtZ kvs).map (·.1)).Nodup := ((srtZ_perm kvs).map (·.1)).nodup_iff.mpr nd
    rw [List.Nodup, List.pairwise_map] at nd2
    refine List.Pairwise.imp₂ (fun {a b} h1 h2 => ?_) hs nd2
    rcases bcase (ltZ a.1 b.1) with q | q
    · exact q
    · have h3 : ltZ b.1 a.1 = false := by simpa using h1
      exact absurd (ltZ_tri q h3) h2
  · have h1 : ltZ b.1 a.1 = false := by simpa using h1
    have h2 : ltZ c.1 b.1 = false := by simpa using h2
    show (!ltZ c.1 a.1) = true
    rcases bcase (ltZ c.1 a.1) with q | q
    · rcases bcase (ltZ a.1 b.1) with p | p
      · have := ltZ_trans q p
        rw [h2] at this
        cases this
      · have e := ltZ_tri p h1
        rw [e, h2] at q
        cases q
    · rw [q]
      rfl
  · show ((!ltZ b.1 a.1) || (!ltZ a.1 b.1)) = true
    rcases bcase (ltZ b.1 a.1) with q | q
    · rw [ltZ_asym q]
      simp
    · rw [q]
      rfl
theorem srtZ_of {ys kvs : Ct} (h : Asc ys) (p : ys.Perm kvs) (nd : NdZ kvs) : ys = srtZ kvs := asc_uniq h (srtZ_asc nd) (p.trans (srtZ_perm kvs).symm)
def skT (x : Tl) : Tl := ⟨x.m, x.o, srtZ x.c⟩
theorem skT_ok {r : Int} {x : Tl} (h : TlOk r x) : TlOk r (skT x) := by
  have p := srtZ_perm x.c
  refine ⟨(p.map (·.1)).nodup_iff.mpr h.nd, ?_, fun e he => h.pos e (p.mem_iff.mp he), fun e he => h.nm e (p.mem_iff.mp he)⟩
  show ((srtZ x.c).length : Int) ≤ r
  rw [p.length_eq]
  exact h.len
/-! a tree's pile, the uppermost first -/
def stepT (r : Int) (st : List Tl) : Stp → List Tl
  | .put zs => feedsT r zs tl0 :: st
  | .pour => match st with
    | x :: y :: st => pourT r (skT x) y :: st
    | st => st
def runT (r : Int) (l : List Stp) : List Tl := l.foldl (stepT r) []
theorem runT_snoc {r : Int} {l : List Stp} {i : Nat} {t : Stp} (h : l[i]? = some t) : runT r (l.take (i + 1)) = stepT r (runT r (l.take i)) t := by
  unfold runT
  rw [List.take_add_one, h, List.foldl_append]
  rfl
end Kb


namespace Kb
open PySem PySem.Spec PyProof.Rows L2 SrtZ SrtO
abbrev smixed : Stmt := topS 85
abbrev Nmixed : List Str := ["_law_number_here"]
theorem scmixed : FnScope ["_law_number_here"] ["_law_number_here"] (defScope smixed) := ⟨rfl, rfl, rfl, by decide +kernel, rfl, by decide +kernel, by decide +kernel⟩
abbrev swell : Stmt := topS 86
abbrev Nwell : List Str := ["_law_script", "_law_cell"]
theorem scwell : FnScope ["_law_script", "_law_cell"] ["_law_script"] (defScope swell) := ⟨rfl, rfl, rfl, by decide +kernel, rfl, by decide +kernel, by decide +kernel⟩
abbrev sfilled : Stmt := topS 87
abbrev Nfilled : List Str := ["_law_well_here", "_law_cell"]
theorem scfilled : FnScope ["_law_well_here", "_law_cell"] ["_law_well_here"] (defScope sfilled) := ⟨rfl, rfl, rfl, by decide +kernel, rfl, by decide +kernel, by decide +kernel⟩
abbrev sdraw : Stmt := topS 88
abbrev Ndraw : List Str := ["_law_well_here", "_law_many", "_law_told"]
theorem scdraw : FnScope ["_law_well_here", "_law_many", "_law_told"] ["_law_well_here", "_law_many"] (defScope sdraw) := ⟨rfl, rfl, rfl, by decide +kernel, rfl, by decide +kernel, by decide +kernel⟩
abbrev Dnmixed (K : PySem.W.Frag) (mg : Str → Option Value) := Dn K mg "_law_mixed" smixed ["_law_number_here"]
abbrev Dnwell (K : PySem.W.Frag) (mg : Str → Option Value) := Dn K mg "_law_well" swell ["_law_script"]
abbrev Dnfilled (K : PySem.W.Frag) (mg : Str → Option Value) := Dn K mg "_law_filled" sfilled ["_law_well_here"]
abbrev Dndraw (K : PySem.W.Frag) (mg : Str → Option Value) := Dn K mg "_law_draw" sdraw ["_law_well_here", "_law_many"]
/-- the well that is drawn from: its list, its cells -/
structure Wl (a c : Addr) (H : Hp) : Prop where
  ac : a ≠ c
  ex : ∃ (ns : List Int) (t u z : Int), H a = some (.lst [.ref c, .int t, .int u, .int z]) ∧ H c = some (.lst (ns.map V.int)) ∧ 0 ≤ t ∧ 0 ≤ u ∧ 0 ≤ z ∧ z < 2147483629
/-- all but the well stays -/
def Exw (a : Addr) (H H' : Hp) : Prop := ∀ b o, b ≠ a → H b = some o → H' b = some o
theorem Exw.refl (a : Addr) (H : Hp) : Exw a H H := fun _ _ _ h => h
theorem Exw.trans {a : Addr} {H H1 H2 : Hp} (x : Exw a H H1) (y : Exw a H1 H2) : Exw a H H2 := fun b o n h => y b o n (x b o n h)
theorem Exw.up {a : Addr} {H H1 : Hp} {u : HO} (x : Exw a H H1) : Exw a H (upd H1 a u) := fun b o n h => by
  rw [upd_ne n]
  exact x b o n h
theorem Exw.same {a : Addr} {H H1 H2 : Hp} (x : Exw a H H1) (y : Same H1 H2) : Exw a H H2 := fun b o n h => y b o (x b o n h)
theorem Same.exw {a : Addr} {H H1 : Hp} (x : Same H H1) : Exw a H H1 := fun b o _ h => x b o h
theorem Wl.same {a c : Addr} {H H' : Hp} (h : Wl a c H) (y : Same H H') : Wl a c H' := by
  obtain ⟨n1, ns, t, u, z, e1, e2, r⟩ := h
  exact ⟨n1, ns, t, u, z, y _ _ e1, y _ _ e2, r⟩
theorem Wl.nea {a c p : Addr} {H : Hp} (h : Wl a c H) (hp : H p = none) : p ≠ a := by
  obtain ⟨_, ns, t, u, z, e1, e2, _⟩ := h
  exact (ne_of_none e1 hp).symm
/-- what is no list of the well's form stays -/
theorem Exw.at {a c b : Addr} {H H' : Hp} {o : HO} (x : Exw a H H') (h : Wl a c H) (hb : H b = some o) (hl : ∀ xs, o ≠ .lst xs) : H' b = some o := by
  obtain ⟨_, ns, t, u, z, e1, e2, _⟩ := h
  exact x b o (ne_of hb e1 (hl _)) hb
/-- a list of texts is not the well's -/
theorem Exw.strs {a c b : Addr} {H H' : Hp} {zs : List Str} (x : Exw a H H') (h : Wl a c H) (hb : H b = some (.lst (zs.map V.str))) : H' b = some (.lst (zs.map V.str)) := by
  obtain ⟨_, ns, t, u, z, e1, e2, _⟩ := h
  refine x b _ (fun e => ?_) hb
  subst e
  rw [hb] at e1
  have := HO.lst.inj (Option.some.inj e1)
  cases zs with
  | nil => cases this
  | cons y ys => cases this
theorem Exw.tup {K : PySem.W.Frag} {a c b : Addr} {H H' : Hp} {xs : List V} (x : Exw a H H') (h : Wl a c H) (hb : SqT K H b xs) : SqT K H' b xs := by
  rcases hb with (hb | ⟨o, hb⟩) | hb
  · exact .inl (.inl (x.at h hb (by intro _ z; cases z)))
  · exact .inl (.inr ⟨o, x.at h hb (by intro _ z; cases z)⟩)
  · exact .inr hb
theorem Exw.new {a p : Addr} {H H1 : Hp} {u : HO} (x : Exw a H H1) (h : H1 p = none) : Exw a H (upd H1 p u) := x.same (same_upd h)
theorem Exw.gone {a p : Addr} {H H1 : Hp} (x : Exw a H H1) (ne : p ≠ a) (h : H1 p = none) : H p = none := by
  cases e : H p with
  | none => rfl
  | some o => rw [x _ _ ne e] at h; cases h
/-- an object that was new is stored anew -/
theorem Exw.put {a p : Addr} {H H1 : Hp} {u : HO} (x : Exw a H H1) (h : H p = none) : Exw a H (upd H1 p u) := fun b o n e => by
  rw [upd_ne (ne_of_none e h)]
  exact x b o n e
theorem rd_ix {K : PySem.W.Frag} {σ : L2.St} {H : Hp} {Q : VK} {a : Addr} {xs : List V} {v : V} {n : Nat} (k : Nat) (h0 : σ[n]? = some (some (.ref a))) (hS : SqL K H a xs) (hv : xs[k]? = some v) (q : Q v H) :
    tOp (rIxL K) (tVar n) (tC (.int (k : Int))) σ H Q := ⟨.ref a, h0, a, xs, k, v, rfl, rfl, hS, atI_nat hv, q⟩
theorem rd_set {H : Hp} {σ : L2.St} {a : Addr} {xs : List V} {v : V} {n : Nat} (k : Nat) {R : L2.St → Hp → Prop} (h0 : σ[n]? = some (some (.ref a))) (h : H a = some (.lst xs)) (hk : k < xs.length) (q : R σ (upd H a (.lst (xs.set k v)))) :
    gSub (tVar n) (tC (.int (k : Int))) rSetL v σ H R := ⟨.ref a, h0, a, xs, k, k, rfl, rfl, h, by unfold ixN; rw [if_pos (by omega), if_pos (by omega)]; simp, q⟩
theorem cut63 {xs : List V} (h : xs.length ≤ 63) : cutV xs none (some 63) = xs := by
  unfold cutV
  rw [show HT.sIx xs.length xs.length (some 63) = min 63 xs.length from HT.sIx_nat xs.length xs.length 63, HT.sIx_none, List.drop_zero, Nat.sub_zero]
  exact List.take_of_length_le (by omega)
section
variable {P : Program} {w : World} {K : PySem.W.Frag} {mg : Str → Option Value} {base : Heap}
/-! _law_mixed -/
def spMixed : Sp := fun vs H Q _ => ∃ n : Int, vs = [.int n] ∧ ∀ r : Int, 0 ≤ r → Q (.int r) H
theorem ok_mixed (T : Blt mg) (d : Dnmixed K mg) : FnOk P w K mg base CX0 1 d.f d.fd ["_law_number_here"] spMixed := by
  refine d.F.ok scmixed (fun vs H Q E h => ?_) (fun cdv A outer s H vs Q E hr h => ?_)
  · obtain ⟨n, rfl, _⟩ := h
    rfl
  · obtain ⟨n, rfl, q⟩ := h
    refine ⟨_, (pss_cons (ps_set (i := 0) scmixed.nd rfl (Or.inl rfl) (pe_op op_modB (pe_callTy call_int1 (by rfl) T.n_int (by decide +kernel) (pa_cons (pe_op op_add (pe_op op_mul (pv 0) pe_int) pe_int) pa_nil)) pe_int))
    (pss_cons (ps_set (i := 0) scmixed.nd rfl (Or.inl rfl) (pe_op op_modB (pe_callTy call_int1 (by rfl) T.n_int (by decide +kernel) (pa_cons (pe_op op_add (pe_op op_mul (pv 0) (pe_op op_add (pe_op op_fdiv (pv 0) pe_int) pe_int)) pe_int) pa_nil)) pe_int))
    (pss_one (ps_ret (pe_op op_add (pe_op op_mul (pv 0) pe_int) (pe_op op_modB (pe_callTy call_int1 (by rfl) T.n_int (by decide +kernel) (pa_cons (pe_op op_add (pe_op op_mul (pv 0) (pe_op op_add (pe_op op_fdiv (pv 0) pe_int) pe_int)) pe_int) pa_nil)) pe_int)))))), ?_⟩
    refine ⟨.int n, rfl, _, _, rfl, rfl, cmulR (by decide) (by decide), _, _, rfl, rfl, .inl ⟨_, rfl, _, _, rfl, rfl, (by show (0 : Int) < 2147483647; decide), fun x1 a0 a1 _ => ?_⟩⟩
    refine ⟨.int x1, rfl, .int x1, rfl, _, _, rfl, rfl, ⟨by decide, by decide⟩, _, _, rfl, rfl, _, _, rfl, rfl, cmulL a0 (by omega), _, _, rfl, rfl, .inl ⟨_, rfl, _, _, rfl, rfl, (by show (0 : Int) < 2147483647; decide), fun x2 b0 b1 _ => ?_⟩⟩
    refine ⟨.int x2, rfl, _, _, rfl, rfl, cmulL b0 (by omega), .int x2, rfl, .int x2, rfl, _, _, rfl, rfl, ⟨by decide, by decide⟩, _, _, rfl, rfl, _, _, rfl, rfl, cmulL b0 (by omega), _, _, rfl, rfl, .inl ⟨_, rfl, _, _, rfl, rfl, (by show (0 : Int) < 2147483399; decide), fun x3 c0 c1 _ => ?_⟩⟩
    exact ⟨_, _, rfl, rfl, q _ (by have : 0 ≤ x2 * 2147483399 := Int.mul_nonneg b0 (by decide); omega)⟩
/-! _law_well -/
def spWell (K : PySem.W.Frag) : Sp := fun vs H Q _ => ∃ (a : Addr) (ns : List Int), vs = [.ref a] ∧ SqL K H a (ns.map V.int) ∧ ns.length ≤ 63 ∧ ∀ H' p c, Same H H' → H p = none → Wl p c H' → Q (.ref p) H'
theorem ok_well (T : Blt mg) (d : Dnwell K mg) : FnOk P w K mg base CX0 1 d.f d.fd ["_law_script"] (spWell K) := by
  refine d.F.ok scwell (fun vs H Q E h => ?_) (fun cdv A outer s H vs Q E hr h => ?_)
  · obtain ⟨a, ns, rfl, _⟩ := h
    rfl
  · obtain ⟨a, ns, rfl, hS, hlen, q⟩ := h
    refine ⟨_, (pss_one (ps_ret (pe_lst (pa_cons (pe_lc (own := [("_law_cell", 1)]) (g := gName 1) (tt := tYes) rfl scwell.nd (pi_list (pe_slice sl_list (pv 0) po_none (po_some pe_int))) (blkOk_by (N := Nwell) (sc := defScope swell) (by decide +kernel)) (fun _ _ _ _ _ => pg_name (i := 1) scwell.nd rfl (Or.inl rfl)) (fun _ _ _ _ _ => pts_nil) (fun _ _ _ _ _ => (pe_callTy call_int1 (by rfl) T.n_int (by decide +kernel) (pa_cons (pv 1) pa_nil)))) (pa_cons pe_int (pa_cons pe_int (pa_cons pe_int pa_nil))))))), ?_⟩
    refine ⟨.ref a, rfl, 63, rfl, a, _, rfl, hS, fun c nc => ?_⟩
    rw [cut63 (by rw [List.length_map]; exact hlen)]
    refine ⟨c, rfl, ⟨_, sql upd_same⟩, fun D nD => lc_list (xs := ns.map V.int) (fun i H3 => Same H H3 ∧ H3 c = some (.lst (ns.map V.int)) ∧ H3 D = some (.lst ((ns.take i).map V.int)))
      ⟨Same.new (same_upd nc) nD, by rw [upd_ne (ne_of_none upd_same nD)]; exact upd_same, upd_same⟩ (fun i H3 _ h3 => sql h3.2.1) (fun i x H3 hx h3 => ?_) (fun H3 h3 => ?_)⟩
    · obtain ⟨x, hx', rfl⟩ := map_at hx
      have cD : c ≠ D := ne_of_none upd_same nD
      have nD0 : H D = none := Same.gone (same_upd nc) nD
      refine ⟨rfl, .int x, rfl, .inl ⟨_, rfl, _, h3.2.2, ?_, Same.put h3.1 nD0, by rw [upd_ne cD]; exact h3.2.1, ?_⟩⟩
      · rw [List.length_map, List.length_take, sizeLine_eq]
        omega
      · rw [upd_same, List.take_add_one, hx', List.map_append]
        rfl
    · obtain ⟨s3, hc3, hD3⟩ := h3
      rw [List.length_map, List.take_length] at hD3
      refine ⟨(by show 4 ≤ sizeLine; decide), fun p np => ?_⟩
      have Dp : D ≠ p := ne_of_none hD3 np
      exact q _ p D (Same.new s3 np) (Same.gone s3 np) ⟨Dp.symm, ns, 0, 0, 1, upd_same, by rw [upd_ne Dp]; exact hD3, by decide, by decide, by decide, by decide⟩
/-! _law_filled -/
def spFilled : Sp := fun vs H Q _ => ∃ (a c : Addr), vs = [.ref a] ∧ Wl a c H ∧ ∀ H' (r : Int), Exw a H H' → Wl a c H' → 0 ≤ r → Q (.int r) H'
theorem ok_filled (T : Blt mg) (dmixed : Dnmixed K mg) (d : Dnfilled K mg) : FnOk P w K mg base CX0 2 d.f d.fd ["_law_well_here"] spFilled := by
  have Gmixed : FnOk P w K mg base CX0 1 dmixed.f dmixed.fd ["_law_number_here"] spMixed := ok_mixed T dmixed
  refine d.F.ok scfilled (fun vs H Q E h => ?_) (fun cdv A outer s H vs Q E hr h => ?_)
  · obtain ⟨a, c, rfl, _⟩ := h
    rfl
  · obtain ⟨a, c, rfl, ⟨nac, ns, t, u, z, ea, ec, t0, u0, z0, z1⟩, q⟩ := h
    refine ⟨_, (pss_cons (ps_asg (pe_op op_add (pe_ix ix_list (pv 0) pe_int (fun _ _ => rfl)) pe_int) (pg_sub (pv 0) pe_int set_list))
    (pss_cons (ps_if (pt_cmpR op_le (pe_ix ix_list (pv 0) pe_int (fun _ _ => rfl)) (pe_callB call_len_seq (by rfl) T.n_len (by decide +kernel) (pa_cons (pe_ix ix_list (pv 0) pe_int (fun _ _ => rfl)) pa_nil)) (nomark _))
      (pss_cons (ps_set (i := 1) scfilled.nd rfl (Or.inl rfl) (pe_ix ix_list (pe_ix ix_list (pv 0) pe_int (fun _ _ => rfl)) (pe_op op_sub (pe_ix ix_list (pv 0) pe_int (fun _ _ => rfl)) pe_int) (fun _ _ => rfl)))
      (pss_cons (ps_asg (pe_op op_modB (pe_callTy call_int1 (by rfl) T.n_int (by decide +kernel) (pa_cons (pe_op op_add (pe_op op_add (pe_op op_mul (pe_ix ix_list (pv 0) pe_int (fun _ _ => rfl)) pe_int) (pv 1)) pe_int) pa_nil)) pe_int) (pg_sub (pv 0) pe_int set_list))
      (pss_cons (ps_if (pt_cmpR op_ge (pv 1) (pe_op op_pow pe_int pe_int) (nomark _))
        (pss_one (ps_ret (pv 1)))
        pss_nil)
      (pss_one (ps_ret (pe_call Gmixed (hr.mono (by omega)) (by rfl) dmixed.g dmixed.F.kp dmixed.b .nil pass0 (pa_cons (pe_op op_add (pv 1) (pe_op op_mul pe_int (pe_ix ix_list (pv 0) pe_int (fun _ _ => rfl)))) pa_nil)))))))
      pss_nil)
    (pss_one (ps_ret (pe_call Gmixed (hr.mono (by omega)) (by rfl) dmixed.g dmixed.F.kp dmixed.b .nil pass0 (pa_cons (pe_op op_add (pe_ix ix_list (pv 0) pe_int (fun _ _ => rfl)) (pe_op op_mul pe_int (pe_ix ix_list (pv 0) pe_int (fun _ _ => rfl)))) pa_nil)))))), ?_⟩
    refine rd_ix 1 rfl (sql ea) rfl ⟨_, _, rfl, rfl, rd_set 1 rfl ea (by decide : 1 < 4) ?_⟩
    have ea1 : (upd H a (.lst ([V.ref c, V.int t, V.int u, V.int z].set 1 (V.int (t + 1))))) a = some (.lst [.ref c, .int (t + 1), .int u, .int z]) := upd_same
    have ec1 : (upd H a (.lst ([V.ref c, V.int t, V.int u, V.int z].set 1 (V.int (t + 1))))) c = some (.lst (ns.map V.int)) := by rw [upd_ne nac.symm]; exact ec
    have ex1 : Exw a H (upd H a (.lst ([V.ref c, V.int t, V.int u, V.int z].set 1 (V.int (t + 1))))) := (Exw.refl a H).up
    generalize upd H a (.lst ([V.ref c, V.int t, V.int u, V.int z].set 1 (V.int (t + 1)))) = H1 at ea1 ec1 ex1
    refine rd_ix 1 rfl (sql ea1) rfl (rd_ix 0 rfl (sql ea1) rfl ⟨c, _, rfl, .inl (sql ec1), _, _, rfl, rfl, _, rfl, ite2 (fun hp => ?_) fun _ => ?_⟩)
    · have hl := of_decide_eq_true hp
      rw [List.length_map] at hl
      obtain ⟨k, rfl⟩ := Int.eq_ofNat_of_zero_le t0
      have hk : k < ns.length := by omega
      have hx : (ns.map V.int)[k]? = some (.int ns[k]) := by rw [List.getElem?_map, List.getElem?_eq_getElem hk]; rfl
      refine rd_ix 0 rfl (sql ea1) rfl (rd_ix 1 rfl (sql ea1) rfl ⟨_, _, rfl, rfl, c, _, _, _, rfl, rfl, sql ec1, (by rw [show (k : Int) + 1 - 1 = (k : Int) by omega]; exact atI_nat hx), ?_⟩)
      refine rd_ix 3 rfl (sql ea1) rfl ⟨_, _, rfl, rfl, cmulR (by decide) (by decide), .int ns[k], rfl, _, _, rfl, rfl, _, _, rfl, rfl, .inl ⟨_, rfl, _, _, rfl, rfl, (by show (0 : Int) < 2147483629; decide), fun z2 z20 z21 _ => ?_⟩⟩
      refine rd_set 3 rfl ea1 (by decide : 3 < 4) ?_
      have ea2 : (upd H1 a (.lst ([V.ref c, V.int (k + 1), V.int u, V.int z].set 3 (V.int z2)))) a = some (.lst [.ref c, .int (k + 1), .int u, .int z2]) := upd_same
      have ec2 : (upd H1 a (.lst ([V.ref c, V.int (k + 1), V.int u, V.int z].set 3 (V.int z2)))) c = some (.lst (ns.map V.int)) := by rw [upd_ne nac.symm]; exact ec1
      have ex2 : Exw a H (upd H1 a (.lst ([V.ref c, V.int (k + 1), V.int u, V.int z].set 3 (V.int z2)))) := ex1.up
      generalize upd H1 a (.lst ([V.ref c, V.int (k + 1), V.int u, V.int z].set 3 (V.int z2))) = H2 at ea2 ec2 ex2
      have wl2 : Wl a c H2 := ⟨nac, ns, k + 1, u, z2, ea2, ec2, by omega, u0, z20, z21⟩
      refine ⟨.int ns[k], rfl, _, _, rfl, rfl, ⟨by decide, by decide, by decide⟩, _, _, rfl, rfl, _, rfl, ite2 (fun hb => ?_) fun _ => ?_⟩
      · exact ⟨.int ns[k], rfl, q H2 _ ex2 wl2 (by have h := of_decide_eq_true hb; simp at h; omega)⟩
      · refine ⟨.int ns[k], rfl, rd_ix 1 rfl (sql ea2) rfl ⟨_, _, rfl, rfl, cmulL (by decide) (by decide), _, _, rfl, rfl, _, rfl, fun r r0 => q H2 r ex2 wl2 r0⟩⟩
    · have wl1 : Wl a c H1 := ⟨nac, ns, t + 1, u, z, ea1, ec1, by omega, u0, z0, z1⟩
      exact rd_ix 3 rfl (sql ea1) rfl (rd_ix 1 rfl (sql ea1) rfl ⟨_, _, rfl, rfl, cmulL (by decide) (by decide), _, _, rfl, rfl, _, rfl, fun r r0 => q H1 r ex1 wl1 r0⟩)
/-! _law_draw -/
def spDraw : Sp := fun vs H Q _ => ∃ (a c : Addr) (n : Int), vs = [.ref a, .int n] ∧ Wl a c H ∧ 0 < n ∧ n < 1073741824 ∧ ∀ H' (r : Int), Exw a H H' → Wl a c H' → 0 ≤ r → r < n → Q (.int r) H'
theorem ok_draw (T : Blt mg) (dmixed : Dnmixed K mg) (dfilled : Dnfilled K mg) (d : Dndraw K mg) : FnOk P w K mg base CX0 3 d.f d.fd ["_law_well_here", "_law_many"] spDraw := by
  have Gfilled : FnOk P w K mg base CX0 2 dfilled.f dfilled.fd ["_law_well_here"] spFilled := ok_filled T dmixed dfilled
  refine d.F.ok scdraw (fun vs H Q E h => ?_) (fun cdv A outer s H vs Q E hr h => ?_)
  · obtain ⟨a, c, n, rfl, _⟩ := h
    rfl
  · obtain ⟨a, c, n, rfl, hw, hn0, hn1, q⟩ := h
    refine ⟨_, (C8.pss_cut (ps_if (pt_cmpR op_eq (pe_ix ix_list (pv 0) pe_int (fun _ _ => rfl)) pe_int (nomark _))
      (pss_one (ps_asg (pe_call Gfilled (hr.mono (by omega)) (by rfl) dfilled.g dfilled.F.kp dfilled.b .nil pass0 (pa_cons (pv 0) pa_nil)) (pg_sub (pv 0) pe_int set_list)))
      pss_nil)
    (pss_cons (ps_set (i := 2) scdraw.nd rfl (Or.inl rfl) (pe_op op_modB (pe_callTy call_int1 (by rfl) T.n_int (by decide +kernel) (pa_cons (pe_ix ix_list (pv 0) pe_int (fun _ _ => rfl)) pa_nil)) (pv 1)))
    (pss_cons (ps_asg (pe_op op_fdiv (pe_callTy call_int1 (by rfl) T.n_int (by decide +kernel) (pa_cons (pe_ix ix_list (pv 0) pe_int (fun _ _ => rfl)) pa_nil)) (pv 1)) (pg_sub (pv 0) pe_int set_list))
    (pss_one (ps_ret (pv 2)))))), ?_⟩
    refine ⟨fun σ H3 => σ = [some (.ref a), some (.int n), none] ∧ Exw a H H3 ∧ Wl a c H3, ?_, ?_⟩
    · obtain ⟨nac, ns, t, u, z, ea, ec, t0, u0, z0, z1⟩ := id hw
      refine rd_ix 2 rfl (sql ea) rfl ⟨rfl, _, rfl, ite2 (fun _ => ?_) fun _ => ?_⟩
      · refine ⟨.ref a, rfl, a, c, rfl, hw, fun H1 r x1 w1 r0 => ?_⟩
        obtain ⟨nac, ns, t, u, z, ea, ec, t0, u0, z0, z1⟩ := w1
        refine rd_set 2 rfl ea (by decide : 2 < 4) ⟨rfl, x1.up, nac, ns, t, r, z, upd_same, by rw [upd_ne nac.symm]; exact ec, t0, r0, z0, z1⟩
      · exact ⟨rfl, Exw.refl a H, hw⟩
    · rintro σ H3 ⟨rfl, x3, nac, ns, t, u, z, ea, ec, t0, u0, z0, z1⟩
      refine rd_ix 2 rfl (sql ea) rfl (.inl ⟨_, rfl, .int n, rfl, _, _, rfl, rfl, hn0, fun r r0 r1 _ => ?_⟩)
      refine rd_ix 2 rfl (sql ea) rfl (.inl ⟨_, rfl, .int n, rfl, _, _, rfl, rfl, ⟨hn0, hn1⟩, ?_⟩)
      refine rd_set 2 rfl ea (by decide : 2 < 4) ⟨.int r, rfl, ?_⟩
      exact q _ r x3.up ⟨nac, ns, t, u / n, z, upd_same, by rw [upd_ne nac.symm]; exact ec, t0, Int.ediv_nonneg u0 (by omega), z0, z1⟩ r0 r1
end
end Kb


namespace Kb
open PySem PySem.Spec PyProof.Rows L2 SrtZ SrtO
abbrev sname : Stmt := topS 92
abbrev Nname : List Str := ["_law_well_here", "_law_many", "_law_k"]
theorem scname : FnScope ["_law_well_here", "_law_many", "_law_k"] ["_law_well_here"] (defScope sname) := ⟨rfl, rfl, rfl, by decide +kernel, rfl, by decide +kernel, by decide +kernel⟩
abbrev sunlike : Stmt := topS 93
abbrev Nunlike : List Str := ["_law_things", "_law_found", "_law_thing"]
theorem scunlike : FnScope ["_law_things", "_law_found", "_law_thing"] ["_law_things"] (defScope sunlike) := ⟨rfl, rfl, rfl, by decide +kernel, rfl, by decide +kernel, by decide +kernel⟩
abbrev Nnames : List Str := ["_law_well_here", "_law_most", "_law_k"]
abbrev Nroom : List Str := ["_law_well_here"]
abbrev Dnname (K : PySem.W.Frag) (mg : Str → Option Value) := Dn K mg "_law_name" sname ["_law_well_here"]
abbrev Dnunlike (K : PySem.W.Frag) (mg : Str → Option Value) := Dn K mg "_law_unlike" sunlike ["_law_things"]
/-! texts by their signs -/
def S (l : List Nat) : Str := ⟨l.toArray⟩
theorem cs_S (l : List Nat) : cs (S l) = l := by simp [cs, S]
theorem S_cs (z : Str) : S (cs z) = z := by cases z; simp [cs, S]
theorem S_len (l : List Nat) : (S l).length = l.length := by simp [S, Str.length]
theorem cs_app (a b : Str) : cs (a ++ b) = cs a ++ cs b := by
  show (a.cps ++ b.cps).toList = _
  simp [cs]
theorem join0 : ∀ ys : List Str, Str.join (S []) ys = S (ys.map cs).flatten
  | [] => rfl
  | [x] => by
    show x = _
    simp [S_cs]
  | x :: y :: r => by
    show x ++ S [] ++ Str.join (S []) (y :: r) = _
    rw [join0 (y :: r)]
    apply cs_inj
    rw [cs_app, cs_app, cs_S, cs_S, cs_S]
    simp
theorem join_signs (l : List Nat) : Txt.join (S []) (l.map fun c => S [c]) = S l := by
  rw [show Txt.join (S []) (l.map fun c => S [c]) = Str.join (S []) (l.map fun c => S [c]) from PySem.StrLaws.glued_eq_join _ _, join0]
  congr 1
  induction l with
  | nil => rfl
  | cons c l ih =>
    rw [List.map_cons, List.map_cons, List.flatten_cons, ih, cs_S]
    rfl
theorem signs_len (l : List Nat) : ((List.map ((fun x => x.length) ∘ fun c => S [c]) l)).sum = l.length := by
  induction l with
  | nil => rfl
  | cons x r ih =>
    rw [List.map_cons, List.sum_cons, ih, List.length_cons]
    show 1 + _ = _
    omega
theorem abc_at : ∀ m : Fin 26, (Str.ofString "abcdefghijklmnopqrstuvwxyz").cps.toList[m.val]? = some (97 + m.val) := by decide +kernel
theorem Wl.ne2 {a c p : Addr} {H : Hp} (h : Wl a c H) (hp : H p = none) : p ≠ a ∧ p ≠ c := by
  obtain ⟨_, ns, t, u, z, e1, e2, _⟩ := h
  exact ⟨(ne_of_none e1 hp).symm, (ne_of_none e2 hp).symm⟩
theorem Wl.put {a c p : Addr} {H : Hp} {u : HO} (h : Wl a c H) (n : p ≠ a ∧ p ≠ c) : Wl a c (upd H p u) := by
  obtain ⟨n1, ns, t, v, z, e1, e2, r⟩ := h
  exact ⟨n1, ns, t, v, z, by rw [upd_ne n.1.symm]; exact e1, by rw [upd_ne n.2.symm]; exact e2, r⟩
theorem inV_str {z : Str} {fs : List Str} : inV (V.str z) (fs.map V.str) = decide (z ∈ fs) := by
  unfold inV
  rw [List.any_map]
  by_cases h : z ∈ fs
  · rw [decide_eq_true h]
    refine List.any_eq_true.mpr ⟨z, h, ?_⟩
    show (z == z) = true
    exact beq_self_eq_true z
  · rw [decide_eq_false h]
    refine List.any_eq_false.mpr fun y hy => ?_
    show ¬ (y == z) = true
    intro e
    exact h (eq_of_beq e ▸ hy)
theorem flat_strs (fs : List Str) : (fs.map V.str).all flatV = true := List.all_eq_true.mpr fun v hv => by
  obtain ⟨z, _, rfl⟩ := List.mem_map.mp hv
  rfl
theorem asc_strs {ys : List Str} (h : Srtd ltZ ys) (nd : ys.Nodup) : ys.Pairwise fun a b => ltZ a b = true := by
  refine List.Pairwise.imp₂ (fun a b (h1 : ltZ b a = false) (h2 : a ≠ b) => ?_) h nd
  rcases bcase (ltZ a b) with q | q
  · exact q
  · exact absurd (ltZ_tri q h1) h2
section
variable {P : Program} {w : World} {K : PySem.W.Frag} {mg : Str → Option Value} {base : Heap}
/-! _law_name -/
def spName : Sp := fun vs H Q _ => ∃ (a c : Addr), vs = [.ref a] ∧ Wl a c H ∧ ∀ H' z, Exw a H H' → Wl a c H' → Nm z → Q (.str z) H'
theorem ok_name (T : Blt mg) (dmixed : Dnmixed K mg) (dfilled : Dnfilled K mg) (ddraw : Dndraw K mg) (d : Dnname K mg) : FnOk P w K mg base CX0 4 d.f d.fd ["_law_well_here"] spName := by
  have Gdraw : FnOk P w K mg base CX0 3 ddraw.f ddraw.fd ["_law_well_here", "_law_many"] spDraw := ok_draw T dmixed dfilled ddraw
  refine d.F.ok scname (fun vs H Q E h => ?_) (fun cdv A outer s H vs Q E hr h => ?_)
  · obtain ⟨a, c, rfl, _⟩ := h
    rfl
  · obtain ⟨a, c, rfl, hw, q⟩ := h
    refine ⟨_, (pss_cons (ps_set (i := 1) scname.nd rfl (Or.inl rfl) (pe_op op_add pe_int (pe_call Gdraw (hr.mono (by omega)) (by rfl) ddraw.g ddraw.F.kp ddraw.b .nil pass0 (pa_cons (pv 0) (pa_cons pe_int pa_nil)))))
    (C8.pss_cut (ps_if (pt_cmpR op_eq (pe_call Gdraw (hr.mono (by omega)) (by rfl) ddraw.g ddraw.F.kp ddraw.b .nil pass0 (pa_cons (pv 0) (pa_cons pe_int pa_nil))) pe_int (nomark _))
      (pss_one (ps_set (i := 1) scname.nd rfl (Or.inl rfl) (pe_op op_add pe_int (pe_call Gdraw (hr.mono (by omega)) (by rfl) ddraw.g ddraw.F.kp ddraw.b .nil pass0 (pa_cons (pv 0) (pa_cons pe_int pa_nil))))))
      pss_nil)
    (pss_one (ps_ret (pe_join pe_str (pe_lc (own := [("_law_k", 2)]) (g := gName 2) (tt := tYes) rfl scname.nd (pi_range1 (by rfl) T.n_range (pa_cons (pv 1) pa_nil)) (blkOk_by (N := Nname) (sc := defScope sname) (by decide +kernel)) (fun _ _ _ _ _ => pg_name (i := 2) scname.nd rfl (Or.inl rfl)) (fun _ _ _ _ _ => pts_nil) (fun _ _ _ _ _ => (pe_ix ix_str pe_str (pe_call Gdraw (hr.mono (by omega)) (by rfl) ddraw.g ddraw.F.kp ddraw.b .nil pass0 (pa_cons (pv 0) (pa_cons pe_int pa_nil))) (fun _ _ => rfl))))))))), ?_⟩
    refine ⟨.ref a, rfl, a, c, 2, rfl, hw, (by decide), (by decide), fun H1 k x1 w1 k0 k1 => ⟨_, _, rfl, rfl, ?_⟩⟩
    refine ⟨fun σ H3 => ∃ m : Nat, 1 ≤ m ∧ m ≤ 8 ∧ σ = [some (.ref a), some (.int (m : Int)), none] ∧ Exw a H H3 ∧ Wl a c H3, ?_, ?_⟩
    · refine ⟨.ref a, rfl, a, c, 4, rfl, w1, (by decide), (by decide), fun H2 j x2 w2 j0 j1 => ⟨rfl, _, rfl, ite2 (fun _ => ?_) fun _ => ?_⟩⟩
      · refine ⟨.ref a, rfl, a, c, 8, rfl, w2, (by decide), (by decide), fun H3 i x3 w3 i0 i1 => ⟨_, _, rfl, rfl, ?_⟩⟩
        obtain ⟨n, rfl⟩ := Int.eq_ofNat_of_zero_le i0
        exact ⟨1 + n, by omega, by omega, by push_cast; rfl, (x1.trans x2).trans x3, w3⟩
      · obtain ⟨n, rfl⟩ := Int.eq_ofNat_of_zero_le k0
        exact ⟨1 + n, by omega, by omega, by push_cast; rfl, x1.trans x2, w2⟩
    · rintro σ H3 ⟨m, m1, m8, rfl, x3, w3⟩
      refine ⟨⟨_, rfl⟩, .int (m : Int), rfl, (m : Int), rfl, (by omega), (by omega), fun D nD => ?_⟩
      rw [Int.toNat_natCast]
      have hD := w3.ne2 nD
      refine lc_range (lo := 0) (n := m) (fun i H8 => Exw a H3 H8 ∧ Wl a c H8 ∧ ∃ l : List Nat, H8 D = some (.lst (l.map fun c => V.str (S [c]))) ∧ l.length = i ∧ ∀ c ∈ l, nmC c = true) ⟨(Exw.refl a H3).put nD, w3.same (same_upd nD), [], upd_same, rfl, fun _ h => nomatch h⟩ (fun i H8 hi h8 => ?_) (fun H8 h8 => ?_)
      · obtain ⟨x8, p8, l, hD8, hl, hc⟩ := h8
        refine ⟨rfl, .ref a, rfl, a, c, 26, rfl, p8, (by decide), (by decide), fun H9 c' x9 p9 c0 c26 => ?_⟩
        obtain ⟨c', rfl⟩ := Int.eq_ofNat_of_zero_le c0
        have hc26 : c' < 26 := by omega
        have hz : (Str.ofString "abcdefghijklmnopqrstuvwxyz").length ≤ sizeLine := by
          rw [show (Str.ofString "abcdefghijklmnopqrstuvwxyz").length = 26 by decide +kernel, sizeLine_eq]
          decide
        refine ⟨_, _, _, rfl, rfl, hz, atI_nat (abc_at ⟨c', hc26⟩), _, x9 D _ hD.1 hD8, ?_, (x8.trans x9).put nD, p9.put hD, l ++ [97 + c'], ?_, ?_, fun u hu => ?_⟩
        · rw [List.length_map, hl, sizeLine_eq]
          omega
        · rw [upd_same, List.map_append]
          rfl
        · rw [List.length_append, hl]
          rfl
        · rcases List.mem_append.mp hu with hu | hu
          · exact hc u hu
          · rw [List.mem_singleton.mp hu]
            unfold nmC
            simp
            omega
      obtain ⟨x8, p8, l, hD8, hl, hc⟩ := h8
      have ej : Txt.join (Str.ofString "") (l.map fun c => S [c]) = S l := join_signs l
      refine ⟨_, D, l.map fun c => S [c], rfl, rfl, .inl (sql (by rw [hD8, List.map_map]; rfl)), ?_, ?_⟩
      · rw [List.map_map, List.length_map, signs_len]
        show l.length + l.length * 0 ≤ 16777216
        omega
      · rw [ej]
        exact q H8 _ (x3.trans x8) p8 ⟨by rw [S_len]; omega, by rw [S_len]; omega, by rw [cs_S]; exact hc⟩
/-! _law_unlike -/
def spUnlike : Sp := fun vs H Q _ => ∃ (l : Addr) (zs : List Str), vs = [.ref l] ∧ H l = some (.lst (zs.map V.str)) ∧ zs.length ≤ 1000 ∧
  ∀ H' p (ys : List Str), Same H H' → H p = none → H' p = some (.lst (ys.map V.str)) → (ys.Pairwise fun a b => ltZ a b = true) → (∀ y, y ∈ ys ↔ y ∈ zs) → ys.length ≤ zs.length → Q (.ref p) H'
theorem ok_unlike (T : Blt mg) (d : Dnunlike K mg) : FnOk P w K mg base CX0 1 d.f d.fd ["_law_things"] spUnlike := by
  refine d.F.ok scunlike (fun vs H Q E h => ?_) (fun cdv A outer s H vs Q E hr h => ?_)
  · obtain ⟨l, zs, rfl, _⟩ := h
    rfl
  · obtain ⟨l, zs, rfl, hl, hlen, q⟩ := h
    refine ⟨_, (pss_cons (ps_set (i := 1) scunlike.nd rfl (Or.inl rfl) (pe_lst pa_nil))
    (pss_cons (ps_for PassesOwn.never rfl (pi_list (pv 0)) (pg_name (i := 2) scunlike.nd rfl (Or.inl rfl))
      (pss_one (ps_if (pt_cmpR op_notIn_seq (pv 2) (pv 1) rfl)
        (pss_one (ps_expr (pe_bm PySem.F.plainAttrs_list PySem.F.slot_list_append PySem.F.type_list_append mt_append (pv 1) (pa_cons (pv 2) pa_nil))))
        pss_nil)))
    (pss_one (ps_ret (pe_callB cr_sortedSL (by rfl) T.n_sorted (by decide +kernel) (pa_cons (pv 1) pa_nil)))))), ?_⟩
    refine ⟨(by show 0 ≤ sizeLine; exact Nat.zero_le _), fun D nD => ?_⟩
    have lD : l ≠ D := ne_of_none hl nD
    refine ⟨.ref l, rfl, l, rfl, ⟨_, sql (same_upd nD _ _ hl)⟩, for_list (xs := zs.map V.str) (fun i σ H3 => ∃ x, σ = [some (.ref l), some (.ref D), x] ∧ Same H H3 ∧ ∃ fs : List Str, H3 D = some (.lst (fs.map V.str)) ∧ fs.Nodup ∧ fs.length ≤ i ∧ ∀ y, y ∈ fs ↔ y ∈ zs.take i) ⟨none, rfl, same_upd nD, [], upd_same, List.nodup_nil, Nat.le_refl _, fun y => by simp⟩ (fun i σ H3 _ ⟨_, _, s3, _⟩ => sql (s3 _ _ hl)) ?_ ?_⟩
    · rintro i v σ H3 hi ⟨x, rfl, s3, fs, hD3, nd, fl, mem⟩
      obtain ⟨z, hz, rfl⟩ := map_at hi
      have hil := (List.getElem?_eq_some_iff.mp hz).1
      refine ⟨.str z, rfl, .ref D, rfl, D, _, rfl, .inl (sql hD3), rfl, flat_strs fs, _, rfl, ?_⟩
      rw [inV_str]
      by_cases h : z ∈ fs
      · rw [decide_eq_true h]
        refine iteF ⟨some (.str z), rfl, s3, fs, hD3, nd, by omega, fun y => ?_⟩
        rw [List.take_add_one, hz, mem y]
        constructor
        · intro hy
          exact List.mem_append.mpr (.inl hy)
        · intro hy
          rcases List.mem_append.mp hy with hy | hy
          · exact hy
          · rw [List.mem_singleton.mp hy]
            exact (mem z).mp h
      · rw [decide_eq_false h]
        refine iteT ⟨.ref D, rfl, .inl ⟨rfl, _, sql hD3⟩, .str z, rfl, D, _, _, rfl, rfl, hD3, ?_, some (.str z), rfl, Same.put s3 nD, fs ++ [z], ?_, ?_, ?_, fun y => ?_⟩
        · rw [List.length_map, sizeLine_eq]
          omega
        · rw [upd_same, List.map_append]
          rfl
        · exact List.nodup_append.mpr ⟨nd, (by simp), fun a ha b hb e => by rw [List.mem_singleton.mp hb] at e; exact h (e ▸ ha)⟩
        · rw [List.length_append]
          show fs.length + 1 ≤ i + 1
          omega
        · rw [List.take_add_one, hz]
          constructor
          · intro hy
            rcases List.mem_append.mp hy with hy | hy
            · exact List.mem_append.mpr (.inl ((mem y).mp hy))
            · exact List.mem_append.mpr (.inr hy)
          · intro hy
            rcases List.mem_append.mp hy with hy | hy
            · exact List.mem_append.mpr (.inl ((mem y).mpr hy))
            · exact List.mem_append.mpr (.inr hy)
    · rintro σ H3 ⟨x, rfl, s3, fs, hD3, nd, fl, mem⟩
      rw [List.length_map] at fl mem
      rw [List.take_length] at mem
      refine ⟨.ref D, rfl, D, fs, rfl, sql hD3, fun ys p pm so np => ?_⟩
      exact q _ p ys (Same.new s3 np) (Same.gone s3 np) upd_same (asc_strs so (pm.nodup_iff.mpr nd)) (fun y => (pm.mem_iff).trans (mem y)) (by rw [pm.length_eq]; exact fl)
/-! _law_names -/
def spNames : Sp := fun vs H Q _ => ∃ (a c : Addr) (n : Int), vs = [.ref a, .int n] ∧ Wl a c H ∧ 0 < n ∧ n ≤ 900 ∧
  ∀ H' p (ys : List Str), Exw a H H' → Wl a c H' → H p = none → p ≠ a → p ≠ c → H' p = some (.lst (ys.map V.str)) → (ys.Pairwise fun a b => ltZ a b = true) → (∀ y ∈ ys, Nm y) → 0 < ys.length → (ys.length : Int) ≤ n → Q (.ref p) H'
/-! _law_room -/
def spRoom : Sp := fun vs H Q _ => ∃ (a c : Addr), vs = [.ref a] ∧ Wl a c H ∧ ∀ H' (r : Int), Exw a H H' → Wl a c H' → 1 ≤ r → r ≤ 64 → Q (.int r) H'
end
end Kb


namespace Kb
open PySem PySem.Spec PyProof.Rows L2 SrtZ SrtO
abbrev Nalike : List Str := ["_law_told_here", "_law_due", "_law_k"]
/-! data that are alike -/
def Leq (x y : V) : Prop := (∃ i : Int, x = .int i ∧ y = .int i) ∨ ∃ z : Str, x = .str z ∧ y = .str z
def Eqv (K : PySem.W.Frag) : Nat → Hp → V → V → Prop
  | 0, _, x, y => Leq x y
  | n + 1, H, x, y => Leq x y ∨ ∃ (a b : Addr) (xs ys : List V), x = .ref a ∧ y = .ref b ∧ SqT K H a xs ∧ SqT K H b ys ∧ xs.length = ys.length ∧ xs.length ≤ 1000 ∧ ∀ (i : Nat) (u v : V), xs[i]? = some u → ys[i]? = some v → Eqv K n H u v
theorem Eqv.same {K : PySem.W.Frag} {H H' : Hp} (s : Same H H') : ∀ {n : Nat} {x y : V}, Eqv K n H x y → Eqv K n H' x y
  | 0, _, _, h => h
  | n + 1, x, y, h => by
    rcases h with h | ⟨a, b, xs, ys, e1, e2, h1, h2, h3, h4, h5⟩
    · exact .inl h
    · exact .inr ⟨a, b, xs, ys, e1, e2, seqT h1 s, seqT h2 s, h3, h4, fun i u v hu hv => Eqv.same s (h5 i u v hu hv)⟩
def spAlike (K : PySem.W.Frag) (n : Nat) : Sp := fun vs H Q _ => ∃ x y : V, vs = [x, y] ∧ Eqv K n H x y ∧ ∀ H', Same H H' → Q (.bl true) H'
def spAlike' (K : PySem.W.Frag) : Nat → Sp
  | 0 => fun _ _ _ _ => False
  | n + 1 => spAlike K n
theorem Eqv.cases {K : PySem.W.Frag} {n : Nat} {H : Hp} {x y : V} (h : Eqv K n H x y) : Leq x y ∨ ∃ m, n = m + 1 ∧ ∃ (a b : Addr) (xs ys : List V), x = .ref a ∧ y = .ref b ∧ SqT K H a xs ∧ SqT K H b ys ∧ xs.length = ys.length ∧ xs.length ≤ 1000 ∧ ∀ (i : Nat) (u v : V), xs[i]? = some u → ys[i]? = some v → Eqv K m H u v := by
  cases n with
  | zero => exact .inl h
  | succ n =>
    rcases h with h | h
    · exact .inl h
    · exact .inr ⟨n, rfl, h⟩
section
variable {P : Program} {w : World} {K : PySem.W.Frag} {mg : Str → Option Value} {base : Heap}
end
end Kb


namespace Kb
open PySem PySem.Spec PyProof.Rows L2 SrtZ SrtO
/-- the pair that a tuple of the heap holds -/
def rdP (H : Hp) (t : Addr) : Str × Int := match H t with
  | some (.tup [.str x, .int y]) => (x, y)
  | _ => (⟨#[]⟩, 0)
theorem rdP_of {H : Hp} {t : Addr} {e : Str × Int} (h : H t = some (.tup [.str e.1, .int e.2])) : rdP H t = e := by
  unfold rdP
  rw [h]
theorem paired_snoc {α β : Type} {F : α → β → Prop} : ∀ {xs : List α} {ys : List β} {x : α} {y : β}, Paired F xs ys → F x y → Paired F (xs ++ [x]) (ys ++ [y])
  | _, _, _, _, .nil, h => .cons h .nil
  | _, _, _, _, .cons h t, k => .cons h (paired_snoc t k)
theorem paired_imp {α β : Type} {F G : α → β → Prop} (h : ∀ a b, F a b → G a b) : ∀ {xs : List α} {ys : List β}, Paired F xs ys → Paired G xs ys
  | _, _, .nil => .nil
  | _, _, .cons a t => .cons (h _ _ a) (paired_imp h t)
theorem paired_rd {H : Hp} : ∀ {ts : List Addr} {kvs : Ct}, Paired (fun (t : Addr) (e : Str × Int) => H t = some (.tup [.str e.1, .int e.2])) ts kvs → ts.map (rdP H) = kvs ∧ ∀ t ∈ ts, H t = some (.tup [.str (rdP H t).1, .int (rdP H t).2])
  | _, _, .nil => ⟨rfl, fun _ h => nomatch h⟩
  | _, _, .cons h t => by
    obtain ⟨h1, h2⟩ := paired_rd t
    have e := rdP_of h
    refine ⟨by rw [List.map_cons, h1, e], fun u hu => ?_⟩
    rcases List.mem_cons.mp hu with rfl | hu
    · rw [e]
      exact h
    · exact h2 u hu
theorem paired_map {H : Hp} {k : Addr → Str × Int} : ∀ {ts : List Addr}, (∀ t ∈ ts, H t = some (.tup [.str (k t).1, .int (k t).2])) → Paired (fun (t : Addr) (e : Str × Int) => H t = some (.tup [.str e.1, .int e.2])) ts (ts.map k)
  | [], _ => .nil
  | t :: ts, h => .cons (h t List.mem_cons_self) (paired_map fun u hu => h u (List.mem_cons_of_mem _ hu))
theorem getZ_self {kvs : Ct} {i : Nat} {e : Str × Int} (nd : NdZ kvs) (h : kvs[i]? = some e) : getZ kvs e.1 = some e.2 := by
  have hm := List.mem_of_getElem? h
  clear h
  unfold getZ
  induction kvs with
  | nil => cases hm
  | cons f r ih =>
    unfold NdZ at nd
    rw [List.map_cons, List.nodup_cons] at nd
    rcases List.mem_cons.mp hm with rfl | hm
    · simp
    · have : ¬ f.1 = e.1 := fun z => nd.1 (List.mem_map.mpr ⟨e, hm, z.symm⟩)
      rw [List.find?_cons_of_neg (by simpa using this)]
      exact ih nd.2 hm
theorem getZ_mem {kvs : Ct} {e : Str × Int} (nd : NdZ kvs) (h : e ∈ kvs) : getZ kvs e.1 = some e.2 := by
  obtain ⟨i, hi⟩ := List.mem_iff_getElem?.mp h
  exact getZ_self nd hi
theorem getZ_in {kvs : Ct} {n : Str} {v : Int} (h : getZ kvs n = some v) : (n, v) ∈ kvs := by
  unfold getZ at h
  cases e : kvs.find? fun e => decide (e.1 = n) with
  | none => rw [e] at h; cases h
  | some x =>
    rw [e] at h
    have h1 := List.mem_of_find?_eq_some e
    have h2 : x.1 = n := of_decide_eq_true (List.find?_some (p := fun e : Str × Int => decide (e.1 = n)) e)
    have h3 : x.2 = v := Option.some.inj h
    rw [← h2, ← h3]
    exact h1
end Kb



namespace Kb
open PySem PySem.Spec PyProof.Rows L2 SrtZ SrtO
/-! sketches on the heap -/
abbrev PrT (H : Hp) (t : Addr) (y : Str × Int) : Prop := H t = some (.tup [.str y.1, .int y.2])
theorem eqv_pair {K : PySem.W.Frag} {H : Hp} {t t2 : Addr} {e : Str × Int} (h1 : PrT H t e) (h2 : PrT H t2 e) : Eqv K 1 H (.ref t) (.ref t2) :=
  .inr ⟨t, t2, _, _, rfl, rfl, .inl (.inl h1), .inl (.inl h2), rfl, (by show 2 ≤ 1000; decide), fun i u v hu hv => by
    match i, hu, hv with
    | 0, hu, hv =>
      cases hu
      cases hv
      exact .inr ⟨_, rfl, rfl⟩
    | 1, hu, hv =>
      cases hu
      cases hv
      exact .inl ⟨_, rfl, rfl⟩
    | i + 2, hu, hv => simp at hu⟩
theorem eqv_counts {K : PySem.W.Frag} {H : Hp} {k k2 : Addr} {ts ts2 : List Addr} {ys : Ct} (h1 : SqT K H k (ts.map V.ref)) (h2 : SqT K H k2 (ts2.map V.ref)) (p1 : Paired (PrT H) ts ys) (p2 : Paired (PrT H) ts2 ys) (hl : ys.length ≤ 1000) : Eqv K 2 H (.ref k) (.ref k2) :=
  .inr ⟨k, k2, _, _, rfl, rfl, h1, h2, (by rw [List.length_map, List.length_map, Paired.length p1, Paired.length p2]), (by rw [List.length_map, Paired.length p1]; exact hl), fun i u v hu hv => by
    obtain ⟨t, ht, rfl⟩ := map_at hu
    obtain ⟨t2, ht2, rfl⟩ := map_at hv
    obtain ⟨e, he, f⟩ := paired_at p1 ht
    obtain ⟨e2, he2, f2⟩ := paired_at p2 ht2
    rw [he] at he2
    cases he2
    exact eqv_pair f f2⟩
theorem eqv_sketch {K : PySem.W.Frag} {H : Hp} {s s2 k k2 : Addr} {r m o : Int} {ts ts2 : List Addr} {ys : Ct} (g1 : H s = some (.tup [.int r, .int m, .int o, .ref k])) (g2 : H s2 = some (.tup [.int r, .int m, .int o, .ref k2])) (h1 : SqT K H k (ts.map V.ref)) (h2 : SqT K H k2 (ts2.map V.ref)) (p1 : Paired (PrT H) ts ys) (p2 : Paired (PrT H) ts2 ys) (hl : ys.length ≤ 1000) : Eqv K 3 H (.ref s) (.ref s2) :=
  .inr ⟨s, s2, _, _, rfl, rfl, .inl (.inl g1), .inl (.inl g2), rfl, (by show 4 ≤ 1000; decide), fun i u v hu hv => by
    match i, hu, hv with
    | 0, hu, hv =>
      cases hu
      cases hv
      exact .inl (.inl ⟨_, rfl, rfl⟩)
    | 1, hu, hv =>
      cases hu
      cases hv
      exact .inl (.inl ⟨_, rfl, rfl⟩)
    | 2, hu, hv =>
      cases hu
      cases hv
      exact .inl (.inl ⟨_, rfl, rfl⟩)
    | 3, hu, hv =>
      cases hu
      cases hv
      exact eqv_counts h1 h2 p1 p2 hl
    | i + 4, hu, hv => simp at hu⟩
def SkAt (H : Hp) (s : Addr) (r : Int) (x : Tl) : Prop := ∃ (k : Addr) (ts : List Addr), H s = some (.tup [.int r, .int x.m, .int x.o, .ref k]) ∧ Ptp H k (ts.map V.ref) ∧ Paired (PrT H) ts (srtZ x.c)
theorem SkAt.same {H H' : Hp} {s : Addr} {r : Int} {x : Tl} (h : SkAt H s r x) (y : Same H H') : SkAt H' s r x := by
  obtain ⟨k, ts, h1, h2, h3⟩ := h
  exact ⟨k, ts, y _ _ h1, h2.same y, paired_imp (fun t e h => y _ _ h) h3⟩
theorem SkAt.congr {H : Hp} {s : Addr} {r : Int} {x y : Tl} (h : SkAt H s r x) (e : skT x = skT y) : SkAt H s r y := by
  obtain ⟨m, o, c⟩ := x
  obtain ⟨m2, o2, c2⟩ := y
  unfold skT at e
  injection e with e1 e2 e3
  dsimp only at e1 e2 e3
  subst e1 e2
  obtain ⟨k, ts, h1, h2, h3⟩ := h
  exact ⟨k, ts, h1, h2, by dsimp only at h3 ⊢; rw [← e3]; exact h3⟩
theorem eqv_sk {K : PySem.W.Frag} {H : Hp} {s s2 : Addr} {r : Int} {x : Tl} (h : SkAt H s r x) (h2 : SkAt H s2 r x) (hl : x.c.length ≤ 1000) : Eqv K 3 H (.ref s) (.ref s2) := by
  obtain ⟨k, ts, a1, a2, a3⟩ := h
  obtain ⟨k2, ts2, b1, b2, b3⟩ := h2
  exact eqv_sketch a1 b1 a2.seq b2.seq a3 b3 (by rw [(srtZ_perm x.c).length_eq]; exact hl)
/-! the order in which counts stand means nothing -/
theorem getZ_perm {a b : Ct} (p : a.Perm b) (nd : NdZ a) (n : Str) : getZ a n = getZ b n := by
  have ndb : NdZ b := by
    unfold NdZ
    exact (p.map (·.1)).nodup_iff.mp nd
  cases ha : getZ a n with
  | none =>
    have := getZ_none.mp ha
    exact (getZ_none.mpr fun h => this ((p.map (·.1)).mem_iff.mpr h)).symm
  | some v =>
    have : ∃ e ∈ a, e.1 = n ∧ e.2 = v := by
      unfold getZ at ha
      cases h : a.find? fun e => decide (e.1 = n) with
      | none => rw [h] at ha; cases ha
      | some e =>
        rw [h] at ha
        exact ⟨e, List.mem_of_find?_eq_some h, of_decide_eq_true (List.find?_some (p := fun e : Str × Int => decide (e.1 = n)) h), Option.some.inj ha⟩
    obtain ⟨e, he, rfl, rfl⟩ := this
    obtain ⟨i, hi⟩ := List.mem_iff_getElem?.mp (p.mem_iff.mp he)
    exact (getZ_self ndb hi).symm
theorem putZ_perm {a b : Ct} (p : a.Perm b) (n : Str) (v : Int) : (putZ a n v).Perm (putZ b n v) := by
  have e : (a.any fun e => decide (e.1 = n)) = (b.any fun e => decide (e.1 = n)) := by
    rw [Bool.eq_iff_iff, List.any_eq_true, List.any_eq_true]
    exact ⟨fun ⟨x, h, k⟩ => ⟨x, p.mem_iff.mp h, k⟩, fun ⟨x, h, k⟩ => ⟨x, p.mem_iff.mpr h, k⟩⟩
  unfold putZ
  rw [e]
  split
  · exact p.map _
  · exact p.append_right _
theorem addZ_perm {a b : Ct} (p : a.Perm b) (nd : NdZ a) (n : Str) (c : Int) : (addZ a n c).Perm (addZ b n c) := by
  unfold addZ
  rw [getZ_perm p nd]
  exact putZ_perm p _ _
theorem takeZ_perm {a b : Ct} (p : a.Perm b) (k : Int) : (takeZ k a).Perm (takeZ k b) := (p.filter _).map _
theorem mnC_perm {a b : Ct} (p : a.Perm b) : mnC a = mnC b := by
  by_cases h : a = []
  · subst h
    have := p.symm.eq_nil
    subst this
    rfl
  · obtain ⟨h1, h2⟩ := mnC_spec h
    have q := p.map (·.2)
    exact mnC_uniq (q.mem_iff.mp h1) fun y hy => h2 y (q.mem_iff.mpr hy)
theorem full_perm {a b : Ct} (p : a.Perm b) (nd : NdZ a) (r : Int) (n : Str) : full r n a = full r n b := by
  unfold full
  rw [getZ_perm p nd, p.length_eq]
theorem srtZ_eq {a b : Ct} (p : a.Perm b) (nd : NdZ a) : srtZ a = srtZ b := by
  have ndb : NdZ b := by
    unfold NdZ
    exact (p.map (·.1)).nodup_iff.mp nd
  exact srtZ_of (srtZ_asc nd) ((srtZ_perm a).trans p) ndb
theorem feed_skT {r c : Int} {n : Str} {x : Tl} (nd : NdZ x.c) : skT (feedT r n c (skT x)) = skT (feedT r n c x) := by
  obtain ⟨m, o, kvs⟩ := x
  have p := srtZ_perm kvs
  have nds : NdZ (srtZ kvs) := (p.map (·.1)).nodup_iff.mpr nd
  unfold feedT skT
  dsimp only
  rw [full_perm p nds, mnC_perm p]
  by_cases hf : full r n kvs = true
  · rw [if_pos hf, if_pos hf]
    dsimp only
    generalize (if mnC kvs < c then mnC kvs else c) = a
    have e : srtZ (if 0 < c - a then addZ (takeZ a (srtZ kvs)) n (c - a) else takeZ a (srtZ kvs)) = srtZ (if 0 < c - a then addZ (takeZ a kvs) n (c - a) else takeZ a kvs) := by
      have pt := takeZ_perm p a
      have ndt : NdZ (takeZ a (srtZ kvs)) := takeZ_nd nds
      split
      · exact srtZ_eq (addZ_perm pt ndt _ _) (addZ_nd ndt)
      · exact srtZ_eq pt ndt
    rw [e]
  · rw [if_neg hf, if_neg hf]
    dsimp only
    have e : srtZ (if 0 < c then addZ (srtZ kvs) n c else srtZ kvs) = srtZ (if 0 < c then addZ kvs n c else kvs) := by
      split
      · exact srtZ_eq (addZ_perm p nds _ _) (addZ_nd nds)
      · exact srtZ_eq p nds
    rw [e]
theorem skT_skT {x : Tl} (nd : NdZ x.c) : skT (skT x) = skT x := by
  obtain ⟨m, o, kvs⟩ := x
  unfold skT
  dsimp only
  rw [srtZ_eq (srtZ_perm kvs) ((srtZ_perm kvs).map (·.1) |>.nodup_iff.mpr nd)]
end Kb


namespace Kb
open PySem PySem.Spec PyProof.Rows L2 SrtZ SrtO
abbrev NP_fed : List Str := ["sketch", "name"]
abbrev sP_fed_many : Stmt := topS 54
abbrev NP_fed_many : List Str := ["sketch", "name", "times", "tally"]
theorem scP_fed_many : FnScope ["sketch", "name", "times", "tally"] ["sketch", "name", "times"] (defScope sP_fed_many) := ⟨rfl, rfl, rfl, by decide +kernel, rfl, by decide +kernel, by decide +kernel⟩
abbrev DnFedMany (K : PySem.W.Frag) (mg : Str → Option Value) := Dn K mg "fed_many" sP_fed_many ["sketch", "name", "times"]
theorem cts_of {r : Int} {x : Tl} (ok : TlOk r x) : Cts (srtZ x.c) := by
  have p := srtZ_perm x.c
  exact ⟨fun e he => ok.nm e (p.mem_iff.mp he), fun e he => ok.pos e (p.mem_iff.mp he), srtZ_asc ok.nd⟩
section
variable {P : Program} {w : World} {K : PySem.W.Frag} {mg : Str → Option Value} {base : Heap}
/-! fed_many -/
def spFedMany : Sp := fun vs H Q _ => ∃ (s : Addr) (r c : Int) (n : Str) (x : Tl), vs = [.ref s, .str n, .int c] ∧ SkAt H s r x ∧ 1 ≤ r ∧ r ≤ 64 ∧ TlOk r x ∧ skB r x.m x.o (srtZ x.c) = true ∧ Nm n ∧ 0 ≤ c ∧
  ∀ H' s', Same H H' → H s' = none → SkAt H' s' r (feedT r n c x) → Q (.ref s') H'
theorem ok_fed_many (T : Blt mg) (cM : Cst mg "MOST_ROOM" (.int 64)) (cL : Cst mg "LONGEST_NAME" (.int 8)) (dP_is_int : DnIsInt K mg) (dP_is_number : DnIsNumber K mg) (dP_is_room : DnIsRoom K mg) (dP_is_name : DnIsName K mg) (dP_is_counted : DnIsCounted K mg) (dP_are_counts : DnAreCounts K mg) (dP_lost_of : DnLostOf K mg) (dP_is_sketch : DnIsSketch K mg)
    (L : Tal K mg) (d : DnFedMany K mg) : FnOk P w K mg base CX0 5 d.f d.fd ["sketch", "name", "times"] spFedMany := by
  have GP_is_sketch : FnOk P w K mg base CX0 4 dP_is_sketch.f dP_is_sketch.fd ["thing"] (spIsSketch K) := ok_is_sketch T cM cL dP_is_int dP_is_number dP_is_room dP_is_name dP_is_counted dP_are_counts dP_lost_of dP_is_sketch
  have GP_is_name : FnOk P w K mg base CX0 1 dP_is_name.f dP_is_name.fd ["thing"] spIsName := ok_is_name T cL dP_is_name
  have GP_is_number : FnOk P w K mg base CX0 2 dP_is_number.f dP_is_number.fd ["thing"] spIsNumber := ok_is_number T dP_is_int dP_is_number
  have GI : FnOk P w K mg base CX0 1 L.fI L.dI ["self", "sketch"] (spTinit K L.C) := ok_Tinit T L
  have Gsketch : FnOk P w K mg base CX0 1 L.fS L.dS ["self"] (spTsketch L.C) := ok_Tsketch T L
  have Gfeed : FnOk P w K mg base CX0 2 L.fF L.dF ["self", "name", "times"] (spTfeed L.C) := ok_Tfeed T L
  refine d.F.ok scP_fed_many (fun vs H Q E h => ?_) (fun cdv A outer s H vs Q E hr h => ?_)
  · obtain ⟨s, r, c, n, x, rfl, _⟩ := h
    rfl
  · obtain ⟨sk, r, c, n, x, rfl, hsk, hr1, hr2, ok, hb, hn, hc, q⟩ := h
    refine ⟨_, (pss_cons (ps_if (pt_not (pt_val (pe_call GP_is_sketch (hr.mono (by omega)) (by rfl) dP_is_sketch.g dP_is_sketch.F.kp dP_is_sketch.b .nil pass0 (pa_cons (pv 0) pa_nil))))
      (pss_one ps_never)
      pss_nil)
    (pss_cons (ps_if (pt_not (pt_val (pe_call GP_is_name (hr.mono (by omega)) (by rfl) dP_is_name.g dP_is_name.F.kp dP_is_name.b .nil pass0 (pa_cons (pv 1) pa_nil))))
      (pss_one ps_never)
      pss_nil)
    (pss_cons (ps_if (pt_not (pt_val (pe_call GP_is_number (hr.mono (by omega)) (by rfl) dP_is_number.g dP_is_number.F.kp dP_is_number.b .nil pass0 (pa_cons (pv 2) pa_nil))))
      (pss_one ps_never)
      pss_nil)
    (pss_cons (ps_set (i := 3) scP_fed_many.nd rfl (Or.inl rfl) (pe_make L.mI GI (hr.mono (by omega)) (by rfl) L.g L.bI .nil pass0 (pa_cons (pv 0) pa_nil)))
    (pss_cons (ps_expr (pe_meth (pv 3) L.cl L.mF Gfeed (hr.mono (by omega)) L.bF .nil pass0 (pa_cons (pv 1) (pa_cons (pv 2) pa_nil))))
    (pss_one (ps_ret (pe_meth0 (pv 3) L.cl L.mS Gsketch (hr.mono (by omega)) L.bS .nil pass0)))))))), ?_⟩
    have ok2 := skT_ok ok
    have hlen := ok2.len
    obtain ⟨k, ts, h1, h2, h3⟩ := id hsk
    refine ⟨.ref sk, rfl, sk, k, r, x.m, x.o, srtZ x.c, rfl, .inl (.inl h1), ⟨ts, h2.seq, paired_imp (fun t e h => .inl (.inl h)) h3⟩, cts_of ok, (by have : ((srtZ x.c).length : Int) ≤ r := hlen; omega), fun H1 s1 => ⟨true, congrArg V.bl hb, iteF ?_⟩⟩
    refine ⟨.str n, rfl, n, rfl, hn, fun H2 s2 => ⟨true, rfl, iteF ?_⟩⟩
    refine ⟨.int c, rfl, c, rfl, true, congrArg V.bl (decide_eq_true hc), iteF ?_⟩
    have s12 : Same H H2 := fun b u e => s2 b u (s1 b u e)
    obtain ⟨k, ts, h1, h2, h3⟩ := hsk.same s12
    refine ⟨.ref sk, rfl, fun t dx nt ndx hne => ?_⟩
    have s5 : Same H2 (upd (upd H2 dx (.own t)) t (.ins L.C dx [])) := Same.new (same_upd ndx) (by rw [upd_ne hne.symm]; exact nt)
    refine ⟨t, dx, sk, k, r, x.m, x.o, ts, srtZ x.c, rfl, upd_same, .inl (.inl (s5 _ _ h1)), h2.same s5, paired_imp (fun t e h => .inl (.inl (s5 _ _ h))) h3, ok2.nd, fun H5 d5 kp5 nd5 ta5 => ⟨rfl, ?_⟩⟩
    have nt0 : H t = none := Same.gone s12 nt
    have s35 : Same H H5 := fun q u e => kp5 q u (ne_of_none e nt0) (s5 q u (s12 q u e))
    have nd50 : H d5 = none := Same.gone s12 (Same.gone s5 nd5)
    obtain ⟨⟨dx5, ht5⟩, _⟩ := id ta5
    refine ⟨.ref t, rfl, t, dx5, _, rfl, ht5, g_no _ _ _ _ (by decide +kernel) (by decide +kernel) (by decide +kernel) (by decide +kernel), .str n, rfl, .int c, rfl, t, d5, r, c, n, skT x, rfl, ta5, ok2.nd, (by have : ((srtZ x.c).length : Int) ≤ r := hlen; show (srtZ x.c).length ≤ 500; omega), hr1, fun H7 d7 b7 hd7 ta7 => ?_⟩
    have s07 : Same H H7 := fun q u e => b7 q u (ne_of_none e nt0) (ne_of_none e nd50) (s35 q u e)
    have ok7 := feedT_ok ok2 hr1 hn hc
    have l7 := ok7.len
    obtain ⟨⟨dx7, ht7⟩, _⟩ := id ta7
    refine ⟨.ref t, rfl, t, dx7, _, rfl, ht7, g_no _ _ _ _ (by decide +kernel) (by decide +kernel) (by decide +kernel) (by decide +kernel), t, d7, r, _, _, _, rfl, ta7, ok7.nd, (by omega), fun H8 s8 k8 ys ts8 sm8 ns8 hs8 hk8 hpr pm asc => ?_⟩
    have eys := srtZ_of asc pm ok7.nd
    subst eys
    refine q H8 s8 (fun b u e => sm8 b u (s07 b u e)) (Same.gone s07 ns8) (SkAt.congr (x := feedT r n c (skT x)) ⟨k8, ts8, hs8, hk8, hpr⟩ (feed_skT ok.nd))
/-! fed -/
def spFed : Sp := fun vs H Q _ => ∃ (s : Addr) (r : Int) (n : Str) (x : Tl), vs = [.ref s, .str n] ∧ SkAt H s r x ∧ 1 ≤ r ∧ r ≤ 64 ∧ TlOk r x ∧ skB r x.m x.o (srtZ x.c) = true ∧ Nm n ∧
  ∀ H' s', Same H H' → H s' = none → SkAt H' s' r (feedT r n 1 x) → Q (.ref s') H'
end
end Kb


namespace Kb
open PySem PySem.Spec PyProof.Rows L2 SrtZ SrtO
/-! counts, read behind a change -/
theorem getZ_cons (e : Str × Int) (kvs : Ct) (k : Str) : getZ (e :: kvs) k = if e.1 = k then some e.2 else getZ kvs k := by
  unfold getZ
  by_cases h : e.1 = k
  · rw [List.find?_cons_of_pos (by simpa using h), if_pos h]
    rfl
  · rw [List.find?_cons_of_neg (by simpa using h), if_neg h]
theorem getZ_app (a b : Ct) (k : Str) : getZ (a ++ b) k = (getZ a k).or (getZ b k) := by
  induction a with
  | nil => simp [getZ]
  | cons e a ih =>
    rw [List.cons_append, getZ_cons, getZ_cons, ih]
    split <;> rfl
theorem getZ_repl (kvs : Ct) (n : Str) (v : Int) (k : Str) : getZ (kvs.map fun e => if e.1 = n then (e.1, v) else e) k = if k = n then (getZ kvs n).map fun _ => v else getZ kvs k := by
  induction kvs with
  | nil => simp [getZ]
  | cons e r ih =>
    rw [List.map_cons, getZ_cons, getZ_cons, ih, getZ_cons]
    by_cases h1 : e.1 = n
    · rw [if_pos h1]
      dsimp only
      by_cases h2 : e.1 = k
      · rw [if_pos h2, if_pos (h2.symm.trans h1), if_pos h1]
        rfl
      · rw [if_neg h2, if_neg h2]
        by_cases h3 : k = n
        · exact absurd (h1.trans h3.symm) h2
        · rw [if_neg h3, if_neg h3]
    · rw [if_neg h1]
      by_cases h2 : e.1 = k
      · rw [if_pos h2, if_neg (fun z => h1 (h2.trans z)), if_pos h2]
      · rw [if_neg h2, if_neg h2, if_neg h1]
theorem getZ_put (kvs : Ct) (n : Str) (v : Int) (k : Str) : getZ (putZ kvs n v) k = if k = n then some v else getZ kvs k := by
  unfold putZ
  rw [any_getZ]
  cases h : getZ kvs n with
  | some u =>
    rw [if_pos (show (some u).isSome = true from rfl), getZ_repl, h]
    rfl
  | none =>
    rw [if_neg (show ¬ (none : Option Int).isSome = true by decide), getZ_app]
    by_cases e : k = n
    · subst e
      rw [h, if_pos rfl, getZ_cons, if_pos rfl]
      rfl
    · rw [if_neg e, getZ_cons, if_neg (Ne.symm e)]
      cases getZ kvs k <;> rfl
theorem getZ_take {a : Int} : ∀ {kvs : Ct}, NdZ kvs → ∀ k, getZ (takeZ a kvs) k = (getZ kvs k).bind fun v => if a < v then some (v - a) else none
  | [], _, k => rfl
  | e :: r, nd, k => by
    unfold NdZ at nd
    rw [List.map_cons, List.nodup_cons] at nd
    have ih := getZ_take (a := a) (kvs := r) nd.2 k
    have hno : e.1 = k → getZ r k = none := fun h => getZ_none.mpr (h ▸ nd.1)
    unfold takeZ at ih ⊢
    by_cases h : a < e.2
    · rw [List.filter_cons_of_pos (by simpa using h), List.map_cons, getZ_cons, getZ_cons]
      by_cases h2 : e.1 = k
      · rw [if_pos h2, if_pos h2]
        show some (e.2 - a) = if a < e.2 then _ else _
        rw [if_pos h]
      · rw [if_neg h2, if_neg h2]
        exact ih
    · rw [List.filter_cons_of_neg (by simpa using h), ih, getZ_cons]
      by_cases h2 : e.1 = k
      · rw [if_pos h2, hno h2]
        show none = if a < e.2 then _ else _
        rw [if_neg h]
      · rw [if_neg h2]
theorem putZ_putZ (kvs : Ct) (n : Str) (u v : Int) : putZ (putZ kvs n u) n v = putZ kvs n v := by
  cases h : getZ kvs n with
  | some g =>
    have e : ∀ w : Int, putZ kvs n w = kvs.map fun e => if e.1 = n then (e.1, w) else e := fun w => by
      unfold putZ
      rw [any_getZ, h, if_pos (show (some g).isSome = true from rfl)]
    rw [e u, e v]
    unfold putZ
    rw [any_getZ, getZ_repl, if_pos rfl, h, if_pos (show ((some g).map fun _ => u).isSome = true from rfl), List.map_map]
    refine List.map_congr_left fun e _ => ?_
    show (if (if e.1 = n then (e.1, u) else e).1 = n then ((if e.1 = n then (e.1, u) else e).1, v) else (if e.1 = n then (e.1, u) else e)) = _
    by_cases h1 : e.1 = n
    · rw [if_pos h1, if_pos h1, if_pos h1]
    · rw [if_neg h1, if_neg h1]
  | none =>
    rw [putZ_new h, putZ_new h]
    have hz := getZ_none.mp h
    unfold putZ
    rw [any_getZ, getZ_app, h, getZ_cons, if_pos rfl, if_pos (show ((none : Option Int).or (some u)).isSome = true from rfl), List.map_append]
    congr 1
    · have : ∀ e ∈ kvs, (if e.1 = n then (e.1, v) else e) = e := fun e he => by
        rw [if_neg (fun q => hz (List.mem_map.mpr ⟨e, he, q⟩))]
      rw [List.map_congr_left this, List.map_id']
    · show [if n = n then (n, v) else (n, u)] = _
      rw [if_pos rfl]
theorem addZ_addZ (kvs : Ct) (n : Str) (c e : Int) : addZ (addZ kvs n c) n e = addZ kvs n (c + e) := by
  unfold addZ
  rw [getZ_put, if_pos rfl, putZ_putZ]
  show putZ kvs n ((getZ kvs n).getD 0 + c + e) = _
  rw [Int.add_assoc]
theorem takeZ_takeZ {a b : Int} (hb : 0 ≤ b) : ∀ kvs : Ct, takeZ b (takeZ a kvs) = takeZ (a + b) kvs
  | [] => rfl
  | e :: r => by
    have ih := takeZ_takeZ hb (a := a) r
    unfold takeZ at ih ⊢
    by_cases h : a < e.2
    · rw [List.filter_cons_of_pos (by simpa using h), List.map_cons]
      by_cases h2 : a + b < e.2
      · rw [List.filter_cons_of_pos (by simp; omega), List.map_cons, ih, List.filter_cons_of_pos (by simpa using h2), List.map_cons]
        congr 2
        show e.2 - a - b = e.2 - (a + b)
        omega
      · rw [List.filter_cons_of_neg (by simp; omega), ih, List.filter_cons_of_neg (by simpa using h2)]
    · rw [List.filter_cons_of_neg (by simpa using h), ih, List.filter_cons_of_neg (by simp; omega)]
theorem takeZ_zero : ∀ {kvs : Ct}, (∀ e ∈ kvs, 1 ≤ e.2) → takeZ 0 kvs = kvs
  | [], _ => rfl
  | e :: r, h => by
    have ih := takeZ_zero (kvs := r) fun f hf => h f (List.mem_cons_of_mem _ hf)
    have h1 := h e List.mem_cons_self
    unfold takeZ at ih ⊢
    rw [List.filter_cons_of_pos (by simp; omega), List.map_cons, ih]
    congr 1
    show (e.1, e.2 - 0) = e
    rw [Int.sub_zero]
/-- less than the least is taken off: all stay -/
theorem takeZ_all : ∀ {kvs : Ct} {c : Int}, (∀ e ∈ kvs, c < e.2) → takeZ c kvs = kvs.map fun e => (e.1, e.2 - c)
  | [], _, _ => rfl
  | e :: r, c, h => by
    have ih := takeZ_all (kvs := r) (c := c) fun f hf => h f (List.mem_cons_of_mem _ hf)
    unfold takeZ at ih ⊢
    rw [List.filter_cons_of_pos (by simpa using h e List.mem_cons_self), List.map_cons, ih]
    rfl
theorem sumC_cons' (e : Str × Int) (kvs : Ct) : sumC (e :: kvs) = e.2 + sumC kvs := by
  unfold sumC
  rw [List.map_cons, List.sum_cons]
theorem sumC_perm' {a b : Ct} (p : a.Perm b) : sumC a = sumC b := by
  induction p with
  | nil => rfl
  | cons x _ ih => rw [sumC_cons', sumC_cons', ih]
  | swap x y l =>
    rw [sumC_cons', sumC_cons', sumC_cons', sumC_cons']
    omega
  | trans _ _ ih1 ih2 => rw [ih1, ih2]
theorem sumC_app : ∀ a b : Ct, sumC (a ++ b) = sumC a + sumC b
  | [], b => by show sumC b = 0 + sumC b; omega
  | e :: a, b => by
    rw [List.cons_append, sumC_cons', sumC_cons', sumC_app a b]
    omega
theorem sumC_repl {n : Str} {v : Int} : ∀ {kvs : Ct} {g : Int}, NdZ kvs → getZ kvs n = some g → sumC (kvs.map fun e => if e.1 = n then (e.1, v) else e) = sumC kvs + (v - g)
  | [], _, _, h => by cases h
  | e :: r, g, nd, h => by
    unfold NdZ at nd
    rw [List.map_cons, List.nodup_cons] at nd
    rw [getZ_cons] at h
    rw [List.map_cons, sumC_cons', sumC_cons']
    by_cases h1 : e.1 = n
    · rw [if_pos h1] at h ⊢
      have : ∀ f ∈ r, (if f.1 = n then (f.1, v) else f) = f := fun f hf => by
        rw [if_neg (fun q => nd.1 (List.mem_map.mpr ⟨f, hf, q.trans h1.symm⟩))]
      rw [List.map_congr_left this, List.map_id']
      have := Option.some.inj h
      show v + _ = _
      omega
    · rw [if_neg h1] at h ⊢
      rw [sumC_repl nd.2 h]
      omega
theorem sumC_add {kvs : Ct} {n : Str} {c : Int} (nd : NdZ kvs) : sumC (addZ kvs n c) = sumC kvs + c := by
  unfold addZ putZ
  rw [any_getZ]
  cases h : getZ kvs n with
  | some g =>
    rw [if_pos (show (some g).isSome = true from rfl), sumC_repl nd h]
    show _ + (g + c - g) = _
    omega
  | none =>
    rw [if_neg (show ¬ (none : Option Int).isSome = true by decide), sumC_app]
    show sumC kvs + (0 + c + 0) = _
    omega
theorem sumC_take1 : ∀ {kvs : Ct}, (∀ e ∈ kvs, 1 ≤ e.2) → sumC (takeZ 1 kvs) = sumC kvs - (kvs.length : Int)
  | [], _ => rfl
  | e :: r, h => by
    have ih := sumC_take1 (kvs := r) fun f hf => h f (List.mem_cons_of_mem _ hf)
    have h1 := h e List.mem_cons_self
    rw [sumC_cons', List.length_cons]
    unfold takeZ at ih ⊢
    by_cases h2 : 1 < e.2
    · rw [List.filter_cons_of_pos (by simpa using h2), List.map_cons, sumC_cons', ih]
      show e.2 - 1 + _ = _
      omega
    · rw [List.filter_cons_of_neg (by simpa using h2), ih]
      omega
theorem full_of {r : Int} {n : Str} {kvs : Ct} (h : full r n kvs = true) : getZ kvs n = none ∧ (kvs.length : Int) = r := by
  unfold full at h
  rw [Bool.and_eq_true] at h
  refine ⟨?_, of_decide_eq_true h.2⟩
  cases e : getZ kvs n with
  | none => rfl
  | some _ =>
    rw [e] at h
    exact absurd h.1 (by intro z; cases z)
theorem full_yes {r : Int} {n : Str} {kvs : Ct} (h : getZ kvs n = none) (h2 : (kvs.length : Int) = r) : full r n kvs = true := by
  unfold full
  rw [h, decide_eq_true h2]
  rfl
theorem full_no' {r : Int} {n : Str} {kvs : Ct} (h : (getZ kvs n).isSome = true ∨ ¬ (kvs.length : Int) = r) : full r n kvs = false := by
  unfold full
  rcases h with h | h
  · rw [h]
    rfl
  · rw [decide_eq_false h, Bool.and_false]
theorem mn_pos {kvs : Ct} (ne : kvs ≠ []) (pos : ∀ e ∈ kvs, 1 ≤ e.2) : 1 ≤ mnC kvs := by
  obtain ⟨h, _⟩ := mnC_spec ne
  obtain ⟨e, he, h⟩ := List.mem_map.mp h
  rw [← h]
  exact pos e he
theorem ne_of_full {r : Int} {kvs : Ct} (hr : 1 ≤ r) (h : (kvs.length : Int) = r) : kvs ≠ [] := by
  rintro rfl
  have : (0 : Int) = r := h
  omega
theorem feed_lt {r c m o : Int} {n : Str} {kvs : Ct} (hf : full r n kvs = true) (hc : c ≤ mnC kvs) : feedT r n c ⟨m, o, kvs⟩ = ⟨m + c, o + c, takeZ c kvs⟩ := by
  unfold feedT
  dsimp only
  rw [hf, if_pos rfl, if_neg (show ¬ mnC kvs < c by omega), if_neg (show ¬ 0 < c - c by omega)]
theorem feed_gt {r c m o : Int} {n : Str} {kvs : Ct} (hf : full r n kvs = true) (hc : mnC kvs < c) : feedT r n c ⟨m, o, kvs⟩ = ⟨m + c, o + mnC kvs, addZ (takeZ (mnC kvs) kvs) n (c - mnC kvs)⟩ := by
  unfold feedT
  dsimp only
  rw [hf, if_pos rfl, if_pos hc, if_pos (show 0 < c - mnC kvs by omega)]
theorem feed_add {r c m o : Int} {n : Str} {kvs : Ct} (hf : full r n kvs = false) (hc : 0 < c) : feedT r n c ⟨m, o, kvs⟩ = ⟨m + c, o, addZ kvs n c⟩ := by
  unfold feedT
  dsimp only
  rw [hf, if_neg (by decide), if_pos hc]
theorem feed_zero {r : Int} {n : Str} {x : Tl} (ok : TlOk r x) (hr : 1 ≤ r) : feedT r n 0 x = x := by
  obtain ⟨m, o, kvs⟩ := x
  cases hf : full r n kvs with
  | true =>
    obtain ⟨_, hl⟩ := full_of hf
    have h1 := mn_pos (ne_of_full hr hl) ok.pos
    rw [feed_lt hf (by omega), takeZ_zero ok.pos, Int.add_zero, Int.add_zero]
  | false =>
    unfold feedT
    dsimp only
    rw [hf, if_neg (by decide), if_neg (by decide), Int.add_zero]
theorem full_added {r c : Int} {n : Str} {kvs : Ct} : full r n (addZ kvs n c) = false := full_no' (.inl (by unfold addZ; rw [getZ_put, if_pos rfl]; rfl))
theorem full_less {r : Int} {n : Str} {kvs : Ct} (hr : 1 ≤ r) (hl : (kvs.length : Int) = r) : full r n (takeZ (mnC kvs) kvs) = false := full_no' (.inr (by have := takeZ_less (ne_of_full hr hl); omega))
theorem feed_iter {r c : Int} {n : Str} {x : Tl} (ok : TlOk r x) (hr : 1 ≤ r) (hc : 0 ≤ c) : feedT r n (c + 1) x = feedT r n 1 (feedT r n c x) := by
  obtain ⟨m, o, kvs⟩ := x
  have ok0 := ok
  obtain ⟨nd, len, pos, nm⟩ := ok
  dsimp only at nd len pos nm
  have e0 : m + (c + 1) = m + c + 1 := by omega
  by_cases h0 : 0 < c
  · cases hf : full r n kvs with
    | false => rw [feed_add hf (by omega), feed_add hf h0, feed_add full_added (by decide), addZ_addZ, e0]
    | true =>
      obtain ⟨hg, hl⟩ := full_of hf
      have ne := ne_of_full hr hl
      obtain ⟨hm, hle⟩ := mnC_spec ne
      by_cases hcm : c < mnC kvs
      · have hall : ∀ e ∈ kvs, c < e.2 := fun e he => by
          have := hle e.2 (List.mem_map.mpr ⟨e, he, rfl⟩)
          omega
        have ht := takeZ_all hall
        have hy : full r n (takeZ c kvs) = true := full_yes (by rw [getZ_take nd, hg]; rfl) (by rw [ht, List.length_map]; exact hl)
        have hmn : mnC (takeZ c kvs) = mnC kvs - c := by
          refine (mnC_uniq ?_ fun y hy => ?_).symm
          · rw [ht, List.map_map]
            obtain ⟨e, he, h⟩ := List.mem_map.mp hm
            exact List.mem_map.mpr ⟨e, he, by show e.2 - c = _; rw [h]⟩
          · rw [ht, List.map_map] at hy
            obtain ⟨e, he, rfl⟩ := List.mem_map.mp hy
            have := hle e.2 (List.mem_map.mpr ⟨e, he, rfl⟩)
            show mnC kvs - c ≤ e.2 - c
            omega
        rw [feed_lt hf (by omega), feed_lt hf (by omega), feed_lt hy (by omega), takeZ_takeZ (by decide), e0, Int.add_assoc o c 1]
      · by_cases hcm2 : c = mnC kvs
        · rw [feed_gt hf (by omega), feed_lt hf (by omega), hcm2, feed_add (full_less hr hl) (by decide), ← hcm2, e0]
          congr 2
          omega
        · rw [feed_gt hf (by omega), feed_gt hf (by omega), feed_add full_added (by decide), addZ_addZ, e0]
          congr 2
          omega
  · have : c = 0 := by omega
    subst this
    rw [feed_zero ok0 hr]
    rfl
/-! what feeding leaves true -/
/-- of an exact stream: so much was taken off -/
structure Fd (r : Int) (x : Tl) : Prop where
  lost : x.m - sumC x.c = (r + 1) * x.o
  off : 0 ≤ x.o
theorem fd0 (r : Int) : Fd r tl0 := ⟨by show (0 : Int) - 0 = (r + 1) * 0; rw [Int.mul_zero]; rfl, Int.le_refl _⟩
theorem fd_feed {r : Int} {n : Str} {x : Tl} (ok : TlOk r x) (hr : 1 ≤ r) (h : Fd r x) : Fd r (feedT r n 1 x) := by
  obtain ⟨m, o, kvs⟩ := x
  obtain ⟨hl, ho⟩ := h
  dsimp only at hl ho
  cases hf : full r n kvs with
  | false =>
    rw [feed_add hf (by decide)]
    refine ⟨?_, ho⟩
    show m + 1 - sumC (addZ kvs n 1) = _
    rw [sumC_add (show NdZ kvs from ok.nd)]
    show _ = (r + 1) * o
    omega
  | true =>
    obtain ⟨hg, hlen⟩ := full_of hf
    have m1 := mn_pos (ne_of_full hr hlen) ok.pos
    rw [feed_lt hf (by omega)]
    refine ⟨?_, by dsimp only; omega⟩
    show m + 1 - sumC (takeZ 1 kvs) = (r + 1) * (o + 1)
    rw [sumC_take1 (show ∀ e ∈ kvs, 1 ≤ e.2 from ok.pos), Int.mul_add, ← hl, hlen]
    omega
theorem fd_sk {r : Int} {x : Tl} (ok : TlOk r x) (hr1 : 1 ≤ r) (hr2 : r ≤ 64) (h : Fd r x) (hm : 0 ≤ x.m) : skB r x.m x.o (srtZ x.c) = true := by
  have p := srtZ_perm x.c
  have es : sumC (srtZ x.c) = sumC x.c := sumC_perm' p
  have hl := h.lost
  have ho := h.off
  have h2 : (r + 1) * x.o ≤ 2 * r * x.o := Int.mul_le_mul_of_nonneg_right (by omega) ho
  have hlen : ((srtZ x.c).length : Int) ≤ r := by rw [p.length_eq]; exact ok.len
  unfold skB
  rw [es, hl, decide_eq_true hr1, decide_eq_true hr2, decide_eq_true hm, decide_eq_true ho, decide_eq_true hlen, decide_eq_true (Int.le_refl _), decide_eq_true h2]
  rfl
def gd (kvs : Ct) (k : Str) : Int := (getZ kvs k).getD 0
theorem gd_add (kvs : Ct) (n : Str) (c : Int) (k : Str) : gd (addZ kvs n c) k = gd kvs k + if k = n then c else 0 := by
  unfold gd addZ
  rw [getZ_put]
  by_cases h : k = n
  · subst h
    rw [if_pos rfl, if_pos rfl]
    rfl
  · rw [if_neg h, if_neg h, Int.add_zero]
theorem gd_take1 {kvs : Ct} (nd : NdZ kvs) (pos : ∀ e ∈ kvs, 1 ≤ e.2) (k : Str) : gd (takeZ 1 kvs) k = if 0 < gd kvs k then gd kvs k - 1 else 0 := by
  unfold gd
  rw [getZ_take nd]
  cases h : getZ kvs k with
  | none => rfl
  | some v =>
    have hv : 1 ≤ v := by
      have := getZ_pos (n := k) pos
      unfold getZ at h
      cases hh : kvs.find? fun e => decide (e.1 = k) with
      | none => rw [hh] at h; cases h
      | some e =>
        rw [hh] at h
        have h1 := pos e (List.mem_of_find?_eq_some hh)
        have h2 := Option.some.inj h
        have h3 : e.2 = v := h2
        omega
    show (if 1 < v then some (v - 1) else none).getD 0 = if 0 < v then v - 1 else 0
    rw [if_pos (show 0 < v by omega)]
    by_cases h1 : 1 < v
    · rw [if_pos h1]
      rfl
    · rw [if_neg h1]
      show (0 : Int) = v - 1
      omega
/-- the true counts lie from the kept ones to off above -/
def Tru (kc : Ct) (x : Tl) : Prop := ∀ k, 0 ≤ gd kc k - gd x.c k ∧ gd kc k - gd x.c k ≤ x.o
theorem tru0 : Tru [] tl0 := fun k => ⟨Int.le_refl _, Int.le_refl _⟩
theorem tru_feed {r : Int} {n : Str} {x : Tl} {kc : Ct} (ok : TlOk r x) (hr : 1 ≤ r) (h : Tru kc x) : Tru (addZ kc n 1) (feedT r n 1 x) := by
  obtain ⟨m, o, kvs⟩ := x
  intro k
  obtain ⟨a, b⟩ := h k
  dsimp only at a b
  rw [gd_add]
  cases hf : full r n kvs with
  | false =>
    rw [feed_add hf (by decide)]
    dsimp only
    rw [gd_add]
    omega
  | true =>
    obtain ⟨hg, hlen⟩ := full_of hf
    have m1 := mn_pos (ne_of_full hr hlen) ok.pos
    rw [feed_lt hf (by omega)]
    dsimp only
    rw [gd_take1 (show NdZ kvs from ok.nd) (show ∀ e ∈ kvs, 1 ≤ e.2 from ok.pos)]
    have hp : 0 ≤ gd kvs k := getZ_pos ok.pos
    by_cases hk : k = n
    · subst hk
      have : gd kvs k = 0 := by
        unfold gd
        rw [hg]
        rfl
      rw [if_pos rfl, this, if_neg (by decide)]
      omega
    · rw [if_neg hk]
      split <;> omega
end Kb


namespace Kb
open PySem PySem.Spec PyProof.Rows L2 SrtZ SrtO
abbrev sP_need_two : Stmt := topS 55
theorem scP_need_two : FnScope ["one", "other"] ["one", "other"] (defScope sP_need_two) := ⟨rfl, rfl, rfl, by decide +kernel, rfl, by decide +kernel, by decide +kernel⟩
abbrev sP_poured : Stmt := topS 56
theorem scP_poured : FnScope ["one", "other", "tally"] ["one", "other"] (defScope sP_poured) := ⟨rfl, rfl, rfl, by decide +kernel, rfl, by decide +kernel, by decide +kernel⟩
abbrev DnNeedTwo (K : PySem.W.Frag) (mg : Str → Option Value) := Dn K mg "need_two" sP_need_two ["one", "other"]
abbrev DnPoured (K : PySem.W.Frag) (mg : Str → Option Value) := Dn K mg "poured" sP_poured ["one", "other"]
/-- how often each name stands in the streams -/
def cntZ (zs : List Str) (kc : Ct) : Ct := zs.foldl (fun k n => addZ k n 1) kc
def cntS (kc : Ct) : Stp → Ct
  | .put zs => cntZ zs kc
  | .pour => kc
def cntT (l : List Stp) : Ct := l.foldl cntS []
theorem cntZ_snoc {zs : List Str} {kc : Ct} {i : Nat} {n : Str} (h : zs[i]? = some n) : cntZ (zs.take (i + 1)) kc = addZ (cntZ (zs.take i) kc) n 1 := by
  unfold cntZ
  rw [List.take_add_one, h, List.foldl_append]
  rfl
theorem cntT_snoc {l : List Stp} {i : Nat} {t : Stp} (h : l[i]? = some t) : cntT (l.take (i + 1)) = cntS (cntT (l.take i)) t := by
  unfold cntT
  rw [List.take_add_one, h, List.foldl_append]
  rfl
theorem cntZ_nd : ∀ {zs : List Str} {kc : Ct}, NdZ kc → NdZ (cntZ zs kc)
  | [], _, h => h
  | z :: zs, kc, h => cntZ_nd (zs := zs) (addZ_nd (n := z) (c := 1) h)
theorem cntZ_len : ∀ {zs : List Str} {kc : Ct}, (cntZ zs kc).length ≤ kc.length + zs.length
  | [], _ => Nat.le_refl _
  | z :: zs, kc => by
    have h := cntZ_len (zs := zs) (kc := addZ kc z 1)
    have h2 := addZ_len (kvs := kc) (n := z) (c := 1)
    show (cntZ zs (addZ kc z 1)).length ≤ kc.length + (zs.length + 1)
    omega
theorem cntS_nd {kc : Ct} {t : Stp} (h : NdZ kc) : NdZ (cntS kc t) := by
  cases t with
  | put zs => exact cntZ_nd h
  | pour => exact h
theorem cntT_nd (l : List Stp) : NdZ (cntT l) := by
  have gen : ∀ (l : List Stp) (kc : Ct), NdZ kc → NdZ (l.foldl cntS kc) := by
    intro l
    induction l with
    | nil => exact fun _ h => h
    | cons t l ih => exact fun kc h => ih _ (cntS_nd h)
  exact gen l [] List.nodup_nil
theorem mny_mono (l : List Stp) (i : Nat) : mny (l.take i) ≤ mny l := by
  have gen : ∀ (l : List Stp) (m : Int), m ≤ l.foldl cS m := by
    intro l
    induction l with
    | nil => exact fun m => Int.le_refl _
    | cons t l ih =>
      intro m
      have h := ih (cS m t)
      have h2 : m ≤ cS m t := by
        cases t with
        | put zs => show m ≤ m + (zs.length : Nat); omega
        | pour => exact Int.le_refl _
      exact Int.le_trans h2 h
  unfold mny
  have := gen (l.drop i) ((l.take i).foldl cS 0)
  rw [← List.foldl_append, List.take_append_drop] at this
  exact this
theorem cntT_len : ∀ l : List Stp, ((cntT l).length : Int) ≤ mny l := by
  have gen : ∀ (l : List Stp) (kc : Ct) (m : Int), (kc.length : Int) ≤ m → ((l.foldl cntS kc).length : Int) ≤ l.foldl cS m := by
    intro l
    induction l with
    | nil => exact fun _ _ h => h
    | cons t l ih =>
      intro kc m h
      refine ih _ _ ?_
      cases t with
      | put zs =>
        have := cntZ_len (zs := zs) (kc := kc)
        show ((cntZ zs kc).length : Int) ≤ m + (zs.length : Nat)
        omega
      | pour => exact h
  exact fun l => gen l [] 0 (Int.le_refl _)
section
variable {P : Program} {w : World} {K : PySem.W.Frag} {mg : Str → Option Value} {base : Heap}
/-! counts_of -/
def spCountsOf (K : PySem.W.Frag) : Sp := fun vs H Q _ => ∃ (a : Addr) (l : List Stp), vs = [.ref a] ∧ TreeAt K H a l ∧ Tree l ∧
  ∀ H' k (ts : List Addr), Same H H' → Ptp H' k (ts.map V.ref) → Paired (PrT H') ts (srtZ (cntT l)) → Q (.ref k) H'
/-! need_two, poured -/
def spNeedTwo : Sp := fun vs H Q _ => ∃ (s1 s2 : Addr) (r : Int) (x y : Tl), vs = [.ref s1, .ref s2] ∧ SkAt H s1 r x ∧ SkAt H s2 r y ∧ r ≤ 64 ∧ TlOk r x ∧ TlOk r y ∧ skB r x.m x.o (srtZ x.c) = true ∧ skB r y.m y.o (srtZ y.c) = true ∧ ∀ H', Same H H' → Q .non H'
theorem ok_need_two (T : Blt mg) (cM : Cst mg "MOST_ROOM" (.int 64)) (cL : Cst mg "LONGEST_NAME" (.int 8)) (dP_is_int : DnIsInt K mg) (dP_is_number : DnIsNumber K mg) (dP_is_room : DnIsRoom K mg) (dP_is_name : DnIsName K mg) (dP_is_counted : DnIsCounted K mg) (dP_are_counts : DnAreCounts K mg) (dP_lost_of : DnLostOf K mg) (dP_is_sketch : DnIsSketch K mg)
    (d : DnNeedTwo K mg) : FnOk P w K mg base CX0 5 d.f d.fd ["one", "other"] spNeedTwo := by
  have GP_is_sketch : FnOk P w K mg base CX0 4 dP_is_sketch.f dP_is_sketch.fd ["thing"] (spIsSketch K) := ok_is_sketch T cM cL dP_is_int dP_is_number dP_is_room dP_is_name dP_is_counted dP_are_counts dP_lost_of dP_is_sketch
  refine d.F.ok scP_need_two (fun vs H Q E h => ?_) (fun cdv A outer s H vs Q E hr h => ?_)
  · obtain ⟨s1, s2, r, x, y, rfl, _⟩ := h
    rfl
  · obtain ⟨a1, a2, r, x, y, rfl, k1, k2, hr2, ok1, ok2, b1, b2, q⟩ := h
    refine ⟨_, (pss_cons (ps_if (PW.pt (pw_or (pt_not (pt_val (pe_call GP_is_sketch (hr.mono (by omega)) (by rfl) dP_is_sketch.g dP_is_sketch.F.kp dP_is_sketch.b .nil pass0 (pa_cons (pv 0) pa_nil)))) (pw_or1 (pt_not (pt_val (pe_call GP_is_sketch (hr.mono (by omega)) (by rfl) dP_is_sketch.g dP_is_sketch.F.kp dP_is_sketch.b .nil pass0 (pa_cons (pv 1) pa_nil)))))))
      (pss_one ps_never)
      pss_nil)
    (pss_one (ps_if (pt_cmpR op_ne (pe_ix ix_tup (pv 0) pe_int (fun _ _ => rfl)) (pe_ix ix_tup (pv 1) pe_int (fun _ _ => rfl)) (nomark _))
      (pss_one ps_never)
      pss_nil))), ?_⟩
    have l1 := ok1.len
    have l2 := ok2.len
    obtain ⟨k, ts, h1, h2, h3⟩ := id k1
    refine ⟨.ref a1, rfl, a1, k, r, x.m, x.o, srtZ x.c, rfl, .inl (.inl h1), ⟨ts, h2.seq, paired_imp (fun t e h => .inl (.inl h)) h3⟩, cts_of ok1, (by rw [(srtZ_perm x.c).length_eq]; omega), fun H1 s1 => ⟨true, congrArg V.bl b1, iteF ?_⟩⟩
    obtain ⟨k, ts, h1, h2, h3⟩ := k2.same s1
    refine ⟨.ref a2, rfl, a2, k, r, y.m, y.o, srtZ y.c, rfl, .inl (.inl h1), ⟨ts, h2.seq, paired_imp (fun t e h => .inl (.inl h)) h3⟩, cts_of ok2, (by rw [(srtZ_perm y.c).length_eq]; omega), fun H2 s2 => ⟨true, congrArg V.bl b2, iteF ?_⟩⟩
    have s12 : Same H H2 := fun b u e => s2 b u (s1 b u e)
    obtain ⟨k, ts, h1, _⟩ := k1.same s12
    obtain ⟨k', ts', h1', _⟩ := k2.same s12
    refine ⟨.ref a1, rfl, a1, _, _, _, rfl, rfl, .inl (.inl h1), atI_nat (j := 0) rfl, .ref a2, rfl, a2, _, _, _, rfl, rfl, .inl (.inl h1'), atI_nat (j := 0) rfl, rfl, false, ?_, iteF (q H2 s12)⟩
    rw [decide_eq_true rfl]
    rfl
def spPoured : Sp := fun vs H Q _ => ∃ (s1 s2 : Addr) (r : Int) (x y : Tl), vs = [.ref s1, .ref s2] ∧ SkAt H s1 r x ∧ SkAt H s2 r y ∧ 1 ≤ r ∧ r ≤ 64 ∧ TlOk r x ∧ TlOk r y ∧ skB r x.m x.o (srtZ x.c) = true ∧ skB r y.m y.o (srtZ y.c) = true ∧
  ∀ H' s', Same H H' → H s' = none → SkAt H' s' r (pourT r (skT y) (skT x)) → Q (.ref s') H'
theorem ok_poured (T : Blt mg) (cM : Cst mg "MOST_ROOM" (.int 64)) (cL : Cst mg "LONGEST_NAME" (.int 8)) (dP_is_int : DnIsInt K mg) (dP_is_number : DnIsNumber K mg) (dP_is_room : DnIsRoom K mg) (dP_is_name : DnIsName K mg) (dP_is_counted : DnIsCounted K mg) (dP_are_counts : DnAreCounts K mg) (dP_lost_of : DnLostOf K mg) (dP_is_sketch : DnIsSketch K mg)
    (L : Tal K mg) (dP_need_two : DnNeedTwo K mg) (d : DnPoured K mg) : FnOk P w K mg base CX0 6 d.f d.fd ["one", "other"] spPoured := by
  have GP_need_two : FnOk P w K mg base CX0 5 dP_need_two.f dP_need_two.fd ["one", "other"] spNeedTwo := ok_need_two T cM cL dP_is_int dP_is_number dP_is_room dP_is_name dP_is_counted dP_are_counts dP_lost_of dP_is_sketch dP_need_two
  have GI : FnOk P w K mg base CX0 1 L.fI L.dI ["self", "sketch"] (spTinit K L.C) := ok_Tinit T L
  have Gsketch : FnOk P w K mg base CX0 1 L.fS L.dS ["self"] (spTsketch L.C) := ok_Tsketch T L
  have Gpour : FnOk P w K mg base CX0 2 L.fP L.dP ["self", "sketch"] (spTpour K L.C) := ok_Tpour T L
  refine d.F.ok scP_poured (fun vs H Q E h => ?_) (fun cdv A outer s H vs Q E hr h => ?_)
  · obtain ⟨s1, s2, r, x, y, rfl, _⟩ := h
    rfl
  · obtain ⟨a1, a2, r, x, y, rfl, k1, k2, hr1, hr2, ok1, ok2, b1, b2, q⟩ := h
    refine ⟨_, (pss_cons (ps_expr (pe_call GP_need_two (hr.mono (by omega)) (by rfl) dP_need_two.g dP_need_two.F.kp dP_need_two.b .nil pass0 (pa_cons (pv 0) (pa_cons (pv 1) pa_nil))))
    (pss_cons (ps_set (i := 2) scP_poured.nd rfl (Or.inl rfl) (pe_make L.mI GI (hr.mono (by omega)) (by rfl) L.g L.bI .nil pass0 (pa_cons (pv 0) pa_nil)))
    (pss_cons (ps_expr (pe_meth (pv 2) L.cl L.mP Gpour (hr.mono (by omega)) L.bP .nil pass0 (pa_cons (pv 1) pa_nil)))
    (pss_one (ps_ret (pe_meth0 (pv 2) L.cl L.mS Gsketch (hr.mono (by omega)) L.bS .nil pass0)))))), ?_⟩
    refine ⟨.ref a1, rfl, .ref a2, rfl, a1, a2, r, x, y, rfl, k1, k2, hr2, ok1, ok2, b1, b2, fun H2 s12 => ?_⟩
    have okx := skT_ok ok1
    have oky := skT_ok ok2
    have lx := okx.len
    have ly := oky.len
    obtain ⟨k, ts, h1, h2, h3⟩ := k1.same s12
    refine ⟨.ref a1, rfl, fun t dx nt ndx hne => ?_⟩
    have s5 : Same H2 (upd (upd H2 dx (.own t)) t (.ins L.C dx [])) := Same.new (same_upd ndx) (by rw [upd_ne hne.symm]; exact nt)
    refine ⟨t, dx, a1, k, r, x.m, x.o, ts, srtZ x.c, rfl, upd_same, .inl (.inl (s5 _ _ h1)), h2.same s5, paired_imp (fun t e h => .inl (.inl (s5 _ _ h))) h3, okx.nd, fun H5 d5 kp5 nd5 ta5 => ⟨rfl, ?_⟩⟩
    have nt0 : H t = none := Same.gone s12 nt
    have s35 : Same H H5 := fun q u e => kp5 q u (ne_of_none e nt0) (s5 q u (s12 q u e))
    have nd50 : H d5 = none := Same.gone s12 (Same.gone s5 nd5)
    obtain ⟨⟨dx5, ht5⟩, _⟩ := id ta5
    obtain ⟨k', ts', h1', h2', h3'⟩ := k2.same s35
    refine ⟨.ref t, rfl, t, dx5, _, rfl, ht5, g_no _ _ _ _ (by decide +kernel) (by decide +kernel) (by decide +kernel) (by decide +kernel), .ref a2, rfl, t, d5, a2, k', r, r, skT x, skT y, rfl, ta5, okx.nd, (by show (skT x).c.length ≤ 200; omega), .inl (.inl h1'), ⟨ts', h2'.seq, paired_imp (fun t e h => .inl (.inl h)) h3'⟩, (by show (skT y).c.length ≤ 200; omega), (by omega), fun H7 d7 b7 hd7 ta7 => ?_⟩
    have s07 : Same H H7 := fun q u e => b7 q u (ne_of_none e nt0) (ne_of_none e nd50) (s35 q u e)
    have ok7 := pourT_ok okx oky (by omega)
    have l7 := ok7.len
    obtain ⟨⟨dx7, ht7⟩, _⟩ := id ta7
    refine ⟨.ref t, rfl, t, dx7, _, rfl, ht7, g_no _ _ _ _ (by decide +kernel) (by decide +kernel) (by decide +kernel) (by decide +kernel), t, d7, r, _, _, _, rfl, ta7, ok7.nd, (by omega), fun H8 s8 k8 ys ts8 sm8 ns8 hs8 hk8 hpr pm asc => ?_⟩
    have eys := srtZ_of asc pm ok7.nd
    subst eys
    exact q H8 s8 (fun b u e => sm8 b u (s07 b u e)) (Same.gone s07 ns8) ⟨k8, ts8, hs8, hk8, hpr⟩
end
end Kb


namespace Kb
open PySem PySem.Spec PyProof.Rows L2 SrtZ SrtO
/-! pouring, in any order of the counts -/
theorem mem_getZ {kvs : Ct} (nd : NdZ kvs) (e : Str × Int) : e ∈ kvs ↔ getZ kvs e.1 = some e.2 := by
  constructor
  · intro h
    obtain ⟨i, hi⟩ := List.mem_iff_getElem?.mp h
    exact getZ_self nd hi
  · intro h
    unfold getZ at h
    cases hf : kvs.find? fun f => decide (f.1 = e.1) with
    | none => rw [hf] at h; cases h
    | some f =>
      rw [hf] at h
      have h1 : f.1 = e.1 := of_decide_eq_true (List.find?_some (p := fun f : Str × Int => decide (f.1 = e.1)) hf)
      have h2 : f.2 = e.2 := Option.some.inj h
      have : f = e := Prod.ext h1 h2
      rw [← this]
      exact List.mem_of_find?_eq_some hf
theorem nd_nodup {kvs : Ct} (nd : NdZ kvs) : kvs.Nodup := by
  unfold NdZ at nd
  rw [List.Nodup, List.pairwise_map] at nd
  exact nd.imp fun h e => h (by rw [e])
theorem perm_of_getZ {a b : Ct} (na : NdZ a) (nb : NdZ b) (h : ∀ k, getZ a k = getZ b k) : a.Perm b :=
  (List.perm_ext_iff_of_nodup (nd_nodup na) (nd_nodup nb)).mpr fun e => by rw [mem_getZ na, mem_getZ nb, h]
theorem getZ_sums : ∀ {more kvs : Ct}, NdZ more → ∀ k, getZ (sumsZ more kvs) k = match getZ more k with | none => getZ kvs k | some c => some (gd kvs k + c)
  | [], kvs, _, k => rfl
  | e :: r, kvs, nd, k => by
    unfold NdZ at nd
    rw [List.map_cons, List.nodup_cons] at nd
    have ih := getZ_sums (more := r) (kvs := addZ kvs e.1 e.2) nd.2 k
    show getZ (sumsZ r (addZ kvs e.1 e.2)) k = _
    rw [ih, getZ_cons]
    by_cases h : e.1 = k
    · rw [if_pos h, getZ_none.mpr (h ▸ nd.1)]
      show getZ (addZ kvs e.1 e.2) k = some (gd kvs k + e.2)
      unfold addZ gd
      rw [getZ_put, if_pos h.symm, h]
    · rw [if_neg h]
      have e1 : getZ (addZ kvs e.1 e.2) k = getZ kvs k := by
        unfold addZ
        rw [getZ_put, if_neg (Ne.symm h)]
      have e2 : gd (addZ kvs e.1 e.2) k = gd kvs k := by
        unfold gd
        rw [e1]
      rw [e1, e2]
theorem gd_sums {more kvs : Ct} (nd : NdZ more) (k : Str) : gd (sumsZ more kvs) k = gd kvs k + gd more k := by
  unfold gd
  rw [getZ_sums nd]
  cases getZ more k with
  | none => exact (Int.add_zero _).symm
  | some c => rfl
theorem sums_perm {a a' b b' : Ct} (pa : a.Perm a') (pb : b.Perm b') (na : NdZ a) (nb : NdZ b) : (sumsZ a b).Perm (sumsZ a' b') := by
  have na' : NdZ a' := (pa.map (·.1)).nodup_iff.mp na
  have nb' : NdZ b' := (pb.map (·.1)).nodup_iff.mp nb
  refine perm_of_getZ (sumsZ_nd nb) (sumsZ_nd nb') fun k => ?_
  rw [getZ_sums na, getZ_sums na', getZ_perm pa na, getZ_perm pb nb]
  unfold gd
  rw [getZ_perm pb nb]
theorem fall_perm {a b : Ct} (p : a.Perm b) (r : Int) : fallZ a r = fallZ b r := by
  have hs := List.pairwise_mergeSort (le := fun (a b : Int) => decide (b ≤ a)) (fun a b c h1 h2 => by simp at *; omega) (fun a b => by simp; omega) (a.map (·.2))
  have := fall_uniq (kvs := b) (ns := (a.map (·.2)).mergeSort fun a b => decide (b ≤ a)) ((List.mergeSort_perm _ _).trans (p.map (·.2))) (hs.imp fun h => of_decide_eq_true h)
  unfold fallZ
  rw [this]
theorem skT_eq {x x' : Tl} (nd : NdZ x.c) (h : skT x = skT x') : x.m = x'.m ∧ x.o = x'.o ∧ x.c.Perm x'.c := by
  obtain ⟨m, o, c⟩ := x
  obtain ⟨m', o', c'⟩ := x'
  unfold skT at h
  injection h with e1 e2 e3
  dsimp only at e1 e2 e3
  exact ⟨e1, e2, (srtZ_perm c).symm.trans (by rw [e3]; exact srtZ_perm c')⟩
theorem pour_skT {r : Int} {x x' y y' : Tl} (nx : NdZ x.c) (ny : NdZ y.c) (hx : skT x = skT x') (hy : skT y = skT y') : skT (pourT r y x) = skT (pourT r y' x') := by
  obtain ⟨x1, x2, x3⟩ := skT_eq nx hx
  obtain ⟨y1, y2, y3⟩ := skT_eq ny hy
  have p := sums_perm y3 x3 ny nx
  have nd := sumsZ_nd (more := y.c) nx
  unfold pourT
  dsimp only
  rw [p.length_eq, fall_perm p, x1, x2, y1, y2]
  split
  · unfold skT
    dsimp only
    rw [srtZ_eq (takeZ_perm p _) (takeZ_nd nd)]
  · unfold skT
    dsimp only
    rw [srtZ_eq p nd]
/-! two runs: the program's and the law's own -/
def stepL (r : Int) (st : List Tl) : Stp → List Tl
  | .put zs => feedsT r zs tl0 :: st
  | .pour => match st with
    | x :: y :: st => pourT r x y :: st
    | st => st
def runL (r : Int) (l : List Stp) : List Tl := l.foldl (stepL r) []
theorem runL_snoc {r : Int} {l : List Stp} {i : Nat} {t : Stp} (h : l[i]? = some t) : runL r (l.take (i + 1)) = stepL r (runL r (l.take i)) t := by
  unfold runL
  rw [List.take_add_one, h, List.foldl_append]
  rfl
theorem runL_ok {r : Int} (hr : 1 ≤ r) : ∀ {l : List Stp} {st : List Tl}, (∀ zs, .put zs ∈ l → ∀ z ∈ zs, Nm z) → (∀ x ∈ st, TlOk r x) → ∀ x ∈ l.foldl (stepL r) st, TlOk r x
  | [], _, _, h => h
  | t :: l, st, hn, h => by
    refine runL_ok hr (l := l) (fun zs hz => hn zs (List.mem_cons_of_mem _ hz)) ?_
    cases t with
    | put zs =>
      intro x hx
      rcases List.mem_cons.mp hx with rfl | hx
      · exact feedsT_ok hr (tl0_ok hr) (hn zs List.mem_cons_self)
      · exact h x hx
    | pour =>
      match st, h with
      | [], h => exact h
      | [_], h => exact h
      | a :: b :: st, h =>
        intro x hx
        rcases List.mem_cons.mp hx with rfl | hx
        · exact pourT_ok (h b (List.mem_cons_of_mem _ List.mem_cons_self)) (h a List.mem_cons_self) (by omega)
        · exact h x (List.mem_cons_of_mem _ (List.mem_cons_of_mem _ hx))
theorem runTL {r : Int} (hr : 1 ≤ r) : ∀ {l : List Stp} {st st' : List Tl}, (∀ zs, .put zs ∈ l → ∀ z ∈ zs, Nm z) → (∀ x ∈ st, TlOk r x) → (∀ x ∈ st', TlOk r x) → st.map skT = st'.map skT → (l.foldl (stepT r) st).map skT = (l.foldl (stepL r) st').map skT
  | [], _, _, _, _, _, h => h
  | t :: l, st, st', hn, h1, h2, h => by
    have hn' : ∀ zs, .put zs ∈ l → ∀ z ∈ zs, Nm z := fun zs hz => hn zs (List.mem_cons_of_mem _ hz)
    cases t with
    | put zs =>
      have ok := feedsT_ok hr (tl0_ok hr) (hn zs List.mem_cons_self)
      refine runTL hr (l := l) hn' (fun x hx => ?_) (fun x hx => ?_) ?_
      · rcases List.mem_cons.mp hx with rfl | hx
        · exact ok
        · exact h1 x hx
      · rcases List.mem_cons.mp hx with rfl | hx
        · exact ok
        · exact h2 x hx
      · show skT _ :: st.map skT = skT _ :: st'.map skT
        rw [h]
    | pour =>
      match st, st', h, h1, h2 with
      | [], [], h, h1, h2 => exact runTL hr (l := l) hn' h1 h2 h
      | [a], [b], h, h1, h2 => exact runTL hr (l := l) hn' h1 h2 h
      | [_], _ :: _ :: _, h, _, _ => simp at h
      | _ :: _ :: _, [_], h, _, _ => simp at h
      | a :: b :: st, a' :: b' :: st', h, h1, h2 =>
        injection h with e1 h
        injection h with e2 h
        have oa := h1 a List.mem_cons_self
        have ob := h1 b (List.mem_cons_of_mem _ List.mem_cons_self)
        have oa' := h2 a' List.mem_cons_self
        have ob' := h2 b' (List.mem_cons_of_mem _ List.mem_cons_self)
        refine runTL hr (l := l) hn' (fun x hx => ?_) (fun x hx => ?_) ?_
        · rcases List.mem_cons.mp hx with rfl | hx
          · exact pourT_ok ob (skT_ok oa) (by omega)
          · exact h1 x (List.mem_cons_of_mem _ (List.mem_cons_of_mem _ hx))
        · rcases List.mem_cons.mp hx with rfl | hx
          · exact pourT_ok ob' oa' (by omega)
          · exact h2 x (List.mem_cons_of_mem _ (List.mem_cons_of_mem _ hx))
        · show skT (pourT r (skT a) b) :: st.map skT = skT (pourT r a' b') :: st'.map skT
          rw [pour_skT ob.nd (skT_ok oa).nd e2 ((skT_skT oa.nd).trans e1), h]
/-! what pouring leaves true -/
def minS (f : Int) (cs : List Int) : Int := (cs.map fun c => if f < c then f else c).sum
theorem minS_cons (f c : Int) (cs : List Int) : minS f (c :: cs) = (if f < c then f else c) + minS f cs := by
  unfold minS
  rw [List.map_cons, List.sum_cons]
theorem minS_perm {f : Int} {a b : List Int} (p : a.Perm b) : minS f a = minS f b := by
  induction p with
  | nil => rfl
  | cons x _ ih => rw [minS_cons, minS_cons, ih]
  | swap x y l =>
    rw [minS_cons, minS_cons, minS_cons, minS_cons]
    omega
  | trans _ _ ih1 ih2 => rw [ih1, ih2]
theorem sumC_take {f : Int} : ∀ kvs : Ct, sumC (takeZ f kvs) = sumC kvs - minS f (kvs.map (·.2))
  | [] => rfl
  | e :: r => by
    have ih := sumC_take (f := f) r
    rw [sumC_cons', List.map_cons, minS_cons]
    unfold takeZ at ih ⊢
    by_cases h : f < e.2
    · rw [List.filter_cons_of_pos (by simpa using h), List.map_cons, sumC_cons', ih, if_pos h]
      show e.2 - f + _ = _
      omega
    · rw [List.filter_cons_of_neg (by simpa using h), ih, if_neg h]
      omega
theorem minS_le {f : Int} : ∀ cs : List Int, minS f cs ≤ (cs.length : Int) * f
  | [] => by show (0 : Int) ≤ 0 * f; omega
  | c :: cs => by
    have ih := minS_le (f := f) cs
    rw [minS_cons, List.length_cons]
    have e : ((cs.length + 1 : Nat) : Int) * f = (cs.length : Int) * f + f := by push_cast; rw [Int.add_mul, Int.one_mul]
    rw [e]
    split <;> omega
theorem minS_ge {f : Int} (hf : 0 ≤ f) : ∀ {cs : List Int} {n : Nat}, (∀ c ∈ cs, 0 ≤ c) → (∀ i c, i < n → cs[i]? = some c → f ≤ c) → n ≤ cs.length → (n : Int) * f ≤ minS f cs
  | [], n, _, _, hn => by
    have : n = 0 := by simpa using hn
    subst this
    show (0 : Int) * f ≤ 0
    omega
  | c :: cs, 0, h0, _, _ => by
    have ih := minS_ge hf (cs := cs) (n := 0) (fun c hc => h0 c (List.mem_cons_of_mem _ hc)) (fun i c h => absurd h (by omega)) (Nat.zero_le _)
    rw [minS_cons]
    have h1 := h0 c List.mem_cons_self
    split <;> omega
  | c :: cs, n + 1, h0, hc, hn => by
    have ih := minS_ge hf (cs := cs) (n := n) (fun c hc => h0 c (List.mem_cons_of_mem _ hc)) (fun i c h e => hc (i + 1) c (by omega) (by simpa using e)) (by rw [List.length_cons] at hn; omega)
    have h1 := hc 0 c (by omega) rfl
    rw [minS_cons]
    have e : ((n + 1 : Nat) : Int) * f = (n : Int) * f + f := by push_cast; rw [Int.add_mul, Int.one_mul]
    rw [e]
    split <;> omega
theorem fall_spec {kvs : Ct} {r : Nat} (h : r < kvs.length) (pos : ∀ e ∈ kvs, 1 ≤ e.2) : 1 ≤ fallZ kvs r ∧ ((r : Int) + 1) * fallZ kvs r ≤ minS (fallZ kvs r) (kvs.map (·.2)) := by
  have hp := List.mergeSort_perm (kvs.map (·.2)) (fun a b => decide (b ≤ a))
  have hs := List.pairwise_mergeSort (le := fun (a b : Int) => decide (b ≤ a)) (fun a b c h1 h2 => by simp at *; omega) (fun a b => by simp; omega) (kvs.map (·.2))
  have p1 : ∀ c ∈ (kvs.map (·.2)).mergeSort (fun a b => decide (b ≤ a)), 1 ≤ c := fun c hc => by
    obtain ⟨e, he, rfl⟩ := List.mem_map.mp (hp.mem_iff.mp hc)
    exact pos e he
  rw [← minS_perm hp]
  unfold fallZ
  rw [Int.toNat_natCast]
  have hl : r < ((kvs.map (·.2)).mergeSort (fun a b => decide (b ≤ a))).length := by rw [hp.length_eq, List.length_map]; exact h
  generalize (kvs.map (·.2)).mergeSort (fun a b => decide (b ≤ a)) = s at hs p1 hl
  have eg : s.getD r 0 = s[r] := by simp [List.getD, hl]
  rw [eg]
  have h1 := p1 _ (List.getElem_mem hl)
  refine ⟨h1, ?_⟩
  have := minS_ge (f := s[r]) (by omega) (cs := s) (n := r + 1) (fun c hc => by have := p1 c hc; omega) (fun i c hi hc => ?_) (by omega)
  · push_cast at this
    exact this
  · obtain ⟨hil, rfl⟩ := List.getElem?_eq_some_iff.mp hc
    by_cases e : i = r
    · subst e
      exact Int.le_refl _
    · exact of_decide_eq_true (List.pairwise_iff_getElem.mp hs i r hil hl (by omega))
theorem sumC_sums : ∀ {more kvs : Ct}, NdZ kvs → sumC (sumsZ more kvs) = sumC kvs + sumC more
  | [], kvs, _ => by show sumC kvs = sumC kvs + 0; omega
  | e :: r, kvs, nd => by
    show sumC (sumsZ r (addZ kvs e.1 e.2)) = _
    rw [sumC_sums (more := r) (addZ_nd nd), sumC_add nd, sumC_cons']
    omega
/-- within the bounds -/
structure Bd (r : Int) (x : Tl) : Prop where
  low : (r + 1) * x.o ≤ x.m - sumC x.c
  high : x.m - sumC x.c ≤ 2 * r * x.o
  off : 0 ≤ x.o
  many : 0 ≤ x.m
theorem bd_pour {r : Int} {x y : Tl} (hr : 1 ≤ r) (ox : TlOk r x) (oy : TlOk r y) (hx : Bd r x) (hy : Bd r y) : Bd r (pourT r y x) := by
  obtain ⟨rn, rfl⟩ := Int.eq_ofNat_of_zero_le (show 0 ≤ r by omega)
  have es := sumC_sums (more := y.c) ox.nd
  have ll := sumsZ_len (more := y.c) (kvs := x.c)
  have pos := sumsZ_pos oy.pos ox.pos
  have lx := ox.len
  have ly := oy.len
  obtain ⟨a1, a2, a3, a4⟩ := hx
  obtain ⟨b1, b2, b3, b4⟩ := hy
  unfold pourT
  dsimp only
  generalize sumsZ y.c x.c = all at es ll pos
  have d1 : ((rn : Int) + 1) * (x.o + y.o) = ((rn : Int) + 1) * x.o + ((rn : Int) + 1) * y.o := Int.mul_add _ _ _
  have d2 : 2 * (rn : Int) * (x.o + y.o) = 2 * (rn : Int) * x.o + 2 * (rn : Int) * y.o := Int.mul_add _ _ _
  split
  · rename_i h
    obtain ⟨f1, f2⟩ := fall_spec (kvs := all) (r := rn) (by omega) pos
    have f3 := minS_le (f := fallZ all rn) (all.map (·.2))
    rw [List.length_map] at f3
    have f4 : (all.length : Int) * fallZ all rn ≤ 2 * (rn : Int) * fallZ all rn := Int.mul_le_mul_of_nonneg_right (by omega) (by omega)
    have d3 : ((rn : Int) + 1) * (x.o + y.o + fallZ all rn) = ((rn : Int) + 1) * (x.o + y.o) + ((rn : Int) + 1) * fallZ all rn := Int.mul_add _ _ _
    have d4 : 2 * (rn : Int) * (x.o + y.o + fallZ all rn) = 2 * (rn : Int) * (x.o + y.o) + 2 * (rn : Int) * fallZ all rn := Int.mul_add _ _ _
    refine ⟨?_, ?_, ?_, ?_⟩ <;> dsimp only
    · rw [sumC_take, d3]
      omega
    · rw [sumC_take, d4]
      omega
    · omega
    · omega
  · refine ⟨?_, ?_, ?_, ?_⟩ <;> dsimp only <;> omega
theorem bd_feeds {r : Int} (hr : 1 ≤ r) : ∀ {zs : List Str} {x : Tl}, TlOk r x → Fd r x → 0 ≤ x.m → (∀ z ∈ zs, Nm z) → Fd r (feedsT r zs x) ∧ (feedsT r zs x).m = x.m + (zs.length : Int)
  | [], x, _, f, _, _ => ⟨f, by show x.m = x.m + 0; omega⟩
  | z :: zs, x, ok, f, hm, hn => by
    have em : (feedT r z 1 x).m = x.m + 1 := by
      unfold feedT
      split <;> rfl
    obtain ⟨a, b⟩ := bd_feeds hr (zs := zs) (x := feedT r z 1 x) (feedT_ok ok hr (hn z List.mem_cons_self) (by decide)) (fd_feed ok hr f) (by rw [em]; omega) fun y hy => hn y (List.mem_cons_of_mem _ hy)
    refine ⟨a, ?_⟩
    show (feedsT r zs (feedT r z 1 x)).m = _
    rw [b, em, List.length_cons]
    push_cast
    omega
theorem bd_stream {r : Int} {zs : List Str} (hr : 1 ≤ r) (hn : ∀ z ∈ zs, Nm z) : Bd r (feedsT r zs tl0) ∧ (feedsT r zs tl0).m = (zs.length : Int) := by
  obtain ⟨f, e⟩ := bd_feeds hr (tl0_ok hr) (fd0 r) (Int.le_refl _) hn
  have e : (feedsT r zs tl0).m = (zs.length : Int) := by rw [e]; show 0 + _ = _; omega
  have ho := f.off
  have h2 : (r + 1) * (feedsT r zs tl0).o ≤ 2 * r * (feedsT r zs tl0).o := Int.mul_le_mul_of_nonneg_right (by omega) ho
  exact ⟨⟨by rw [f.lost]; exact Int.le_refl _, by rw [f.lost]; exact h2, ho, by rw [e]; omega⟩, e⟩
/-- the true counts, as a function -/
def TruF (f : Str → Int) (x : Tl) : Prop := ∀ k, 0 ≤ f k - gd x.c k ∧ f k - gd x.c k ≤ x.o
theorem gd_take {a : Int} {kvs : Ct} (nd : NdZ kvs) (ha : 0 ≤ a) (k : Str) (pos : ∀ e ∈ kvs, 1 ≤ e.2) : gd (takeZ a kvs) k = if a < gd kvs k then gd kvs k - a else 0 := by
  unfold gd
  rw [getZ_take nd]
  cases getZ kvs k with
  | none =>
    show 0 = if a < 0 then _ else 0
    rw [if_neg (by omega)]
  | some v =>
    show (if a < v then some (v - a) else none).getD 0 = if a < v then v - a else 0
    split <;> rfl
theorem tru_pour {r : Int} {x y : Tl} {f g : Str → Int} (hr : 1 ≤ r) (ox : TlOk r x) (oy : TlOk r y) (hf : TruF f x) (hg : TruF g y) : TruF (fun k => f k + g k) (pourT r y x) := by
  obtain ⟨rn, rfl⟩ := Int.eq_ofNat_of_zero_le (show 0 ≤ r by omega)
  intro k
  obtain ⟨a1, a2⟩ := hf k
  obtain ⟨b1, b2⟩ := hg k
  have es := gd_sums (kvs := x.c) oy.nd k
  have pos := sumsZ_pos oy.pos ox.pos
  have nd := sumsZ_nd (more := y.c) ox.nd
  unfold pourT
  dsimp only
  generalize sumsZ y.c x.c = all at es pos nd
  have hp : 0 ≤ gd all k := getZ_pos pos
  split
  · rename_i h
    obtain ⟨f1, _⟩ := fall_spec (kvs := all) (r := rn) (by omega) pos
    dsimp only
    rw [gd_take nd (by omega) k pos]
    split <;> omega
  · dsimp only
    omega
theorem gd_cntZ : ∀ (zs : List Str) (kc : Ct) (k : Str), gd (cntZ zs kc) k = gd kc k + gd (cntZ zs []) k
  | [], kc, k => by show gd kc k = gd kc k + 0; omega
  | z :: zs, kc, k => by
    show gd (cntZ zs (addZ kc z 1)) k = gd kc k + gd (cntZ zs (addZ [] z 1)) k
    rw [gd_cntZ zs (addZ kc z 1) k, gd_cntZ zs (addZ [] z 1) k, gd_add, gd_add]
    show _ = _ + (0 + _ + _)
    omega
theorem tru_stream {r : Int} (hr : 1 ≤ r) : ∀ {zs : List Str} {x : Tl} {kc : Ct}, TlOk r x → Tru kc x → (∀ z ∈ zs, Nm z) → Tru (cntZ zs kc) (feedsT r zs x)
  | [], _, _, _, h, _ => h
  | z :: zs, x, kc, ok, h, hn => tru_stream hr (zs := zs) (feedT_ok ok hr (hn z List.mem_cons_self) (by decide)) (tru_feed ok hr h) fun y hy => hn y (List.mem_cons_of_mem _ hy)
/-- each tally of the pile within its bounds, beside its true counts; together they are those of the tree -/
theorem runL_true {r : Int} (hr : 1 ≤ r) : ∀ {l : List Stp} {st : List Tl} {fs : List (Str → Int)} {kc : Ct} {m : Int}, (∀ zs, .put zs ∈ l → ∀ z ∈ zs, Nm z) → (∀ x ∈ st, TlOk r x ∧ Bd r x) → Paired TruF fs st → (∀ k, (fs.map fun f => f k).sum = gd kc k) → (st.map (·.m)).sum = m →
    ∃ gs, Paired TruF gs (l.foldl (stepL r) st) ∧ (∀ x ∈ l.foldl (stepL r) st, Bd r x) ∧ (∀ k, (gs.map fun f => f k).sum = gd (l.foldl cntS kc) k) ∧ ((l.foldl (stepL r) st).map (·.m)).sum = l.foldl cS m
  | [], st, fs, kc, m, _, h, p, s, e => ⟨fs, p, fun x hx => (h x hx).2, s, e⟩
  | t :: l, st, fs, kc, m, hn, h, p, s, e => by
    have hn' : ∀ zs, .put zs ∈ l → ∀ z ∈ zs, Nm z := fun zs hz => hn zs (List.mem_cons_of_mem _ hz)
    cases t with
    | put zs =>
      have hz := hn zs List.mem_cons_self
      have ok := feedsT_ok hr (tl0_ok hr) hz
      obtain ⟨b1, b2⟩ := bd_stream hr hz
      refine runL_true hr (l := l) (st := feedsT r zs tl0 :: st) (fs := (fun k => gd (cntZ zs []) k) :: fs) (kc := cntZ zs kc) (m := m + (zs.length : Nat)) hn' (fun x hx => ?_) (.cons (tru_stream hr (tl0_ok hr) tru0 hz) p) (fun k => ?_) ?_
      · rcases List.mem_cons.mp hx with rfl | hx
        · exact ⟨ok, b1⟩
        · exact h x hx
      · rw [List.map_cons, List.sum_cons, s k, gd_cntZ zs kc k]
        exact Int.add_comm _ _
      · rw [List.map_cons, List.sum_cons, e, b2]
        omega
    | pour =>
      match st, fs, p, h, s, e with
      | [], fs, p, h, s, e => exact runL_true hr (l := l) hn' h p s e
      | [_], fs, p, h, s, e => exact runL_true hr (l := l) hn' h p s e
      | a :: b :: st, _, .cons pa (.cons pb p), h, s, e =>
        rename_i fa fb fs
        obtain ⟨oa, ba⟩ := h a List.mem_cons_self
        obtain ⟨ob, bb⟩ := h b (List.mem_cons_of_mem _ List.mem_cons_self)
        have em : (pourT r a b).m = b.m + a.m := by
          unfold pourT
          dsimp only
          split <;> rfl
        refine runL_true hr (l := l) (st := pourT r a b :: st) (fs := (fun k => fb k + fa k) :: fs) (kc := kc) (m := m) hn' (fun x hx => ?_) (.cons (tru_pour hr ob oa pb pa) p) (fun k => ?_) ?_
        · rcases List.mem_cons.mp hx with rfl | hx
          · exact ⟨pourT_ok ob oa (by omega), bd_pour hr ob oa bb ba⟩
          · exact h x (List.mem_cons_of_mem _ (List.mem_cons_of_mem _ hx))
        · have := s k
          rw [List.map_cons, List.map_cons, List.sum_cons, List.sum_cons] at this
          rw [List.map_cons, List.sum_cons]
          show fb k + fa k + (fs.map fun f => f k).sum = gd kc k
          omega
        · rw [List.map_cons, List.map_cons, List.sum_cons, List.sum_cons] at e
          rw [List.map_cons, List.sum_cons, em]
          omega
theorem sum_cnt : ∀ (l : List Stp) (kc : Ct) (m : Int), NdZ kc → sumC kc = m → sumC (l.foldl cntS kc) = l.foldl cS m
  | [], _, _, _, e => e
  | .put zs :: l, kc, m, nd, e => by
    have gen : ∀ (zs : List Str) (kc : Ct), NdZ kc → sumC (cntZ zs kc) = sumC kc + (zs.length : Int) := by
      intro zs
      induction zs with
      | nil => exact fun kc _ => by show sumC kc = sumC kc + 0; omega
      | cons z zs ih =>
        intro kc nd
        show sumC (cntZ zs (addZ kc z 1)) = _
        rw [ih _ (addZ_nd nd), sumC_add nd, List.length_cons]
        push_cast
        omega
    exact sum_cnt l (cntZ zs kc) (m + (zs.length : Nat)) (cntZ_nd nd) (by rw [gen zs kc nd, e])
  | .pour :: l, kc, m, nd, e => sum_cnt l kc m nd e
end Kb


namespace Kb
open PySem PySem.Spec PyProof.Rows L2 SrtZ SrtO
/-! many items of a name, in two lots -/
theorem feed_nat {r : Int} {n : Str} {x : Tl} (ok : TlOk r x) (hr : 1 ≤ r) (hn : Nm n) (a : Int) (ha : 0 ≤ a) : ∀ b : Nat, feedT r n (a + (b : Int)) x = feedT r n (b : Int) (feedT r n a x)
  | 0 => by
    rw [Int.natCast_zero, Int.add_zero, feed_zero (feedT_ok ok hr hn ha) hr]
  | b + 1 => by
    have h1 := feed_nat ok hr hn a ha b
    rw [Int.natCast_add, Int.natCast_one, ← Int.add_assoc, feed_iter ok hr (by omega), h1, ← feed_iter (feedT_ok ok hr hn ha) hr (by omega)]
theorem feed_two {r a b : Int} {n : Str} {x : Tl} (ok : TlOk r x) (hr : 1 ≤ r) (hn : Nm n) (ha : 0 ≤ a) (hb : 0 ≤ b) : feedT r n b (feedT r n a x) = feedT r n (a + b) x := by
  obtain ⟨k, rfl⟩ := Int.eq_ofNat_of_zero_le hb
  exact (feed_nat ok hr hn a ha k).symm
/-! so many times as much -/
def sclC (f : Int) (K : Ct) : Ct := K.map fun e => (e.1, f * e.2)
def scl (f : Int) (x : Tl) : Tl := ⟨f * x.m, f * x.o, sclC f x.c⟩
theorem sclC_keys (f : Int) (K : Ct) : (sclC f K).map (·.1) = K.map (·.1) := by
  unfold sclC
  rw [List.map_map]
  rfl
theorem sclC_len (f : Int) (K : Ct) : (sclC f K).length = K.length := by
  unfold sclC
  rw [List.length_map]
theorem sclC_nd {f : Int} {K : Ct} (nd : NdZ K) : NdZ (sclC f K) := by
  unfold NdZ
  rw [sclC_keys]
  exact nd
theorem getZ_scl (f : Int) (k : Str) : ∀ K : Ct, getZ (sclC f K) k = (getZ K k).map (f * ·)
  | [] => rfl
  | e :: r => by
    have ih := getZ_scl f k r
    show getZ ((e.1, f * e.2) :: sclC f r) k = _
    rw [getZ_cons, getZ_cons, ih]
    by_cases h : e.1 = k
    · rw [if_pos h, if_pos h]
      rfl
    · rw [if_neg h, if_neg h]
theorem gd_scl (f : Int) (K : Ct) (k : Str) : gd (sclC f K) k = f * gd K k := by
  unfold gd
  rw [getZ_scl]
  cases getZ K k with
  | none => exact (Int.mul_zero f).symm
  | some v => rfl
theorem sum_scl (f : Int) : ∀ K : Ct, sumC (sclC f K) = f * sumC K
  | [] => (Int.mul_zero f).symm
  | e :: r => by
    show sumC ((e.1, f * e.2) :: sclC f r) = _
    rw [sumC_cons', sumC_cons', sum_scl f r, Int.mul_add]
theorem fle {f a b : Int} (hf : 1 ≤ f) : f * a ≤ f * b ↔ a ≤ b := ⟨fun h => Int.le_of_mul_le_mul_left h (by omega), fun h => Int.mul_le_mul_of_nonneg_left h (by omega)⟩
theorem flt {f a b : Int} (hf : 1 ≤ f) : f * a < f * b ↔ a < b := by
  have h := fle (f := f) (a := b) (b := a) hf
  constructor
  · intro h1
    apply Classical.byContradiction
    intro h2
    have := h.mpr (by omega)
    omega
  · intro h1
    apply Classical.byContradiction
    intro h2
    have := h.mp (by omega)
    omega
theorem mn_scl {f : Int} {K : Ct} (hf : 1 ≤ f) (ne : K ≠ []) : mnC (sclC f K) = f * mnC K := by
  obtain ⟨h1, h2⟩ := mnC_spec ne
  refine (mnC_uniq ?_ fun y hy => ?_).symm
  · obtain ⟨e, he, q⟩ := List.mem_map.mp h1
    unfold sclC
    rw [List.map_map]
    exact List.mem_map.mpr ⟨e, he, by rw [← q]; rfl⟩
  · unfold sclC at hy
    rw [List.map_map] at hy
    obtain ⟨e, he, rfl⟩ := List.mem_map.mp hy
    exact (fle hf).mpr (h2 e.2 (List.mem_map.mpr ⟨e, he, rfl⟩))
theorem take_scl {f a : Int} (hf : 1 ≤ f) : ∀ K : Ct, takeZ (f * a) (sclC f K) = sclC f (takeZ a K)
  | [] => rfl
  | e :: r => by
    have ih := take_scl (a := a) hf r
    unfold takeZ sclC at ih ⊢
    rw [List.map_cons, List.filter_cons, List.filter_cons]
    by_cases h : a < e.2
    · rw [if_pos (by simpa using (flt hf).mpr h), if_pos (by simpa using h), List.map_cons, List.map_cons, List.map_cons, ih, Int.mul_sub]
    · rw [if_neg (by simpa using fun z => h ((flt hf).mp z)), if_neg (by simpa using h), ih]
theorem put_scl (f : Int) (K : Ct) (n : Str) (v : Int) : putZ (sclC f K) n (f * v) = sclC f (putZ K n v) := by
  unfold putZ
  have e : ((sclC f K).any fun e => decide (e.1 = n)) = (K.any fun e => decide (e.1 = n)) := by
    unfold sclC
    rw [List.any_map]
    rfl
  rw [e]
  split
  · unfold sclC
    rw [List.map_map, List.map_map]
    refine List.map_congr_left fun x _ => ?_
    show (if x.1 = n then (x.1, f * v) else (x.1, f * x.2)) = ((if x.1 = n then (x.1, v) else x).1, f * (if x.1 = n then (x.1, v) else x).2)
    split <;> rfl
  · unfold sclC
    rw [List.map_append]
    rfl
theorem add_scl (f : Int) (K : Ct) (n : Str) (c : Int) : addZ (sclC f K) n (f * c) = sclC f (addZ K n c) := by
  have e : gd (sclC f K) n + f * c = f * (gd K n + c) := by rw [gd_scl, Int.mul_add]
  show putZ (sclC f K) n (gd (sclC f K) n + f * c) = sclC f (putZ K n (gd K n + c))
  rw [e, put_scl]
theorem full_scl (r f : Int) (n : Str) (K : Ct) : full r n (sclC f K) = full r n K := by
  unfold full
  rw [getZ_scl, sclC_len]
  cases getZ K n <;> rfl
theorem feed_scl {r f c : Int} {n : Str} {x : Tl} (hf : 1 ≤ f) (hr : 1 ≤ r) : feedT r n (f * c) (scl f x) = scl f (feedT r n c x) := by
  obtain ⟨m, o, K⟩ := x
  have pos0 : ∀ {c : Int}, 0 < f * c ↔ 0 < c := fun {c} => by
    have := flt (f := f) (a := 0) (b := c) hf
    rwa [Int.mul_zero] at this
  unfold feedT scl
  dsimp only
  rw [full_scl]
  by_cases hfull : full r n K = true
  · rw [if_pos hfull, if_pos hfull]
    have ne := ne_of_full hr (full_of hfull).2
    rw [mn_scl hf ne]
    dsimp only
    have e : (if f * mnC K < f * c then f * mnC K else f * c) = f * (if mnC K < c then mnC K else c) := by
      by_cases h : mnC K < c
      · rw [if_pos h, if_pos ((flt hf).mpr h)]
      · rw [if_neg h, if_neg fun z => h ((flt hf).mp z)]
    rw [e]
    generalize (if mnC K < c then mnC K else c) = a
    rw [take_scl hf, ← Int.mul_sub]
    have e2 : (if 0 < f * (c - a) then addZ (sclC f (takeZ a K)) n (f * (c - a)) else sclC f (takeZ a K)) = sclC f (if 0 < c - a then addZ (takeZ a K) n (c - a) else takeZ a K) := by
      by_cases h : 0 < c - a
      · rw [if_pos h, if_pos (pos0.mpr h), add_scl]
      · rw [if_neg h, if_neg fun z => h (pos0.mp z)]
    rw [e2, Int.mul_add, Int.mul_add]
  · rw [if_neg hfull, if_neg hfull]
    dsimp only
    have e2 : (if 0 < f * c then addZ (sclC f K) n (f * c) else sclC f K) = sclC f (if 0 < c then addZ K n c else K) := by
      by_cases h : 0 < c
      · rw [if_pos h, if_pos (pos0.mpr h), add_scl]
      · rw [if_neg h, if_neg fun z => h (pos0.mp z)]
    rw [e2, Int.mul_add]
theorem sums_scl (f : Int) : ∀ (more K : Ct), sumsZ (sclC f more) (sclC f K) = sclC f (sumsZ more K)
  | [], _ => rfl
  | e :: r, K => by
    show sumsZ (sclC f r) (addZ (sclC f K) e.1 (f * e.2)) = sclC f (sumsZ r (addZ K e.1 e.2))
    rw [add_scl, sums_scl f r]
theorem fall_scl {f : Int} (hf : 1 ≤ f) (K : Ct) (r : Int) (h : r.toNat < K.length) : fallZ (sclC f K) r = f * fallZ K r := by
  have hs := List.pairwise_mergeSort (le := fun (a b : Int) => decide (b ≤ a)) (fun a b c h1 h2 => by simp at *; omega) (fun a b => by simp; omega) (K.map (·.2))
  have hp := List.mergeSort_perm (K.map (·.2)) (fun (a b : Int) => decide (b ≤ a))
  have := fall_uniq (kvs := sclC f K) (ns := ((K.map (·.2)).mergeSort fun a b => decide (b ≤ a)).map (f * ·)) (by
    have h2 := hp.map (f * ·)
    unfold sclC
    rw [List.map_map] at h2 ⊢
    exact h2) (List.pairwise_map.mpr (hs.imp fun h => (fle hf).mpr (of_decide_eq_true h)))
  unfold fallZ
  rw [← this]
  have hl := hp.length_eq
  rw [List.length_map] at hl
  rw [List.getD_eq_getElem?_getD, List.getD_eq_getElem?_getD, List.getElem?_map, List.getElem?_eq_getElem (by omega)]
  rfl
theorem pour_scl {r f : Int} {x y : Tl} (hf : 1 ≤ f) (hr : 0 ≤ r) : pourT r (scl f y) (scl f x) = scl f (pourT r y x) := by
  obtain ⟨m, o, K⟩ := x
  obtain ⟨m2, o2, K2⟩ := y
  show (if r < ((sumsZ (sclC f K2) (sclC f K)).length : Int) then (⟨f * m + f * m2, f * o + f * o2 + fallZ (sumsZ (sclC f K2) (sclC f K)) r, takeZ (fallZ (sumsZ (sclC f K2) (sclC f K)) r) (sumsZ (sclC f K2) (sclC f K))⟩ : Tl) else ⟨f * m + f * m2, f * o + f * o2, sumsZ (sclC f K2) (sclC f K)⟩)
    = scl f (if r < ((sumsZ K2 K).length : Int) then ⟨m + m2, o + o2 + fallZ (sumsZ K2 K) r, takeZ (fallZ (sumsZ K2 K) r) (sumsZ K2 K)⟩ else ⟨m + m2, o + o2, sumsZ K2 K⟩)
  rw [sums_scl, sclC_len]
  by_cases h : r < ((sumsZ K2 K).length : Int)
  · rw [if_pos h, if_pos h, fall_scl hf _ _ (by omega), take_scl hf]
    unfold scl
    dsimp only
    rw [Int.mul_add, Int.mul_add, Int.mul_add]
  · rw [if_neg h, if_neg h]
    unfold scl
    dsimp only
    rw [Int.mul_add, Int.mul_add]
theorem scl_ok {r f : Int} {x : Tl} (hf : 1 ≤ f) (h : TlOk r x) : TlOk r (scl f x) := by
  refine ⟨sclC_nd h.nd, by show ((sclC f x.c).length : Int) ≤ r; rw [sclC_len]; exact h.len, fun e he => ?_, fun e he => ?_⟩
  · obtain ⟨g, hg, rfl⟩ := List.mem_map.mp he
    have := h.pos g hg
    have := (fle (f := f) (a := 1) (b := g.2) hf).mpr this
    show 1 ≤ f * g.2
    omega
  · obtain ⟨g, hg, rfl⟩ := List.mem_map.mp he
    exact h.nm g hg
theorem scl_bd {r f : Int} {x : Tl} (hf : 1 ≤ f) (h : Bd r x) : Bd r (scl f x) := by
  obtain ⟨l, hi, o, m⟩ := h
  refine ⟨?_, ?_, Int.mul_nonneg (by omega) o, Int.mul_nonneg (by omega) m⟩
  · show (r + 1) * (f * x.o) ≤ f * x.m - sumC (sclC f x.c)
    rw [sum_scl, ← Int.mul_sub, show (r + 1) * (f * x.o) = f * ((r + 1) * x.o) by rw [← Int.mul_assoc, Int.mul_comm (r + 1) f, Int.mul_assoc]]
    exact (fle hf).mpr l
  · show f * x.m - sumC (sclC f x.c) ≤ 2 * r * (f * x.o)
    rw [sum_scl, ← Int.mul_sub, show 2 * r * (f * x.o) = f * (2 * r * x.o) by rw [← Int.mul_assoc, Int.mul_comm (2 * r) f, Int.mul_assoc]]
    exact (fle hf).mpr hi
theorem bd_sk {r : Int} {x : Tl} (ok : TlOk r x) (hr1 : 1 ≤ r) (hr2 : r ≤ 64) (h : Bd r x) : skB r x.m x.o (srtZ x.c) = true := by
  have p := srtZ_perm x.c
  have es : sumC (srtZ x.c) = sumC x.c := sumC_perm' p
  have hlen : ((srtZ x.c).length : Int) ≤ r := by rw [p.length_eq]; exact ok.len
  unfold skB
  rw [es, decide_eq_true hr1, decide_eq_true hr2, decide_eq_true h.many, decide_eq_true h.off, decide_eq_true hlen, decide_eq_true h.low, decide_eq_true h.high]
  rfl
theorem bd_one {r : Int} {n : Str} {x : Tl} (ok : TlOk r x) (bd : Bd r x) (hr : 1 ≤ r) : Bd r (feedT r n 1 x) := by
  obtain ⟨m, o, K⟩ := x
  obtain ⟨b1, b2, b3, b4⟩ := bd
  dsimp only at b1 b2 b3 b4
  by_cases hf : full r n K = true
  · have hl' : (K.length : Int) = r := (full_of hf).2
    have e : feedT r n 1 ⟨m, o, K⟩ = ⟨m + 1, o + 1, takeZ 1 K⟩ := feed_lt hf (mn_pos (ne_of_full hr hl') ok.pos)
    have s1 : sumC (takeZ 1 K) = sumC K - (K.length : Int) := sumC_take1 ok.pos
    rw [e]
    refine ⟨?_, ?_, by show 0 ≤ o + 1; omega, by show 0 ≤ m + 1; omega⟩
    · show (r + 1) * (o + 1) ≤ m + 1 - sumC (takeZ 1 K)
      rw [s1, Int.mul_add]
      omega
    · show m + 1 - sumC (takeZ 1 K) ≤ 2 * r * (o + 1)
      rw [s1, Int.mul_add]
      omega
  · have hf : full r n K = false := by simpa using hf
    have e : feedT r n 1 ⟨m, o, K⟩ = ⟨m + 1, o, addZ K n 1⟩ := feed_add hf (by decide)
    have s1 : sumC (addZ K n 1) = sumC K + 1 := sumC_add ok.nd
    rw [e]
    refine ⟨?_, ?_, b3, by show 0 ≤ m + 1; omega⟩
    · show (r + 1) * o ≤ m + 1 - sumC (addZ K n 1)
      rw [s1]
      omega
    · show m + 1 - sumC (addZ K n 1) ≤ 2 * r * o
      rw [s1]
      omega
theorem bd_nat {r : Int} {n : Str} {x : Tl} (ok : TlOk r x) (bd : Bd r x) (hr : 1 ≤ r) (hn : Nm n) : ∀ c : Nat, Bd r (feedT r n (c : Int) x)
  | 0 => by
    rw [Int.natCast_zero, feed_zero ok hr]
    exact bd
  | c + 1 => by
    have ih := bd_one (n := n) (feedT_ok ok hr hn (c := (c : Int)) (by omega)) (bd_nat ok bd hr hn c) hr
    rw [← feed_iter ok hr (by omega)] at ih
    rw [Int.natCast_add, Int.natCast_one]
    exact ih
theorem bd_feed {r c : Int} {n : Str} {x : Tl} (ok : TlOk r x) (bd : Bd r x) (hr : 1 ≤ r) (hn : Nm n) (hc : 0 ≤ c) : Bd r (feedT r n c x) := by
  obtain ⟨k, rfl⟩ := Int.eq_ofNat_of_zero_le hc
  exact bd_nat ok bd hr hn k
/-! a sketch with its true counts -/
structure Sta (r : Int) (x : Tl) (T : Ct) : Prop where
  ok : TlOk r x
  bd : Bd r x
  tru : TruF (gd T) x
  nd : NdZ T
  pos : ∀ e ∈ T, 1 ≤ e.2
  sum : x.m = sumC T
  few : (T.length : Int) ≤ r → x.o = 0
theorem getZ_gd {a b : Ct} (pa : ∀ e ∈ a, 1 ≤ e.2) (pb : ∀ e ∈ b, 1 ≤ e.2) (na : NdZ a) (nb : NdZ b) (k : Str) (h : gd a k = gd b k) : getZ a k = getZ b k := by
  unfold gd at h
  have p1 : ∀ v, getZ a k = some v → 1 ≤ v := fun v hv => pa _ (getZ_in hv)
  have p2 : ∀ v, getZ b k = some v → 1 ≤ v := fun v hv => pb _ (getZ_in hv)
  cases ha : getZ a k with
  | none =>
    cases hb : getZ b k with
    | none => rfl
    | some v =>
      rw [ha, hb] at h
      have := p2 v hb
      have h : (0 : Int) = v := h
      omega
  | some u =>
    cases hb : getZ b k with
    | none =>
      rw [ha, hb] at h
      have := p1 u ha
      have h : u = (0 : Int) := h
      omega
    | some v =>
      rw [ha, hb] at h
      have h : u = v := h
      rw [h]
theorem gd_perm {a b : Ct} (pa : ∀ e ∈ a, 1 ≤ e.2) (pb : ∀ e ∈ b, 1 ≤ e.2) (na : NdZ a) (nb : NdZ b) (h : ∀ k, gd a k = gd b k) : a.Perm b :=
  perm_of_getZ na nb fun k => getZ_gd pa pb na nb k (h k)
theorem Sta.all {r : Int} {x : Tl} {T : Ct} (h : Sta r x T) (hl : (T.length : Int) ≤ r) : x.c.Perm T := by
  have ho := h.few hl
  refine gd_perm h.ok.pos h.pos h.ok.nd h.nd fun k => ?_
  have := h.tru k
  omega
theorem add_len {K : Ct} {n : Str} {c : Int} : K.length ≤ (addZ K n c).length := by
  unfold addZ putZ
  split
  · rw [List.length_map]
    exact Nat.le_refl _
  · rw [List.length_append]
    exact Nat.le_add_right _ _
theorem add_len_new {K : Ct} {n : Str} {c : Int} (h : getZ K n = none) : (addZ K n c).length = K.length + 1 := by
  unfold addZ
  rw [putZ_new h, List.length_append]
  rfl
theorem sums_len_le : ∀ {more K : Ct}, K.length ≤ (sumsZ more K).length
  | [], _ => Nat.le_refl _
  | e :: r, K => Nat.le_trans (add_len (n := e.1) (c := e.2)) (sums_len_le (more := r))
theorem sta0 (r : Int) (hr : 1 ≤ r) : Sta r tl0 [] := ⟨tl0_ok hr, ⟨by show (r + 1) * 0 ≤ (0 : Int) - 0; omega, by show (0 : Int) - 0 ≤ 2 * r * 0; omega, Int.le_refl _, Int.le_refl _⟩, fun k => ⟨Int.le_refl _, Int.le_refl _⟩, List.nodup_nil, (fun _ h => nomatch h), rfl, fun _ => rfl⟩
theorem sta_one {r : Int} {n : Str} {x : Tl} {T : Ct} (h : Sta r x T) (hr : 1 ≤ r) (hn : Nm n) : Sta r (feedT r n 1 x) (addZ T n 1) := by
  obtain ⟨ok, bd, tru, nd, pos, sum, few⟩ := id h
  have htru : Tru T x := tru
  have ok' := feedT_ok ok hr hn (c := 1) (by decide)
  have tru' : TruF (gd (addZ T n 1)) (feedT r n 1 x) := tru_feed ok hr htru
  obtain ⟨m, o, K⟩ := x
  by_cases hf : full r n K = true
  · have hl := (full_of hf).2
    have e : feedT r n 1 ⟨m, o, K⟩ = ⟨m + 1, o + 1, takeZ 1 K⟩ := feed_lt hf (mn_pos (ne_of_full hr hl) ok.pos)
    have hl' : (K.length : Int) = r := hl
    have s1 : sumC (takeZ 1 K) = sumC K - (K.length : Int) := sumC_take1 ok.pos
    obtain ⟨b1, b2, b3, b4⟩ := bd
    dsimp only at b1 b2 b3 b4 sum
    rw [e] at ok' tru' ⊢
    refine ⟨ok', ⟨?_, ?_, by show 0 ≤ o + 1; omega, by show 0 ≤ m + 1; omega⟩, tru', addZ_nd nd, addZ_pos pos (Int.le_refl 1), by show m + 1 = _; rw [sumC_add nd, sum], fun hl2 => ?_⟩
    · show (r + 1) * (o + 1) ≤ m + 1 - sumC (takeZ 1 K)
      rw [s1, Int.mul_add]
      omega
    · show m + 1 - sumC (takeZ 1 K) ≤ 2 * r * (o + 1)
      rw [s1, Int.mul_add]
      omega
    · exfalso
      have hT : (T.length : Int) ≤ r := by
        have := add_len (K := T) (n := n) (c := 1)
        omega
      have p := h.all hT
      have hg : getZ T n = none := by
        rw [← getZ_perm p ok.nd]
        exact (full_of hf).1
      rw [add_len_new hg] at hl2
      have := p.length_eq
      have : K.length = T.length := this
      omega
  · have hf : full r n K = false := by simpa using hf
    have e : feedT r n 1 ⟨m, o, K⟩ = ⟨m + 1, o, addZ K n 1⟩ := feed_add hf (by decide)
    have s1 : sumC (addZ K n 1) = sumC K + 1 := sumC_add ok.nd
    obtain ⟨b1, b2, b3, b4⟩ := bd
    dsimp only at b1 b2 b3 b4 sum
    rw [e] at ok' tru' ⊢
    refine ⟨ok', ⟨?_, ?_, b3, by show 0 ≤ m + 1; omega⟩, tru', addZ_nd nd, addZ_pos pos (Int.le_refl 1), by show m + 1 = _; rw [sumC_add nd, sum], fun hl2 => ?_⟩
    · show (r + 1) * o ≤ m + 1 - sumC (addZ K n 1)
      rw [s1]
      omega
    · show m + 1 - sumC (addZ K n 1) ≤ 2 * r * o
      rw [s1]
      omega
    · have hT : (T.length : Int) ≤ r := by
        have := add_len (K := T) (n := n) (c := 1)
        omega
      exact few hT
theorem sta_nat {r : Int} {n : Str} {x : Tl} {T : Ct} (h : Sta r x T) (hr : 1 ≤ r) (hn : Nm n) : ∀ c : Nat, Sta r (feedT r n ((c : Int) + 1) x) (addZ T n ((c : Int) + 1))
  | 0 => by
    have := sta_one h hr hn
    rw [show (((0 : Nat) : Int) + 1) = 1 from rfl]
    exact this
  | c + 1 => by
    have ih := sta_one (sta_nat h hr hn c) hr hn
    rw [addZ_addZ, ← feed_iter h.ok hr (by omega)] at ih
    rw [Int.natCast_add, Int.natCast_one]
    exact ih
def addP (T : Ct) (n : Str) (c : Int) : Ct := if 0 < c then addZ T n c else T
theorem sta_feed {r c : Int} {n : Str} {x : Tl} {T : Ct} (h : Sta r x T) (hr : 1 ≤ r) (hn : Nm n) (hc : 0 ≤ c) : Sta r (feedT r n c x) (addP T n c) := by
  unfold addP
  by_cases h0 : 0 < c
  · rw [if_pos h0]
    obtain ⟨k, hk⟩ : ∃ k : Nat, c = (k : Int) + 1 := ⟨(c - 1).toNat, by omega⟩
    rw [hk]
    exact sta_nat h hr hn k
  · rw [if_neg h0]
    have : c = 0 := by omega
    subst this
    rw [feed_zero h.ok hr]
    exact h
theorem sta_pour {r : Int} {x y : Tl} {T U : Ct} (hx : Sta r x T) (hy : Sta r y U) (hr : 1 ≤ r) : Sta r (pourT r y x) (sumsZ U T) := by
  have posS : ∀ e ∈ sumsZ U T, 1 ≤ e.2 := sumsZ_pos hy.pos hx.pos
  have ndS : NdZ (sumsZ U T) := sumsZ_nd hx.nd
  refine ⟨pourT_ok hx.ok hy.ok (by omega), bd_pour hr hx.ok hy.ok hx.bd hy.bd, ?_, ndS, posS, ?_, fun hl => ?_⟩
  · have := tru_pour hr hx.ok hy.ok hx.tru hy.tru
    intro k
    rw [gd_sums hy.nd]
    exact this k
  · have e : (pourT r y x).m = x.m + y.m := by
      show (if r < ((sumsZ y.c x.c).length : Int) then (⟨x.m + y.m, x.o + y.o + fallZ (sumsZ y.c x.c) r, takeZ (fallZ (sumsZ y.c x.c) r) (sumsZ y.c x.c)⟩ : Tl) else ⟨x.m + y.m, x.o + y.o, sumsZ y.c x.c⟩).m = _
      split <;> rfl
    rw [e, sumC_sums hx.nd, hx.sum, hy.sum]
  · have hT : (T.length : Int) ≤ r := by
      have := sums_len_le (more := U) (K := T)
      omega
    have pc : (sumsZ U T).Perm (sumsZ T U) := gd_perm posS (sumsZ_pos hx.pos hy.pos) ndS (sumsZ_nd hy.nd) fun k => by
      rw [gd_sums hy.nd, gd_sums hx.nd]
      omega
    have hU : (U.length : Int) ≤ r := by
      have := sums_len_le (more := T) (K := U)
      rw [pc.length_eq] at hl
      omega
    have p := sums_perm (hy.all hU) (hx.all hT) hy.ok.nd hx.ok.nd
    have h1 := hx.few hT
    have h2 := hy.few hU
    show (if r < ((sumsZ y.c x.c).length : Int) then (⟨x.m + y.m, x.o + y.o + fallZ (sumsZ y.c x.c) r, takeZ (fallZ (sumsZ y.c x.c) r) (sumsZ y.c x.c)⟩ : Tl) else ⟨x.m + y.m, x.o + y.o, sumsZ y.c x.c⟩).o = 0
    rw [if_neg (by rw [p.length_eq]; omega)]
    show x.o + y.o = 0
    omega
end Kb

namespace Kb
open PySem PySem.Spec PyProof.Rows L2 SrtZ SrtO
abbrev sP_fed : Stmt := topS 53
theorem scP_fed : FnScope ["sketch", "name"] ["sketch", "name"] (defScope sP_fed) := ⟨rfl, rfl, rfl, by decide +kernel, rfl, by decide +kernel, by decide +kernel⟩
abbrev DnFed (K : PySem.W.Frag) (mg : Str → Option Value) := Dn K mg "fed" sP_fed ["sketch", "name"]
/-- a sketch as anything told it -/
def SkY (K : PySem.W.Frag) (H : Hp) (s : Addr) (r : Int) (x : Tl) : Prop := ∃ (k : Addr) (ts : List Addr), SqT K H s [.int r, .int x.m, .int x.o, .ref k] ∧ Ptp H k (ts.map V.ref) ∧ Paired (PrAt K H) ts (srtZ x.c)
theorem SkY.same {K : PySem.W.Frag} {H H' : Hp} {s : Addr} {r : Int} {x : Tl} (h : SkY K H s r x) (y : Same H H') : SkY K H' s r x := by
  obtain ⟨k, ts, h1, h2, h3⟩ := h
  exact ⟨k, ts, seqT h1 y, h2.same y, prs_same y h3⟩
theorem SkAt.y {K : PySem.W.Frag} {H : Hp} {s : Addr} {r : Int} {x : Tl} (h : SkAt H s r x) : SkY K H s r x := by
  obtain ⟨k, ts, h1, h2, h3⟩ := h
  exact ⟨k, ts, .inl (.inl h1), h2, paired_imp (fun t e h => .inl (.inl h)) h3⟩
/-- a sketch that is one -/
structure SkO (r : Int) (x : Tl) : Prop where
  r1 : 1 ≤ r
  r64 : r ≤ 64
  ok : TlOk r x
  bd : Bd r x
theorem SkO.b {r : Int} {x : Tl} (h : SkO r x) : skB r x.m x.o (srtZ x.c) = true := bd_sk h.ok h.r1 h.r64 h.bd
section
variable {P : Program} {w : World} {K : PySem.W.Frag} {mg : Str → Option Value} {base : Heap}
def spFedManyY (K : PySem.W.Frag) : Sp := fun vs H Q _ => ∃ (s : Addr) (r c : Int) (n : Str) (x : Tl), vs = [.ref s, .str n, .int c] ∧ SkY K H s r x ∧ 1 ≤ r ∧ r ≤ 64 ∧ TlOk r x ∧ skB r x.m x.o (srtZ x.c) = true ∧ Nm n ∧ 0 ≤ c ∧
  ∀ H' s', Same H H' → H s' = none → SkAt H' s' r (feedT r n c x) → Q (.ref s') H'
theorem ok_fed_manyY (T : Blt mg) (cM : Cst mg "MOST_ROOM" (.int 64)) (cL : Cst mg "LONGEST_NAME" (.int 8)) (dP_is_int : DnIsInt K mg) (dP_is_number : DnIsNumber K mg) (dP_is_room : DnIsRoom K mg) (dP_is_name : DnIsName K mg) (dP_is_counted : DnIsCounted K mg) (dP_are_counts : DnAreCounts K mg) (dP_lost_of : DnLostOf K mg) (dP_is_sketch : DnIsSketch K mg)
    (L : Tal K mg) (d : DnFedMany K mg) : FnOk P w K mg base CX0 5 d.f d.fd ["sketch", "name", "times"] (spFedManyY K) := by
  have GP_is_sketch : FnOk P w K mg base CX0 4 dP_is_sketch.f dP_is_sketch.fd ["thing"] (spIsSketch K) := ok_is_sketch T cM cL dP_is_int dP_is_number dP_is_room dP_is_name dP_is_counted dP_are_counts dP_lost_of dP_is_sketch
  have GP_is_name : FnOk P w K mg base CX0 1 dP_is_name.f dP_is_name.fd ["thing"] spIsName := ok_is_name T cL dP_is_name
  have GP_is_number : FnOk P w K mg base CX0 2 dP_is_number.f dP_is_number.fd ["thing"] spIsNumber := ok_is_number T dP_is_int dP_is_number
  have GI : FnOk P w K mg base CX0 1 L.fI L.dI ["self", "sketch"] (spTinit K L.C) := ok_Tinit T L
  have Gsketch : FnOk P w K mg base CX0 1 L.fS L.dS ["self"] (spTsketch L.C) := ok_Tsketch T L
  have Gfeed : FnOk P w K mg base CX0 2 L.fF L.dF ["self", "name", "times"] (spTfeed L.C) := ok_Tfeed T L
  refine d.F.ok scP_fed_many (fun vs H Q E h => ?_) (fun cdv A outer s H vs Q E hr h => ?_)
  · obtain ⟨s, r, c, n, x, rfl, _⟩ := h
    rfl
  · obtain ⟨sk, r, c, n, x, rfl, hsk, hr1, hr2, ok, hb, hn, hc, q⟩ := h
    refine ⟨_, (pss_cons (ps_if (pt_not (pt_val (pe_call GP_is_sketch (hr.mono (by omega)) (by rfl) dP_is_sketch.g dP_is_sketch.F.kp dP_is_sketch.b .nil pass0 (pa_cons (pv 0) pa_nil))))
      (pss_one ps_never)
      pss_nil)
    (pss_cons (ps_if (pt_not (pt_val (pe_call GP_is_name (hr.mono (by omega)) (by rfl) dP_is_name.g dP_is_name.F.kp dP_is_name.b .nil pass0 (pa_cons (pv 1) pa_nil))))
      (pss_one ps_never)
      pss_nil)
    (pss_cons (ps_if (pt_not (pt_val (pe_call GP_is_number (hr.mono (by omega)) (by rfl) dP_is_number.g dP_is_number.F.kp dP_is_number.b .nil pass0 (pa_cons (pv 2) pa_nil))))
      (pss_one ps_never)
      pss_nil)
    (pss_cons (ps_set (i := 3) scP_fed_many.nd rfl (Or.inl rfl) (pe_make L.mI GI (hr.mono (by omega)) (by rfl) L.g L.bI .nil pass0 (pa_cons (pv 0) pa_nil)))
    (pss_cons (ps_expr (pe_meth (pv 3) L.cl L.mF Gfeed (hr.mono (by omega)) L.bF .nil pass0 (pa_cons (pv 1) (pa_cons (pv 2) pa_nil))))
    (pss_one (ps_ret (pe_meth0 (pv 3) L.cl L.mS Gsketch (hr.mono (by omega)) L.bS .nil pass0)))))))), ?_⟩
    have ok2 := skT_ok ok
    have hlen := ok2.len
    obtain ⟨k, ts, h1, h2, h3⟩ := id hsk
    refine ⟨.ref sk, rfl, sk, k, r, x.m, x.o, srtZ x.c, rfl, h1, ⟨ts, h2.seq, h3⟩, cts_of ok, (by have : ((srtZ x.c).length : Int) ≤ r := hlen; omega), fun H1 s1 => ⟨true, congrArg V.bl hb, iteF ?_⟩⟩
    refine ⟨.str n, rfl, n, rfl, hn, fun H2 s2 => ⟨true, rfl, iteF ?_⟩⟩
    refine ⟨.int c, rfl, c, rfl, true, congrArg V.bl (decide_eq_true hc), iteF ?_⟩
    have s12 : Same H H2 := fun b u e => s2 b u (s1 b u e)
    obtain ⟨k, ts, h1, h2, h3⟩ := hsk.same s12
    refine ⟨.ref sk, rfl, fun t dx nt ndx hne => ?_⟩
    have s5 : Same H2 (upd (upd H2 dx (.own t)) t (.ins L.C dx [])) := Same.new (same_upd ndx) (by rw [upd_ne hne.symm]; exact nt)
    refine ⟨t, dx, sk, k, r, x.m, x.o, ts, srtZ x.c, rfl, upd_same, seqT h1 s5, h2.same s5, prs_same s5 h3, ok2.nd, fun H5 d5 kp5 nd5 ta5 => ⟨rfl, ?_⟩⟩
    have nt0 : H t = none := Same.gone s12 nt
    have s35 : Same H H5 := fun q u e => kp5 q u (ne_of_none e nt0) (s5 q u (s12 q u e))
    have nd50 : H d5 = none := Same.gone s12 (Same.gone s5 nd5)
    obtain ⟨⟨dx5, ht5⟩, _⟩ := id ta5
    refine ⟨.ref t, rfl, t, dx5, _, rfl, ht5, g_no _ _ _ _ (by decide +kernel) (by decide +kernel) (by decide +kernel) (by decide +kernel), .str n, rfl, .int c, rfl, t, d5, r, c, n, skT x, rfl, ta5, ok2.nd, (by have : ((srtZ x.c).length : Int) ≤ r := hlen; show (srtZ x.c).length ≤ 500; omega), hr1, fun H7 d7 b7 hd7 ta7 => ?_⟩
    have s07 : Same H H7 := fun q u e => b7 q u (ne_of_none e nt0) (ne_of_none e nd50) (s35 q u e)
    have ok7 := feedT_ok ok2 hr1 hn hc
    have l7 := ok7.len
    obtain ⟨⟨dx7, ht7⟩, _⟩ := id ta7
    refine ⟨.ref t, rfl, t, dx7, _, rfl, ht7, g_no _ _ _ _ (by decide +kernel) (by decide +kernel) (by decide +kernel) (by decide +kernel), t, d7, r, _, _, _, rfl, ta7, ok7.nd, (by omega), fun H8 s8 k8 ys ts8 sm8 ns8 hs8 hk8 hpr pm asc => ?_⟩
    have eys := srtZ_of asc pm ok7.nd
    subst eys
    refine q H8 s8 (fun b u e => sm8 b u (s07 b u e)) (Same.gone s07 ns8) (SkAt.congr (x := feedT r n c (skT x)) ⟨k8, ts8, hs8, hk8, hpr⟩ (feed_skT ok.nd))
def spFedY (K : PySem.W.Frag) : Sp := fun vs H Q _ => ∃ (s : Addr) (r : Int) (n : Str) (x : Tl), vs = [.ref s, .str n] ∧ SkY K H s r x ∧ 1 ≤ r ∧ r ≤ 64 ∧ TlOk r x ∧ skB r x.m x.o (srtZ x.c) = true ∧ Nm n ∧
  ∀ H' s', Same H H' → H s' = none → SkAt H' s' r (feedT r n 1 x) → Q (.ref s') H'
theorem ok_fedY (T : Blt mg) (cM : Cst mg "MOST_ROOM" (.int 64)) (cL : Cst mg "LONGEST_NAME" (.int 8)) (dP_is_int : DnIsInt K mg) (dP_is_number : DnIsNumber K mg) (dP_is_room : DnIsRoom K mg) (dP_is_name : DnIsName K mg) (dP_is_counted : DnIsCounted K mg) (dP_are_counts : DnAreCounts K mg) (dP_lost_of : DnLostOf K mg) (dP_is_sketch : DnIsSketch K mg)
    (L : Tal K mg) (dP_fed_many : DnFedMany K mg) (d : DnFed K mg) : FnOk P w K mg base CX0 6 d.f d.fd ["sketch", "name"] (spFedY K) := by
  have GP_fed_many : FnOk P w K mg base CX0 5 dP_fed_many.f dP_fed_many.fd ["sketch", "name", "times"] (spFedManyY K) := ok_fed_manyY T cM cL dP_is_int dP_is_number dP_is_room dP_is_name dP_is_counted dP_are_counts dP_lost_of dP_is_sketch L dP_fed_many
  refine d.F.ok scP_fed (fun vs H Q E h => ?_) (fun cdv A outer s H vs Q E hr h => ?_)
  · obtain ⟨s, r, n, x, rfl, _⟩ := h
    rfl
  · obtain ⟨sk, r, n, x, rfl, hsk, hr1, hr2, ok, hb, hn, q⟩ := h
    refine ⟨_, (pss_one (ps_ret (pe_call GP_fed_many (hr.mono (by omega)) (by rfl) dP_fed_many.g dP_fed_many.F.kp dP_fed_many.b .nil pass0 (pa_cons (pv 0) (pa_cons (pv 1) (pa_cons pe_int pa_nil)))))), ?_⟩
    exact ⟨.ref sk, rfl, .str n, rfl, sk, r, 1, n, x, rfl, hsk, hr1, hr2, ok, hb, hn, (by decide), q⟩
def spNeedTwoY (K : PySem.W.Frag) : Sp := fun vs H Q _ => ∃ (s1 s2 : Addr) (r : Int) (x y : Tl), vs = [.ref s1, .ref s2] ∧ SkY K H s1 r x ∧ SkY K H s2 r y ∧ r ≤ 64 ∧ TlOk r x ∧ TlOk r y ∧ skB r x.m x.o (srtZ x.c) = true ∧ skB r y.m y.o (srtZ y.c) = true ∧ ∀ H', Same H H' → Q .non H'
theorem ok_need_twoY (T : Blt mg) (cM : Cst mg "MOST_ROOM" (.int 64)) (cL : Cst mg "LONGEST_NAME" (.int 8)) (dP_is_int : DnIsInt K mg) (dP_is_number : DnIsNumber K mg) (dP_is_room : DnIsRoom K mg) (dP_is_name : DnIsName K mg) (dP_is_counted : DnIsCounted K mg) (dP_are_counts : DnAreCounts K mg) (dP_lost_of : DnLostOf K mg) (dP_is_sketch : DnIsSketch K mg)
    (d : DnNeedTwo K mg) : FnOk P w K mg base CX0 5 d.f d.fd ["one", "other"] (spNeedTwoY K) := by
  have GP_is_sketch : FnOk P w K mg base CX0 4 dP_is_sketch.f dP_is_sketch.fd ["thing"] (spIsSketch K) := ok_is_sketch T cM cL dP_is_int dP_is_number dP_is_room dP_is_name dP_is_counted dP_are_counts dP_lost_of dP_is_sketch
  refine d.F.ok scP_need_two (fun vs H Q E h => ?_) (fun cdv A outer s H vs Q E hr h => ?_)
  · obtain ⟨s1, s2, r, x, y, rfl, _⟩ := h
    rfl
  · obtain ⟨a1, a2, r, x, y, rfl, k1, k2, hr2, ok1, ok2, b1, b2, q⟩ := h
    refine ⟨_, (pss_cons (ps_if (PW.pt (pw_or (pt_not (pt_val (pe_call GP_is_sketch (hr.mono (by omega)) (by rfl) dP_is_sketch.g dP_is_sketch.F.kp dP_is_sketch.b .nil pass0 (pa_cons (pv 0) pa_nil)))) (pw_or1 (pt_not (pt_val (pe_call GP_is_sketch (hr.mono (by omega)) (by rfl) dP_is_sketch.g dP_is_sketch.F.kp dP_is_sketch.b .nil pass0 (pa_cons (pv 1) pa_nil)))))))
      (pss_one ps_never)
      pss_nil)
    (pss_one (ps_if (pt_cmpR op_ne (pe_ix ix_tup (pv 0) pe_int (fun _ _ => rfl)) (pe_ix ix_tup (pv 1) pe_int (fun _ _ => rfl)) (nomark _))
      (pss_one ps_never)
      pss_nil))), ?_⟩
    have l1 := ok1.len
    have l2 := ok2.len
    obtain ⟨k, ts, h1, h2, h3⟩ := id k1
    refine ⟨.ref a1, rfl, a1, k, r, x.m, x.o, srtZ x.c, rfl, h1, ⟨ts, h2.seq, h3⟩, cts_of ok1, (by rw [(srtZ_perm x.c).length_eq]; omega), fun H1 s1 => ⟨true, congrArg V.bl b1, iteF ?_⟩⟩
    obtain ⟨k, ts, h1, h2, h3⟩ := k2.same s1
    refine ⟨.ref a2, rfl, a2, k, r, y.m, y.o, srtZ y.c, rfl, h1, ⟨ts, h2.seq, h3⟩, cts_of ok2, (by rw [(srtZ_perm y.c).length_eq]; omega), fun H2 s2 => ⟨true, congrArg V.bl b2, iteF ?_⟩⟩
    have s12 : Same H H2 := fun b u e => s2 b u (s1 b u e)
    obtain ⟨k, ts, h1, _⟩ := k1.same s12
    obtain ⟨k', ts', h1', _⟩ := k2.same s12
    refine ⟨.ref a1, rfl, a1, _, _, _, rfl, rfl, h1, atI_nat (j := 0) rfl, .ref a2, rfl, a2, _, _, _, rfl, rfl, h1', atI_nat (j := 0) rfl, rfl, false, ?_, iteF (q H2 s12)⟩
    rw [decide_eq_true rfl]
    rfl
def spPouredY (K : PySem.W.Frag) : Sp := fun vs H Q _ => ∃ (s1 s2 : Addr) (r : Int) (x y : Tl), vs = [.ref s1, .ref s2] ∧ SkY K H s1 r x ∧ SkY K H s2 r y ∧ 1 ≤ r ∧ r ≤ 64 ∧ TlOk r x ∧ TlOk r y ∧ skB r x.m x.o (srtZ x.c) = true ∧ skB r y.m y.o (srtZ y.c) = true ∧
  ∀ H' s', Same H H' → H s' = none → SkAt H' s' r (pourT r (skT y) (skT x)) → Q (.ref s') H'
theorem ok_pouredY (T : Blt mg) (cM : Cst mg "MOST_ROOM" (.int 64)) (cL : Cst mg "LONGEST_NAME" (.int 8)) (dP_is_int : DnIsInt K mg) (dP_is_number : DnIsNumber K mg) (dP_is_room : DnIsRoom K mg) (dP_is_name : DnIsName K mg) (dP_is_counted : DnIsCounted K mg) (dP_are_counts : DnAreCounts K mg) (dP_lost_of : DnLostOf K mg) (dP_is_sketch : DnIsSketch K mg)
    (L : Tal K mg) (dP_need_two : DnNeedTwo K mg) (d : DnPoured K mg) : FnOk P w K mg base CX0 6 d.f d.fd ["one", "other"] (spPouredY K) := by
  have GP_need_two : FnOk P w K mg base CX0 5 dP_need_two.f dP_need_two.fd ["one", "other"] (spNeedTwoY K) := ok_need_twoY T cM cL dP_is_int dP_is_number dP_is_room dP_is_name dP_is_counted dP_are_counts dP_lost_of dP_is_sketch dP_need_two
  have GI : FnOk P w K mg base CX0 1 L.fI L.dI ["self", "sketch"] (spTinit K L.C) := ok_Tinit T L
  have Gsketch : FnOk P w K mg base CX0 1 L.fS L.dS ["self"] (spTsketch L.C) := ok_Tsketch T L
  have Gpour : FnOk P w K mg base CX0 2 L.fP L.dP ["self", "sketch"] (spTpour K L.C) := ok_Tpour T L
  refine d.F.ok scP_poured (fun vs H Q E h => ?_) (fun cdv A outer s H vs Q E hr h => ?_)
  · obtain ⟨s1, s2, r, x, y, rfl, _⟩ := h
    rfl
  · obtain ⟨a1, a2, r, x, y, rfl, k1, k2, hr1, hr2, ok1, ok2, b1, b2, q⟩ := h
    refine ⟨_, (pss_cons (ps_expr (pe_call GP_need_two (hr.mono (by omega)) (by rfl) dP_need_two.g dP_need_two.F.kp dP_need_two.b .nil pass0 (pa_cons (pv 0) (pa_cons (pv 1) pa_nil))))
    (pss_cons (ps_set (i := 2) scP_poured.nd rfl (Or.inl rfl) (pe_make L.mI GI (hr.mono (by omega)) (by rfl) L.g L.bI .nil pass0 (pa_cons (pv 0) pa_nil)))
    (pss_cons (ps_expr (pe_meth (pv 2) L.cl L.mP Gpour (hr.mono (by omega)) L.bP .nil pass0 (pa_cons (pv 1) pa_nil)))
    (pss_one (ps_ret (pe_meth0 (pv 2) L.cl L.mS Gsketch (hr.mono (by omega)) L.bS .nil pass0)))))), ?_⟩
    refine ⟨.ref a1, rfl, .ref a2, rfl, a1, a2, r, x, y, rfl, k1, k2, hr2, ok1, ok2, b1, b2, fun H2 s12 => ?_⟩
    have okx := skT_ok ok1
    have oky := skT_ok ok2
    have lx := okx.len
    have ly := oky.len
    obtain ⟨k, ts, h1, h2, h3⟩ := k1.same s12
    refine ⟨.ref a1, rfl, fun t dx nt ndx hne => ?_⟩
    have s5 : Same H2 (upd (upd H2 dx (.own t)) t (.ins L.C dx [])) := Same.new (same_upd ndx) (by rw [upd_ne hne.symm]; exact nt)
    refine ⟨t, dx, a1, k, r, x.m, x.o, ts, srtZ x.c, rfl, upd_same, seqT h1 s5, h2.same s5, prs_same s5 h3, okx.nd, fun H5 d5 kp5 nd5 ta5 => ⟨rfl, ?_⟩⟩
    have nt0 : H t = none := Same.gone s12 nt
    have s35 : Same H H5 := fun q u e => kp5 q u (ne_of_none e nt0) (s5 q u (s12 q u e))
    have nd50 : H d5 = none := Same.gone s12 (Same.gone s5 nd5)
    obtain ⟨⟨dx5, ht5⟩, _⟩ := id ta5
    obtain ⟨k', ts', h1', h2', h3'⟩ := k2.same s35
    refine ⟨.ref t, rfl, t, dx5, _, rfl, ht5, g_no _ _ _ _ (by decide +kernel) (by decide +kernel) (by decide +kernel) (by decide +kernel), .ref a2, rfl, t, d5, a2, k', r, r, skT x, skT y, rfl, ta5, okx.nd, (by show (skT x).c.length ≤ 200; omega), h1', ⟨ts', h2'.seq, h3'⟩, (by show (skT y).c.length ≤ 200; omega), (by omega), fun H7 d7 b7 hd7 ta7 => ?_⟩
    have s07 : Same H H7 := fun q u e => b7 q u (ne_of_none e nt0) (ne_of_none e nd50) (s35 q u e)
    have ok7 := pourT_ok okx oky (by omega)
    have l7 := ok7.len
    obtain ⟨⟨dx7, ht7⟩, _⟩ := id ta7
    refine ⟨.ref t, rfl, t, dx7, _, rfl, ht7, g_no _ _ _ _ (by decide +kernel) (by decide +kernel) (by decide +kernel) (by decide +kernel), t, d7, r, _, _, _, rfl, ta7, ok7.nd, (by omega), fun H8 s8 k8 ys ts8 sm8 ns8 hs8 hk8 hpr pm asc => ?_⟩
    have eys := srtZ_of asc pm ok7.nd
    subst eys
    exact q H8 s8 (fun b u e => sm8 b u (s07 b u e)) (Same.gone s07 ns8) ⟨k8, ts8, hs8, hk8, hpr⟩
end
end Kb

namespace Kb
open PySem PySem.Spec PyProof.Rows L2 SrtZ SrtO
abbrev sP_is_stream : Stmt := topS 39
theorem scP_is_stream : FnScope ["thing", "item"] ["thing"] (defScope sP_is_stream) := ⟨rfl, rfl, rfl, by decide +kernel, rfl, by decide +kernel, by decide +kernel⟩
abbrev DnIsStream (K : PySem.W.Frag) (mg : Str → Option Value) := Dn K mg "is_stream" sP_is_stream ["thing"]
abbrev sP_is_tree : Stmt := topS 40
theorem scP_is_tree : FnScope ["thing"] ["thing"] (defScope sP_is_tree) := ⟨rfl, rfl, rfl, by decide +kernel, rfl, by decide +kernel, by decide +kernel⟩
abbrev sP_is_tree_of : Stmt := topS 41
theorem scP_is_tree_of : FnScope ["thing", "word", "is_right", "many", "height", "step"] ["thing", "word", "is_right"] (defScope sP_is_tree_of) := ⟨rfl, rfl, rfl, by decide +kernel, rfl, by decide +kernel, by decide +kernel⟩
abbrev sP_is_put : Stmt := topS 42
theorem scP_is_put : FnScope ["step", "word"] ["step", "word"] (defScope sP_is_put) := ⟨rfl, rfl, rfl, by decide +kernel, rfl, by decide +kernel, by decide +kernel⟩
abbrev sP_is_pour : Stmt := topS 43
theorem scP_is_pour : FnScope ["step"] ["step"] (defScope sP_is_pour) := ⟨rfl, rfl, rfl, by decide +kernel, rfl, by decide +kernel, by decide +kernel⟩
abbrev DnIsTree (K : PySem.W.Frag) (mg : Str → Option Value) := Dn K mg "is_tree" sP_is_tree ["thing"]
structure DnIsPut (K : PySem.W.Frag) (mg : Str → Option Value) where
  p : Dn K mg "_is_put" sP_is_put ["step", "word"]
  o : Dn K mg "is_tree_of" sP_is_tree_of ["thing", "word", "is_right"]
abbrev DnIsPour (K : PySem.W.Frag) (mg : Str → Option Value) := Dn K mg "_is_pour" sP_is_pour ["step"]
abbrev sP_sketch_of : Stmt := topS 57
abbrev NP_sketch_of : List Str := ["room", "tree", "pile", "step", "tally", "name", "above"]
theorem scP_sketch_of : FnScope ["room", "tree", "pile", "step", "tally", "name", "above"] ["room", "tree"] (defScope sP_sketch_of) := ⟨rfl, rfl, rfl, by decide +kernel, rfl, by decide +kernel, by decide +kernel⟩
abbrev DnSketchOf (K : PySem.W.Frag) (mg : Str → Option Value) := Dn K mg "sketch_of" sP_sketch_of ["room", "tree"]
abbrev sP_counts_of : Stmt := topS 46
theorem scP_counts_of : FnScope ["tree", "many", "step", "name"] ["tree"] (defScope sP_counts_of) := ⟨rfl, rfl, rfl, by decide +kernel, rfl, by decide +kernel, by decide +kernel⟩
abbrev DnCountsOf (K : PySem.W.Frag) (mg : Str → Option Value) := Dn K mg "counts_of" sP_counts_of ["tree"]
abbrev sP_is_space_room : Stmt := topS 79
abbrev NP_is_space_room : List Str := ["thing"]
theorem scP_is_space_room : FnScope ["thing"] ["thing"] (defScope sP_is_space_room) := ⟨rfl, rfl, rfl, by decide +kernel, rfl, by decide +kernel, by decide +kernel⟩
abbrev sP_is_space : Stmt := topS 80
abbrev NP_is_space : List Str := ["thing", "room", "many", "kept", "_", "count"]
theorem scP_is_space : FnScope ["thing", "room", "many", "kept", "_", "count"] ["thing"] (defScope sP_is_space) := ⟨rfl, rfl, rfl, by decide +kernel, rfl, by decide +kernel, by decide +kernel⟩
abbrev sP_fed_space : Stmt := topS 81
abbrev NP_fed_space : List Str := ["space", "name", "room", "many", "kept", "counts", "ahead", "leaver", "other", "count"]
theorem scP_fed_space : FnScope ["space", "name", "room", "many", "kept", "counts", "ahead", "leaver", "other", "count"] ["space", "name"] (defScope sP_fed_space) := ⟨rfl, rfl, rfl, by decide +kernel, rfl, by decide +kernel, by decide +kernel⟩
abbrev DnIsSpaceRoom (K : PySem.W.Frag) (mg : Str → Option Value) := Dn K mg "_is_space_room" sP_is_space_room ["thing"]
abbrev DnIsSpace (K : PySem.W.Frag) (mg : Str → Option Value) := Dn K mg "is_space" sP_is_space ["thing"]
abbrev DnFedSpace (K : PySem.W.Frag) (mg : Str → Option Value) := Dn K mg "fed_space" sP_fed_space ["space", "name"]
abbrev sP_from_space : Stmt := topS 83
abbrev NP_from_space : List Str := ["space", "room", "many", "kept", "off", "name", "count"]
theorem scP_from_space : FnScope ["space", "room", "many", "kept", "off", "name", "count"] ["space"] (defScope sP_from_space) := ⟨rfl, rfl, rfl, by decide +kernel, rfl, by decide +kernel, by decide +kernel⟩
abbrev DnFromSpace (K : PySem.W.Frag) (mg : Str → Option Value) := Dn K mg "from_space" sP_from_space ["space"]
abbrev sP_are_sketches : Stmt := topS 76
abbrev NP_are_sketches : List Str := ["thing", "sketch"]
theorem scP_are_sketches : FnScope ["thing", "sketch"] ["thing"] (defScope sP_are_sketches) := ⟨rfl, rfl, rfl, by decide +kernel, rfl, by decide +kernel, by decide +kernel⟩
abbrev sP_sum_ends : Stmt := topS 77
abbrev NP_sum_ends : List Str := ["sketches", "name", "pairs", "sketch", "low", "_", "high"]
theorem scP_sum_ends : FnScope ["sketches", "name", "pairs", "sketch", "low", "_", "high"] ["sketches", "name"] (defScope sP_sum_ends) := ⟨rfl, rfl, rfl, by decide +kernel, rfl, by decide +kernel, by decide +kernel⟩
abbrev DnAreSketches (K : PySem.W.Frag) (mg : Str → Option Value) := Dn K mg "_are_sketches" sP_are_sketches ["thing"]
abbrev DnSumEnds (K : PySem.W.Frag) (mg : Str → Option Value) := Dn K mg "sum_ends" sP_sum_ends ["sketches", "name"]
end Kb

namespace L2
open PySem PySem.Spec PyProof.Rows
section
variable {X : Cx}
/-- repr of data: what it shows -/
def rRepr (K : PySem.W.Frag) : List V → Hp → VK → Prop := fun vs H Q => ∃ (v : V) (d : PyData), vs = [v] ∧ Dp K H v d ∧ d.showable = true ∧ d.hasDict = false ∧ d.depth ≤ 60 ∧ (∀ i, v = .int i → i.natAbs.log2 < 1920) ∧ d.shown.length ≤ sizeLine ∧ Q (.str d.shown) H
theorem call_reprD (hg : X.A.guards = some []) (hu : X.A.units + 64 < cLine) : CallR X (.builtin "repr") (rRepr X.K) := by
  intro pins s σ H xs us Q I r h
  obtain ⟨v, d, rfl, hd, hs, hn, hz, hi, hl, q⟩ := h
  obtain ⟨u, rfl, ru⟩ := vals1 r
  obtain ⟨as, rd⟩ := Dp.reads I d v u hd ru
  cases hd with
  | non =>
    cases ru
    rw [PyData.shown_none] at q
    exact PySem.P.repr_of_none ⟨.str _, H, I.tok _, ⟨_, rfl⟩, q⟩
  | bl b =>
    cases ru
    rw [PyData.shown_bool] at q
    exact PySem.P.repr_of_bool ⟨.str _, H, I.tok _, ⟨_, rfl⟩, by cases b <;> exact q⟩
  | int i =>
    obtain ⟨t, rfl⟩ := ru
    rw [PyData.shown_int] at q
    exact PySem.P.repr_of_int (hi i rfl) ⟨.str _, H, I.tok _, ⟨_, rfl⟩, q⟩
  | str x =>
    obtain ⟨t, rfl⟩ := ru
    rw [PyData.shown_str] at q hl
    exact PySem.P.repr_of_str ⟨.str _, H, I.tok _, ⟨_, rfl⟩, q⟩ hl
  | lst h1 h2 =>
    cases ru
    exact repr_of_reads' rd hs (fun z => by rw [hn] at z; cases z) hg (by omega) (fun _ _ e => e) (fun h' u tk hk => ⟨.str _, H, I.kept hk, ⟨_, rfl⟩, q⟩) hl
  | tup h1 h2 =>
    cases ru
    exact repr_of_reads' rd hs (fun z => by rw [hn] at z; cases z) hg (by omega) (fun _ _ e => e) (fun h' u tk hk => ⟨.str _, H, I.kept hk, ⟨_, rfl⟩, q⟩) hl
end
end L2

namespace PySem.SeqAt
open Builtin
open AutoSeq1 (wpAny_loadPart')
/-! a dict is no text and no tuple -/
theorem dict_no_str (l : Addr) (es : Array DictEntry) (n : Nat) (dd : Option Addr) (sl : Array (Option Value)) (i : Str) (u : Tok) :
    Meets (Builtin.«dict.__eq__» ⟨[.ref l, .str i u], []⟩) (fun _ R s => s.heap.get? l = some { cls := .type "dict", dict := dd, data := .dict es n, slots := sl } ∧ R (.ok (.ret .notImplemented)) s) := by
  refine .of_wp fun prog w A R s h => ?_
  obtain ⟨hp, g, d, tk, os⟩ := s
  obtain ⟨hl, h⟩ := h
  have f1 := F.sub_str_dict
  wp_walk using wpAny_loadPart' hl
  exact ⟨_, rfl, h⟩
theorem str_no_dict (l : Addr) (es : Array DictEntry) (n : Nat) (dd : Option Addr) (sl : Array (Option Value)) (i : Str) (u : Tok) :
    Meets (Builtin.«str.__eq__» ⟨[.str i u, .ref l], []⟩) (fun _ R s => s.heap.get? l = some { cls := .type "dict", dict := dd, data := .dict es n, slots := sl } ∧ R (.ok (.ret .notImplemented)) s) := by
  refine .of_wp fun prog w A R s h => ?_
  obtain ⟨hp, g, d, tk, os⟩ := s
  obtain ⟨hl, h⟩ := h
  wp_walk using wpAny_loadPart' hl, wpAny_load hl
  exact ⟨_, rfl, h⟩
theorem dict_no_tuple (l b : Addr) (es : Array DictEntry) (items2 : Array Value) (n n2 : Nat) (dd dd2 : Option Addr) (sl sl2 : Array (Option Value)) :
    Meets (Builtin.«dict.__eq__» ⟨[.ref l, .ref b], []⟩) (fun _ R s => s.heap.get? l = some { cls := .type "dict", dict := dd, data := .dict es n, slots := sl } ∧ s.heap.get? b = some { cls := .type "tuple", dict := dd2, data := .seq items2 n2, slots := sl2 } ∧ R (.ok (.ret .notImplemented)) s) := by
  refine .of_wp fun prog w A R s h => ?_
  obtain ⟨hp, g, d, tk, os⟩ := s
  obtain ⟨hl, hb, h⟩ := h
  have f1 := F.sub_tuple_dict
  wp_walk using wpAny_loadPart' hl, wpAny_loadPart' hb
  exact ⟨_, rfl, h⟩
theorem tuple_no_dict (l b : Addr) (items : Array Value) (es : Array DictEntry) (n n2 : Nat) (dd dd2 : Option Addr) (sl sl2 : Array (Option Value)) :
    Meets (Builtin.«tuple.__eq__» ⟨[.ref l, .ref b], []⟩) (fun _ R s => s.heap.get? l = some { cls := .type "tuple", dict := dd, data := .seq items n, slots := sl } ∧ s.heap.get? b = some { cls := .type "dict", dict := dd2, data := .dict es n2, slots := sl2 } ∧ R (.ok (.ret .notImplemented)) s) := by
  refine .of_wp fun prog w A R s h => ?_
  obtain ⟨hp, g, d, tk, os⟩ := s
  obtain ⟨hl, hb, h⟩ := h
  have f1 := F.sub_dict_tuple
  wp_walk using wpAny_loadPart' hl, wpAny_loadPart' hb
  exact ⟨_, rfl, h⟩
section
variable {A : Around} {s : Shared}
theorem RcAt.dict_str {l : Addr} {es : Array DictEntry} {n : Nat} {dd : Option Addr} {sl : Array (Option Value)} (b : Str) (u : Tok) (ho : s.heap.get? l = some { cls := .type "dict", dict := dd, data := .dict es n, slots := sl }) (hu : A.units < cLine) : RcAt A s (.ref l) (.str b u) false := fun prog w E Q h =>
  rc_eq_decline_or (k := false) ⟨_, ho, rfl⟩ (typeIs_str s b u) (by decide) F.sub_str_dict F.slot_dict_eq F.slot_str_eq_refl
    (fun _ hq => call_meets F.slot_dict_eq ⟨_, ho, rfl⟩ F.entry_dict_eq (F.args_dict_eq_2 _ _) (dict_no_str l es n dd sl b u) ⟨ho, hq⟩)
    (fun _ hq => call_meets F.slot_str_eq_refl (typeIs_str s b u) F.entry_str_eq (F.args_str_eq_2 _ _) (str_no_dict l es n dd sl b u) ⟨ho, hq⟩)
    (fun _ hq => wpAny_of_eq (rfl : isSame (.ref l) (.str b u) = pure false) hq) (.inr hu) h
theorem EqAt.dict_str {l : Addr} {es : Array DictEntry} {n : Nat} {dd : Option Addr} {sl : Array (Option Value)} (b : Str) (u : Tok) (ho : s.heap.get? l = some { cls := .type "dict", dict := dd, data := .dict es n, slots := sl }) (hu : A.units < cLine) : EqAt A s (.ref l) (.str b u) false := fun prog w E Q h => by
  unfold eqBool
  refine wpAny_holding ?_
  refine wpAny_ite_split (fun hab => absurd (eq_of_beq hab) nofun) (fun _ => ?_)
  exact wpAny_bind (RcAt.dict_str b u ho hu prog w E _ (wpAny_truthy_bool h))
theorem RcAt.dict_tuple {l b : Addr} {es : Array DictEntry} {n : Nat} {dd : Option Addr} {sl : Array (Option Value)} {items2 : Array Value} (ho : s.heap.get? l = some { cls := .type "dict", dict := dd, data := .dict es n, slots := sl }) (hb : s.heap.IsTuple b items2) (hu : A.units < cLine) : RcAt A s (.ref l) (.ref b) false := fun prog w E Q h => by
  obtain ⟨⟨cls2, dd2, data2, sl2⟩, ho2, hc2, n2, hd2⟩ := id hb
  simp only at hc2 hd2
  subst hc2 hd2
  have hne : l ≠ b := fun e => by
    subst e
    rw [ho] at ho2
    exact absurd ho2 (by simp)
  exact (rc_eq_decline_or (k := false) ⟨_, ho, rfl⟩ ⟨_, ho2, rfl⟩ (by decide) F.sub_tuple_dict F.slot_dict_eq F.slot_tuple_eq_refl
    (fun _ hq => call_meets F.slot_dict_eq ⟨_, ho, rfl⟩ F.entry_dict_eq (F.args_dict_eq_2 _ _) (dict_no_tuple l b es items2 n n2 dd dd2 sl sl2) ⟨ho, ho2, hq⟩)
    (fun _ hq => call_meets F.slot_tuple_eq_refl ⟨_, ho2, rfl⟩ F.entry_tuple_eq (F.args_tuple_eq_2 _ _) (tuple_no_dict b l items2 es n2 n dd2 dd sl2 sl) ⟨ho2, ho, hq⟩)
    (fun _ hq => wpAny_isSame_ref_other hne ho ho2 (by simp) hq) (.inr hu) h)
end
end PySem.SeqAt
namespace L2
open PySem PySem.Spec PyProof.Rows Builtin
variable {X : Cx} {pins : List (Addr × Obj)} {σ : St} {H : Hp} {s : Shared}
/-! anything against a text -/
def EqS (K : PySem.W.Frag) (H : Hp) (x : V) (z : Str) (c : Bool) : Prop :=
  (x = .non ∧ c = false) ∨ (∃ i, x = .int i ∧ c = false) ∨ (∃ b, x = .bl b ∧ c = false) ∨ (∃ y, x = .str y ∧ c = decide (y = z)) ∨
  ∃ a, x = .ref a ∧ c = false ∧ ((∃ xs, SqL K H a xs) ∨ (∃ xs, SqT K H a xs) ∨ ∃ k, H a = some (.dK k))
theorem dict_at (I : Inv X pins σ H s) {a : Addr} {k : List (Key × V)} (e : H a = some (.dK k)) : ∃ es n dd sl, s.heap.get? a = some { cls := .type "dict", dict := dd, data := .dict es n, slots := sl } := by
  obtain ⟨_, low, vs, _, dd⟩ := (show ObjOk X.prog X.w H s.heap a (.dK k) from I.hok a _ e)
  obtain ⟨o, es, n, ho, shape, r⟩ := dd
  obtain ⟨cls, dct, data, sl⟩ := o
  obtain ⟨c1, c2, c3⟩ := shape
  obtain ⟨c4, _⟩ := r
  simp only at c1 c4
  subst c1 c4
  exact ⟨es, n, dct, sl, ho⟩
theorem str_dec (y z : Str) : (y == z) = decide (y = z) := by
  by_cases h : y = z
  · rw [decide_eq_true h, h]
    exact beq_self_eq_true z
  · rw [decide_eq_false h]
    exact beq_eq_false_iff_ne.mpr h
theorem EqS.rc (I : Inv X pins σ H s) {A : Around} (hu : A.units < cLine) {x : V} {v : Value} {z : Str} {t : Tok} {c : Bool} (h : EqS X.K H x z c) (r : RelV x v) : SeqAt.RcAt A s v (.str z t) c := by
  rcases h with ⟨rfl, rfl⟩ | ⟨i, rfl, rfl⟩ | ⟨b, rfl, rfl⟩ | ⟨y, rfl, rfl⟩ | ⟨a, rfl, rfl, h⟩
  · cases (show v = Value.none from r)
    exact SeqAt.RcAt.none_str z t
  · obtain ⟨t', rfl⟩ := r
    exact SeqAt.RcAt.int_str i t' z t
  · cases (show v = Value.bool b from r)
    exact SeqAt.RcAt.bool_str b z t
  · obtain ⟨t', rfl⟩ := r
    rw [← str_dec]
    exact SeqAt.RcAt.str_str y t' z t
  · cases (show v = Value.ref a from r)
    rcases h with ⟨xs, h⟩ | ⟨xs, h⟩ | ⟨k, h⟩
    · obtain ⟨its, _, p, _⟩ := I.list h
      exact SeqAt.RcAt.list_str z t p.isList hu
    · obtain ⟨its, _, p, _⟩ := I.tuple h
      exact SeqAt.RcAt.tuple_str z t p hu
    · obtain ⟨es, n, dd, sl, ho⟩ := dict_at I h
      exact SeqAt.RcAt.dict_str z t ho hu
theorem EqS.eq (I : Inv X pins σ H s) {A : Around} (hu : A.units < cLine) {x : V} {v : Value} {z : Str} {t : Tok} {c : Bool} (h : EqS X.K H x z c) (r : RelV x v) : SeqAt.EqAt A s v (.str z t) c := by
  rcases h with ⟨rfl, rfl⟩ | ⟨i, rfl, rfl⟩ | ⟨b, rfl, rfl⟩ | ⟨y, rfl, rfl⟩ | ⟨a, rfl, rfl, h⟩
  · cases (show v = Value.none from r)
    exact SeqAt.EqAt.none_str z t
  · obtain ⟨t', rfl⟩ := r
    exact SeqAt.EqAt.int_str i t' z t
  · cases (show v = Value.bool b from r)
    exact SeqAt.EqAt.bool_str b z t
  · obtain ⟨t', rfl⟩ := r
    rw [← str_dec]
    exact SeqAt.EqAt.str_str y t' z t
  · cases (show v = Value.ref a from r)
    rcases h with ⟨xs, h⟩ | ⟨xs, h⟩ | ⟨k, h⟩
    · obtain ⟨its, _, p, _⟩ := I.list h
      exact SeqAt.EqAt.list_str z t p.isList hu
    · obtain ⟨its, _, p, _⟩ := I.tuple h
      exact SeqAt.EqAt.tuple_str z t p hu
    · obtain ⟨es, n, dd, sl, ho⟩ := dict_at I h
      exact SeqAt.EqAt.dict_str z t ho hu
/-- anything == a text -/
theorem op_eqS {K : PySem.W.Frag} (hK : X.K = K) (hu : X.A.units + 64 < cLine) : OpR X (compareOp .Eq) (fun x y H Q => ∃ z c, y = .str z ∧ EqS K H x z c ∧ Q (.bl c) H) := by
  subst hK
  intro pins s σ H x y v u Q I rx ry h
  obtain ⟨z, c, rfl, e, q⟩ := h
  obtain ⟨t, rfl⟩ := ry
  exact EqS.rc I (by omega) e rx _ _ _ _ ⟨.bl c, H, I, rfl, q⟩
/-! anything against a tuple of one text -/
def EqT (K : PySem.W.Frag) (H : Hp) (x : V) (z : Str) (c : Bool) : Prop :=
  (c = false ∧ (x = .non ∨ (∃ i, x = .int i) ∨ (∃ b, x = .bl b) ∨ ∃ y, x = .str y)) ∨
  ∃ a, x = .ref a ∧ ((c = false ∧ ((∃ xs, SqL K H a xs) ∨ ∃ k, H a = some (.dK k))) ∨ (∃ xs, SqT K H a xs ∧ ((xs = [] ∧ c = false) ∨ ∃ x0 r c0, xs = x0 :: r ∧ EqS K H x0 z c0 ∧ c = (c0 && decide (r = []))))) 
theorem vals_nil {its : List Value} (h : Vals [] its) : its = [] := by cases h; rfl
theorem vals_cons {x : V} {xs : List V} {its : List Value} (h : Vals (x :: xs) its) : ∃ v r, its = v :: r ∧ RelV x v ∧ Vals xs r := by
  cases h with
  | cons h t => exact ⟨_, _, rfl, h, t⟩
theorem EqT.rc (I : Inv X pins σ H s) {A : Around} (hu : A.units + 64 < cLine) (hu1 : A.in1.units < cLine) {x : V} {v : Value} {b : Addr} {z : Str} {c : Bool} (h : EqT X.K H x z c) (r : RelV x v) (hb : SqT X.K H b [.str z]) : SeqAt.RcAt A s v (.ref b) c := by
  obtain ⟨its2, rv2, p2, _⟩ := I.tuple hb
  have hu0 : A.units < cLine := by omega
  obtain ⟨w2, r2, rfl, rz, rr⟩ := vals_cons rv2
  obtain rfl := vals_nil rr
  obtain ⟨t, rfl⟩ := rz
  rcases h with ⟨rfl, h⟩ | ⟨a, rfl, h⟩
  · rcases h with rfl | ⟨i, rfl⟩ | ⟨j, rfl⟩ | ⟨y, rfl⟩
    · cases (show v = Value.none from r)
      exact SeqAt.RcAt.none_tuple p2 hu0
    · obtain ⟨t', rfl⟩ := r
      exact SeqAt.RcAt.int_tuple i t' p2 hu0
    · cases (show v = Value.bool j from r)
      exact SeqAt.RcAt.bool_tuple j p2 hu0
    · obtain ⟨t', rfl⟩ := r
      exact SeqAt.RcAt.str_tuple y t' p2 hu0
  · cases (show v = Value.ref a from r)
    rcases h with ⟨rfl, ⟨xs, h⟩ | ⟨k, h⟩⟩ | ⟨xs, hx, h⟩
    · obtain ⟨its, _, p, _⟩ := I.list h
      exact SeqAt.RcAt.list_tuple p.isList p2 hu0
    · obtain ⟨es, n, dd, sl, ho⟩ := dict_at I h
      exact SeqAt.RcAt.dict_tuple ho p2 hu0
    · obtain ⟨its, rv, p, _⟩ := I.tuple hx
      rcases h with ⟨rfl, rfl⟩ | ⟨x0, rs, c0, rfl, e0, rfl⟩
      · obtain rfl := vals_nil rv
        have := SeqAt.RcAt.tuples (e := fun _ => false) p p2 hu0 (fun j j1 j2 => absurd j1 (by simp))
        exact this
      · obtain ⟨v0, r0, rfl, rel0, rrs⟩ := vals_cons rv
        have := SeqAt.RcAt.tuples (A := A) (e := fun _ => c0) p p2 hu0 (fun j j1 j2 => by
          have j0 : j = 0 := by simpa using j2
          subst j0
          exact EqS.eq I hu1 e0 rel0)
        have l1 : rs.length = r0.length := Paired.length rrs
        have e2 : ((List.range (min (v0 :: r0).toArray.size [Value.str z t].toArray.size)).all (fun _ => c0) && (v0 :: r0).toArray.size == [Value.str z t].toArray.size) = (c0 && decide (rs = [])) := by
          cases rs with
          | nil =>
            cases r0 with
            | nil => simp
            | cons _ _ => simp at l1
          | cons y ys =>
            cases r0 with
            | nil => simp at l1
            | cons _ _ => simp
        rw [e2] at this
        exact this
/-- anything == a tuple of one text -/
theorem op_eqT {K : PySem.W.Frag} (hK : X.K = K) (hu : X.A.units + 64 < cLine) : OpR X (compareOp .Eq) (fun x y H Q => ∃ b z c, y = .ref b ∧ SqT K H b [.str z] ∧ EqT K H x z c ∧ Q (.bl c) H) := by
  subst hK
  intro pins s σ H x y v u Q I rx ry h
  obtain ⟨b, z, c, rfl, hb, e, q⟩ := h
  cases (show u = Value.ref b from ry)
  exact EqT.rc I hu (by have : X.A.in1.units ≤ X.A.units + 1 := by simp [Around.in1, Around.units]
                        omega) e rx hb _ _ _ _ ⟨.bl c, H, I, rfl, q⟩
end L2

namespace Kb
open PySem PySem.Spec PyProof.Rows L2
/-! try: .. except A as n: .. except ..: where each error of the body is A's -/
def wFirst (K : PySem.W.Frag) (c : Value) (i : Nat) (ts : Addr → Value → Option Addr → TS) (D : Ends) : WX := fun cls d σ H =>
  PySem.W.exmOne K cls c = some true ∧ ∀ a, H a = none → ts a cls d { nx := fun σ' H' => D.nx (σ'.set i none) H', rt := D.rt, bk := fun σ' H' => D.bk (σ'.set i none) H', ct := fun σ' H' => D.ct (σ'.set i none) H' } (σ.set i (some (.ref a))) H
section
variable {X : Cx} {x n : Str} {c : Value} {i : Nat} {body rest : List Stmt} {first : Stmt} {more : List ExceptHandler} {np pos hpos : Pos} {tb : WX → TS} {ts : Addr → Value → Option Addr → TS}
theorem ps_try_first (stk : X.stack = X.env :: X.outer) (frm : X.env.frame = some X.env.locals) (nd : X.N.Nodup) (at_ : X.N[i]? = some n) (loc : X.env.kindOf n = some .local) (nam : Names X x c)
    (runs : ∀ (W : WX) (pn : List (Addr × Obj)) (way : Value → Shared → Prop), L2.Takes (X.tr pn way) W → PassesOwn (model X.prog X.w) X.A X.env way → PSs (X.tr pn way) body (tb W))
    (caught : ∀ (a : Addr) (oe : Obj) (cls : Value) (d : Option Addr) (pn : List (Addr × Obj)), Zc cls d oe → (∃ vs, oe.data = .fields vs) → PSs (X.suite a ((a, oe) :: pn)) (first :: rest) (ts a cls d)) :
    PS X (.Try body (.ExceptHandler (some (.Name x np)) (some n) (first :: rest) hpos :: more) [] [] pos) (fun D σ H => tb (wFirst X.K c i ts D) D σ H) := by
  refine ⟨fun pins s σ H D I reads => ?_⟩
  have good := I.ok
  have fr : X.A.frames = some (X.env :: X.outer) := by rw [good.frames, stk]
  refine wpAny_Try_except ?_
  have whole := (runs (wFirst X.K c i ts D) (X.pn ++ pins) (fun e t1 => wpAny (model X.prog X.w) X.A (noteFrame e X.env) (fun _ t2 => wpAny (model X.prog X.w) X.A (setFlight e none) (fun _ t3 =>
    wpAny (model X.prog X.w) X.A (handleBy e X.env (.ExceptHandler (some (.Name x np)) (some n) (first :: rest) hpos :: more)) (SP X pins D) X.xe t3) X.xe t2) X.xe t1) (fun u s' air => ?_) PassesOwn.looking).run [] s σ H D (I.toTry _) reads
  · refine wpAny_mono whole (fun fl s1 got => ?_) fun _ _ z => z
    cases fl with
    | next => exact wpAny_execs_nil (let ⟨σ', H', J, q⟩ := got; ⟨σ', H', J.ofTry good, q⟩)
    | brk => exact let ⟨σ', H', J, q⟩ := got; ⟨σ', H', J.ofTry good, q⟩
    | cont => exact let ⟨σ', H', J, q⟩ := got; ⟨σ', H', J.ofTry good, q⟩
    | ret u => exact let ⟨v, σ', H', J, r, q⟩ := got; ⟨v, σ', H', J.ofTry good, r, q⟩
  · obtain ⟨a, B, sI, pins1, σ1, H1, cls, d, eu, J0, ground, up, sky, na, os, ag, yes, suite⟩ := air
    subst eu
    have J : L2.Inv X pins σ1 H1 sI := J0.ofTry good
    have sky : Sky B X.stack a (Zc cls d) X.env.locals s'.heap := sky
    rw [stk] at sky
    show wpAny (model X.prog X.w) X.A (noteFrame (.ref a) X.env) _ _ s'
    refine Sky.land Zc.steady fr frm sky fun g3 fly3 up3 => ?_
    have J3 : L2.Inv X pins σ1 H1 { s' with heap := g3 } := J.landed ground fly3.1 (up.trans up3) os ag
    obtain ⟨o3, v3, e3, z3, d3⟩ := fly3.there
    have offFrames : a ∉ frs (X.env :: X.outer) := fun hm => by
      obtain ⟨_, o', e', nofields⟩ := fly3.2.2.1.mem hm
      rw [e3] at e'
      cases e'
      exact nofields _ d3
    have offL : a ≠ X.env.locals := fun z => offFrames (List.mem_filterMap.mpr ⟨X.env, List.mem_cons_self, by rw [frm, z]⟩)
    have offF : a ∉ X.fs := fun hm => by
      obtain ⟨e, he, q⟩ := List.mem_filterMap.mp hm
      exact offFrames (List.mem_filterMap.mpr ⟨e, List.mem_cons_of_mem _ he, q⟩)
    have in3 := J3.suite e3 d3 na offL offF
    refine wpAny_handleBy_cons (codeAny_handlers_test ?_) (by intro q; cases q)
    have its : PySem.W.Looks (model X.prog X.w) g3 (typeOf (.ref a)) cls := fun _ _ _ _ keep q => wpAny_typeOf_ref (keep _ _ e3) (by rw [z3.1]; exact q)
    have asks := PySem.W.exm_one (M := model X.prog X.w) J3.kIn its yes
    have named : ∀ {R : Value → Shared → Prop} {way : Value → Shared → Prop}, R c { s' with heap := g3 } → wpAny (model X.prog X.w) (X.A.mark (some (.ref a))) (eval (.Name x np) X.env) R way { s' with heap := g3 } := fun {R way} q =>
      match nam with
      | ⟨gl, nodebug, .inl own⟩ => ld_glob (X := X.suite a ((a, o3) :: (X.pn ++ pins))) in3 gl own q nodebug
      | ⟨gl, nodebug, .inr ⟨none_, boot, nonm⟩⟩ => ld_blt (X := X.suite a ((a, o3) :: (X.pn ++ pins))) in3 gl none_ boot q nonm nodebug
    refine named (asks.here (codeAny_handlers_suite_as (HandSPX.lands_againZ fly3 fun g4 fly4 up4 => ?_)))
    have J4 : L2.Inv X pins σ1 H1 { s' with heap := g4 } := J.landed ground fly4.1 ((up.trans up3).trans up4) os ag
    obtain ⟨o4, v4, e4, z4, d4⟩ := fly4.there
    refine store_ok (X := X.suite a ((a, o4) :: (X.pn ++ pins))) (v := .ref a) (J4.suite e4 d4 na offL offF) nd at_ (.inl loc) rfl (fun s5 in5 => ?_) (.inr loc)
    refine wpAny_mono ((caught a o4 cls d (X.pn ++ pins) z4 ⟨_, d4⟩).run [] s5 _ H1 _ in5 (suite a na)) (fun fl s6 got => ?_) fun _ _ z => z.elim
    have over : ∀ {σ6 : L2.St} {H6 : Hp} {R : Shared → Prop}, L2.Inv (X.suite a ((a, o4) :: (X.pn ++ pins))) [] σ6 H6 s6 → (∀ s7, L2.Inv X pins (σ6.set i none) H6 s7 → R s7) →
        wpAny (model X.prog X.w) X.A (do bindName X.env n .none; unbindBehindTheSuite X.env n hpos) (fun _ s7 => R s7) X.xe s6 := fun in6 q => gone_ok (in6.unsuite good) nd at_ loc q
    cases fl with
    | next => exact let ⟨_, _, in6, q6⟩ := got; over in6 fun _ J7 => ⟨_, _, J7, q6⟩
    | brk => exact let ⟨_, _, in6, q6⟩ := got; over in6 fun _ J7 => ⟨_, _, J7, q6⟩
    | cont => exact let ⟨_, _, in6, q6⟩ := got; over in6 fun _ J7 => ⟨_, _, J7, q6⟩
    | ret u => exact let ⟨_, _, _, in6, r6, q6⟩ := got; over in6 fun _ J7 => ⟨_, _, _, J7, r6, q6⟩
end
end Kb

namespace PySem.SeqAt
open Builtin
section
variable {A : Around} {s : Shared}
theorem RcAt.str_dict {l : Addr} {es : Array DictEntry} {n : Nat} {dd : Option Addr} {sl : Array (Option Value)} (b : Str) (u : Tok) (ho : s.heap.get? l = some { cls := .type "dict", dict := dd, data := .dict es n, slots := sl }) (hu : A.units < cLine) : RcAt A s (.str b u) (.ref l) false := fun prog w E Q h =>
  rc_eq_decline_or (k := false) (typeIs_str s b u) ⟨_, ho, rfl⟩ (by decide) F.sub_dict_str F.slot_str_eq F.slot_dict_eq
    (fun _ hq => call_meets F.slot_str_eq (typeIs_str s b u) F.entry_str_eq (F.args_str_eq_2 _ _) (str_no_dict l es n dd sl b u) ⟨ho, hq⟩)
    (fun _ hq => call_meets F.slot_dict_eq ⟨_, ho, rfl⟩ F.entry_dict_eq (F.args_dict_eq_2 _ _) (dict_no_str l es n dd sl b u) ⟨ho, hq⟩)
    (fun _ hq => wpAny_of_eq (rfl : isSame (.str b u) (.ref l) = pure false) hq) (.inr hu) h
theorem EqAt.str_dict {l : Addr} {es : Array DictEntry} {n : Nat} {dd : Option Addr} {sl : Array (Option Value)} (b : Str) (u : Tok) (ho : s.heap.get? l = some { cls := .type "dict", dict := dd, data := .dict es n, slots := sl }) (hu : A.units < cLine) : EqAt A s (.str b u) (.ref l) false := fun prog w E Q h => by
  unfold eqBool
  refine wpAny_holding ?_
  refine wpAny_ite_split (fun hab => absurd (eq_of_beq hab) nofun) (fun _ => ?_)
  exact wpAny_bind (RcAt.str_dict b u ho hu prog w E _ (wpAny_truthy_bool h))
end
end PySem.SeqAt
namespace L2
open PySem PySem.Spec PyProof.Rows Builtin
variable {X : Cx} {pins : List (Addr × Obj)} {σ : St} {H : Hp} {s : Shared}
/-- a list, tuple or dict in a tuple of texts -/
theorem op_inO {K : PySem.W.Frag} (hK : X.K = K) (hu : X.A.units + 64 < cLine) : OpR X (compareOp .In) (fun x y H Q => ∃ (a p : Addr) (zs : List Str), x = .ref a ∧ y = .ref p ∧ ((∃ xs, SqL K H a xs) ∨ (∃ xs, SqT K H a xs) ∨ ∃ k, H a = some (.dK k)) ∧ SqT K H p (zs.map V.str) ∧ Q (.bl false) H) := by
  subst hK
  intro pins s σ H x y v u Q I rx ry h
  obtain ⟨a, p, zs, rfl, rfl, ha, hp, q⟩ := h
  cases (show v = Value.ref a from rx)
  cases (show u = Value.ref p from ry)
  obtain ⟨its, r, pl, hz⟩ := I.tuple hp
  have hu1 : X.A.in1.units < cLine := by
    have : X.A.in1.units ≤ X.A.units + 1 := by simp [Around.in1, Around.units]
    omega
  have all : ∀ {zs : List Str} {its : List Value}, Vals (zs.map V.str) its → ∀ y ∈ its, ∃ z t, y = Value.str z t := by
    intro zs
    induction zs with
    | nil =>
      intro its r y hy
      cases r
      cases hy
    | cons z zs ih =>
      intro its r y hy
      cases r with
      | cons h t =>
        obtain ⟨tk, rfl⟩ := h
        rcases List.mem_cons.mp hy with rfl | hy
        · exact ⟨z, tk, rfl⟩
        · exact ih t y hy
  refine SeqAt.in_tupleAt (fun _ => false) pl (fun y hy => ?_) ⟨.bl false, H, I, ?_, q⟩
  · obtain ⟨z, t, rfl⟩ := all r y (by simpa using hy)
    rcases ha with ⟨xs, h⟩ | ⟨xs, h⟩ | ⟨k, h⟩
    · obtain ⟨its, _, p, _⟩ := I.list h
      exact SeqAt.EqAt.str_list z t p.isList hu1
    · obtain ⟨its, _, p, _⟩ := I.tuple h
      exact SeqAt.EqAt.str_tuple z t p hu1
    · obtain ⟨es, n, dd, sl, ho⟩ := dict_at I h
      exact SeqAt.EqAt.str_dict z t ho hu1
  · show Value.bool _ = Value.bool false
    congr 1
    simp
/-- a tuple != () -/
theorem op_neT0 {K : PySem.W.Frag} (hK : X.K = K) (hu : X.A.units + 64 < cLine) : OpR X (compareOp .NotEq) (fun x y H Q => ∃ (a b : Addr) (xs : List V), x = .ref a ∧ y = .ref b ∧ SqT K H a xs ∧ SqT K H b [] ∧ Q (.bl (!decide (xs = []))) H) := by
  subst hK
  intro pins s σ H x y v u Q I rx ry h
  obtain ⟨a, b, xs, rfl, rfl, ha, hb, q⟩ := h
  cases (show v = Value.ref a from rx)
  cases (show u = Value.ref b from ry)
  obtain ⟨its, r, p, _⟩ := I.tuple ha
  obtain ⟨its2, r2, p2, _⟩ := I.tuple hb
  obtain rfl := vals_nil r2
  have := SeqAt.RcNeAt.tuples (A := X.A) (e := fun _ => false) p p2 (by omega) (fun j j1 j2 => absurd j2 (by simp))
  have e : (!((List.range (min its.toArray.size ([] : List Value).toArray.size)).all (fun _ => false) && its.toArray.size == ([] : List Value).toArray.size)) = !decide (xs = []) := by
    have hl := r.length
    cases xs with
    | nil =>
      cases its with
      | nil => simp
      | cons _ _ => simp at hl
    | cons _ _ =>
      cases its with
      | nil => simp at hl
      | cons _ _ => simp
  rw [e] at this
  exact this _ _ _ _ ⟨.bl _, H, I, rfl, q⟩
end L2

namespace L2
open PySem PySem.Spec PyProof.Rows
/-! errors as values beside other data -/
/-- a value's type, errors too -/
def TyD (K : PySem.W.Frag) (H : Hp) (v : V) (t : Value) : Prop := TyX K H v t ∨ ∃ a C, v = .ref a ∧ t = .ref C ∧ H a = some (ExO (.ref C) a) ∧ ExcC K C
def rIsD (K : PySem.W.Frag) : List V → Hp → VK → Prop := fun xs H Q => ∃ (x c : V) (t u : Value) (b : Bool), xs = [x, c] ∧ ClsV c u ∧ TyD K H x t ∧ PySem.W.kitOne K t u = some b ∧ Q (.bl b) H
section
variable {X : Cx}
theorem call_isD {K : PySem.W.Frag} (hK : X.K = K) : CallR X (.builtin "isinstance") (rIsD K) := by
  subst hK
  intro pins s σ H xs us Q I r h
  obtain ⟨x, c, t, u, b, rfl, k, ty | ⟨a, C, rfl, rfl, ha, hC⟩, e, q⟩ := h
  · exact call_isi pins s σ H _ us Q I r ⟨x, c, t, u, b, rfl, k, ty, e, q⟩
  · obtain ⟨u1, u2, rfl, r1, r2⟩ := vals2 r
    have e2 := k.eq r2
    subst e2
    cases r1
    obtain ⟨⟨oe, vs, ho, hz, hd, _⟩, _, _⟩ := I.hok a _ ha
    have J : PySem.W.InstAt s.heap a oe C none := by
      obtain ⟨oc, od, oda, osl⟩ := oe
      obtain ⟨h1, h2⟩ := hz
      dsimp only at h1 h2 hd
      subst h1 h2 hd
      exact ⟨ho, rfl, rfl, trivial⟩
    exact PySem.W.kia_one (PySem.W.handS_kitx_exc hC.hg hC.hk hC.hs hC.hd hC.ha hC.hn hC.ht hC.hm) I.kIn J e (fun z => nomatch z) fun tk => ⟨.bl b, H, I.kept (t' := tk) fun _ _ z => z, rfl, q⟩
/-- C(), an own class of errors without own __init__, as a value -/
theorem pe_exc0 {C : Addr} {bmB : List Value} {B newId initId : String} {x : Str} {p pos : Pos} (F : ExcBaseFacts B newId initId bmB) (q : PySem.W.excIn X.K C bmB newId = true) (gC : X.mg x = some (.ref C)) (kC : PySem.W.keepIn X.K (.ref C) = true) (hg : Gl X x) (hdb : (x == ("__debug__" : Str)) = false := by decide) :
    PE X (.Call (.Name x p) [] [] pos) (fun σ H Q => ∀ a, H a = none → Q (.ref a) (upd H a (ExO (.ref C) a))) := by
  refine ⟨fun pins s σ H Q I h => ?_⟩
  refine wpAny_Call_Name_kw (ld_glob I hg gC ?_ hdb)
  refine PySem.W.callWith_K0 I.kIn kC ?_
  obtain ⟨bm, N, nm, qn, bs, hdct, sn, sub, ab, col, dd, k0, k1, k2, k3, k5, mN, hC, hN, hni, T⟩ := exc_obj I.kIn q
  refine wpAny_call_exc_subT F T hC hN hni (fun h' a hm => ?_) (Nat.zero_le _)
  have hn : H a = none := I.hok.gone hm.new
  obtain ⟨t, ht, _, _⟩ := hm.there
  exact ⟨.ref a, upd H a (ExO (.ref C) a), I.laidN hm.keeps hm.new hn (exO_ok ht ⟨rfl, rfl⟩ rfl rfl rfl (show 4 < 6 by decide)), rfl, h a hn⟩
/-- what a raising call wishes, where the store isn't told -/
def EL (n : Nat) (W : WX) : XK := fun c d H => ∀ σ : L2.St, σ.length = n → W c d σ H
theorem passEL {W : WX} {n : Nat} (hn : X.N.length = n) (tk : Takes X W) : Passes (L2.CX X.prog X.w) X (EL n W) := fun pins σ H s e s' I c => tk e s' (XE.of_call I (fun _ _ _ h => h σ (I.len.trans hn)) c)
end
end L2

namespace L2
open PySem PySem.Spec PyProof.Rows
/-! a law's own def, called from the top: nothing is being shown there -/
abbrev AllTrue : VK := fun r _ => r = .bl true
abbrev NoErr : XK := fun _ _ _ => False
/-- the def f keeps its promise where the claim's caller calls it with one thing -/
def TopOk (P : Program) (w : World) (K : PySem.W.Frag) (mg : Str → Option Value) (f : Addr) (fd : FuncData) (x : Str) (sp : Sp) : Prop :=
  ∀ (base : Heap) (s : Shared) (H : Hp) (u : Value) (v : V), Env0 P w K mg base callerA [] s H → RelV v u →
    BindsTo s fd ⟨[u], []⟩ [(x, u)] → sp [v] H AllTrue NoErr → codeAny (model P w) callerA (.call (.ref f) ⟨[u], []⟩) (CR CX0 [] P w H s AllTrue NoErr) s
/-- .. out of its body, read where no guard stands -/
theorem top_of {P : Program} {w : World} {K : PySem.W.Frag} {mg : Str → Option Value} {f : Addr} {fd : FuncData} {nm qual x : Str} {st : Stmt} {N : List Str} {k : Nat} {sp : Sp}
    (F : Fun K nm qual st f fd) (S : FnScope N [x] (defScope st)) (room : Room (k + 1) callerA)
    (body : ∀ (base : Heap) (cdv : Value) (A : Around) (s : Shared) (H : Hp) (v : V), A.guards = some [] → Room k (A.deeper (envOfC qual (defScope st) s.heap.objs.size f cdv)) → sp [v] H AllTrue NoErr →
      ∃ t, PSs (cxOf CX0 P w K mg base N qual (defScope st) f cdv A [] s H NoErr).nox (defBody st) t ∧
        t { nx := fun _ H1 => AllTrue .non H1, rt := AllTrue } (start N [v]) H) :
    TopOk P w K mg f fd x sp := by
  intro base s H u v e0 rv binds hsp
  obtain ⟨oc, od, kV, doc, pm, an, cdv, ct, osl, rfl, lk, known⟩ := F.ex
  have inH : ∀ b o, base.get? b = some o → s.heap.get? b = some o := fun b o q => (e0.bs b o q).1
  have lim := e0.mod.nolimit.keeps inH
  have here := e0.mod.kin.keeps inH
  obtain ⟨t, reads, ends⟩ := body base cdv callerA s H v rfl (room.deeper _) hsp
  refine codeAny_call_function room.depth (here _ _ lk) rfl S.co S.gen rfl (PySem.W.codeRec_of here known) (binds _ _ _ _ ?_)
  refine wpAny_newFunctionEnv_cells S.kind (fun y hy => ?_) fun env same s1 entered => ?_
  · cases List.mem_singleton.mp hy
    refine (S.par x List.mem_cons_self).imp id fun q => ⟨q, ?_⟩
    exact PySem.W.cellsFrom_some _ _ _ (.inl q)
  · cases same
    have I := inv_start (CX := CX0) (E := NoErr) (us := [u]) (vs := [v]) S room.hd e0 rfl (.cons rv .nil) entered
    refine ⟨lim.keeps entered.toInCall.keep, codeAny_func ?_⟩
    refine wpAny_mono (reads.nox.run [] s1 (start N [v]) H _ I ends) (fun fl s2 got => ?_) fun _ _ z => z
    match fl, got with
    | .ret _, ⟨r, _, H2, J, rr, q⟩ => exact ⟨r, H2, J.os, J.bare, J.base, J.hok, rr, q⟩
    | .next, ⟨_, H2, J, q⟩ => exact ⟨.non, H2, J.os, J.bare, J.base, J.hok, rfl, q⟩
    | .brk, ⟨_, _, _, q⟩ => exact q.elim
    | .cont, ⟨_, _, _, q⟩ => exact q.elim
/-- the script, where the module doesn't have it itself -/
def oneS (a : Addr) (vs : List Value) (ns : List Int) : Hp := fun b => if b = a then some (.frz { cls := .type "list", data := .seq vs.toArray } (.lst (ns.map V.int))) else none
theorem oneS_is {a b : Addr} {vs : List Value} {ns : List Int} {u : HO} (h : oneS a vs ns b = some u) : b = a ∧ u = .frz { cls := .type "list", data := .seq vs.toArray } (.lst (ns.map V.int)) := by
  unfold oneS at h
  split at h
  · exact ⟨‹_›, (Option.some.inj h).symm⟩
  · cases h
/-- a start for the law's def: what it tracks is the script or nothing -/
theorem top_run {P : Program} {w : World} {K : PySem.W.Frag} {mg mb : Str → Option Value} {f a : Addr} {fd : FuncData} {x : Str} {sp : Sp} {s : Shared} {vs : List Value} {H : Hp}
    (inK : K.In s.heap) (globals : s.heap.Ns mainGlobals mg) (built : s.heap.Ns builtinsNs mb) (asBoot : ∀ y : Str, y ≠ "__name__" → mb y = bootBuiltins y) (lim : s.heap.NoLimit) (quiet : s.gens = #[])
    (script : s.heap.get? a = some { cls := .type "list", data := .seq vs.toArray }) (only : ∀ b u, H b = some u → b = a ∧ K.lookup a = none ∧ ∃ xs, u = .frz { cls := .type "list", data := .seq vs.toArray } (.lst xs))
    (hok : HOk P w H s.heap) (law : TopOk P w K mg f fd x sp) (binds : ∀ (s : Shared) (u : Value), BindsTo s fd ⟨[u], []⟩ [(x, u)]) (promise : sp [.ref a] H AllTrue NoErr) :
    codeAny (model P w) callerA (.call (.ref f) ⟨[.ref a], []⟩) (fun r s2 => r = .ok (.ret (.bool true)) ∧ OldK s.heap s2.heap ∧ s2.os = s.os ∧ AllBare s2.gens) s := by
  have free : ∀ {b : Addr} {o : Obj}, s.heap.get? b = some o → (b = a → K.lookup a = none → False) → H b = none := fun {b o} e no => by
    cases q : H b with
    | none => rfl
    | some u => exact (no (only b u q).1 (only b u q).2.1).elim
  have names : ∀ {b : Addr} {m : Str → Option Value}, s.heap.Ns b m → (hidT s.heap H).Ns b m := fun {b m} ⟨o, es, n, e, d, more⟩ => by
    refine ⟨o, es, n, hidT_get e (free e fun z _ => ?_), d, more⟩
    rw [z, script] at e
    cases e
    cases d
  have modK : K.In (hidT s.heap H) := fun b o e => hidT_get (inK b o e) (free (inK b o e) fun z no => by rw [z, no] at e; cases e)
  have start : Env0 P w K mg (hidT s.heap H) callerA [] s H :=
    { frames := rfl
      mod := ⟨modK, names globals, ⟨mb, names built, asBoot⟩, let ⟨m, l1, l2⟩ := lim; ⟨m, names l1, l2⟩⟩
      bs := fun _ _ e => of_hidT e
      bsz := by rw [hidT_size]; exact Nat.le_refl _
      funs := trivial
      frf := fun _ hb => nomatch hb
      hok := hok
      bare := .of_eq quiet }
  refine codeAny_mono (law _ s H (.ref a) (.ref a) start rfl (binds s _) promise) fun r s2 got => ?_
  match r, got with
  | .error _, z => exact z.elim
  | .ok .next, z => exact z.elim
  | .ok .brk, z => exact z.elim
  | .ok .cont, z => exact z.elim
  | .ok (.ret u), ⟨v, H2, os, bare, un, hok2, rv, yes⟩ =>
    subst yes
    cases rv
    refine ⟨rfl, OldK.of_keep fun b o e => ?_, os, bare⟩
    cases q : H b with
    | none => exact un.keep b o e q (fun z => nomatch z) (fun z => nomatch z)
    | some u0 =>
      obtain ⟨_, _, xs, rfl⟩ := only b u0 q
      have before := (hok b _ q).1
      have after := (hok2 b _ (un.frzs b _ _ q)).1
      rw [e] at before
      cases before
      exact after
/-- the law's promise, where the claim's caller asks it -/
theorem law_top {P : Program} {w : World} {K : PySem.W.Frag} {mg mb : Str → Option Value} {f a : Addr} {fd : FuncData} {x : Str} {sp : Sp} {s : Shared} {vs : List Value} {ns : List Int}
    (inK : K.In s.heap) (globals : s.heap.Ns mainGlobals mg) (built : s.heap.Ns builtinsNs mb) (asBoot : ∀ y : Str, y ≠ "__name__" → mb y = bootBuiltins y) (lim : s.heap.NoLimit) (quiet : s.gens = #[])
    (script : s.heap.get? a = some { cls := .type "list", data := .seq vs.toArray }) (inums : IntsAre vs ns) (short : ns.length ≤ sizeLine)
    (law : TopOk P w K mg f fd x sp) (binds : ∀ (s : Shared) (u : Value), BindsTo s fd ⟨[u], []⟩ [(x, u)]) (promise : ∀ H : Hp, SqL K H a (ns.map V.int) → sp [.ref a] H AllTrue NoErr) :
    codeAny (model P w) callerA (.call (.ref f) ⟨[.ref a], []⟩) (fun r s2 => r = .ok (.ret (.bool true)) ∧ OldK s.heap s2.heap ∧ s2.os = s.os ∧ AllBare s2.gens) s := by
  have items := vals_ints inums
  have long := inums.length
  by_cases own : ∃ o, K.lookup a = some o
  · obtain ⟨o, own⟩ := own
    have e := inK a o own
    rw [script] at e
    cases e
    refine top_run (H := fun _ => none) inK globals built asBoot lim quiet script (fun _ _ z => nomatch z) (fun _ _ z => nomatch z) law binds (promise _ (.inr ?_))
    exact ⟨_, vs.toArray, _, own, rfl, rfl, rfl, by rw [List.size_toArray, long]; exact short, by simpa using items⟩
  · have none_ : K.lookup a = none := by
      cases q : K.lookup a with
      | none => rfl
      | some o => exact absurd ⟨o, q⟩ own
    refine top_run (H := oneS a vs ns) inK globals built asBoot lim quiet script (fun b u z => ⟨(oneS_is z).1, none_, _, (oneS_is z).2⟩) (fun b u z => ?_) law binds (promise _ (.inl (.inr ⟨_, if_pos rfl⟩)))
    obtain ⟨rfl, rfl⟩ := oneS_is z
    exact ⟨script, by rw [List.length_map]; exact short, vs, _, items, script⟩
/-- the goal of a law's row, from a promise that the top alone asks for -/
theorem walk_top {l : PySem.W.OpenLaw} {n : Nat} {q : Program} {loose : List Str} {XP : (Str → Option Value) → Heap → Prop} {YP : World → Heap → Prop} {d : DefRec} {K : Params → PySem.W.Frag} {sp : World → Sp} {x : Str}
    (most : l.most = some n) (short : n ≤ sizeLine) (noDefaults : d.params.defaults = []) (inK : ∀ (w : World) (h : Heap), YP w h → (K w.params).In h)
    (law : ∀ (w : World) (mg : Str → Option Value) (f : Addr) (h : Heap), (K w.params).In h → h.Ns mainGlobals mg → mg d.name = some (.ref f) →
      ∃ fd : FuncData, (∀ (s : Shared) (u : Value), BindsTo s fd ⟨[u], []⟩ [(x, u)]) ∧ TopOk l.prog w (K w.params) mg f fd x (sp w))
    (promise : ∀ (w : World) (H : Hp) (a : Addr) (ns : List Int), ns.length ≤ n → SqL (K w.params) H a (ns.map V.int) → sp w [.ref a] H AllTrue NoErr) :
    PySem.W.WalkO q loose XP YP l.row.toRowW d [] (fun f vs => PySem.call f vs) := by
  refine Att.attach_call most noDefaults fun w s0 s1 mg mb f o pm cd doc a vs ns G Y there data codes at_ list inums few quiet => ?_
  obtain ⟨fd, binds, run⟩ := law w mg f _ (inK w _ Y) G.T.g at_
  exact law_top (inK w _ Y) G.T.g G.T.b G.T.builtins G.T.nolimit quiet list inums (Nat.le_trans few short) run binds fun H hS => promise w H a ns few hS
end L2

namespace PySem
open Sem (wp)
open Builtin Builtin.Str Builtin.BaseException Builtin.Exceptions
open PySem.W (Looks Frag findIn subIn clsIn looks_findIn looks_subIn looks_clsIn)
/-- what an own class of errors must say, so that repr shows its instances: its name and () -/
structure ExR (K : Frag) (C : Addr) (n : String) : Prop where
  hr : findIn K (.ref C) "__repr__" = some (some (.builtin "BaseException.__repr__"))
  hB : subIn K (.ref C) (.type "BaseException") = some true
  nm : ∃ cd, clsIn K C = some cd ∧ cd.name.toString = n
def exrText (n : String) : Str := Str.ofString ((n.cutAt '.').getLastD "") ++ tupleText []
section
variable {prog : Program} {w : World} {M : Model} {A : Around} {E : Value → Shared → Prop} {s : Shared} {K : Frag} {C e t0 : Addr} {n : String}
theorem typeNameOfWhole_C {Q : String → Shared → Prop} (x : ExcC K C e t0 s.heap) (R : ExR K C n) (q : Q n s) : wpAny M A (typeNameOfWhole (.ref e)) Q E s := by
  obtain ⟨cd, hcd, rfl⟩ := R.nm
  unfold typeNameOfWhole shownTypeOf
  refine wpAny_bind (wpAny_bind (x.LT.here ?_))
  rw [if_neg (by intro z; cases z)]
  refine wpAny_pure ?_
  show wpAny M A (typeNameWhole (.ref C)) _ _ _
  unfold typeNameWhole
  exact wpAny_bind ((looks_clsIn x.1 hcd).here (wpAny_pure q))
theorem bexcReprAt_C (b : Nat) {Q : Fin → Shared → Prop} (x : ExcC K C e t0 s.heap) (R : ExR K C n) (ht : s.heap.TupAt t0 [])
    (hsub : ∀ Q' : Str → Shared → Prop, (∀ h' tk, (∀ b o, s.heap.get? b = some o → h'.get? b = some o) → Q' (tupleText []) { s with heap := h', toks := tk }) → wpAny M A (pyReprUnder (b + (Str.ofString ((n.cutAt '.').getLastD "")).length) (.ref t0)) Q' E s)
    (hq : ∀ h' tk u, (∀ b o, s.heap.get? b = some o → h'.get? b = some o) → Q (.done (.ret (.str (exrText n) u))) { s with heap := h', toks := tk }) (hsz : (exrText n).length ≤ sizeLine) :
    wpAny M A (Builtin.bexcReprAt b ⟨[.ref e], []⟩) Q E s := by
  unfold Builtin.bexcReprAt
  refine wpAny_bind (m := slotArgs "__repr__" 0 _) (wpAny_pure ?_)
  refine wpAny_bind (typeNameOfWhole_C x R ?_)
  refine wpAny_bind (bexcArgs_C x ht ?_)
  dsimp only
  refine wpAny_bind (hsub _ fun h' tk hk => ?_)
  have hsz : (Str.ofString ((n.cutAt '.').getLastD "") ++ tupleText []).length ≤ sizeLine := hsz
  unfold retStr
  repeat wp_step
  exact hq _ _ _ hk
/-- its special, as repr asks it -/
theorem specialOf_C {name : Str} {i : String} {Q : Option Value → Shared → Prop} (x : ExcC K C e t0 s.heap) (hf : findIn K (.ref C) name = some (some (.builtin i))) (q : Q (some (.builtin i)) s) : wpAny M A (specialOf (.ref e) name) Q E s := by
  unfold specialOf
  exact wpAny_bind (x.LT.here ((looks_findIn x.1 hf).here q))
theorem ifBoundBy_C {last : Value → List Value → Sem Value} {name : Str} {i : String} {Q : Option Value → Shared → Prop} (x : ExcC K C e t0 s.heap) (hf : findIn K (.ref C) name = some (some (.builtin i))) (hb : bindSpecial (.builtin i) (.ref e) = pure (.builtin i, [.ref e]))
    (hc : wpAny M A (last (.builtin i) [.ref e]) (fun v => Q (some v)) E s) : wpAny M A (callSpecialIfBoundBy? last (.ref e) name) Q E s := by
  simp only [callSpecialIfBoundBy?, bindSpecialIfBound?]
  refine wpAny_holding (wpAny_bind (wpAny_bind (specialOf_C x hf ?_)))
  simp only [hb]
  refine wpAny_bind (wpAny_askSetting (wpAny_ite ?_))
  have fin : wpAny M A (last (.builtin i) [.ref e] >>= fun v => pure (some v)) Q E s :=
    wpAny_bind (wpAny_mono hc (fun v s' h' => wpAny_pure h') fun _ _ h' => h')
  split
  · exact wpAny_bind (wpAny_pure (wpAny_pure fin))
  · exact wpAny_tryCatch (wpAny_bind (wpAny_pure (wpAny_pure fin)))
theorem ifBound_C {name : Str} {i : String} {Q : Option Value → Shared → Prop} (x : ExcC K C e t0 s.heap) (hf : findIn K (.ref C) name = some (some (.builtin i))) (hb : bindSpecial (.builtin i) (.ref e) = pure (.builtin i, [.ref e]))
    (hc : wpAny M A (call (.builtin i) [.ref e]) (fun v => Q (some v)) E s) : wpAny M A (callSpecialIfBound? (.ref e) name) Q E s := by
  simp only [callSpecialIfBound?, bindSpecialIfBound?]
  refine wpAny_holding (wpAny_bind (wpAny_bind (specialOf_C x hf ?_)))
  simp only [hb]
  refine wpAny_bind (wpAny_askSetting (wpAny_ite ?_))
  have fin : wpAny M A (call (.builtin i) ([.ref e] ++ []) >>= fun v => pure (some v)) Q E s :=
    wpAny_bind (wpAny_mono hc (fun v s' h' => wpAny_pure h') fun _ _ h' => h')
  split
  · exact wpAny_bind (wpAny_pure (wpAny_pure fin))
  · exact wpAny_tryCatch (wpAny_bind (wpAny_pure (wpAny_pure fin)))
end
section
variable {prog : Program} {w : World} {K : Frag} {C e t0 : Addr} {n : String} {h₀ : Heap}
/-- its empty tuple, shown -/
theorem tup0_K {ot : Obj} {k : Nat} (ht : h₀.get? t0 = some ot) (hc : ot.cls = .type "tuple") (hd : ot.data = .seq #[] k) : ReprK prog w [t0] h₀ 1 (.ref t0) (tupleText []) :=
  ReprK.tuple (as := []) (d := 0) ht hc hd (fun h => nomatch h) .nil
theorem exc_bind (e : Addr) : bindSpecial (.builtin "BaseException.__repr__") (.ref e) = pure (.builtin "BaseException.__repr__", [.ref e]) := F.excStr_Exception.repr.bind _
/-- an own error without arguments, shown within others -/
theorem exc_K (x : ExcC K C e t0 h₀) (R : ExR K C n) {ot : Obj} {k : Nat} (ht : h₀.get? t0 = some ot) (hc : ot.cls = .type "tuple") (hd : ot.data = .seq #[] k) : ReprK prog w [t0] h₀ 2 (.ref e) (exrText n) := by
  intro base hb A g E s Q hg hcl hu hk0 hQ
  have xs : ExcC K C e t0 s.heap := by
    obtain ⟨kin, o, vs, ho, h1, h2, h3⟩ := x
    exact ⟨fun b o e => hk0 _ _ (kin b o e), o, vs, hk0 _ _ ho, h1, h2, h3⟩
  have ts : s.heap.TupAt t0 [] := ⟨ot, k, hk0 _ _ ht, hc, hd⟩
  have elen : (exrText n).length = (Str.ofString ((n.cutAt '.').getLastD "")).length + (tupleText []).length := by
    unfold exrText
    rw [strLen_append]
  refine wpAny_pyReprUnder_ref (by omega) ?_
  unfold pyReprObjUnder pyReprObjBy
  refine wpAny_bind (wpAny_cRoomFor (by omega) ?_)
  refine wpAny_bind (specialOf_C xs R.hr ?_)
  refine wpAny_bind (ifBoundBy_C xs R.hr (exc_bind e) ?_)
  show wpAny _ _ (call (.builtin "BaseException.__repr__.under") [.ref e, rawInt base]) _ _ _
  refine wpAny_call (codeAny_call_builtin F.plain_bexc_repr_under F.entry_bexc_repr_under ?_)
  rw [F.check_bexc_repr_under]
  refine wpAny_pure ?_
  show wpAny _ _ (reprTwin "BaseException.__repr__" Builtin.bexcReprAt ⟨[.ref e, rawInt base], []⟩) _ _ _
  rw [reprTwin_eq]
  refine wpAny_bind (@PySem.W.check_slot (model prog w) _ _ s "BaseException.__repr__" "BaseException" "__repr__" (.ref e) [] [] _ (by decide +kernel) (by decide +kernel) (xs.LI R.hB) (F.args_bexc_repr _) ?_)
  refine bexcReprAt_C base xs R ts (fun Q' q => tup0_K ht hc hd (base + _) (by omega) A.in1 g _ s Q' hg hcl (by show A.units + 1 + 1 < cLine; omega) hk0 q) (fun h' tk u hk => ?_) (by omega)
  exact wpAny_bind (wpAny_isInstance (T := "str") (b := true) rfl isSubtype_str_str (wpAny_pure ⟨_, _, rfl, hQ h' tk hk⟩))
/-- repr of an own error without arguments -/
theorem call_repr_C {A : Around} {E : Value → Shared → Prop} {s : Shared} {Q : Value → Shared → Prop} (x : ExcC K C e t0 s.heap) (R : ExR K C n) {ot : Obj} {k : Nat} (ht : s.heap.get? t0 = some ot) (hc : ot.cls = .type "tuple") (hd : ot.data = .seq #[] k)
    (hg : A.guards = some []) (hu : A.units + 4 < cLine) (hsz : (exrText n).length ≤ sizeLine)
    (hQ : ∀ h' u tk, (∀ b o, s.heap.get? b = some o → h'.get? b = some o) → Q (.str (exrText n) u) { s with heap := h', toks := tk }) : wpAny (model prog w) A (call (.builtin "repr") [.ref e]) Q E s := by
  have ts : s.heap.TupAt t0 [] := ⟨ot, k, ht, hc, hd⟩
  have elen : (exrText n).length = (Str.ofString ((n.cutAt '.').getLastD "")).length + (tupleText []).length := by
    unfold exrText
    rw [strLen_append]
  refine Calls.call_function_entry F.kind_repr F.plain_repr F.entry_repr (F.args_repr1 _) ?_
  unfold Builtin.«repr»
  refine wpAny_bind (m := oneArg "repr" _) (wpAny_pure ?_)
  refine wpAny_bind (m := cRoomFor _ _) (wpAny_cRoomFor (by show A.units + 1 < cLine; omega) ?_)
  refine wpAny_bind (specialOf_C x R.hr ?_)
  refine wpAny_bind (ifBound_C x R.hr (exc_bind e) ?_)
  refine wpAny_call (codeAny_call_builtin F.excStr_Exception.repr.plain F.entry_bexc_repr (@PySem.W.check_slot (model prog w) _ _ s "BaseException.__repr__" "BaseException" "__repr__" (.ref e) [] [] _ (by decide +kernel) (by decide +kernel) (x.LI R.hB) (F.args_bexc_repr _) ?_))
  refine bexcReprAt_C 0 x R ts (fun Q' q => tup0_K ht hc hd (0 + _) (by omega) A.in1.in1 [] _ s Q' hg (fun b _ => Clear.nil b) (by show A.units + 1 + 1 + 1 < cLine; omega) (fun _ _ e => e) q) (fun h' tk u hk => ?_) hsz
  refine wpAny_bind (wpAny_isInstance (T := "str") (b := true) rfl isSubtype_str_str ?_)
  exact wpAny_pure ⟨_, rfl, hQ h' u tk hk⟩
end
end PySem

namespace PySem
open Sem (wp)
open Builtin Builtin.Str Builtin.BaseException Builtin.Exceptions
open PySem.W (Looks Frag findIn subIn clsIn looks_findIn looks_subIn looks_clsIn)
/-- what an own class of errors must say, so that == asks its instances nothing -/
structure ExQ (K : Frag) (C : Addr) : Prop where
  hq : findIn K (.ref C) "__eq__" = some (some (.builtin "object.__eq__"))
  ho : subIn K (.ref C) (.type "object") = some true
section
variable {prog : Program} {w : World} {M : Model} {A : Around} {E : Value → Shared → Prop} {s : Shared} {K : Frag} {C e t0 : Addr} {n : String}
theorem ifBoundA_C {name : Str} {i : String} {args : List Value} {Q : Option Value → Shared → Prop} (x : ExcC K C e t0 s.heap) (hf : findIn K (.ref C) name = some (some (.builtin i))) (hb : bindSpecial (.builtin i) (.ref e) = pure (.builtin i, [.ref e]))
    (hc : wpAny M A (call (.builtin i) ([.ref e] ++ args)) (fun v => Q (some v)) E s) : wpAny M A (callSpecialIfBound? (.ref e) name args) Q E s := by
  simp only [callSpecialIfBound?, bindSpecialIfBound?]
  refine wpAny_holding (wpAny_bind (wpAny_bind (specialOf_C x hf ?_)))
  simp only [hb]
  refine wpAny_bind (wpAny_askSetting (wpAny_ite ?_))
  have last : wpAny M A (call (.builtin i) ([.ref e] ++ args) >>= fun v => pure (some v)) Q E s :=
    wpAny_bind (wpAny_mono hc (fun v s' h' => wpAny_pure h') fun _ _ h' => h')
  split
  · exact wpAny_bind (wpAny_pure (wpAny_pure last))
  · exact wpAny_tryCatch (wpAny_bind (wpAny_pure (wpAny_pure last)))
theorem objEq_entry_str {z : Str} {t : Tok} {Q : Fin → Shared → Prop} (hq : Q (.done (.ret .notImplemented)) s) : wpAny M A (Builtin.«object.__eq__» ⟨[.ref e, .str z t], []⟩) Q E s := by
  unfold Builtin.«object.__eq__»
  repeat (first | with_reducible refine wpAny_of_eq (rfl : isSame (.ref e) (.str z t) = pure false) ?_ | wp_step)
  exact hq
theorem try_exc_str (x : ExcC K C e t0 s.heap) (q : ExQ K C) {z : Str} {t : Tok} {Q : Option Value → Shared → Prop} (h : Q none s) : wpAny (model prog w) A (tryCompare (.ref e) "__eq__" (.str z t)) Q E s := by
  simp only [tryCompare]
  refine wpAny_bind (ifBoundA_C x q.hq (F.cmp_object.eq.bind _) ?_)
  refine wpAny_call (codeAny_call_builtin F.cmp_object.eq.plain F.cmpEntry_eq (@PySem.W.check_slot (model prog w) _ _ s "object.__eq__" "object" "__eq__" (.ref e) [.str z t] [] _ F.cmpKind_eq F.cmpSplit_eq (x.LT.andThen (looks_subIn x.1 q.ho)) (F.cmpArgs_eq _ _) ?_))
  exact objEq_entry_str (wpAny_pure h)
end
namespace SeqAt
open Builtin
open AutoSeq1 (wpAny_loadPart')
theorem str_no_exc (l : Addr) (o : Obj) (i : Str) (u : Tok) (C : Addr) (hc : o.cls = .ref C) (vs : Array Value) (hd : o.data = .fields vs) :
    Meets (Builtin.«str.__eq__» ⟨[.str i u, .ref l], []⟩) (fun _ R s => s.heap.get? l = some o ∧ R (.ok (.ret .notImplemented)) s) := by
  refine .of_wp fun prog w A R s h => ?_
  obtain ⟨hp, g, d, tk, os⟩ := s
  obtain ⟨hl, h⟩ := h
  obtain ⟨oc, od, oda, osl⟩ := o
  simp only at hc hd
  subst hc hd
  wp_walk using wpAny_loadPart' hl, wpAny_load hl
  exact ⟨_, rfl, h⟩
section
variable {A : Around} {s : Shared} {K : Frag} {C e t0 : Addr}
theorem RcAt.exc_str (x : ExcC K C e t0 s.heap) (q : ExQ K C) (z : Str) (t : Tok) (hu : A.units < cLine) : RcAt A s (.ref e) (.str z t) false := fun prog w E Q h => by
  obtain ⟨o, vs, ho, hc, hd, _⟩ := x.2
  have sub : isSubtype (.type "str") (.ref C) = pure false := by
    rw [isSubtype_type]
    rfl
  simp only [richCompare, cmpInfo_Eq, oneThing_ref]
  refine wpAny_holding ?_
  refine wpAny_bind (wpAny_cRoomFor hu ?_)
  refine wpAny_bind (x.LT.here (wpAny_bind (wpAny_typeOf (typeIs_str s z t) ?_)))
  rw [if_pos (show (Value.ref C != Value.type "str") = true from rfl)]
  refine wpAny_bind (wpAny_of_eq sub ?_)
  simp only [Bool.false_eq_true, if_false, Bool.not_false, if_true]
  refine wpAny_bind (try_exc_str x q ?_)
  refine wpAny_bind (m := tryCompare (.str z t) _ (.ref e)) (wpAny_tryCompare_declines (typeIs_str s z t) F.slot_str_eq_refl (call_meets F.slot_str_eq_refl (typeIs_str s z t) F.entry_str_eq (F.args_str_eq_2 _ _) (str_no_exc e o z t C hc vs hd) ⟨ho, ⟨rfl, ?_⟩⟩))
  exact wpAny_bind (wpAny_rule (wpAny_bind (wpAny_of_eq (rfl : isSame (.ref e) (.str z t) = pure false) (wpAny_pure h))))
end
end SeqAt
end PySem

namespace L2
open PySem PySem.Spec PyProof.Rows
/-- an own error without arguments, its empty tuple at t -/
def ExN (C : Addr) (a t : Addr) : HO := .ext fun h => ∃ (oe : Obj) (vs : Array Value), h.get? a = some oe ∧ Zc (.ref C) none oe ∧ oe.data = .fields vs ∧ vs[0]? = some (.ref t)
theorem exN_ok {P : Program} {w : World} {H : Hp} {h : Heap} {a t C : Addr} {oe : Obj} {vs : Array Value} (e : h.get? a = some oe) (z : Zc (.ref C) none oe) (d : oe.data = .fields vs) (h1 : vs[0]? = some (.ref t)) : ObjOk P w H h a (ExN C a t) :=
  ⟨⟨oe, vs, e, z, d, h1⟩, ⟨oe, e⟩, fun _ _ ⟨o, v, q, r⟩ k => ⟨o, v, k o q, r⟩⟩
theorem Un.laid2 {fs ex : List Addr} {H : Hp} {h h' : Heap} {a b : Addr} {o u : HO} (k : ∀ c x, h.get? c = some x → h'.get? c = some x) (ha : h.get? a = none) (hb : h.get? b = none) (na : H a = none) (nb : H b = none) (ne : a ≠ b) : Un fs ex H (upd (upd H b u) a o) h h' where
  keep := fun c x q _ _ _ => k c x q
  slot := fun c x q _ _ _ => ⟨x.slots, k c x q⟩
  free := fun c x q n _ => by rw [upd_ne (fun z => by rw [z, ha] at q; cases q), upd_ne (fun z => by rw [z, hb] at q; cases q)]; exact n
  there := fun c x q _ => ⟨x, k c x q⟩
  tups := fun c xs q => by rw [upd_ne (ne_of_none q na), upd_ne (ne_of_none q nb)]; exact q
  frzs := fun c x xs q => by rw [upd_ne (ne_of_none q na), upd_ne (ne_of_none q nb)]; exact q
  tbls := fun c ps q => ⟨#[], by rw [upd_ne (ne_of_none q na), upd_ne (ne_of_none q nb), q]; simp⟩
section
variable {X : Cx}
/-- C(), an own class of errors without own __init__, as a value with its tuple -/
theorem pe_excN {C : Addr} {bmB : List Value} {B newId initId : String} {x : Str} {p pos : Pos} (F : ExcBaseFacts B newId initId bmB) (q : PySem.W.excIn X.K C bmB newId = true) (gC : X.mg x = some (.ref C)) (kC : PySem.W.keepIn X.K (.ref C) = true) (hg : Gl X x) (hdb : (x == ("__debug__" : Str)) = false := by decide) :
    PE X (.Call (.Name x p) [] [] pos) (fun σ H Q => ∀ a t o, a ≠ t → H a = none → H t = none → o.dict = none → Q (.ref a) (upd (upd H t (.frz o (.tup []))) a (ExN C a t))) := by
  refine ⟨fun pins s σ H Q I h => ?_⟩
  refine wpAny_Call_Name_kw (ld_glob I hg gC ?_ hdb)
  refine PySem.W.callWith_K0 I.kIn kC ?_
  obtain ⟨bm, N, nm, qn, bs, hdct, sn, sub, ab, col, dd, k0, k1, k2, k3, k5, mN, hC, hN, hni, T⟩ := exc_obj I.kIn q
  refine wpAny_call_exc_subT F T hC hN hni (fun h' a hm => ?_) (Nat.zero_le _)
  have hn : H a = none := I.hok.gone hm.new
  obtain ⟨t, ht, htn, htt⟩ := hm.there
  have htn : s.heap.get? t = none := htn
  have nt : H t = none := I.hok.gone htn
  have ne : a ≠ t := fun z => by
    rw [z] at ht
    have := ht.symm.trans htt
    cases this
  have htt : h'.get? t = some ({ cls := .type "tuple", data := .seq #[] } : Obj) := htt
  have o1 : ∀ o : Obj, o = { cls := .type "tuple", data := .seq #[] } → ObjOk X.prog X.w (upd H t (.frz o (.tup []))) h' t (.frz o (.tup [])) := fun o e => by
    subst e
    exact ⟨htt, Nat.zero_le _, [], .nil, ⟨_, htt, rfl, _, rfl⟩⟩
  obtain ⟨o, eo⟩ : ∃ o : Obj, o = { cls := .type "tuple", data := .seq #[] } := ⟨_, rfl⟩
  have H1 : HOk X.prog X.w (upd H t (.frz o (.tup []))) h' := I.hok.laidN hm.keeps nt (o1 o eo)
  have hn1 : (upd H t (.frz o (.tup []))) a = none := (upd_ne ne).trans hn
  exact ⟨.ref a, upd (upd H t (.frz o (.tup []))) a (ExN C a t), I.un (Un.laid2 hm.keeps hm.new htn hn nt ne) (H1.laidN (fun _ _ z => z) hn1 (exN_ok ht ⟨rfl, rfl⟩ rfl rfl)), rfl, h a t o ne hn nt (by rw [eo])⟩
end
end L2

namespace L2
open PySem PySem.Spec PyProof.Rows
section
variable {X : Cx}
/-- name = {.. for ..} on one line, the name a local -/
theorem ps_setDc {i : Nat} {y : Str} {py : Pos} {kx vx tg iter : Expr} {ifs : List Expr} {scope : Scope} {own : List (Str × Nat)} {pos spos : Pos} {wi : TI} {g : TG} {tt : TT} {tk tv : TE} (hc : X.calm = true) (hN : X.N.Nodup) (hy : X.N[i]? = some y) (hyl : X.env.scope.names.lookup y = some .local)
    (hsw : swapsWith (.DictComp kx vx [⟨tg, iter, ifs, 0⟩] scope pos) (some (.Name y py)) spos.line X.env = pure true) (hi : PI X tg iter wi) (ok : BlkOk X.N X.env.scope scope own)
    (hg : ∀ (s : Shared) (H : Hp) (C : Addr) (cl : List (Str × Addr)) (fp : List Addr), PG (X.blk s H scope (compEnvC scope cl C X.env) fp) tg g) (ht : ∀ (s : Shared) (H : Hp) (C : Addr) (cl : List (Str × Addr)) (fp : List Addr), PTs (X.blk s H scope (compEnvC scope cl C X.env) fp) ifs tt)
    (hk : ∀ (s : Shared) (H : Hp) (C : Addr) (cl : List (Str × Addr)) (fp : List Addr), PE (X.blk s H scope (compEnvC scope cl C X.env) fp) kx tk)
    (he : ∀ (s : Shared) (H : Hp) (C : Addr) (cl : List (Str × Addr)) (fp : List Addr), PE (X.blk s H scope (compEnvC scope cl C X.env) fp) vx tv) (hs : ∀ x, foldedSetIterable iter X.env x = pure x := by intro _; rfl) :
    PS X (.Assign [.Name y py] (.DictComp kx vx [⟨tg, iter, ifs, 0⟩] scope pos) spos) (tAsg (tDc wi g tt tk tv (own.map (·.2))) (gName i)) := by
  refine ⟨fun pins s σ H D I h => ?_⟩
  rw [exec_Assign_Name_used _ _ _ _ hsw]
  refine wpAny_bind (wpAny_standAt (wpAny_bind ?_))
  show wpAny _ X.A (do let _ ← comprehension (.DictComp kx vx [⟨tg, iter, ifs, 0⟩] scope pos) scope X.env (firstIterPos [⟨tg, iter, ifs, 0⟩] pos) newDict false (eval iter X.env) (some (assign (.Name y py) X.env))) _ _ s
  have h : tDc wi g tt tk tv (own.map (·.2)) σ H (fun x H1 => gName i x σ H1 D.nx) := h
  refine wpAny_bind (thn (dc_core (Qf := fun _ s' => SP X pins D .next s') hc hN I hi ok hg ht hk he hs h fun L C s' m H' I' q hn f => ?_) fun _ s' hq => wpAny_pure (wpAny_pure hq))
  show wpAny _ _ (assign (.Name y py) X.env (.ref L)) _ _ _
  refine wpAny_assign_Name (store_ok2 (v := V.ref L) I' hN hy (.inl hyl) rfl (fun s2 I2 ⟨a, sb, ha⟩ => ?_) (.inr hyl))
  obtain ⟨f0, f1, f2, f3, f4, f5⟩ := f
  have haC : C ≠ a := by
    rcases ha with z | z
    · rw [z]; exact f1
    · exact fun e => f4 y a z e.symm
  refine ⟨m, hn.sameBut sb haC, fun h3 sb3 => ?_⟩
  exact ⟨_, H', I2.turned (t' := s2.toks) (fun b o hb e => (sb3.2 b hb).trans e) f0 f1 f3 f4 f5, q⟩
theorem sw_trueD {kx vx : Expr} {gs : List Comprehension} {scope : Scope} {pos py : Pos} {y : Str} {l : Nat} {env : Env} (hk : env.scope.kind = .function) (hy : env.scope.names.lookup y = some .local) (hl : (py.line == pos.line) = true)
    (ha : (scope.names.any fun (n, k) => n == y && (k == .local || k == .cell)) = false) : swapsWith (.DictComp kx vx gs scope pos) (some (.Name y py)) l env = pure true := by
  have ky : env.kindOf y = some .local := hy
  have hb : env.blockKind = .function := by unfold Env.blockKind; rw [hk]; rfl
  unfold swapsWith
  simp only [hb, ky, ha, Expr.pos, hl]
  rfl
/-- list.count of a text among texts -/
def rCntS (K : PySem.W.Frag) : V → List V → Hp → VK → Prop := fun x xs H Q => ∃ (p : Addr) (ns : List Str) (k : Str), x = .ref p ∧ xs = [.str k] ∧ SqL K H p (ns.map V.str) ∧ Q (.int (ns.count k : Nat)) H
theorem countS_in (k : Str) : ∀ ns : List Str, PySem.Spec.countIn (.str k) (ns.map PyData.str) = (ns.count k : Nat)
  | [] => rfl
  | n :: r => by
    rw [List.map_cons, PySem.Spec.countIn, countS_in k r, List.count_cons]
    simp only [PySem.Spec.same]
    rcases Bool.eq_false_or_eq_true (n == k) with hb | hb <;> simp only [hb, Bool.false_eq_true, if_true, if_false] <;> push_cast <;> omega
theorem mt_lcountS : MtR X "list.count" (rCntS X.K) := by
  intro pins s σ H x xs v us Q I rx rxs h
  obtain ⟨p, ns, k, rfl, rfl, hs, q⟩ := h
  cases rx
  obtain ⟨u, rfl, ru⟩ := rxs.one
  obtain ⟨t, rfl⟩ := ru
  obtain ⟨its, rv, pl, hlen⟩ := I.list hs
  refine count_list_strs (vs := its) pl.isList (strs_of_vals rv) ?_
  rw [countS_in]
  exact ⟨.int (ns.count k : Nat), H, I.tok _, ⟨s.toks, rfl⟩, q⟩
/-- a method within a comprehension: the written part by name -/
theorem pe_bmK {K : PySem.W.Frag} {o e : Expr} {es : List Expr} {to : TE} {t : TA} {name : Str} {apos cpos : Pos} {T id : String} {r : V → List V → Hp → VK → Prop} (pa : PlainAttrs T) (slot : Slot T name id) (hty : typeOf (.builtin id) = pure (.type "method_descriptor")) (hm : MtR X id r) (ho : PE X o to) (ha : PA X (e :: es) t) (hK : X.K = K := by rfl)
    (hbase : attributeBase o name X.env (eval o X.env) = eval o X.env := by rfl)
    (hfew : ((backTo cpos (starEach (e :: es) X.env)).all (fun x => !x.1) && (backToKw cpos (keywordEach [] X.env)).all (fun x => x.1.isSome)
      && decide ((e :: es).length + ([] : List Keyword).length + (if ([] : List Keyword).isEmpty then 0 else 1) < 30)) = true := by rfl)
    (hline : (apos.endLine == cpos.line) = true := by rfl) (hs : starEach (e :: es) X.env = (false, eval e X.env) :: starEach es X.env := by rfl) (hplain : (backTo cpos (starEach es X.env)).any (·.1) = false := by rfl) :
    PE X (.Call (.Attribute o name apos) (e :: es) [] cpos) (tBM K T r to t) := by
  subst hK
  exact pe_bm pa slot hty hm ho ha hbase hfew hline hs hplain
end
end L2

/-! plain tuples: slices of them, their sums, turned round -/
namespace L2
open PySem PySem.Spec PyProof.Rows HT
section
variable {prog : Program} {w : World} {A : Around} {E : Value → Shared → Prop} {s : Shared}
theorem rev_places (n : Nat) : Builtin.Slice.slicePlaces ((n : Int) - 1) (-1) (-1) = n := by
  unfold Builtin.Slice.slicePlaces
  have h1 : ¬ ((-1 : Int) > 0) := by decide
  simp only [h1, if_false, show (- -1 : Int) = 1 by decide, Int.ediv_one]
  split <;> omega
theorem rev_adjust (n : Nat) : Builtin.Slice.sliceAdjust none none (-1) (n : Int) = ((n : Int) - 1, -1) := by
  unfold Builtin.Slice.sliceAdjust
  simp
theorem sliceApplied_rev {sl : Addr} {vs : Value} {n : Nat} {Q : Int × Int × Nat → Shared → Prop} (hs : s.heap.IsSliceOf sl .none .none vs) (ps : IsPart vs (some (-1)))
    (h : Q (((n : Int) - 1), -1, n) s) : wpAny (model prog w) A (Builtin.Slice.sliceApplied (.ref sl) (pure (n : Int))) Q E s := by
  obtain ⟨os, hos, hcs, hds⟩ := id hs
  unfold Builtin.Slice.sliceApplied Builtin.Slice.sliceFields
  refine wpAny_bind (wpAny_bind (wpAny_field hos hds (x := .none) rfl (wpAny_bind (wpAny_field hos hds (x := .none) rfl (wpAny_bind (wpAny_field hos hds (x := vs) rfl (wpAny_pure ?_)))))))
  refine wpAny_bind (slicePart_ ps ?_)
  show wpAny _ _ (if ((-1 : Int) == 0) = true then _ else _) _ _ s
  rw [if_neg (by decide)]
  refine wpAny_bind (slicePart_none (wpAny_bind (slicePart_none (wpAny_bind (wpAny_pure ?_)))))
  show wpAny _ _ (match Builtin.Slice.sliceAdjust none none (-1) (n : Int) with | (lo, hi) => pure (lo, (-1 : Int), Builtin.Slice.slicePlaces lo hi (-1))) _ _ s
  rw [rev_adjust]
  show wpAny _ _ (pure (((n : Int) - 1), (-1 : Int), Builtin.Slice.slicePlaces ((n : Int) - 1) (-1) (-1))) _ _ s
  rw [rev_places]
  exact wpAny_pure h
theorem fm_congr {α β : Type} {f g : α → Option β} : ∀ {l : List α}, (∀ x ∈ l, f x = g x) → l.filterMap f = l.filterMap g
  | [], _ => rfl
  | x :: l, h => by
    rw [List.filterMap_cons, List.filterMap_cons, h x List.mem_cons_self, fm_congr (l := l) fun y hy => h y (List.mem_cons_of_mem _ hy)]
theorem same_fresh {H : Hp} {p : Addr} {u : HO} (h : H p = none) : Same H (upd H p u) := fun b o e => by
  rw [upd_ne (ne_of_none e h)]
  exact e
theorem rev_pick (xs : Array Value) : ((List.range xs.size).filterMap fun (m : Nat) => xs[(((xs.size : Nat) : Int) - 1 + (m : Int) * (-1)).toNat]?).toArray = xs.toList.reverse.toArray := by
  have e1 : ((List.range xs.size).filterMap fun (m : Nat) => xs[(((xs.size : Nat) : Int) - 1 + (m : Int) * (-1)).toNat]?) = (List.range xs.size).filterMap fun (m : Nat) => xs[xs.size - 1 - m]? := by
    refine fm_congr fun m hm => ?_
    have := List.mem_range.mp hm
    rw [show (((xs.size : Nat) : Int) - 1 + (m : Int) * (-1)).toNat = xs.size - 1 - m by omega]
  rw [e1]
  have e2 : ((List.range xs.size).filterMap fun (m : Nat) => xs[xs.size - 1 - m]?) = ((List.range xs.size).map fun k => xs.size - 1 - k).filterMap (xs[·]?) := by
    rw [List.filterMap_map]
    rfl
  rw [e2, PySem.W.krv_range, List.filterMap_reverse, PySem.W.krv_all]
/-- t[::-1] makes a new tuple: the slice is never the whole, for its step is -1 -/
theorem getItem_tuple_rev {t sl : Addr} {its : Array Value} {step : Value} {Q : Value → Shared → Prop} (isT : IsTup s.heap t its) (isSl : s.heap.IsSliceOf sl .none .none step) (minus : IsPart step (some (-1)))
    (q : Q (.ref s.heap.objs.size) { s with heap := s.heap.push { cls := .type "tuple", data := .seq its.toList.reverse.toArray } }) (small : its.size ≤ sizeLine) : wpAny (model prog w) A (getItem (.ref t) (.ref sl)) Q E s := by
  have fits : sizeOk (.seq its.toList.reverse.toArray) := by
    show its.toList.reverse.toArray.size ≤ _
    simpa using small
  have tySl : s.TypeIs (.ref sl) "slice" := let ⟨o, g, c, _⟩ := isSl; ⟨o, g, c⟩
  have notWhole : (((((its.size : Nat) : Int) - 1) == 0 && (-1 : Int) == 1) && its.size == its.size) = false := by simp
  unfold getItem
  try with_reducible refine wpAny_holding ?_
  try refine wpAny_bind (wpAny_pure ?_)
  refine wpAny_bind (wpAny_sequenceKey isT.typeIs (by decide) (wpAny_bind (wpAny_callSpecial?_slot (name := Str.ofString "__getitem__") isT.typeIs PyProof.Rows.slot_tuple_getitem (wpAny_call_entry PyProof.Rows.slot_tuple_getitem isT.typeIs entry_tuple_getitem ?_ (args_tuple_getitem _ _)))))
  show wpAny _ _ (Builtin.Tuple.tupleItemsOf (.ref t) >>= _) _ _ s
  refine wpAny_bind (tupleItemsOf_ isT (wpAny_bind (wpAny_typeOf tySl ?_)))
  rw [if_pos (by decide)]
  refine wpAny_bind (sliceApplied_rev isSl minus ?_)
  show wpAny _ _ (if ((((its.size : Nat) : Int) - 1) == 0 && (-1 : Int) == 1 && its.size == its.size) = true then _ else _) _ _ s
  rw [notWhole, if_neg (by decide), rev_pick]
  first
    | exact wpAny_bind (m := Builtin.Tuple.tupleExact _) (wpAny_newObj_type (wpAny_pure ⟨_, rfl, wpAny_pure q⟩) fits)
    | exact wpAny_bind (wpAny_bind (m := Builtin.Tuple.tupleExact _) (wpAny_newObj_type (wpAny_pure (wpAny_pure ⟨_, rfl, wpAny_pure q⟩)) fits))
    | exact wpAny_bind (wpAny_bind (m := Builtin.Tuple.tupleExact _) (wpAny_newObj_type (wpAny_pure ⟨_, rfl, wpAny_pure q⟩) fits))
end
section
variable {X : Cx}
/-- t[::-1], a plain tuple -/
def tRevP (K : PySem.W.Frag) (te : TE) : TE := fun σ H Q => te σ H fun x H1 => ∃ a xs, x = .ref a ∧ SqT K H1 a xs ∧ ∀ p H', Same H1 H' → Ptp H' p xs.reverse → Q (.ref p) H'
theorem pe_revP {e : Expr} {te : TE} {k : Nat} {p1 p2 p3 pos : Pos} (he : PE X e te) : PE X (.Subscript e (.Slice none none (some (.UnaryOp .USub (.Constant (.int 1) k p1) p2)) p3) pos) (tRevP X.K te) := by
  refine ⟨fun pins s σ H Q I h => ?_⟩
  refine Subscript_ (thn (he.run pins s σ H _ I h) fun v s1 ⟨x, H1, I1, r1, q1⟩ => ?_)
  obtain ⟨a, xs, ex, hx, q⟩ := q1
  subst ex
  cases r1
  have hst : PO X (some (.UnaryOp .USub (.Constant (.int 1) k p1) p2)) (tPart (tUn (rU fun i => .int (-i)) (tC (.int 1)))) := po_some (pe_un un_neg pe_int)
  refine wpAny_Slice (thn (po_none.run pins s1 σ H1 (fun o H2 => o = none ∧ H2 = H1) I1 ⟨rfl, rfl⟩) fun vl s2 ⟨l, H2, I2, pl, el, e2⟩ => ?_)
  subst el e2
  refine thn (po_none.run pins s2 σ H2 (fun o H3 => o = none ∧ H3 = H2) I2 ⟨rfl, rfl⟩) fun vu s3 ⟨u, H3, I3, pu, eu, e3⟩ => ?_
  subst eu e3
  refine thn (hst.run pins s3 σ H3 (fun o H4 => o = some (-1) ∧ H4 = H3) I3 ⟨1, rfl, -1, rfl, rfl, rfl⟩) fun vs s4 ⟨o, H4, I4, ps, eo, e4⟩ => ?_
  subst eo e4
  cases pl
  cases pu
  have I5 : Inv X pins σ H4 { s4 with heap := s4.heap.push { cls := .type "slice", data := .fields #[.none, .none, vs] } } := I4.kept (t' := s4.toks) fun b ob q => Heap.get?_push_of_some _ q
  obtain ⟨its, r, ht, hz⟩ := I5.tuple hx
  have hlen := r.length
  show wpAny (model X.prog X.w) X.A (subscriptTail e (.Slice none none (some (.UnaryOp .USub (.Constant (.int 1) k p1) p2)) p3) (.ref a) (.ref s4.heap.objs.size)) (EP X pins σ Q) X.xe { s4 with heap := s4.heap.push { cls := .type "slice", data := .fields #[.none, .none, vs] } }
  refine tail_any (ops := [.ref a, .ref s4.heap.objs.size]) ht.typeIs (PyProof.Rows.slot_tuple_getitem.lookup) ?_ (by with_unfolding_all rfl)
  refine getItem_tuple_rev ht (Heap.IsSliceOf.new _ .none .none vs) ps ?_ (by rw [List.size_toArray]; omega)
  have hf := I5.hok.fresh (Nat.le_refl _)
  refine ⟨.ref _, _, I5.laid (t' := s4.toks) (o := .frz { cls := .type "tuple", data := .seq its.reverse.toArray } (.tup xs.reverse)) (fun b ob q => Heap.get?_push_of_some _ q) (Nat.le_refl _) ?_, rfl, q _ _ (same_fresh hf) ⟨_, upd_same, rfl⟩⟩
  exact ⟨Heap.get?_push_size _ rfl, by rw [List.length_reverse]; exact hz, _, r.reverse, ⟨_, Heap.get?_push_size _ rfl, rfl, _, rfl⟩⟩
/-- t[lo:hi], t a plain tuple: a plain tuple -/
def rSlP (K : PySem.W.Frag) : V → Option Int → Option Int → Hp → VK → Prop := fun x lo hi H Q => ∃ a xs, x = .ref a ∧ Ptp H a xs ∧ ∀ p H', Same H H' → Ptp H' p (cutV xs lo hi) → Q (.ref p) H'
theorem cutV_whole {xs : List V} {lo hi : Option Int} (h : HT.sIx xs.length 0 lo = 0 ∧ HT.sIx xs.length xs.length hi = xs.length) : cutV xs lo hi = xs := by
  unfold cutV
  rw [h.1, h.2, List.drop_zero, Nat.sub_zero, List.take_length]
theorem sl_tupP : SlR X (rSlP X.K) := by
  intro pins s σ H x v vl vu lo hi sl Q I rx hs pl pu h
  obtain ⟨a, xs, rfl, hx, q⟩ := h
  by_cases hw : HT.sIx xs.length 0 lo = 0 ∧ HT.sIx xs.length xs.length hi = xs.length
  · exact sl_tupA pins s σ H _ v vl vu lo hi sl Q I rx hs pl pu ⟨a, xs, rfl, hx.seq, fun _ => q a H (Same.refl H) (by rw [cutV_whole hw]; exact hx), fun n => absurd hw n⟩
  · cases rx
    obtain ⟨its, r, ht, hz⟩ := I.tuple hx.seq
    have hlen : its.toArray.size = xs.length := by rw [List.size_toArray]; exact r.length.symm
    refine ⟨"tuple", _, PyProof.Rows.slot_tuple_getitem.lookup, ht.typeIs, ?_⟩
    refine HT.getItem_tuple_cut ht hs pl pu (by rw [hlen]; exact hw) ?_ (by rw [hlen]; exact hz)
    rw [hlen]
    have hf := I.hok.fresh (Nat.le_refl _)
    refine ⟨.ref s.heap.objs.size, _, I.laid (t' := s.toks) (o := .frz { cls := .type "tuple", data := .seq ((its.drop (HT.sIx xs.length 0 lo)).take (HT.sIx xs.length xs.length hi - HT.sIx xs.length 0 lo)).toArray } (.tup (cutV xs lo hi))) (fun b ob q => Heap.get?_push_of_some _ q) (Nat.le_refl _) ?_, rfl, q _ _ (same_fresh hf) ⟨_, upd_same, rfl⟩⟩
    exact ⟨Heap.get?_push_size _ rfl, Nat.le_trans (cutV_length xs lo hi) hz, _, (r.drop (HT.sIx xs.length 0 lo)).take (HT.sIx xs.length xs.length hi - HT.sIx xs.length 0 lo), ⟨_, Heap.get?_push_size _ rfl, rfl, _, rfl⟩⟩
/-- t + u, plain tuples: a plain tuple -/
def rCatP (K : PySem.W.Frag) : R2 := fun x y H Q => ∃ a b xs ys, x = .ref a ∧ y = .ref b ∧ Ptp H a xs ∧ Ptp H b ys ∧ xs.length + ys.length ≤ sizeLine ∧ ∀ p H', Same H H' → Ptp H' p (xs ++ ys) → Q (.ref p) H'
theorem op_catP : OpR X (binaryOp .Add) (rCatP X.K) := by
  intro pins s σ H x y v u Q I rx ry h
  obtain ⟨a, b, xs, ys, rfl, rfl, ha, hb, hz, q⟩ := h
  by_cases hx : xs = []
  · subst hx
    exact op_catA pins s σ H _ _ v u Q I rx ry ⟨a, b, [], ys, rfl, rfl, ha.seq, hb.seq, hz, fun _ => q b H (Same.refl H) hb, fun n => absurd rfl n, fun n => absurd rfl n⟩
  · cases rx
    cases ry
    obtain ⟨its, r1, p1, _⟩ := I.tuple ha.seq
    obtain ⟨its2, r2, p2, _⟩ := I.tuple hb.seq
    refine HT.cat_tup p1 p2 (fun z => hx (r1.nil_iff.mp z)) (fun z => ⟨.ref a, H, I, rfl, q a H (Same.refl H) (by rw [r2.nil_iff.mp z, List.append_nil]; exact ha)⟩) (fun z => ?_) (by rw [← r1.length, ← r2.length]; exact hz)
    have hf := I.hok.fresh (Nat.le_refl _)
    refine ⟨.ref s.heap.objs.size, _, I.laid (t' := s.toks) (o := .frz { cls := .type "tuple", data := .seq (its ++ its2).toArray } (.tup (xs ++ ys))) (fun b ob q => Heap.get?_push_of_some _ q) (Nat.le_refl _) ?_, rfl, q _ _ (same_fresh hf) ⟨_, upd_same, rfl⟩⟩
    exact ⟨Heap.get?_push_size _ rfl, by rw [List.length_append]; exact hz, _, r1.append r2, ⟨_, Heap.get?_push_size _ rfl, rfl, _, rfl⟩⟩
end
end L2

namespace Kb
open PySem PySem.Spec PyProof.Rows L2
/-! anything, with its contents -/
inductive Dat where
  | non
  | bl (b : Bool)
  | int (i : Int)
  | str (z : Str)
  | tup (xs : List Dat)
  | lst (xs : List Dat)
  | dic (xs : List Dat)
  | err
theorem paired_imp' {α β : Type} {F G : α → β → Prop} (h : ∀ a b, F a b → G a b) : ∀ {xs : List α} {ys : List β}, Paired F xs ys → Paired G xs ys
  | _, _, .nil => .nil
  | _, _, .cons a t => .cons (h _ _ a) (paired_imp' h t)
def ascB (z : Str) : Bool := z.cps.toList.all fun c => decide (c < 128)
def LfAt (C : Addr) (B L : Nat) (H : Hp) (v : V) : Dat → Prop
  | .non => v = .non
  | .bl b => v = .bl b
  | .int i => v = .int i ∧ i.natAbs ≤ B
  | .str z => v = .str z ∧ z.length ≤ L ∧ ascB z = true
  | .err => ∃ a t, v = .ref a ∧ H a = some (ExN C a t) ∧ Ptp H t []
  | .tup _ => False
  | .lst _ => False
  | .dic _ => False
/-- the value, thing by thing; its lists are none of F -/
def DatAt (F : Addr → Prop) (C : Addr) (B L : Nat) : Nat → Hp → V → Dat → Prop
  | 0, H, v, d => LfAt C B L H v d
  | n + 1, H, v, d => LfAt C B L H v d ∨ (∃ a xs ds, v = .ref a ∧ d = .tup ds ∧ Ptp H a xs ∧ xs.length ≤ L ∧ Paired (DatAt F C B L n H) xs ds) ∨
    (∃ a xs ds, v = .ref a ∧ d = .lst ds ∧ ¬ F a ∧ H a = some (.lst xs) ∧ xs.length ≤ L ∧ Paired (DatAt F C B L n H) xs ds) ∨
    (∃ a l xs ds, v = .ref a ∧ d = .dic ds ∧ H a = some (.dK [(.inr (Str.ofString "a"), .ref l), (.inl 1, .non)]) ∧ ¬ F l ∧ H l = some (.lst xs) ∧ xs.length ≤ L ∧ Paired (DatAt F C B L n H) xs ds)
/-- what keeps anything whose lists are none of F -/
structure DKeep (F : Addr → Prop) (C : Addr) (H H' : Hp) : Prop where
  t : ∀ a xs, Ptp H a xs → Ptp H' a xs
  l : ∀ a xs, ¬ F a → H a = some (.lst xs) → H' a = some (.lst xs)
  d : ∀ a k, H a = some (.dK k) → H' a = some (.dK k)
  e : ∀ a t, H a = some (ExN C a t) → H' a = some (ExN C a t)
theorem DKeep.refl {F : Addr → Prop} {C : Addr} (H : Hp) : DKeep F C H H := ⟨fun _ _ h => h, fun _ _ _ h => h, fun _ _ h => h, fun _ _ h => h⟩
theorem DKeep.trans {F : Addr → Prop} {C : Addr} {H H1 H2 : Hp} (x : DKeep F C H H1) (y : DKeep F C H1 H2) : DKeep F C H H2 :=
  ⟨fun a xs h => y.t a xs (x.t a xs h), fun a xs n h => y.l a xs n (x.l a xs n h), fun a k h => y.d a k (x.d a k h), fun a t h => y.e a t (x.e a t h)⟩
theorem dk_same {F : Addr → Prop} {C : Addr} {H H' : Hp} (s : Same H H') : DKeep F C H H' := ⟨fun a xs h => h.same s, fun a xs _ h => s _ _ h, fun a k h => s _ _ h, fun a t h => s _ _ h⟩
/-- a list of F is stored anew -/
theorem dk_put {F : Addr → Prop} {C : Addr} {p : Addr} {H : Hp} {xs ys : List V} (h : H p = some (.lst xs)) (f : F p) : DKeep F C H (upd H p (.lst ys)) :=
  ⟨fun b zs ⟨o, e, d⟩ => ⟨o, by rw [upd_ne (ne_of e h (by intro z; cases z))]; exact e, d⟩, fun b zs n e => by rw [upd_ne (show b ≠ p from fun z => n (by rw [z]; exact f))]; exact e, fun b k e => by rw [upd_ne (ne_of e h (by intro z; cases z))]; exact e, fun b t e => by rw [upd_ne (ne_of e h (by intro z; cases z))]; exact e⟩
theorem LfAt.keep {F : Addr → Prop} {C : Addr} {B L : Nat} {H H' : Hp} (k : DKeep F C H H') {v : V} : ∀ {d : Dat}, LfAt C B L H v d → LfAt C B L H' v d
  | .non, h => h
  | .bl _, h => h
  | .int _, h => h
  | .str _, h => h
  | .err, ⟨a, t, e, h1, h2⟩ => ⟨a, t, e, k.e a t h1, k.t t [] h2⟩
  | .tup _, h => h.elim
  | .lst _, h => h.elim
  | .dic _, h => h.elim
theorem DatAt.keep {F : Addr → Prop} {C : Addr} {B L : Nat} {H H' : Hp} (k : DKeep F C H H') : ∀ {n : Nat} {v : V} {d : Dat}, DatAt F C B L n H v d → DatAt F C B L n H' v d
  | 0, _, _, h => LfAt.keep k h
  | n + 1, v, d, h => by
    rcases h with h | ⟨a, xs, ds, e1, e2, h1, h2, h3⟩ | ⟨a, xs, ds, e1, e2, f, h1, h2, h3⟩ | ⟨a, l, xs, ds, e1, e2, h0, f, h1, h2, h3⟩
    · exact .inl (LfAt.keep k h)
    · exact .inr (.inl ⟨a, xs, ds, e1, e2, k.t a xs h1, h2, paired_imp' (fun _ _ h => DatAt.keep k h) h3⟩)
    · exact .inr (.inr (.inl ⟨a, xs, ds, e1, e2, f, k.l a xs f h1, h2, paired_imp' (fun _ _ h => DatAt.keep k h) h3⟩))
    · exact .inr (.inr (.inr ⟨a, l, xs, ds, e1, e2, k.d a _ h0, f, k.l l xs f h1, h2, paired_imp' (fun _ _ h => DatAt.keep k h) h3⟩))
theorem DatAt.same {F : Addr → Prop} {C : Addr} {B L n : Nat} {H H' : Hp} {v : V} {d : Dat} (h : DatAt F C B L n H v d) (s : Same H H') : DatAt F C B L n H' v d := h.keep (dk_same s)
theorem LfAt.wide {C : Addr} {B L B' L' : Nat} {H : Hp} (hB : B ≤ B') (hL : L ≤ L') {v : V} : ∀ {d : Dat}, LfAt C B L H v d → LfAt C B' L' H v d
  | .non, h => h
  | .bl _, h => h
  | .int _, h => ⟨h.1, Nat.le_trans h.2 hB⟩
  | .str _, h => ⟨h.1, Nat.le_trans h.2.1 hL, h.2.2⟩
  | .err, h => h
  | .tup _, h => h.elim
  | .lst _, h => h.elim
  | .dic _, h => h.elim
theorem DatAt.wide {F F' : Addr → Prop} {C : Addr} {B L B' L' : Nat} {H : Hp} (hF : ∀ a, F' a → F a) (hB : B ≤ B') (hL : L ≤ L') : ∀ {n m : Nat} {v : V} {d : Dat}, n ≤ m → DatAt F C B L n H v d → DatAt F' C B' L' m H v d
  | 0, 0, _, _, _, h => LfAt.wide hB hL h
  | 0, m + 1, _, _, _, h => .inl (LfAt.wide hB hL h)
  | n + 1, 0, _, _, hm, _ => absurd hm (by omega)
  | n + 1, m + 1, v, d, hm, h => by
    rcases h with h | ⟨a, xs, ds, e1, e2, h1, h2, h3⟩ | ⟨a, xs, ds, e1, e2, f, h1, h2, h3⟩ | ⟨a, l, xs, ds, e1, e2, h0, f, h1, h2, h3⟩
    · exact .inl (LfAt.wide hB hL h)
    · exact .inr (.inl ⟨a, xs, ds, e1, e2, h1, Nat.le_trans h2 hL, paired_imp' (fun _ _ h => DatAt.wide hF hB hL (by omega) h) h3⟩)
    · exact .inr (.inr (.inl ⟨a, xs, ds, e1, e2, fun z => f (hF a z), h1, Nat.le_trans h2 hL, paired_imp' (fun _ _ h => DatAt.wide hF hB hL (by omega) h) h3⟩))
    · exact .inr (.inr (.inr ⟨a, l, xs, ds, e1, e2, h0, fun z => f (hF l z), h1, Nat.le_trans h2 hL, paired_imp' (fun _ _ h => DatAt.wide hF hB hL (by omega) h) h3⟩))
theorem DatAt.leaf {F : Addr → Prop} {C : Addr} {B L : Nat} {H : Hp} {v : V} {d : Dat} (h : LfAt C B L H v d) : ∀ {n : Nat}, DatAt F C B L n H v d
  | 0 => h
  | _ + 1 => .inl h
section
variable {F : Addr → Prop} {C : Addr} {B L n : Nat} {H : Hp}
theorem DatAt.lint {i : Int} (h : i.natAbs ≤ B) : DatAt F C B L n H (.int i) (.int i) := .leaf (show LfAt C B L H (.int i) (.int i) from ⟨rfl, h⟩)
theorem DatAt.lstr {z : Str} (h : z.length ≤ L) (h2 : ascB z = true) : DatAt F C B L n H (.str z) (.str z) := .leaf (show LfAt C B L H (.str z) (.str z) from ⟨rfl, h, h2⟩)
theorem DatAt.lbl {b : Bool} : DatAt F C B L n H (.bl b) (.bl b) := .leaf (show LfAt C B L H (.bl b) (.bl b) from rfl)
theorem DatAt.lnon : DatAt F C B L n H .non .non := .leaf (show LfAt C B L H .non .non from rfl)
theorem DatAt.lerr {a t : Addr} (h : H a = some (ExN C a t)) (h2 : Ptp H t []) : DatAt F C B L n H (.ref a) .err := .leaf (show LfAt C B L H (.ref a) .err from ⟨a, t, rfl, h, h2⟩)
theorem DatAt.ltup {a : Addr} {xs : List V} {ds : List Dat} (h1 : Ptp H a xs) (h2 : xs.length ≤ L) (h3 : Paired (DatAt F C B L n H) xs ds) : DatAt F C B L (n + 1) H (.ref a) (.tup ds) := .inr (.inl ⟨a, xs, ds, rfl, rfl, h1, h2, h3⟩)
theorem DatAt.llst {a : Addr} {xs : List V} {ds : List Dat} (f : ¬ F a) (h1 : H a = some (.lst xs)) (h2 : xs.length ≤ L) (h3 : Paired (DatAt F C B L n H) xs ds) : DatAt F C B L (n + 1) H (.ref a) (.lst ds) := .inr (.inr (.inl ⟨a, xs, ds, rfl, rfl, f, h1, h2, h3⟩))
theorem DatAt.ldic {a l : Addr} {xs : List V} {ds : List Dat} (h0 : H a = some (.dK [(.inr (Str.ofString "a"), .ref l), (.inl 1, .non)])) (f : ¬ F l) (h1 : H l = some (.lst xs)) (h2 : xs.length ≤ L) (h3 : Paired (DatAt F C B L n H) xs ds) : DatAt F C B L (n + 1) H (.ref a) (.dic ds) := .inr (.inr (.inr ⟨a, l, xs, ds, rfl, rfl, h0, f, h1, h2, h3⟩))
end
mutual
/-- its repr -/
def sh (nm : String) : Dat → Str
  | .non => Str.ofString "None"
  | .bl b => Str.ofString (if b then "True" else "False")
  | .int i => Str.ofString (toString i)
  | .str z => reprText z
  | .tup xs => tupleText (shs nm xs)
  | .lst xs => listText (shs nm xs)
  | .dic xs => dictText [reprText (Str.ofString "a") ++ ": " ++ listText (shs nm xs), Str.ofString (toString (1 : Int)) ++ ": " ++ Str.ofString "None"]
  | .err => PySem.exrText nm
def shs (nm : String) : List Dat → List Str
  | [] => []
  | x :: xs => sh nm x :: shs nm xs
end
mutual
/-- no shorter than its repr -/
def wD : Dat → Nat
  | .non => 10
  | .bl _ => 10
  | .int _ => 60
  | .str z => 15 * z.length + 20
  | .tup xs => 10 + wDs xs
  | .lst xs => 10 + wDs xs
  | .dic xs => 60 + wDs xs
  | .err => 200
def wDs : List Dat → Nat
  | [] => 0
  | x :: xs => wD x + 2 + wDs xs
end
theorem shs_len (nm : String) : ∀ xs : List Dat, (shs nm xs).length = xs.length
  | [] => rfl
  | x :: xs => by
    show (shs nm xs).length + 1 = xs.length + 1
    rw [shs_len nm xs]
theorem wDs_app : ∀ xs ys : List Dat, wDs (xs ++ ys) = wDs xs + wDs ys
  | [], ys => by
    show wDs ys = 0 + wDs ys
    omega
  | x :: xs, ys => by
    show wD x + 2 + wDs (xs ++ ys) = wD x + 2 + wDs xs + wDs ys
    rw [wDs_app xs ys]
    omega
theorem wDs_mem : ∀ {xs : List Dat} {x : Dat}, x ∈ xs → wD x < wDs xs
  | y :: xs, x, h => by
    show wD x < wD y + 2 + wDs xs
    rcases List.mem_cons.mp h with rfl | h
    · omega
    · have := wDs_mem h
      omega
theorem nat_len {n : Nat} {k : Nat} (hk : 0 < k) (h : n < 10 ^ k) : (Str.ofString (toString ((n : Nat) : Int))).length ≤ k := by
  have e := congrArg List.length (TL.tl_num n)
  have l := TL.numL_len hk h
  have : (Str.ofString (toString ((n : Nat) : Int))).length = (TL.tl (Str.ofString (toString ((n : Nat) : Int)))).length := by
    show Array.size _ = List.length (Array.toList _)
    rw [Array.length_toList]
  omega
theorem int_len {i : Int} (h : i.natAbs ≤ 2 ^ 90) : (Str.ofString (toString i)).length ≤ 60 := by
  cases i with
  | ofNat n =>
    have h : n ≤ 2 ^ 90 := h
    exact nat_len (by decide) (Nat.lt_of_le_of_lt h (by decide))
  | negSucc n =>
    have h : n + 1 ≤ 2 ^ 90 := h
    have l := nat_len (n := n + 1) (k := 59) (by decide) (Nat.lt_of_le_of_lt h (by decide))
    have e : toString (Int.negSucc n) = "-" ++ toString (((n + 1 : Nat) : Int)) := rfl
    have e2 : ∀ x : String, (Str.ofString x).length = x.length := fun x => PySem.ofString_length x
    rw [e2] at l ⊢
    rw [e, String.length_append]
    have : "-".length = 1 := rfl
    omega
theorem list_len (ts : List Str) : (listText ts).length ≤ (ts.map (·.length)).sum + 2 * ts.length + 2 := by
  have h := textFrom_len_le ts 0 "["
  show (textFrom 0 "[" ts ++ "]").length ≤ _
  rw [strLen_append]
  have e1 : ("[" : Str).length = 1 := rfl
  have e2 : ("]" : Str).length = 1 := rfl
  omega
theorem tuple_len (ts : List Str) : (tupleText ts).length ≤ (ts.map (·.length)).sum + 2 * ts.length + 3 := by
  have h := StrLaws.join_length_le (", " : Str) ts
  have e0 : (", " : Str).length = 2 := rfl
  unfold tupleText
  rw [strLen_append, strLen_append]
  have e1 : ("(" : Str).length = 1 := rfl
  have e2 : ((if ts.length == 1 then ",)" else ")" : String) : Str).length ≤ 2 := by split <;> decide
  rw [e0] at h
  omega
theorem reprs_len {z : Str} (h : ascB z = true) : (reprText z).length ≤ 15 * z.length + 13 := by
  have lv : (PyData.str z).leavesShort 13 = true := by
    show (z.cps.toList.all fun c => decide (c < 16 ^ 8)) = true
    rw [List.all_eq_true]
    intro c hc
    have := of_decide_eq_true (List.all_eq_true.mp h c hc)
    exact decide_eq_true (Nat.lt_trans this (by decide))
  have := PyData.shown_le 13 (by decide) (.str z) lv
  rw [PyData.shown_str] at this
  exact this
theorem sum_sh {nm : String} {R : V → Dat → Prop} (h : ∀ v d, R v d → (sh nm d).length ≤ wD d) : ∀ {xs : List V} {ds : List Dat}, Paired R xs ds → ((shs nm ds).map (·.length)).sum + 2 * (shs nm ds).length ≤ wDs ds
  | _, _, .nil => Nat.le_refl _
  | _, d :: ds, .cons a t => by
    have h1 := h _ _ a
    have h2 := sum_sh (nm := nm) h t
    show (sh nm d).length + ((shs nm ds).map (·.length)).sum + 2 * ((shs nm ds).length + 1) ≤ wD d + 2 + wDs ds
    omega
theorem DatAt.shlen {nm : String} {F : Addr → Prop} {C : Addr} {L : Nat} {H : Hp} (hn : (PySem.exrText nm).length ≤ 200) : ∀ {n : Nat} {v : V} {d : Dat}, DatAt F C (2 ^ 90) L n H v d → (sh nm d).length ≤ wD d := by
  have lf : ∀ {v : V} {d : Dat}, LfAt C (2 ^ 90) L H v d → (sh nm d).length ≤ wD d := fun {v d} h => by
    cases d with
    | non => show (Str.ofString "None").length ≤ 10; decide +kernel
    | bl b => cases b; { show (Str.ofString "False").length ≤ 10; decide +kernel }; { show (Str.ofString "True").length ≤ 10; decide +kernel }
    | int i => exact int_len h.2
    | str z => have := reprs_len h.2.2; show (reprText z).length ≤ 15 * z.length + 20; omega
    | err => exact hn
    | _ => exact h.elim
  intro n
  induction n with
  | zero => exact fun h => lf h
  | succ n ih =>
    intro v d h
    rcases h with h | ⟨a, xs, ds, e1, rfl, h1, h2, h3⟩ | ⟨a, xs, ds, e1, rfl, f, h1, h2, h3⟩ | ⟨a, l, xs, ds, e1, rfl, h0, f, h1, h2, h3⟩
    · exact lf h
    · have s := sum_sh (nm := nm) (fun _ _ h => ih h) h3
      have := tuple_len (shs nm ds)
      show (tupleText (shs nm ds)).length ≤ 10 + wDs ds
      omega
    · have s := sum_sh (nm := nm) (fun _ _ h => ih h) h3
      have := list_len (shs nm ds)
      show (listText (shs nm ds)).length ≤ 10 + wDs ds
      omega
    · have s := sum_sh (nm := nm) (fun _ _ h => ih h) h3
      have := list_len (shs nm ds)
      show (dictText [reprText (Str.ofString "a") ++ ": " ++ listText (shs nm ds), Str.ofString (toString (1 : Int)) ++ ": " ++ Str.ofString "None"]).length ≤ 60 + wDs ds
      unfold dictText
      rw [strLen_append, strLen_append]
      show _ + ((reprText (Str.ofString "a") ++ ": " ++ listText (shs nm ds)) ++ (", " : Str) ++ (Str.ofString (toString (1 : Int)) ++ ": " ++ Str.ofString "None")).length + _ ≤ _
      rw [strLen_append, strLen_append, strLen_append, strLen_append]
      have a1 : (reprText (Str.ofString "a")).length = 3 := by decide +kernel
      have a2 : (": " : Str).length = 2 := rfl
      have a3 : (", " : Str).length = 2 := rfl
      have a4 : (Str.ofString (toString (1 : Int)) ++ ": " ++ Str.ofString "None").length = 7 := by decide +kernel
      have a5 : ("{" : Str).length = 1 := rfl
      have a6 : ("}" : Str).length = 1 := rfl
      omega
end Kb

namespace L2
open PySem PySem.Spec PyProof.Rows Builtin
variable {X : Cx}
/-! anything, an own error too, against a text -/
def EqSE (K : PySem.W.Frag) (H : Hp) (x : V) (z : Str) (c : Bool) : Prop := EqS K H x z c ∨ (c = false ∧ ∃ a t0 C, x = .ref a ∧ H a = some (ExN C a t0) ∧ PySem.ExQ K C)
theorem op_eqSE {K : PySem.W.Frag} (hK : X.K = K) (hu : X.A.units + 64 < cLine) : OpR X (compareOp .Eq) (fun x y H Q => ∃ z c, y = .str z ∧ EqSE K H x z c ∧ Q (.bl c) H) := by
  subst hK
  intro pins s σ H x y v u Q I rx ry h
  obtain ⟨z, c, rfl, e | ⟨rfl, a, t0, C, rfl, ha, hq⟩, q⟩ := h
  · obtain ⟨t, rfl⟩ := ry
    exact EqS.rc I (by omega) e rx _ _ _ _ ⟨.bl c, H, I, rfl, q⟩
  · obtain ⟨t, rfl⟩ := ry
    cases (show v = Value.ref a from rx)
    obtain ⟨⟨oe, vs, e1, e2, e3, e4⟩, _, _⟩ := I.hok a _ ha
    have x : PySem.ExcC X.K C a t0 s.heap := ⟨I.kIn, oe, vs, e1, e2.1, e3, e4⟩
    exact SeqAt.RcAt.exc_str x hq z t (by omega) _ _ _ _ ⟨.bl false, H, I, rfl, q⟩
end L2

namespace Kb
open PySem PySem.Spec PyProof.Rows L2
theorem pair_det {R R' : V → Dat → Prop} (h : ∀ v d d', R v d → R' v d' → d = d') : ∀ {xs : List V} {ds es : List Dat}, Paired R xs ds → Paired R' xs es → ds = es
  | _, _, _, .nil, .nil => rfl
  | _, _, _, .cons a t, .cons b u => by rw [h _ _ _ a b, pair_det h t u]
theorem LfAt.det {C : Addr} {B L B' L' : Nat} {H : Hp} {v : V} {d d' : Dat} (h : LfAt C B L H v d) (h' : LfAt C B' L' H v d') : d = d' := by
  cases d with
  | non => cases (show v = .non from h); cases d' with
    | non => rfl
    | bl b => cases (show V.non = .bl b from h')
    | int i => cases h'.1
    | str z => cases h'.1
    | err => obtain ⟨_, _, e, _⟩ := h'; cases e
    | _ => exact h'.elim
  | bl b => cases (show v = .bl b from h); cases d' with
    | non => cases (show V.bl b = .non from h')
    | bl b' => cases (show V.bl b = .bl b' from h'); rfl
    | int i => cases h'.1
    | str z => cases h'.1
    | err => obtain ⟨_, _, e, _⟩ := h'; cases e
    | _ => exact h'.elim
  | int i => cases h.1; cases d' with
    | non => cases (show V.int i = .non from h')
    | bl b' => cases (show V.int i = .bl b' from h')
    | int j => cases h'.1; rfl
    | str z => cases h'.1
    | err => obtain ⟨_, _, e, _⟩ := h'; cases e
    | _ => exact h'.elim
  | str z => cases h.1; cases d' with
    | non => cases (show V.str z = .non from h')
    | bl b' => cases (show V.str z = .bl b' from h')
    | int j => cases h'.1
    | str z' => cases h'.1; rfl
    | err => obtain ⟨_, _, e, _⟩ := h'; cases e
    | _ => exact h'.elim
  | err => obtain ⟨a, t, rfl, _⟩ := h; cases d' with
    | non => cases (show V.ref a = .non from h')
    | bl b' => cases (show V.ref a = .bl b' from h')
    | int j => cases h'.1
    | str z' => cases h'.1
    | err => rfl
    | _ => exact h'.elim
  | _ => exact h.elim
/-- a leaf is no container -/
theorem LfAt.no {C : Addr} {B L : Nat} {H : Hp} {a : Addr} {d : Dat} {o : HO} (h : LfAt C B L H (.ref a) d) (e : H a = some o) (no : ∀ φ, o ≠ .ext φ) : False := by
  cases d with
  | non => cases (show V.ref a = .non from h)
  | bl b => cases (show V.ref a = .bl b from h)
  | int i => cases h.1
  | str z => cases h.1
  | err =>
    obtain ⟨a', t, e1, h1, _⟩ := h
    cases e1
    rw [h1] at e
    exact no _ (by injection e with e; exact e.symm)
  | _ => exact h.elim
theorem DatAt.det {C : Addr} {H : Hp} : ∀ {n : Nat} {F F' : Addr → Prop} {B L B' L' m : Nat} {v : V} {d d' : Dat}, DatAt F C B L n H v d → DatAt F' C B' L' m H v d' → d = d' := by
  have lc : ∀ {F' : Addr → Prop} {B L B' L' m : Nat} {v : V} {d d' : Dat}, LfAt C B L H v d → DatAt F' C B' L' m H v d' → d = d' := fun {F' B L B' L' m v d d'} h h' => by
    cases m with
    | zero => exact h.det h'
    | succ m =>
      rcases h' with h' | ⟨a, xs, ds, rfl, e2, ⟨o, h1, _⟩, _⟩ | ⟨a, xs, ds, rfl, e2, f, h1, _⟩ | ⟨a, l, xs, ds, rfl, e2, h1, _⟩
      · exact h.det h'
      · exact (h.no h1 (fun _ z => nomatch z)).elim
      · exact (h.no h1 (fun _ z => nomatch z)).elim
      · exact (h.no h1 (fun _ z => nomatch z)).elim
  intro n
  induction n with
  | zero => exact fun h h' => lc h h'
  | succ n ih =>
    intro F F' B L B' L' m v d d' h h'
    rcases h with h | ⟨a, xs, ds, rfl, rfl, ⟨o, h1, _⟩, h2, h3⟩ | ⟨a, xs, ds, rfl, rfl, f, h1, h2, h3⟩ | ⟨a, l, xs, ds, rfl, rfl, h0, f, h1, h2, h3⟩
    · exact lc h h'
    · cases m with
      | zero => exact (LfAt.no (d := d') h' h1 (fun _ z => nomatch z)).elim
      | succ m =>
        rcases h' with h' | ⟨a', xs', ds', e1, rfl, ⟨o', k1, _⟩, _, k3⟩ | ⟨a', xs', ds', e1, rfl, _, k1, _⟩ | ⟨a', l', xs', ds', e1, rfl, k1, _⟩
        · exact (h'.no h1 (fun _ z => nomatch z)).elim
        · cases e1
          rw [h1] at k1
          injection k1 with k1
          injection k1 with _ k1
          injection k1 with k1
          subst k1
          rw [pair_det (R := DatAt F C B L n H) (R' := DatAt F' C B' L' m H) (fun _ _ _ x y => ih x y) h3 k3]
        · cases e1; rw [h1] at k1; cases k1
        · cases e1; rw [h1] at k1; cases k1
    · cases m with
      | zero => exact (LfAt.no (d := d') h' h1 (fun _ z => nomatch z)).elim
      | succ m =>
        rcases h' with h' | ⟨a', xs', ds', e1, rfl, ⟨o', k1, _⟩, _, k3⟩ | ⟨a', xs', ds', e1, rfl, _, k1, _, k3⟩ | ⟨a', l', xs', ds', e1, rfl, k1, _⟩
        · exact (h'.no h1 (fun _ z => nomatch z)).elim
        · cases e1; rw [h1] at k1; cases k1
        · cases e1
          rw [h1] at k1
          injection k1 with k1
          injection k1 with k1
          subst k1
          rw [pair_det (R := DatAt F C B L n H) (R' := DatAt F' C B' L' m H) (fun _ _ _ x y => ih x y) h3 k3]
        · cases e1; rw [h1] at k1; cases k1
    · cases m with
      | zero => exact (LfAt.no (d := d') h' h0 (fun _ z => nomatch z)).elim
      | succ m =>
        rcases h' with h' | ⟨a', xs', ds', e1, rfl, ⟨o', k1, _⟩, _, k3⟩ | ⟨a', xs', ds', e1, rfl, _, k1, _, k3⟩ | ⟨a', l', xs', ds', e1, rfl, k0, _, k1, _, k3⟩
        · exact (h'.no h0 (fun _ z => nomatch z)).elim
        · cases e1; rw [h0] at k1; cases k1
        · cases e1; rw [h0] at k1; cases k1
        · cases e1
          rw [h0] at k0
          injection k0 with k0
          injection k0 with k0
          injection k0 with k0
          injection k0 with _ k0
          injection k0 with k0
          subst k0
          rw [h1] at k1
          injection k1 with k1
          injection k1 with k1
          subst k1
          rw [pair_det (R := DatAt F C B L n H) (R' := DatAt F' C B' L' m H) (fun _ _ _ x y => ih x y) h3 k3]
/-- addresses of things that weigh at most so much -/
def Wn (H : Hp) (C : Addr) (W : Nat) (bs : List Addr) : Prop := ∀ b ∈ bs, ∃ F B L m d, DatAt F C B L m H (.ref b) d ∧ wD d ≤ W
theorem Wn.mono {H : Hp} {C : Addr} {W W' : Nat} {bs : List Addr} (h : Wn H C W bs) (le : W ≤ W') : Wn H C W' bs := fun b hb => by
  obtain ⟨F, B, L, m, d, h1, h2⟩ := h b hb
  exact ⟨F, B, L, m, d, h1, Nat.le_trans h2 le⟩
theorem Wn.app {H : Hp} {C : Addr} {W : Nat} {bs cs : List Addr} (h : Wn H C W bs) (k : Wn H C W cs) : Wn H C W (bs ++ cs) := fun b hb => (List.mem_append.mp hb).elim (h b) (k b)
theorem Wn.no {H : Hp} {C : Addr} {W : Nat} {bs : List Addr} {F : Addr → Prop} {B L m : Nat} {a : Addr} {d : Dat} (h : Wn H C W bs) (ha : DatAt F C B L m H (.ref a) d) (lt : W < wD d) : a ∉ bs := fun hb => by
  obtain ⟨F', B', L', m', d', h1, h2⟩ := h a hb
  have e := ha.det h1
  rw [← e] at h2
  omega
theorem listText_cons0 : listText [] = Str.ofString "[]" := listText_nil
section
variable {X : Cx} {pins : List (Addr × Obj)} {σ : L2.St} {H : Hp} {s : Shared} {C : Addr} {nm : String} {F : Addr → Prop} {L : Nat}
theorem show_list {n : Nat} {a : Addr} {xs : List V} {ds : List Dat} {bs : List Addr} {us : List Value} (pl : PlainL s.heap a us.toArray) (hna : a ∉ bs) (hk : ReprAllK X.prog X.w bs s.heap n us (shs nm ds)) : ReprK X.prog X.w (a :: bs) s.heap (n + 1) (.ref a) (listText (shs nm ds)) := by
  obtain ⟨o, k, h1, h2, _, h4⟩ := pl
  cases us with
  | nil =>
    have e : shs nm ds = [] := by
      have := hk.length_eq
      exact List.length_eq_zero_iff.mp this
    rw [e, listText_nil]
    exact ReprK.listEmpty h1 h2 h4
  | cons x l => exact ReprK.list h1 h2 h4 hna (by simpa using hk.length_eq) (fun i y e => hk.item i y (by simpa using e))
theorem show_dic {m : Nat} {a l : Addr} {bs : List Addr} {t : Str} (I : Inv X pins σ H s) (h0 : H a = some (.dK [(.inr (Str.ofString "a"), .ref l), (.inl 1, .non)])) (kl : ReprK X.prog X.w bs s.heap m (.ref l) t) :
    ∃ o es ep, s.heap.get? a = some o ∧ o.cls = .type "dict" ∧ o.data = .dict es ep ∧ (a == sysModules) = false ∧ ReprEntriesK X.prog X.w bs s.heap m es.toList [reprText (Str.ofString "a") ++ ": " ++ t, Str.ofString (toString (1 : Int)) ++ ": " ++ Str.ofString "None"] := by
  obtain ⟨_, hsys, vs0, r0, o, es, ep, d1, d2, d3, _, d4, _⟩ := dk_of I.hok h0
  obtain ⟨es⟩ := es
  cases r0 with
  | cons ra rb =>
    cases rb with
    | cons rb rc =>
      cases rc
      cases d4 with
      | cons x1 x2 x3 =>
        cases x3 with
        | cons y1 y2 y3 =>
          cases y3
          rename_i b1 b2 _ en1 en2 _
          have q1 : en1.val = Value.ref l := by
            rw [x2]
            exact ra.2
          have q2 : en2.val = Value.none := by
            rw [y2]
            exact rb.2
          obtain ⟨t1, q3⟩ : ∃ t, en1.key = Value.str (Str.ofString "a") t := by
            rw [← ra.1] at x1
            rcases keyIs_shape (show keyIs (.inr (Str.ofString "a")) en1.key = true from x1) with ⟨i, t, e, _⟩ | ⟨x, t, e, e2⟩
            · cases e
            · cases e; exact ⟨t, e2⟩
          obtain ⟨t2, q4⟩ : ∃ t, en2.key = Value.int 1 t := by
            rw [← rb.1] at y1
            rcases keyIs_shape (show keyIs (.inl 1) en2.key = true from y1) with ⟨i, t, e, e2⟩ | ⟨x, t, e, _⟩
            · cases e; exact ⟨t, e2⟩
            · cases e
          have r1 : ReprK X.prog X.w bs s.heap m en1.key (reprText (Str.ofString "a")) := by
            rw [q3]
            exact .of_is (ReprIs.str _ t1 (by decide +kernel)) _ _ _
          have r2 : ReprK X.prog X.w bs s.heap m en1.val t := by
            rw [q1]
            exact kl
          have r3 : ReprK X.prog X.w bs s.heap m en2.key (Str.ofString (toString (1 : Int))) := by
            rw [q4]
            exact .of_is (ReprIs.int t2 (by decide)) _ _ _
          have r4 : ReprK X.prog X.w bs s.heap m en2.val (Str.ofString "None") := by
            rw [q2]
            exact .of_is ReprIs.none _ _ _
          exact ⟨o, _, ep, d1, d2.1, d3, hsys, .cons r1 r2 (.cons r3 r4 .nil)⟩
theorem DatAt.showK (I : Inv X pins σ H s) (R : PySem.ExR X.K C nm) (hn : (PySem.exrText nm).length ≤ 200) : ∀ {n : Nat} {v : V} {d : Dat} {u : Value}, DatAt F C (2 ^ 90) L n H v d → wD d ≤ 10000000 → RelV v u →
    ∃ bs, Wn H C (wD d) bs ∧ ReprK X.prog X.w bs s.heap (2 * n + 2) u (sh nm d) := by
  have lf : ∀ {n : Nat} {v : V} {d : Dat} {u : Value}, LfAt C (2 ^ 90) L H v d → wD d ≤ 10000000 → RelV v u → ∃ bs, Wn H C (wD d) bs ∧ ReprK X.prog X.w bs s.heap (2 * n + 2) u (sh nm d) := fun {n v d u} h hw r => by
    cases d with
    | non =>
      cases (show v = .non from h)
      cases r
      exact ⟨[], (fun _ h => nomatch h), .of_is ReprIs.none _ _ _⟩
    | bl b =>
      cases (show v = .bl b from h)
      cases r
      exact ⟨[], (fun _ h => nomatch h), .of_is (by cases b <;> exact ReprIs.bool _) _ _ _⟩
    | int i =>
      cases h.1
      obtain ⟨t, rfl⟩ := r
      refine ⟨[], (fun _ h => nomatch h), .of_is (ReprIs.int t ?_) _ _ _⟩
      have h2 : i.natAbs ≤ 2 ^ 90 := h.2
      by_cases h0 : i.natAbs = 0
      · rw [h0]; decide
      · exact (Nat.log2_lt h0).mpr (Nat.lt_of_le_of_lt h2 (Nat.pow_lt_pow_right (by decide) (by decide)))
    | str z =>
      cases h.1
      obtain ⟨t, rfl⟩ := r
      refine ⟨[], (fun _ h => nomatch h), .of_is (ReprIs.str z t ?_) _ _ _⟩
      have := reprs_len h.2.2
      have hw : 15 * z.length + 20 ≤ 10000000 := hw
      rw [sizeLine_eq]
      omega
    | err =>
      obtain ⟨a, t, rfl, h1, h2⟩ := h
      cases r
      obtain ⟨⟨oe, vs, e1, e2, e3, e4⟩, _, _⟩ := I.hok a _ h1
      obtain ⟨its, rv, ⟨ot, t1, t2, k, t3⟩, _⟩ := I.tuple (h2.seq (K := X.K))
      cases rv
      have x : PySem.ExcC X.K C a t s.heap := ⟨I.kIn, oe, vs, e1, e2.1, e3, e4⟩
      refine ⟨[t], fun b hb => ?_, (PySem.exc_K x R t1 t2 t3).level_le (by omega)⟩
      rw [List.mem_singleton.mp hb]
      exact ⟨F, 0, 0, 1, .tup [], .ltup h2 (Nat.le_refl _) .nil, by show 10 ≤ 200; decide⟩
    | _ => exact h.elim
  intro n
  induction n with
  | zero => exact fun h hw r => lf h hw r
  | succ n ih =>
    intro v d u h hw r
    have all : ∀ {xs : List V} {ds : List Dat} {us : List Value}, Paired (DatAt F C (2 ^ 90) L n H) xs ds → wDs ds ≤ 10000000 → Vals xs us → ∃ bs, Wn H C (wDs ds) bs ∧ ReprAllK X.prog X.w bs s.heap (2 * n + 2) us (shs nm ds) := fun {xs ds us} hp => by
      induction hp generalizing us with
      | nil => intro _ r; cases r; exact ⟨[], (fun _ h => nomatch h), .nil⟩
      | @cons a b as bs' h t ih2 =>
        intro hw r
        have hw : wD b + 2 + wDs bs' ≤ 10000000 := hw
        cases r with
        | cons r1 r2 =>
          obtain ⟨b1, k1, k2⟩ := ih h (by omega) r1
          obtain ⟨b2, k3, k4⟩ := ih2 (by omega) r2
          have le : wDs (b :: bs') = wD b + 2 + wDs bs' := rfl
          exact ⟨b1 ++ b2, (k1.mono (by omega)).app (k3.mono (by omega)), .cons (k2.more fun c hc => List.mem_append_left _ hc) (k4.more_le (fun c hc => List.mem_append_right _ hc) (Nat.le_refl _))⟩
    have full := h
    rcases h with h | ⟨a, xs, ds, rfl, rfl, h1, h2, h3⟩ | ⟨a, xs, ds, rfl, rfl, f, h1, h2, h3⟩ | ⟨a, l, xs, ds, rfl, rfl, h0, f, h1, h2, h3⟩
    · exact lf h hw r
    · cases r
      have hw : 10 + wDs ds ≤ 10000000 := hw
      obtain ⟨its, rv, ⟨o, t1, t2, k, t3⟩, _⟩ := I.tuple (h1.seq (K := X.K))
      obtain ⟨bs, k1, k2⟩ := all h3 (by omega) rv
      have hna := k1.no full (show wDs ds < 10 + wDs ds by omega)
      refine ⟨a :: bs, fun b hb => ?_, (ReprK.tuple t1 t2 t3 hna (by simpa using k2)).level_le (by omega)⟩
      rcases List.mem_cons.mp hb with rfl | hb
      · exact ⟨_, _, _, _, _, full, Nat.le_refl _⟩
      · exact k1.mono (show wDs ds ≤ 10 + wDs ds by omega) b hb
    · cases r
      have hw : 10 + wDs ds ≤ 10000000 := hw
      obtain ⟨its, rv, pl, _⟩ := I.list (.inl (.inl h1))
      obtain ⟨bs, k1, k2⟩ := all h3 (by omega) rv
      have hna := k1.no full (show wDs ds < 10 + wDs ds by omega)
      refine ⟨a :: bs, fun b hb => ?_, (show_list (xs := xs) pl hna k2).level_le (by omega)⟩
      rcases List.mem_cons.mp hb with rfl | hb
      · exact ⟨_, _, _, _, _, full, Nat.le_refl _⟩
      · exact k1.mono (show wDs ds ≤ 10 + wDs ds by omega) b hb
    · cases r
      have hw : 60 + wDs ds ≤ 10000000 := hw
      obtain ⟨its, rv, pl, _⟩ := I.list (.inl (.inl h1))
      obtain ⟨bs, k1, k2⟩ := all h3 (by omega) rv
      have fl : DatAt F C (2 ^ 90) L (n + 1) H (.ref l) (.lst ds) := .llst f h1 h2 h3
      have hnl := k1.no fl (show wDs ds < 10 + wDs ds by omega)
      have kl := show_list (xs := xs) pl hnl k2
      have w1 : Wn H C (10 + wDs ds) (l :: bs) := fun b hb => by
        rcases List.mem_cons.mp hb with rfl | hb
        · exact ⟨_, _, _, _, _, fl, Nat.le_refl _⟩
        · exact k1.mono (show wDs ds ≤ 10 + wDs ds by omega) b hb
      have hna := w1.no full (show 10 + wDs ds < 60 + wDs ds by omega)
      obtain ⟨o, es, ep, d1, d2, d3, hsys, d4⟩ := show_dic I h0 kl
      refine ⟨a :: l :: bs, fun b hb => ?_, ReprK.dict d1 d2 d3 hsys hna d4⟩
      rcases List.mem_cons.mp hb with rfl | hb
      · exact ⟨_, _, _, _, _, full, Nat.le_refl _⟩
      · exact w1.mono (show 10 + wDs ds ≤ 60 + wDs ds by omega) b hb
theorem show_all (I : Inv X pins σ H s) (R : PySem.ExR X.K C nm) (hn : (PySem.exrText nm).length ≤ 200) {n : Nat} : ∀ {xs : List V} {ds : List Dat} {us : List Value}, Paired (DatAt F C (2 ^ 90) L n H) xs ds → wDs ds ≤ 10000000 → Vals xs us → ∃ bs, Wn H C (wDs ds) bs ∧ ReprAllK X.prog X.w bs s.heap (2 * n + 2) us (shs nm ds) := fun {xs ds us} hp => by
  induction hp generalizing us with
  | nil => intro _ r; cases r; exact ⟨[], (fun _ h => nomatch h), .nil⟩
  | @cons a b as bs' h t ih2 =>
    intro hw r
    have hw : wD b + 2 + wDs bs' ≤ 10000000 := hw
    cases r with
    | cons r1 r2 =>
      obtain ⟨b1, k1, k2⟩ := DatAt.showK I R hn h (by omega) r1
      obtain ⟨b2, k3, k4⟩ := ih2 (by omega) r2
      have le : wDs (b :: bs') = wD b + 2 + wDs bs' := rfl
      exact ⟨b1 ++ b2, (k1.mono (by omega)).app (k3.mono (by omega)), .cons (k2.more fun c hc => List.mem_append_left _ hc) (k4.more_le (fun c hc => List.mem_append_right _ hc) (Nat.le_refl _))⟩
end
section
variable {X : Cx}
/-- repr of anything: its text -/
def rReprA (C : Addr) (nm : String) : List V → Hp → VK → Prop := fun vs H Q => ∃ (v : V) (d : Dat) (F : Addr → Prop) (L n : Nat), vs = [v] ∧ DatAt F C (2 ^ 90) L n H v d ∧ n ≤ 20 ∧ wD d ≤ 10000000 ∧ Q (.str (sh nm d)) H
theorem call_reprA {C : Addr} {nm : String} (hg : X.A.guards = some []) (hu : X.A.units + 64 < cLine) (R : PySem.ExR X.K C nm) (hn : (PySem.exrText nm).length ≤ 200) : CallR X (.builtin "repr") (rReprA C nm) := by
  intro pins s σ H xs us Q I r h
  obtain ⟨v, d, F, L, n, rfl, hd, hn20, hw, q⟩ := h
  obtain ⟨u, rfl, ru⟩ := vals1 r
  have hle : (sh nm d).length ≤ sizeLine := by
    have := hd.shlen (nm := nm) hn
    rw [sizeLine_eq]
    omega
  have lf : LfAt C (2 ^ 90) L H v d → wpAny (model X.prog X.w) X.A (call (.builtin "repr") [u]) (EP X pins σ Q) X.xe s := fun h => by
    cases d with
    | non =>
      cases (show v = .non from h)
      cases ru
      exact PySem.P.repr_of_none ⟨.str _, H, I.tok _, ⟨_, rfl⟩, q⟩
    | bl b =>
      cases (show v = .bl b from h)
      cases ru
      exact PySem.P.repr_of_bool ⟨.str _, H, I.tok _, ⟨_, rfl⟩, by cases b <;> exact q⟩
    | int i =>
      cases h.1
      obtain ⟨t, rfl⟩ := ru
      have h2 : i.natAbs ≤ 2 ^ 90 := h.2
      refine PySem.P.repr_of_int ?_ ⟨.str _, H, I.tok _, ⟨_, rfl⟩, q⟩
      by_cases h0 : i.natAbs = 0
      · rw [h0]; decide
      · exact (Nat.log2_lt h0).mpr (Nat.lt_of_le_of_lt h2 (Nat.pow_lt_pow_right (by decide) (by decide)))
    | str z =>
      cases h.1
      obtain ⟨t, rfl⟩ := ru
      exact PySem.P.repr_of_str ⟨.str _, H, I.tok _, ⟨_, rfl⟩, q⟩ hle
    | err =>
      obtain ⟨a, t, rfl, h1, h2⟩ := h
      cases ru
      obtain ⟨⟨oe, vs, e1, e2, e3, e4⟩, _, _⟩ := I.hok a _ h1
      obtain ⟨its, rv, ⟨ot, t1, t2, k, t3⟩, _⟩ := I.tuple (h2.seq (K := X.K))
      cases rv
      have x : PySem.ExcC X.K C a t s.heap := ⟨I.kIn, oe, vs, e1, e2.1, e3, e4⟩
      exact PySem.call_repr_C x R t1 t2 t3 hg (by omega) hle fun h' u tk hk => ⟨.str _, H, I.kept hk, ⟨_, rfl⟩, q⟩
    | _ => exact h.elim
  cases n with
  | zero => exact lf hd
  | succ n =>
    have full := hd
    rcases hd with h | ⟨a, xs, ds, rfl, rfl, h1, h2, h3⟩ | ⟨a, xs, ds, rfl, rfl, f, h1, h2, h3⟩ | ⟨a, l, xs, ds, rfl, rfl, h0, f, h1, h2, h3⟩
    · exact lf h
    · cases ru
      have hw : 10 + wDs ds ≤ 10000000 := hw
      obtain ⟨its, rv, ⟨o, t1, t2, k, t3⟩, _⟩ := I.tuple (h1.seq (K := X.K))
      obtain ⟨bs, k1, k2⟩ := show_all I R hn h3 (by omega) rv
      have hna := k1.no full (show wDs ds < 10 + wDs ds by omega)
      exact call_repr_slot (by omega) ⟨o, t1, t2⟩ PySem.F.slot_tuple_repr (call_tuple_reprK t1 t2 t3 hna (by simpa using k2) hg (fun b _ => Clear.nil b) (by show X.A.units + 1 + (2 * n + 2 + 1) < cLine; omega) (fun _ _ e => e)
        (fun h' u tk hk => ⟨_, _, rfl, .str _, H, I.kept hk, ⟨_, rfl⟩, q⟩) hle)
    · cases ru
      have hw : 10 + wDs ds ≤ 10000000 := hw
      obtain ⟨its, rv, ⟨o, k, t1, t2, _, t3⟩, _⟩ := I.list (.inl (.inl h1))
      obtain ⟨bs, k1, k2⟩ := show_all I R hn h3 (by omega) rv
      have hna := k1.no full (show wDs ds < 10 + wDs ds by omega)
      refine call_repr_slot (by omega) ⟨o, t1, t2⟩ PySem.F.slot_list_repr.toG ?_
      cases its with
      | nil =>
        have e : shs nm ds = [] := List.length_eq_zero_iff.mp k2.length_eq
        have e2 : sh nm (.lst ds) = listText [] := by
          show listText (shs nm ds) = _
          rw [e]
        rw [e2, listText_nil] at q
        exact call_list_repr_empty ⟨o, t1, t2⟩ t1 t3 ⟨_, _, rfl, .str _, H, I.tok _, ⟨_, rfl⟩, q⟩
      | cons x its =>
        exact call_list_reprK t1 t2 t3 hna (by simpa using k2.length_eq) (fun i y e => k2.item i y (by simpa using e)) hg (fun b _ => Clear.nil b) (by show X.A.units + 1 + (2 * n + 2 + 1) < cLine; omega) (fun _ _ e => e)
          (fun h' u tk hk => ⟨_, _, rfl, .str _, H, I.kept hk, ⟨_, rfl⟩, q⟩) hle
    · cases ru
      have hw : 60 + wDs ds ≤ 10000000 := hw
      obtain ⟨its, rv, pl, _⟩ := I.list (.inl (.inl h1))
      obtain ⟨bs, k1, k2⟩ := show_all I R hn h3 (by omega) rv
      have fl : DatAt F C (2 ^ 90) L (n + 1) H (.ref l) (.lst ds) := .llst f h1 h2 h3
      have hnl := k1.no fl (show wDs ds < 10 + wDs ds by omega)
      have kl := show_list (xs := xs) pl hnl k2
      have w1 : Wn H C (10 + wDs ds) (l :: bs) := fun b hb => by
        rcases List.mem_cons.mp hb with rfl | hb
        · exact ⟨_, _, _, _, _, fl, Nat.le_refl _⟩
        · exact k1.mono (show wDs ds ≤ 10 + wDs ds by omega) b hb
      have hna := w1.no full (show 10 + wDs ds < 60 + wDs ds by omega)
      obtain ⟨o, es, ep, d1, d2, d3, hsys, d4⟩ := show_dic I h0 kl
      exact call_repr_slot (by omega) ⟨o, d1, d2⟩ PySem.F.slot_dict_repr (call_dict_reprK d1 d2 d3 hsys hna d4 hg (fun b _ => Clear.nil b) (by show X.A.units + 1 + (2 * n + 2 + 1 + 1) < cLine; omega) (fun _ _ e => e)
        (fun h' u tk hk => ⟨_, _, rfl, .str _, H, I.kept hk, ⟨_, rfl⟩, q⟩) hle)
end
end Kb

namespace Kb
open PySem PySem.Spec PyProof.Rows L2 SrtZ SrtO
/-- what its kinds say of an own class of errors -/
structure XcT (K : PySem.W.Frag) (C : Addr) : Prop where
  isC : L2.ExcC K C
  eqQ : PySem.ExQ K C
  kI : PySem.W.kitOne K (.ref C) (.type "int") = some false
  kB : PySem.W.kitOne K (.ref C) (.type "bool") = some false
  kS : PySem.W.kitOne K (.ref C) (.type "str") = some false
  kT : PySem.W.kitOne K (.ref C) (.type "tuple") = some false
/-- a value's type, errors too -/
def TyE (K : PySem.W.Frag) (H : Hp) (v : V) (t : Value) : Prop := TyX K H v t ∨ ∃ a t0 C, v = .ref a ∧ t = .ref C ∧ H a = some (ExN C a t0) ∧ L2.ExcC K C
def rIsE' (K : PySem.W.Frag) : List V → Hp → VK → Prop := fun xs H Q => ∃ (x c : V) (t u : Value) (b : Bool), xs = [x, c] ∧ ClsV c u ∧ TyE K H x t ∧ PySem.W.kitOne K t u = some b ∧ Q (.bl b) H
theorem call_isD {X : Cx} {K : PySem.W.Frag} (hK : X.K = K) : CallR X (.builtin "isinstance") (rIsE' K) := by
  subst hK
  intro pins s σ H xs us Q I r h
  obtain ⟨x, c, t, u, b, rfl, k, ty | ⟨a, t0, C, rfl, rfl, ha, hC⟩, e, q⟩ := h
  · exact call_isi pins s σ H _ us Q I r ⟨x, c, t, u, b, rfl, k, ty, e, q⟩
  · obtain ⟨u1, u2, rfl, r1, r2⟩ := vals2 r
    have e2 := k.eq r2
    subst e2
    cases r1
    obtain ⟨⟨oe, vs, ho, hz, hd, _⟩, _, _⟩ := I.hok a _ ha
    have J : PySem.W.InstAt s.heap a oe C none := by
      obtain ⟨oc, od, oda, osl⟩ := oe
      obtain ⟨h1, h2⟩ := hz
      dsimp only at h1 h2 hd
      subst h1 h2 hd
      exact ⟨ho, rfl, rfl, trivial⟩
    exact PySem.W.kia_one (PySem.W.handS_kitx_exc hC.hg hC.hk hC.hs hC.hd hC.ha hC.hn hC.ht hC.hm) I.kIn J e (fun z => nomatch z) fun tk => ⟨.bl b, H, I.kept (t' := tk) fun _ _ z => z, rfl, q⟩
def isI : Dat → Bool
  | .int _ => true
  | .bl _ => true
  | _ => false
def isBd : Dat → Bool
  | .bl _ => true
  | _ => false
def isS : Dat → Bool
  | .str _ => true
  | _ => false
def isT : Dat → Bool
  | .tup _ => true
  | _ => false
theorem DatAt.cases {F : Addr → Prop} {C : Addr} {B L n : Nat} {H : Hp} {v : V} {d : Dat} (h : DatAt F C B L n H v d) : LfAt C B L H v d ∨ (∃ m a xs ds, n = m + 1 ∧ v = .ref a ∧ d = .tup ds ∧ Ptp H a xs ∧ xs.length ≤ L ∧ Paired (DatAt F C B L m H) xs ds) ∨ (∃ m a xs ds, n = m + 1 ∧ v = .ref a ∧ d = .lst ds ∧ ¬ F a ∧ H a = some (.lst xs) ∧ xs.length ≤ L ∧ Paired (DatAt F C B L m H) xs ds) ∨
    (∃ m a l xs ds, n = m + 1 ∧ v = .ref a ∧ d = .dic ds ∧ H a = some (.dK [(.inr (Str.ofString "a"), .ref l), (.inl 1, .non)]) ∧ ¬ F l ∧ H l = some (.lst xs) ∧ xs.length ≤ L ∧ Paired (DatAt F C B L m H) xs ds) := by
  cases n with
  | zero => exact .inl h
  | succ n =>
    rcases h with h | ⟨a, xs, ds, e1, e2, h1, h2, h3⟩ | ⟨a, xs, ds, e1, e2, f, h1, h2, h3⟩ | ⟨a, l, xs, ds, e1, e2, h0, f, h1, h2, h3⟩
    · exact .inl h
    · exact .inr (.inl ⟨n, a, xs, ds, rfl, e1, e2, h1, h2, h3⟩)
    · exact .inr (.inr (.inl ⟨n, a, xs, ds, rfl, e1, e2, f, h1, h2, h3⟩))
    · exact .inr (.inr (.inr ⟨n, a, l, xs, ds, rfl, e1, e2, h0, f, h1, h2, h3⟩))
/-- the kinds of anything -/
theorem DatAt.ty {K : PySem.W.Frag} {F : Addr → Prop} {C : Addr} {B L n : Nat} {H : Hp} {v : V} {d : Dat} (c : XcT K C) (h : DatAt F C B L n H v d) : ∃ t, TyE K H v t ∧ PySem.W.kitOne K t (.type "int") = some (isI d) ∧ PySem.W.kitOne K t (.type "bool") = some (isBd d) ∧ PySem.W.kitOne K t (.type "str") = some (isS d) ∧ PySem.W.kitOne K t (.type "tuple") = some (isT d) := by
  rcases h.cases with h | ⟨m, a, xs, ds, rfl, rfl, rfl, h1, h2, h3⟩ | ⟨m, a, xs, ds, rfl, rfl, rfl, f, h1, h2, h3⟩ | ⟨m, a, l, xs, ds, rfl, rfl, rfl, h0, f, h1, h2, h3⟩
  · cases d with
    | non =>
      cases (show v = .non from h)
      exact ⟨.type "NoneType", .inl (.base .non), kit_ty (show kitB "NoneType" "int" = some false by decide +kernel), kit_ty (show kitB "NoneType" "bool" = some false by decide +kernel), kit_ty (show kitB "NoneType" "str" = some false by decide +kernel), kit_ty (show kitB "NoneType" "tuple" = some false by decide +kernel)⟩
    | bl b =>
      cases (show v = .bl b from h)
      exact ⟨.type "bool", .inl (.base (.bl b)), kit_ty (show kitB "bool" "int" = some true by decide +kernel), kit_ty (show kitB "bool" "bool" = some true by decide +kernel), kit_ty (show kitB "bool" "str" = some false by decide +kernel), kit_ty (show kitB "bool" "tuple" = some false by decide +kernel)⟩
    | int i =>
      cases h.1
      exact ⟨.type "int", .inl (.base (.int i)), kit_ty (show kitB "int" "int" = some true by decide +kernel), kit_ty (show kitB "int" "bool" = some false by decide +kernel), kit_ty (show kitB "int" "str" = some false by decide +kernel), kit_ty (show kitB "int" "tuple" = some false by decide +kernel)⟩
    | str z =>
      cases h.1
      exact ⟨.type "str", .inl (.base (.str z)), kit_ty (show kitB "str" "int" = some false by decide +kernel), kit_ty (show kitB "str" "bool" = some false by decide +kernel), kit_ty (show kitB "str" "str" = some true by decide +kernel), kit_ty (show kitB "str" "tuple" = some false by decide +kernel)⟩
    | err =>
      obtain ⟨a, t0, rfl, h1, h2⟩ := h
      exact ⟨.ref C, .inr ⟨a, t0, C, rfl, rfl, h1, c.isC⟩, c.kI, c.kB, c.kS, c.kT⟩
    | tup _ => exact h.elim
    | lst _ => exact h.elim
    | dic _ => exact h.elim
  · exact ⟨.type "tuple", .inl (tyT (K := K) h1.seq), kit_ty (show kitB "tuple" "int" = some false by decide +kernel), kit_ty (show kitB "tuple" "bool" = some false by decide +kernel), kit_ty (show kitB "tuple" "str" = some false by decide +kernel), kit_ty (show kitB "tuple" "tuple" = some true by decide +kernel)⟩
  · exact ⟨.type "list", .inl (.base (.lst h1)), kit_ty (show kitB "list" "int" = some false by decide +kernel), kit_ty (show kitB "list" "bool" = some false by decide +kernel), kit_ty (show kitB "list" "str" = some false by decide +kernel), kit_ty (show kitB "list" "tuple" = some false by decide +kernel)⟩
  · exact ⟨.type "dict", .inl (.base (.dK h0)), kit_ty (show kitB "dict" "int" = some false by decide +kernel), kit_ty (show kitB "dict" "bool" = some false by decide +kernel), kit_ty (show kitB "dict" "str" = some false by decide +kernel), kit_ty (show kitB "dict" "tuple" = some false by decide +kernel)⟩
theorem DatAt.int {F : Addr → Prop} {C : Addr} {B L n : Nat} {H : Hp} {v : V} {i : Int} (h : DatAt F C B L n H v (.int i)) : v = .int i ∧ i.natAbs ≤ B := by
  rcases h.cases with h | ⟨m, a, xs, ds, rfl, rfl, e, _⟩ | ⟨m, a, xs, ds, rfl, rfl, e, _⟩ | ⟨m, a, l, xs, ds, rfl, rfl, e, _⟩
  · exact h
  all_goals cases e
theorem DatAt.str {F : Addr → Prop} {C : Addr} {B L n : Nat} {H : Hp} {v : V} {z : Str} (h : DatAt F C B L n H v (.str z)) : v = .str z ∧ z.length ≤ L ∧ ascB z = true := by
  rcases h.cases with h | ⟨m, a, xs, ds, rfl, rfl, e, _⟩ | ⟨m, a, xs, ds, rfl, rfl, e, _⟩ | ⟨m, a, l, xs, ds, rfl, rfl, e, _⟩
  · exact h
  all_goals cases e
theorem DatAt.tup {F : Addr → Prop} {C : Addr} {B L n : Nat} {H : Hp} {v : V} {ds : List Dat} (h : DatAt F C B L n H v (.tup ds)) : ∃ m a xs, n = m + 1 ∧ v = .ref a ∧ Ptp H a xs ∧ xs.length ≤ L ∧ Paired (DatAt F C B L m H) xs ds := by
  rcases h.cases with h | ⟨m, a, xs, ds, rfl, rfl, e, h1, h2, h3⟩ | ⟨m, a, xs, ds, rfl, rfl, e, _⟩ | ⟨m, a, l, xs, ds, rfl, rfl, e, _⟩
  · exact h.elim
  · cases e
    exact ⟨m, a, xs, rfl, rfl, h1, h2, h3⟩
  all_goals cases e
/-- all but the well stays, and the well is forbidden -/
theorem dk_exw {F : Addr → Prop} {C a c : Addr} {H H' : Hp} (x : Exw a H H') (w : Wl a c H) (f : F a) : DKeep F C H H' :=
  ⟨fun b xs ⟨o, e, d⟩ => ⟨o, x.at w e (by intro _ z; cases z), d⟩, fun b xs n h => x b _ (fun z => n (by rw [z]; exact f)) h, fun b k h => x.at w h (by intro _ z; cases z), fun b t h => x.at w h (by intro _ z; cases z)⟩
/-- what was there is there -/
theorem Exw.dom {a c : Addr} {H H' : Hp} (x : Exw a H H') (w' : Wl a c H') : ∀ b, H b ≠ none → H' b ≠ none := fun b hb => by
  by_cases e : b = a
  · subst e
    obtain ⟨_, ns, t, u, z, e1, _⟩ := w'
    rw [e1]
    intro z
    cases z
  · cases h : H b with
    | none => exact absurd h hb
    | some o => rw [x b o e h]; intro z; cases z
theorem Wl.dom {a c : Addr} {H : Hp} (w : Wl a c H) : H a ≠ none := by
  obtain ⟨_, ns, t, u, z, e1, _⟩ := w
  rw [e1]
  intro z
  cases z
theorem Same.dom {H H' : Hp} (s : Same H H') : ∀ b, H b ≠ none → H' b ≠ none := fun b hb => by
  cases h : H b with
  | none => exact absurd h hb
  | some o => rw [s b o h]; intro z; cases z
/-- anything, as the judges meet it -/
def DtA0 (K : PySem.W.Frag) (H : Hp) (v : V) (d : Dat) : Prop := (∃ (F : Addr → Prop) (C : Addr) (n : Nat), XcT K C ∧ DatAt F C (2 ^ 90) 60000 n H v d) ∨ (d = .dic [] ∧ ∃ a k, v = .ref a ∧ H a = some (.dK k))
theorem DtA0.same {K : PySem.W.Frag} {H H' : Hp} {v : V} {d : Dat} (h : DtA0 K H v d) (s : Same H H') : DtA0 K H' v d := by
  rcases h with ⟨F, C, n, c, h⟩ | ⟨e, a, k, ev, h⟩
  · exact .inl ⟨F, C, n, c, h.same s⟩
  · exact .inr ⟨e, a, k, ev, s _ _ h⟩
theorem DtA0.ty {K : PySem.W.Frag} {H : Hp} {v : V} {d : Dat} (h : DtA0 K H v d) : ∃ t, TyE K H v t ∧ PySem.W.kitOne K t (.type "int") = some (isI d) ∧ PySem.W.kitOne K t (.type "bool") = some (isBd d) ∧ PySem.W.kitOne K t (.type "str") = some (isS d) ∧ PySem.W.kitOne K t (.type "tuple") = some (isT d) := by
  rcases h with ⟨F, C, n, c, h⟩ | ⟨rfl, a, k, rfl, h0⟩
  · exact h.ty c
  · exact ⟨.type "dict", .inl (.base (.dK h0)), kit_ty (show kitB "dict" "int" = some false by decide +kernel), kit_ty (show kitB "dict" "bool" = some false by decide +kernel), kit_ty (show kitB "dict" "str" = some false by decide +kernel), kit_ty (show kitB "dict" "tuple" = some false by decide +kernel)⟩
theorem DtA0.tup {K : PySem.W.Frag} {H : Hp} {v : V} {ds : List Dat} (h : DtA0 K H v (.tup ds)) : ∃ a xs, v = .ref a ∧ Ptp H a xs ∧ xs.length ≤ 60000 ∧ Paired (DtA0 K H) xs ds := by
  rcases h with ⟨F, C, n, c, h⟩ | ⟨e, _⟩
  · obtain ⟨m, a, xs, rfl, rfl, h1, h2, h3⟩ := h.tup
    exact ⟨a, xs, rfl, h1, h2, paired_imp (fun _ _ h => .inl ⟨F, C, m, c, h⟩) h3⟩
  · cases e
theorem DtA0.int {K : PySem.W.Frag} {H : Hp} {v : V} {i : Int} (h : DtA0 K H v (.int i)) : v = .int i ∧ i.natAbs ≤ 2 ^ 90 := by
  rcases h with ⟨F, C, n, c, h⟩ | ⟨e, _⟩
  · exact h.int
  · cases e
theorem DtA0.str {K : PySem.W.Frag} {H : Hp} {v : V} {z : Str} (h : DtA0 K H v (.str z)) : v = .str z ∧ z.length ≤ 60000 := by
  rcases h with ⟨F, C, n, c, h⟩ | ⟨e, _⟩
  · exact ⟨h.str.1, h.str.2.1⟩
  · cases e
/-- the same, or a tuple of one such -/
def DtAt (K : PySem.W.Frag) (H : Hp) (v : V) (d : Dat) : Prop := DtA0 K H v d ∨ ∃ a x e, v = .ref a ∧ d = .tup [e] ∧ Ptp H a [x] ∧ DtA0 K H x e
theorem DtAt.of {K : PySem.W.Frag} {H : Hp} {v : V} {d : Dat} {F : Addr → Prop} {C : Addr} {n : Nat} (c : XcT K C) (h : DatAt F C (2 ^ 90) 60000 n H v d) : DtAt K H v d := .inl (.inl ⟨F, C, n, c, h⟩)
theorem DtAt.same {K : PySem.W.Frag} {H H' : Hp} {v : V} {d : Dat} (h : DtAt K H v d) (s : Same H H') : DtAt K H' v d := by
  rcases h with h | ⟨a, x, e, ev, ed, h1, h2⟩
  · exact .inl (h.same s)
  · exact .inr ⟨a, x, e, ev, ed, h1.same s, h2.same s⟩
theorem DtAt.ty {K : PySem.W.Frag} {H : Hp} {v : V} {d : Dat} (h : DtAt K H v d) : ∃ t, TyE K H v t ∧ PySem.W.kitOne K t (.type "int") = some (isI d) ∧ PySem.W.kitOne K t (.type "bool") = some (isBd d) ∧ PySem.W.kitOne K t (.type "str") = some (isS d) ∧ PySem.W.kitOne K t (.type "tuple") = some (isT d) := by
  rcases h with h | ⟨a, x, e, rfl, rfl, h1, _⟩
  · exact h.ty
  · exact ⟨.type "tuple", .inl (tyT (K := K) h1.seq), kit_ty (show kitB "tuple" "int" = some false by decide +kernel), kit_ty (show kitB "tuple" "bool" = some false by decide +kernel), kit_ty (show kitB "tuple" "str" = some false by decide +kernel), kit_ty (show kitB "tuple" "tuple" = some true by decide +kernel)⟩
theorem DtAt.tup {K : PySem.W.Frag} {H : Hp} {v : V} {ds : List Dat} (h : DtAt K H v (.tup ds)) : ∃ a xs, v = .ref a ∧ Ptp H a xs ∧ xs.length ≤ 60000 ∧ Paired (DtAt K H) xs ds := by
  rcases h with h | ⟨a, x, e, rfl, ed, h1, h2⟩
  · obtain ⟨a, xs, e, h1, h2, h3⟩ := h.tup
    exact ⟨a, xs, e, h1, h2, paired_imp (fun _ _ h => .inl h) h3⟩
  · cases ed
    exact ⟨a, [x], rfl, h1, (by show 1 ≤ 60000; decide), .cons (.inl h2) .nil⟩
theorem DtAt.int {K : PySem.W.Frag} {H : Hp} {v : V} {i : Int} (h : DtAt K H v (.int i)) : v = .int i ∧ i.natAbs ≤ 2 ^ 90 := by
  rcases h with h | ⟨_, _, _, _, e, _⟩
  · exact h.int
  · cases e
theorem DtAt.str {K : PySem.W.Frag} {H : Hp} {v : V} {z : Str} (h : DtAt K H v (.str z)) : v = .str z ∧ z.length ≤ 60000 := by
  rcases h with h | ⟨_, _, _, _, e, _⟩
  · exact h.str
  · cases e
/-! the judges -/
def intD : Dat → Option Int
  | .int i => some i
  | _ => none
def geI (d : Dat) : Int := (intD d).getD 0
def isRB : Option Int → Bool
  | some i => decide (1 ≤ i) && decide (i ≤ 64)
  | none => false
def isNB : Option Int → Bool
  | some i => decide (0 ≤ i)
  | none => false
def isPB : Option Int → Bool
  | some i => decide (1 ≤ i)
  | none => false
def nmB (z : Str) : Bool := decide (1 ≤ z.length) && (decide (z.length ≤ 8) && (cs z).all nmC)
theorem nmB_nm {z : Str} : nmB z = true ↔ Nm z := by
  unfold nmB
  rw [Bool.and_eq_true, Bool.and_eq_true, decide_eq_true_eq, decide_eq_true_eq, List.all_eq_true]
  exact ⟨fun ⟨a, b, c⟩ => ⟨a, b, c⟩, fun ⟨a, b, c⟩ => ⟨a, b, c⟩⟩
def nameD : Dat → Bool
  | .str z => nmB z
  | _ => false
def cntB : Dat → Bool
  | .tup [d1, d2] => nameD d1 && isPB (intD d2)
  | _ => false
def nmOf : Dat → Str
  | .tup (.str z :: _) => z
  | _ => Str.ofString ""
def ctsB : Str → List Dat → Bool
  | _, [] => true
  | la, d :: ds => cntB d && (ltZ la (nmOf d) && ctsB (nmOf d) ds)
def ctD : Dat → Bool
  | .tup ks => ctsB (Str.ofString "") ks
  | _ => false
def lenD : Dat → Nat
  | .tup ks => ks.length
  | _ => 0
def kvO : Dat → Str × Int
  | .tup [.str z, .int i] => (z, i)
  | _ => (Str.ofString "", 0)
def kvD : Dat → Ct
  | .tup ks => ks.map kvO
  | _ => []
def skD : Dat → Bool
  | .tup [d1, d2, d3, d4] => isRB (intD d1) && (isNB (intD d2) && (isNB (intD d3) && (ctD d4 && (decide ((lenD d4 : Int) ≤ geI d1) && (decide ((geI d1 + 1) * geI d3 ≤ geI d2 - sumC (kvD d4)) && decide (geI d2 - sumC (kvD d4) ≤ 2 * geI d1 * geI d3))))))
  | _ => false
def isSRB : Option Int → Bool
  | some i => decide (2 ≤ i) && decide (i ≤ 65)
  | none => false
def spD : Dat → Bool
  | .tup [d1, d2, d3] => isSRB (intD d1) && ((intD d2).isSome && (ctD d3 && (decide ((lenD d3 : Int) ≤ geI d1) && decide (geI d2 = sumC (kvD d3)))))
  | _ => false
theorem cntB_is {d : Dat} (h : cntB d = true) : ∃ z i, d = .tup [.str z, .int i] ∧ Nm z ∧ 1 ≤ i := by
  match d, h with
  | .tup [d1, d2], h =>
    have h : (nameD d1 && isPB (intD d2)) = true := h
    rw [Bool.and_eq_true] at h
    obtain ⟨h1, h2⟩ := h
    cases d1 with
    | str z =>
      cases d2 with
      | int i => exact ⟨z, i, rfl, nmB_nm.mp h1, of_decide_eq_true h2⟩
      | _ => cases h2
    | _ => cases h1
theorem ctsB_cts : ∀ {ks : List Dat} {la : Str}, ctsB la ks = true → Cts (ks.map kvO) ∧ (∀ e ∈ ks.map kvO, ltZ la e.1 = true) ∧ ∀ d ∈ ks, cntB d = true
  | [], _, _ => ⟨⟨fun _ h => (nomatch h), fun _ h => (nomatch h), .nil⟩, fun _ h => (nomatch h), fun _ h => (nomatch h)⟩
  | d :: ds, la, h => by
    have h : (cntB d && (ltZ la (nmOf d) && ctsB (nmOf d) ds)) = true := h
    rw [Bool.and_eq_true, Bool.and_eq_true] at h
    obtain ⟨h1, h2, h3⟩ := h
    obtain ⟨c, l, al⟩ := ctsB_cts h3
    obtain ⟨z, i, rfl, hz, hi⟩ := cntB_is h1
    have h2 : ltZ la z = true := h2
    have l : ∀ e ∈ ds.map kvO, ltZ z e.1 = true := l
    refine ⟨⟨fun e he => ?_, fun e he => ?_, List.Pairwise.cons (fun e he => l e he) c.asc⟩, fun e he => ?_, fun d hd => ?_⟩
    · rcases List.mem_cons.mp he with rfl | he
      · exact hz
      · exact c.nm e he
    · rcases List.mem_cons.mp he with rfl | he
      · exact hi
      · exact c.pos e he
    · rcases List.mem_cons.mp he with rfl | he
      · exact h2
      · exact ltZ_trans h2 (l e he)
    · rcases List.mem_cons.mp hd with rfl | hd
      · exact h1
      · exact al d hd
/-- counts that are right, where they stand -/
theorem pr_of {K : PySem.W.Frag} {H : Hp} {v : V} {d : Dat} (h : DtAt K H v d) (c : cntB d = true) : ∃ t, v = .ref t ∧ PrAt K H t (kvO d) := by
  obtain ⟨z, i, rfl, hz, hi⟩ := cntB_is c
  obtain ⟨a, xs, rfl, h1, h2, h3⟩ := h.tup
  refine ⟨a, rfl, ?_⟩
  cases h3 with
  | cons e1 h3 =>
    cases h3 with
    | cons e2 h3 =>
      cases h3
      obtain ⟨rfl, _⟩ := e1.str
      obtain ⟨rfl, _⟩ := e2.int
      exact h1.seq
theorem prs_of {K : PySem.W.Frag} {H : Hp} : ∀ {xs : List V} {ks : List Dat}, Paired (DtAt K H) xs ks → (∀ d ∈ ks, cntB d = true) → ∃ ts : List Addr, xs = ts.map V.ref ∧ Paired (PrAt K H) ts (ks.map kvO)
  | _, _, .nil, _ => ⟨[], rfl, .nil⟩
  | _, _, .cons h t, c => by
    obtain ⟨a, rfl, ha⟩ := pr_of h (c _ List.mem_cons_self)
    obtain ⟨ts, rfl, hts⟩ := prs_of t fun d hd => c d (List.mem_cons_of_mem _ hd)
    exact ⟨a :: ts, rfl, .cons ha hts⟩
end Kb

namespace Kb
open PySem PySem.Spec PyProof.Rows L2 SrtZ SrtO
section
variable {P : Program} {w : World} {K : PySem.W.Frag} {mg : Str → Option Value} {base : Heap}
/-! is_int .. is_room, of anything -/
def spIsIntD (K : PySem.W.Frag) : Sp := fun vs H Q _ => ∃ (v : V) (d : Dat), vs = [v] ∧ DtAt K H v d ∧ Q (.bl (intD d).isSome) H
theorem ok_is_intD (T : Blt mg) (d : DnIsInt K mg) : FnOk P w K mg base CX0 1 d.f d.fd ["thing"] (spIsIntD K) := by
  refine d.F.ok scP_is_int (fun vs H Q E h => ?_) (fun cdv A outer s H vs Q E hr h => ?_)
  · obtain ⟨v, n, rfl, _⟩ := h
    rfl
  · obtain ⟨v, x, rfl, hx, q⟩ := h
    refine ⟨_, (pss_one (ps_ret (pe_and (pe_callB (call_isD (K := K) rfl) (by rfl) T.n_isinstance (by decide +kernel) (pa_cons (pv 0) (pa_cons (pe_bltn (v := .ty "int") (by rfl) T.n_int (by decide +kernel) rfl) pa_nil))) (pe_one (pe_not (pe_callB (call_isD (K := K) rfl) (by rfl) T.n_isinstance (by decide +kernel) (pa_cons (pv 0) (pa_cons (pe_bltn (v := .ty "bool") (by rfl) T.n_bool (by decide +kernel) rfl) pa_nil)))))))), ?_⟩
    obtain ⟨t, ty, kI, kB, kS, kT⟩ := hx.ty
    refine ⟨v, rfl, v, _, t, _, isI x, rfl, .ty "int", ty, kI, isI x, rfl, ?_⟩
    cases x with
    | int i => exact iteT ⟨_, rfl, _, _, t, _, false, rfl, .ty "bool", ty, kB, false, rfl, q⟩
    | bl b => exact iteT ⟨_, rfl, _, _, t, _, true, rfl, .ty "bool", ty, kB, true, rfl, q⟩
    | _ => exact iteF q
def spIsNumberD (K : PySem.W.Frag) : Sp := fun vs H Q _ => ∃ (v : V) (d : Dat), vs = [v] ∧ DtAt K H v d ∧ Q (.bl (isNB (intD d))) H
theorem ok_is_numberD (T : Blt mg) (dP_is_int : DnIsInt K mg) (d : DnIsNumber K mg) : FnOk P w K mg base CX0 2 d.f d.fd ["thing"] (spIsNumberD K) := by
  have GP_is_int : FnOk P w K mg base CX0 1 dP_is_int.f dP_is_int.fd ["thing"] (spIsIntD K) := ok_is_intD T dP_is_int
  refine d.F.ok scP_is_number (fun vs H Q E h => ?_) (fun cdv A outer s H vs Q E hr h => ?_)
  · obtain ⟨v, n, rfl, _⟩ := h
    rfl
  · obtain ⟨v, x, rfl, hx, q⟩ := h
    refine ⟨_, (pss_one (ps_ret (pe_and (pe_call GP_is_int (hr.mono (by omega)) (by rfl) dP_is_int.g dP_is_int.F.kp dP_is_int.b .nil pass0 (pa_cons (pv 0) pa_nil)) (pe_one (pe_cmpR op_ge (pv 0) pe_int (nomark _)))))), ?_⟩
    refine ⟨v, rfl, v, x, rfl, hx, (intD x).isSome, rfl, ?_⟩
    cases x with
    | int i =>
      obtain ⟨rfl, _⟩ := hx.int
      exact iteT ⟨.int i, rfl, _, _, rfl, rfl, q⟩
    | _ => exact iteF q
def spIsRoomD (K : PySem.W.Frag) : Sp := fun vs H Q _ => ∃ (v : V) (d : Dat), vs = [v] ∧ DtAt K H v d ∧ Q (.bl (isRB (intD d))) H
theorem ok_is_roomD (T : Blt mg) (cM : Cst mg "MOST_ROOM" (.int 64)) (dP_is_int : DnIsInt K mg) (d : DnIsRoom K mg) : FnOk P w K mg base CX0 2 d.f d.fd ["thing"] (spIsRoomD K) := by
  have GP_is_int : FnOk P w K mg base CX0 1 dP_is_int.f dP_is_int.fd ["thing"] (spIsIntD K) := ok_is_intD T dP_is_int
  refine d.F.ok scP_is_room (fun vs H Q E h => ?_) (fun cdv A outer s H vs Q E hr h => ?_)
  · obtain ⟨v, n, rfl, _⟩ := h
    rfl
  · obtain ⟨v, x, rfl, hx, q⟩ := h
    refine ⟨_, (pss_one (ps_ret (pe_and (pe_call GP_is_int (hr.mono (by omega)) (by rfl) dP_is_int.g dP_is_int.F.kp dP_is_int.b .nil pass0 (pa_cons (pv 0) pa_nil)) (pe_one (pe_chain op_le op_le pe_int (pv 0) (pe_glob rfl cM.g cM.r)))))), ?_⟩
    refine ⟨v, rfl, v, x, rfl, hx, (intD x).isSome, rfl, ?_⟩
    cases x with
    | int i =>
      obtain ⟨rfl, _⟩ := hx.int
      have q : Q (.bl (decide (1 ≤ i) && decide (i ≤ 64))) H := q
      refine iteT ⟨.int i, rfl, _, _, rfl, rfl, decide (1 ≤ i), rfl, ite2 (fun e => ⟨_, _, rfl, rfl, ?_⟩) (fun e => ?_)⟩
      · rw [e, Bool.true_and] at q
        exact q
      · rw [show decide (1 ≤ i) = false from by simpa using e, Bool.false_and] at q
        exact q
    | _ => exact iteF q
/-! is_name, of anything -/
def spIsNameD (K : PySem.W.Frag) : Sp := fun vs H Q _ => ∃ (v : V) (d : Dat), vs = [v] ∧ DtAt K H v d ∧ ∀ H', Same H H' → Q (.bl (nameD d)) H'
theorem ok_is_nameD (T : Blt mg) (cL : Cst mg "LONGEST_NAME" (.int 8)) (d : DnIsName K mg) : FnOk P w K mg base CX0 1 d.f d.fd ["thing"] (spIsNameD K) := by
  refine d.F.ok scP_is_name (fun vs H Q E h => ?_) (fun cdv A outer s H vs Q E hr h => ?_)
  · obtain ⟨v, n, rfl, _⟩ := h
    rfl
  · obtain ⟨v, x, rfl, hx, q⟩ := h
    refine ⟨_, (pss_cons (ps_if (PW.pt (pw_or (pt_not (pt_val (pe_callB (call_isD (K := K) rfl) (by rfl) T.n_isinstance (by decide +kernel) (pa_cons (pv 0) (pa_cons (pe_bltn (v := .ty "str") (by rfl) T.n_str (by decide +kernel) rfl) pa_nil))))) (pw_or1 (pt_not (pt_chain op_le op_le pe_int (pe_callB call_len_str (by rfl) T.n_len (by decide +kernel) (pa_cons (pv 0) pa_nil)) (pe_glob rfl cL.g cL.r))))))
      (pss_one (ps_ret pe_bl))
      pss_nil)
    (pss_one (ps_ret (pe_callB (cr_all rfl) (by rfl) T.n_all (by decide +kernel) (pa_cons (pe_lc (own := [("letter", 1)]) (g := gName 1) (tt := tYes) rfl scP_is_name.nd (pi_str (pv 0)) (blkOk_by (N := NP_is_name) (sc := defScope sP_is_name) (by decide +kernel)) (fun _ _ _ _ _ => pg_name (i := 1) scP_is_name.nd rfl (Or.inl rfl)) (fun _ _ _ _ _ => pts_nil) (fun _ _ _ _ _ => (pe_chain op_le_str op_le_str pe_str (pv 1) pe_str))) pa_nil))))), ?_⟩
    obtain ⟨t, ty, kI, kB, kS, kT⟩ := hx.ty
    refine ⟨v, rfl, v, _, t, _, isS x, rfl, .ty "str", ty, kS, isS x, rfl, ?_⟩
    cases x with
    | str z =>
      obtain ⟨rfl, hz⟩ := hx.str
      have q : ∀ H', Same H H' → Q (.bl (decide (1 ≤ z.length) && (decide (z.length ≤ 8) && (cs z).all nmC))) H' := q
      refine iteF ⟨.str z, rfl, z, rfl, (by rw [sizeLine_eq]; omega), _, _, rfl, rfl, ?_⟩
      by_cases h1 : 1 ≤ z.length
      · rw [decide_eq_true h1, Bool.true_and] at q
        refine ⟨true, congrArg V.bl (decide_eq_true (by omega)), iteT ⟨_, _, rfl, rfl, ?_⟩⟩
        by_cases h8 : z.length ≤ 8
        · rw [decide_eq_true h8, Bool.true_and] at q
          refine ⟨true, congrArg V.bl (decide_eq_true (by omega)), iteF ⟨.str z, rfl, z, rfl, fun D nD => ?_⟩⟩
          refine lc_it walk_str (fun i H3 => Same H H3 ∧ H3 D = some (.lst (((cs z).take i).map fun c => V.bl (nmC c)))) ⟨same_upd nD, upd_same⟩ (fun _ _ _ _ => trivial) (fun i x H3 H4 hi h3 y => ?_) (fun H3 h3 => ?_)
          · obtain ⟨rfl, c, hc, rfl⟩ := y
            have hc2 : (cs z)[i]? = some c := by
              rw [← hc]
              simp [cs]
            have fin : ∃ xs, H4 D = some (.lst xs) ∧ xs.length + 1 ≤ sizeLine ∧ (Same H (upd H4 D (.lst (xs ++ [V.bl (nmC c)]))) ∧ (upd H4 D (.lst (xs ++ [V.bl (nmC c)]))) D = some (.lst (((cs z).take (i + 1)).map fun c => V.bl (nmC c)))) := by
              refine ⟨_, h3.2, ?_, fun b o e => ?_, ?_⟩
              · rw [List.length_map, List.length_take, sizeLine_eq]
                have := cs_len z
                omega
              · rw [upd_ne (ne_of_none e nD)]
                exact h3.1 b o e
              · rw [upd_same, List.take_add_one, hc2, List.map_append]
                rfl
            have e1 : (!decide ((cs ⟨#[c]⟩) < (Str.ofString "a").cps.toList)) = !decide (c < 97) := by
              rw [show (Str.ofString "a").cps.toList = [97] by decide +kernel]
              show (!decide ([c] < [97])) = _
              rw [lt_one]
            have e2 : (!decide ((Str.ofString "z").cps.toList < cs ⟨#[c]⟩)) = !decide (122 < c) := by
              rw [show (Str.ofString "z").cps.toList = [122] by decide +kernel]
              show (!decide ([122] < [c])) = _
              rw [lt_one]
            refine ⟨rfl, .str ⟨#[c]⟩, rfl, _, _, rfl, rfl, !decide (c < 97), congrArg V.bl e1, ite2 (fun ea => ⟨_, _, rfl, rfl, ?_⟩) (fun ea => ?_)⟩
            · have en : nmC c = !decide (122 < c) := by
                unfold nmC
                rw [ea, Bool.true_and]
              rw [en] at fin
              show ∃ xs, _
              rw [show (!decide ((Str.ofString "z").cps.toList < ([c] : List Nat))) = !decide (122 < c) from e2]
              exact fin
            · have en : nmC c = false := by
                unfold nmC
                rw [show (!decide (c < 97)) = false by simpa using ea, Bool.false_and]
              rw [en] at fin
              exact fin
          · refine ⟨D, (cs z).map nmC, rfl, sql ?_, ?_⟩
            · rw [h3.2, List.map_map]
              rw [List.take_of_length_le (by
                show (cs z).length ≤ z.cps.size
                simp [cs])]
              rfl
            · rw [show ((cs z).map nmC).all id = (cs z).all nmC by rw [List.all_map]; rfl]
              exact q H3 h3.1
        · rw [decide_eq_false h8, Bool.false_and] at q
          exact ⟨false, congrArg V.bl (decide_eq_false (by omega)), iteT (q H (Same.refl H))⟩
      · rw [decide_eq_false h1, Bool.false_and] at q
        exact ⟨false, congrArg V.bl (decide_eq_false (by omega)), iteF ⟨false, rfl, iteT (q H (Same.refl H))⟩⟩
    | _ => exact iteT (iteT (q H (Same.refl H)))
end
end Kb

namespace Kb
open PySem PySem.Spec PyProof.Rows L2 SrtZ SrtO
section
variable {P : Program} {w : World} {K : PySem.W.Frag} {mg : Str → Option Value} {base : Heap}
/-! _is_counted, are_counts -/
def spIsCountedD (K : PySem.W.Frag) : Sp := fun vs H Q _ => ∃ (v : V) (d : Dat), vs = [v] ∧ DtAt K H v d ∧ ∀ H', Same H H' → Q (.bl (cntB d)) H'
theorem ok_is_countedD (T : Blt mg) (cL : Cst mg "LONGEST_NAME" (.int 8)) (dP_is_int : DnIsInt K mg) (dP_is_name : DnIsName K mg) (d : DnIsCounted K mg) : FnOk P w K mg base CX0 2 d.f d.fd ["pair"] (spIsCountedD K) := by
  have GP_is_int : FnOk P w K mg base CX0 1 dP_is_int.f dP_is_int.fd ["thing"] (spIsIntD K) := ok_is_intD T dP_is_int
  have GP_is_name : FnOk P w K mg base CX0 1 dP_is_name.f dP_is_name.fd ["thing"] (spIsNameD K) := ok_is_nameD T cL dP_is_name
  refine d.F.ok scP_is_counted (fun vs H Q E h => ?_) (fun cdv A outer s H vs Q E hr h => ?_)
  · obtain ⟨v, n, rfl, _⟩ := h
    rfl
  · obtain ⟨v, x, rfl, hx, q⟩ := h
    refine ⟨_, (pss_cons (ps_if (PW.pt (pw_or (pt_not (pt_val (pe_callB (call_isD (K := K) rfl) (by rfl) T.n_isinstance (by decide +kernel) (pa_cons (pv 0) (pa_cons (pe_bltn (v := .ty "tuple") (by rfl) T.n_tuple (by decide +kernel) rfl) pa_nil))))) (pw_or1 (pt_cmpR op_ne (pe_callB call_len_seq (by rfl) T.n_len (by decide +kernel) (pa_cons (pv 0) pa_nil)) pe_int (nomark _)))))
      (pss_one (ps_ret pe_bl))
      pss_nil)
    (pss_one (ps_ret (pe_and (pe_call GP_is_name (hr.mono (by omega)) (by rfl) dP_is_name.g dP_is_name.F.kp dP_is_name.b .nil pass0 (pa_cons (pe_ix ix_tup (pv 0) pe_int (fun _ _ => rfl)) pa_nil)) (pe_and (pe_call GP_is_int (hr.mono (by omega)) (by rfl) dP_is_int.g dP_is_int.F.kp dP_is_int.b .nil pass0 (pa_cons (pe_ix ix_tup (pv 0) pe_int (fun _ _ => rfl)) pa_nil)) (pe_one (pe_cmpR op_ge (pe_ix ix_tup (pv 0) pe_int (fun _ _ => rfl)) pe_int (nomark _)))))))), ?_⟩
    obtain ⟨t, ty, kI, kB, kS, kT⟩ := hx.ty
    refine ⟨v, rfl, v, _, t, _, isT x, rfl, .ty "tuple", ty, kT, isT x, rfl, ?_⟩
    cases x with
    | tup ds =>
      obtain ⟨a, xs, rfl, h1, h2, h3⟩ := hx.tup
      have hl := Paired.length h3
      refine iteF ⟨.ref a, rfl, a, _, rfl, .inr h1.seq, rfl, ?_⟩
      have long : ds.length ≠ 2 → cntB (.tup ds) = false := fun hn => by
        match ds, hn with
        | [], _ => rfl
        | [_], _ => rfl
        | [_, _], h => exact absurd rfl h
        | _ :: _ :: _ :: _, _ => rfl
      by_cases h2l : ds.length = 2
      · have hx2 : ((xs.length : Nat) : Int) = 2 := by omega
        refine ⟨false, congrArg V.bl (by rw [hx2]; rfl), iteF ?_⟩
        obtain ⟨d1, d2, rfl⟩ : ∃ d1 d2, ds = [d1, d2] := match ds, h2l with | [d1, d2], _ => ⟨d1, d2, rfl⟩
        obtain ⟨x1, x2, rfl⟩ : ∃ x1 x2, xs = [x1, x2] := match xs, hl with | [x1, x2], _ => ⟨x1, x2, rfl⟩
        have e1 : DtAt K H x1 d1 := by cases h3 with | cons e _ => exact e
        have e2 : DtAt K H x2 d2 := by cases h3 with | cons _ h => cases h with | cons e _ => exact e
        have q : ∀ H', Same H H' → Q (.bl (nameD d1 && isPB (intD d2))) H' := q
        refine ⟨.ref a, rfl, a, _, _, _, rfl, rfl, h1.seq, atI_nat (j := 0) rfl, x1, d1, rfl, e1, fun H1 s1 => ⟨nameD d1, rfl, ?_⟩⟩
        have h1' := h1.same s1
        cases c1 : nameD d1 with
        | false =>
          rw [c1, Bool.false_and] at q
          exact iteF (q H1 s1)
        | true =>
          rw [c1, Bool.true_and] at q
          refine iteT ⟨.ref a, rfl, a, _, _, _, rfl, rfl, h1'.seq, atI_nat (j := 1) rfl, x2, d2, rfl, e2.same s1, (intD d2).isSome, rfl, ?_⟩
          cases d2 with
          | int i =>
            obtain ⟨rfl, _⟩ := e2.int
            exact iteT ⟨.ref a, rfl, a, _, _, _, rfl, rfl, h1'.seq, atI_nat (j := 1) rfl, _, _, rfl, rfl, q H1 s1⟩
          | _ => exact iteF (q H1 s1)
      · rw [long h2l] at q
        refine ⟨true, congrArg V.bl ?_, iteT (q H (Same.refl H))⟩
        rw [decide_eq_false (by
          intro z
          injection z with z
          omega)]
        rfl
    | _ => exact iteT (iteT (q H (Same.refl H)))
def spAreCountsD (K : PySem.W.Frag) : Sp := fun vs H Q _ => ∃ (v : V) (d : Dat), vs = [v] ∧ DtAt K H v d ∧ ∀ H', Same H H' → Q (.bl (ctD d)) H'
theorem ok_are_countsD (T : Blt mg) (cL : Cst mg "LONGEST_NAME" (.int 8)) (dP_is_int : DnIsInt K mg) (dP_is_name : DnIsName K mg) (dP_is_counted : DnIsCounted K mg) (d : DnAreCounts K mg) : FnOk P w K mg base CX0 3 d.f d.fd ["thing"] (spAreCountsD K) := by
  have GP_is_counted : FnOk P w K mg base CX0 2 dP_is_counted.f dP_is_counted.fd ["pair"] (spIsCountedD K) := ok_is_countedD T cL dP_is_int dP_is_name dP_is_counted
  refine d.F.ok scP_are_counts (fun vs H Q E h => ?_) (fun cdv A outer s H vs Q E hr h => ?_)
  · obtain ⟨v, n, rfl, _⟩ := h
    rfl
  · obtain ⟨v, x, rfl, hx, q⟩ := h
    refine ⟨_, (pss_cons (ps_if (pt_not (pt_val (pe_callB (call_isD (K := K) rfl) (by rfl) T.n_isinstance (by decide +kernel) (pa_cons (pv 0) (pa_cons (pe_bltn (v := .ty "tuple") (by rfl) T.n_tuple (by decide +kernel) rfl) pa_nil)))))
      (pss_one (ps_ret pe_bl))
      pss_nil)
    (pss_cons (ps_set (i := 1) scP_are_counts.nd rfl (Or.inl rfl) pe_str)
    (pss_cons (ps_for PassesOwn.never rfl (pi_tup (pv 0)) (pg_name (i := 2) scP_are_counts.nd rfl (Or.inl rfl))
      (pss_cons (ps_if (PW.pt (pw_or (pt_not (pt_val (pe_call GP_is_counted (hr.mono (by omega)) (by rfl) dP_is_counted.g dP_is_counted.F.kp dP_is_counted.b .nil pass0 (pa_cons (pv 2) pa_nil)))) (pw_or1 (pt_cmpR op_le_str (pe_ix ix_tup (pv 2) pe_int (fun _ _ => rfl)) (pv 1) (nomark _)))))
        (pss_one (ps_ret pe_bl))
        pss_nil)
      (pss_one (ps_set (i := 1) scP_are_counts.nd rfl (Or.inl rfl) (pe_ix ix_tup (pv 2) pe_int (fun _ _ => rfl))))))
    (pss_one (ps_ret pe_bl))))), ?_⟩
    obtain ⟨t, ty, kI, kB, kS, kT⟩ := hx.ty
    refine ⟨v, rfl, v, _, t, _, isT x, rfl, .ty "tuple", ty, kT, isT x, rfl, ?_⟩
    cases x with
    | tup ds =>
      obtain ⟨a, xs, rfl, h1, h2, h3⟩ := hx.tup
      have hl := Paired.length h3
      have q : ∀ H', Same H H' → Q (.bl (ctsB (Str.ofString "") ds)) H' := q
      refine iteF ⟨.ref a, rfl, a, rfl, ⟨_, h1.seq⟩, for_tup (xs := xs) (fun i σ H3 => ∃ (la : Str) (x : Option V), σ = [some (.ref a), some (.str la), x] ∧ Same H H3 ∧ ctsB (Str.ofString "") ds = ctsB la (ds.drop i))
        ⟨Str.ofString "", none, rfl, Same.refl H, rfl⟩ (fun i σ H3 _ ⟨_, _, _, s3, _⟩ => (h1.same s3).seq) ?_ ?_⟩
      · rintro i v σ H3 hi ⟨la, x, rfl, s3, ee⟩
        obtain ⟨e, he, hat⟩ := paired_at h3 hi
        have hde : ds.drop i = e :: ds.drop (i + 1) := by
          obtain ⟨hlt, hg⟩ := List.getElem?_eq_some_iff.mp he
          rw [List.drop_eq_getElem_cons hlt, hg]
        rw [hde] at ee
        have ee : ctsB (Str.ofString "") ds = (cntB e && (ltZ la (nmOf e) && ctsB (nmOf e) (ds.drop (i + 1)))) := ee
        have hat3 := hat.same s3
        refine ⟨v, rfl, v, e, rfl, hat3, fun H4 s4 => ⟨cntB e, rfl, ?_⟩⟩
        have s04 := Same.trans s3 s4
        cases ce : cntB e with
        | false =>
          rw [ce, Bool.false_and] at ee
          rw [ee] at q
          exact iteT (iteT (q H4 s04))
        | true =>
          rw [ce, Bool.true_and] at ee
          obtain ⟨z, n, rfl, hz, hn⟩ := cntB_is ce
          obtain ⟨p, ys, rfl, g1, g2, g3⟩ := (hat3.same s4).tup
          have ee : ctsB (Str.ofString "") ds = (ltZ la z && ctsB z (ds.drop (i + 1))) := ee
          have iz : ys[0]? = some (.str z) := by
            cases g3 with
            | cons k _ =>
              obtain ⟨rfl, _⟩ := k.str
              rfl
          refine iteF ⟨.ref p, rfl, p, _, _, _, rfl, rfl, g1.seq, atI_nat (j := 0) iz, .str la, rfl, _, _, rfl, rfl, !ltZ la z, rfl, ?_⟩
          cases cl : ltZ la z with
          | false =>
            rw [cl, Bool.false_and] at ee
            rw [ee] at q
            exact iteT (q H4 s04)
          | true =>
            rw [cl, Bool.true_and] at ee
            exact iteF ⟨.ref p, rfl, p, _, _, _, rfl, rfl, g1.seq, atI_nat (j := 0) iz, z, some (.ref p), rfl, s04, ee⟩
      · rintro σ H3 ⟨la, x, rfl, s3, ee⟩
        rw [hl, List.drop_length] at ee
        have ee : ctsB (Str.ofString "") ds = true := ee
        rw [ee] at q
        exact q H3 s3
    | _ => exact iteT (q H (Same.refl H))
end
end Kb

namespace Kb
open PySem PySem.Spec PyProof.Rows L2 SrtZ SrtO
section
variable {P : Program} {w : World} {K : PySem.W.Frag} {mg : Str → Option Value} {base : Heap}
theorem skD_long {ds : List Dat} (h : ds.length ≠ 4) : skD (.tup ds) = false := by
  match ds, h with
  | [], _ => rfl
  | [_], _ => rfl
  | [_, _], _ => rfl
  | [_, _, _], _ => rfl
  | [_, _, _, _], h => exact absurd rfl h
  | _ :: _ :: _ :: _ :: _ :: _, _ => rfl
theorem four {α : Type} {xs : List α} (h : xs.length = 4) : ∃ a b c d, xs = [a, b, c, d] := match xs, h with | [a, b, c, d], _ => ⟨a, b, c, d, rfl⟩
theorem paired4 {α β : Type} {F : α → β → Prop} {a b c d : α} {e f g h : β} (p : Paired F [a, b, c, d] [e, f, g, h]) : F a e ∧ F b f ∧ F c g ∧ F d h := by
  cases p with | cons h1 p =>
  cases p with | cons h2 p =>
  cases p with | cons h3 p =>
  cases p with | cons h4 p =>
  exact ⟨h1, h2, h3, h4⟩
/-- counts that are right, as they stand -/
theorem ct_of {H : Hp} {v : V} {d : Dat} (h : DtAt K H v d) (c : ctD d = true) : ∃ k, v = .ref k ∧ CtAt K H k (kvD d) ∧ Cts (kvD d) ∧ (kvD d).length = lenD d := by
  cases d with
  | tup ks =>
    obtain ⟨k, ys, rfl, g1, g2, g3⟩ := h.tup
    obtain ⟨cc, _, al⟩ := ctsB_cts (show ctsB (Str.ofString "") ks = true from c)
    obtain ⟨ts, rfl, hts⟩ := prs_of g3 al
    exact ⟨k, rfl, ⟨ts, g1.seq, hts⟩, cc, by
      show (ks.map kvO).length = ks.length
      rw [List.length_map]⟩
  | _ => cases c
theorem isRB_is {d : Dat} (h : isRB (intD d) = true) : ∃ r, d = .int r ∧ 1 ≤ r ∧ r ≤ 64 := by
  cases d with
  | int r =>
    have h : (decide (1 ≤ r) && decide (r ≤ 64)) = true := h
    rw [Bool.and_eq_true, decide_eq_true_eq, decide_eq_true_eq] at h
    exact ⟨r, rfl, h.1, h.2⟩
  | _ => cases h
theorem isNB_is {d : Dat} (h : isNB (intD d) = true) : ∃ r, d = .int r ∧ 0 ≤ r := by
  cases d with
  | int r => exact ⟨r, rfl, of_decide_eq_true h⟩
  | _ => cases h
def Dat.at0 : Dat → Dat
  | .tup (d :: _) => d
  | _ => .non
theorem cts_nd {kvs : Ct} (c : Cts kvs) : NdZ kvs := List.pairwise_map.mpr (c.asc.imp fun h e => by rw [e, ltZ_irr] at h; cases h)
/-! is_sketch, of anything -/
def spIsSketchD (K : PySem.W.Frag) : Sp := fun vs H Q _ => ∃ (v : V) (d : Dat), vs = [v] ∧ DtAt K H v d ∧ ∀ H', Same H H' → Q (.bl (skD d)) H'
theorem ok_is_sketchD (T : Blt mg) (cM : Cst mg "MOST_ROOM" (.int 64)) (cL : Cst mg "LONGEST_NAME" (.int 8)) (dP_is_int : DnIsInt K mg) (dP_is_number : DnIsNumber K mg) (dP_is_room : DnIsRoom K mg) (dP_is_name : DnIsName K mg) (dP_is_counted : DnIsCounted K mg) (dP_are_counts : DnAreCounts K mg)
    (dP_lost_of : DnLostOf K mg) (d : DnIsSketch K mg) : FnOk P w K mg base CX0 4 d.f d.fd ["thing"] (spIsSketchD K) := by
  have GP_is_room : FnOk P w K mg base CX0 2 dP_is_room.f dP_is_room.fd ["thing"] (spIsRoomD K) := ok_is_roomD T cM dP_is_int dP_is_room
  have GP_is_number : FnOk P w K mg base CX0 2 dP_is_number.f dP_is_number.fd ["thing"] (spIsNumberD K) := ok_is_numberD T dP_is_int dP_is_number
  have GP_are_counts : FnOk P w K mg base CX0 3 dP_are_counts.f dP_are_counts.fd ["thing"] (spAreCountsD K) := ok_are_countsD T cL dP_is_int dP_is_name dP_is_counted dP_are_counts
  have GP_lost_of : FnOk P w K mg base CX0 1 dP_lost_of.f dP_lost_of.fd ["sketch"] (spLostOf K) := ok_lost_of T dP_lost_of
  refine d.F.ok scP_is_sketch (fun vs H Q E h => ?_) (fun cdv A outer s H vs Q E hr h => ?_)
  · obtain ⟨v, n, rfl, _⟩ := h
    rfl
  · obtain ⟨v, x, rfl, hx, q⟩ := h
    refine ⟨_, (pss_cons (ps_if (PW.pt (pw_or (pt_not (pt_val (pe_callB (call_isD (K := K) rfl) (by rfl) T.n_isinstance (by decide +kernel) (pa_cons (pv 0) (pa_cons (pe_bltn (v := .ty "tuple") (by rfl) T.n_tuple (by decide +kernel) rfl) pa_nil))))) (pw_or1 (pt_cmpR op_ne (pe_callB call_len_seq (by rfl) T.n_len (by decide +kernel) (pa_cons (pv 0) pa_nil)) pe_int (nomark _)))))
      (pss_one (ps_ret pe_bl))
      pss_nil)
    (pss_cons (ps_asg (pv 0) (pg_tup (by rfl) (pgs_cons (pg_name (i := 1) scP_is_sketch.nd rfl (Or.inl rfl)) (pgs_cons (pg_name (i := 2) scP_is_sketch.nd rfl (Or.inl rfl)) (pgs_cons (pg_name (i := 3) scP_is_sketch.nd rfl (Or.inl rfl)) (pgs_cons (pg_name (i := 4) scP_is_sketch.nd rfl (Or.inl rfl)) pgs_nil))))))
    (pss_cons (ps_if (PW.pt (pw_or (pt_not (pt_val (pe_call GP_is_room (hr.mono (by omega)) (by rfl) dP_is_room.g dP_is_room.F.kp dP_is_room.b .nil pass0 (pa_cons (pv 1) pa_nil)))) (pw_or (pt_not (pt_val (pe_call GP_is_number (hr.mono (by omega)) (by rfl) dP_is_number.g dP_is_number.F.kp dP_is_number.b .nil pass0 (pa_cons (pv 2) pa_nil)))) (pw_or1 (pt_not (pt_val (pe_call GP_is_number (hr.mono (by omega)) (by rfl) dP_is_number.g dP_is_number.F.kp dP_is_number.b .nil pass0 (pa_cons (pv 3) pa_nil))))))))
      (pss_one (ps_ret pe_bl))
      pss_nil)
    (pss_cons (ps_if (PW.pt (pw_or (pt_not (pt_val (pe_call GP_are_counts (hr.mono (by omega)) (by rfl) dP_are_counts.g dP_are_counts.F.kp dP_are_counts.b .nil pass0 (pa_cons (pv 4) pa_nil)))) (pw_or1 (pt_cmpR op_gt (pe_callB call_len_seq (by rfl) T.n_len (by decide +kernel) (pa_cons (pv 4) pa_nil)) (pv 1) (nomark _)))))
      (pss_one (ps_ret pe_bl))
      pss_nil)
    (pss_one (ps_ret (pe_chain op_le op_le (pe_op op_mul (pe_op op_add (pv 1) pe_int) (pv 3)) (pe_call GP_lost_of (hr.mono (by omega)) (by rfl) dP_lost_of.g dP_lost_of.F.kp dP_lost_of.b .nil pass0 (pa_cons (pv 0) pa_nil)) (pe_op op_mul (pe_op op_mul pe_int (pv 1)) (pv 3))))))))), ?_⟩
    obtain ⟨t, ty, kI, kB, kS, kT⟩ := hx.ty
    refine ⟨v, rfl, v, _, t, _, isT x, rfl, .ty "tuple", ty, kT, isT x, rfl, ?_⟩
    cases x with
    | tup ds =>
      obtain ⟨a, xs, rfl, h1, h2, h3⟩ := hx.tup
      have hl := Paired.length h3
      refine iteF ⟨.ref a, rfl, a, _, rfl, .inr h1.seq, rfl, ?_⟩
      by_cases h2l : ds.length = 4
      · obtain ⟨d1, d2, d3, d4, rfl⟩ := four h2l
        obtain ⟨x1, x2, x3, x4, rfl⟩ := four (hl.trans h2l)
        obtain ⟨e1, e2, e3, e4⟩ := paired4 h3
        refine ⟨false, rfl, iteF ?_⟩
        refine ⟨.ref a, rfl, a, _, rfl, h1.seq, rfl, _, _, rfl, _, _, rfl, _, _, rfl, _, _, rfl, rfl, ?_⟩
        have q : ∀ H', Same H H' → Q (.bl (isRB (intD d1) && (isNB (intD d2) && (isNB (intD d3) && (ctD d4 && (decide ((lenD d4 : Int) ≤ geI d1) && (decide ((geI d1 + 1) * geI d3 ≤ geI d2 - sumC (kvD d4)) && decide (geI d2 - sumC (kvD d4) ≤ 2 * geI d1 * geI d3)))))))) H' := q
        refine ⟨x1, rfl, x1, d1, rfl, e1, isRB (intD d1), rfl, ?_⟩
        cases eR : isRB (intD d1) with
        | false =>
          rw [eR, Bool.false_and] at q
          exact iteT (iteT (q H (Same.refl H)))
        | true =>
          rw [eR, Bool.true_and] at q
          refine iteF ⟨x2, rfl, x2, d2, rfl, e2, isNB (intD d2), rfl, ?_⟩
          cases eM : isNB (intD d2) with
          | false =>
            rw [eM, Bool.false_and] at q
            exact iteT (iteT (q H (Same.refl H)))
          | true =>
            rw [eM, Bool.true_and] at q
            refine iteF ⟨x3, rfl, x3, d3, rfl, e3, isNB (intD d3), rfl, ?_⟩
            cases eO : isNB (intD d3) with
            | false =>
              rw [eO, Bool.false_and] at q
              exact iteT (q H (Same.refl H))
            | true =>
              rw [eO, Bool.true_and] at q
              refine iteF ⟨x4, rfl, x4, d4, rfl, e4, fun H1 s1 => ⟨ctD d4, rfl, ?_⟩⟩
              cases eC : ctD d4 with
              | false =>
                rw [eC, Bool.false_and] at q
                exact iteT (iteT (q H1 s1))
              | true =>
                rw [eC, Bool.true_and] at q
                obtain ⟨k, rfl, hk, cc, hlen⟩ := ct_of e4 eC
                obtain ⟨r, rfl, r1, r64⟩ := isRB_is eR
                obtain ⟨m, rfl, m0⟩ := isNB_is eM
                obtain ⟨o, rfl, o0⟩ := isNB_is eO
                obtain ⟨rfl, _⟩ := e1.int
                obtain ⟨rfl, _⟩ := e2.int
                obtain ⟨rfl, _⟩ := e3.int
                generalize hkv : kvD d4 = kvs at hk cc hlen q
                rw [← hlen] at q
                have q : ∀ H', Same H H' → Q (.bl (decide ((kvs.length : Int) ≤ r) && (decide ((r + 1) * o ≤ m - sumC kvs) && decide (m - sumC kvs ≤ 2 * r * o)))) H' := q
                obtain ⟨ts, hS, hp⟩ := hk.same s1
                have el : (ts.map V.ref).length = kvs.length := by rw [List.length_map, Paired.length hp]
                refine iteF ⟨.ref k, rfl, k, _, rfl, .inr hS, .int r, rfl, _, _, rfl, rfl, _, rfl, ?_⟩
                rw [el]
                by_cases eL : (kvs.length : Int) ≤ r
                · rw [show decide ((kvs.length : Int) > r) = false from decide_eq_false (by omega)]
                  rw [decide_eq_true eL, Bool.true_and] at q
                  refine iteF ?_
                  refine ⟨.int r, rfl, _, _, rfl, rfl, .int o, rfl, _, _, rfl, rfl, cmulL (by omega) (by omega), .ref a, rfl, a, k, r, m, o, kvs, rfl, (h1.same s1).seq, ⟨ts, hS, hp⟩, by omega, fun H2 s2 => ⟨_, _, rfl, rfl, _, rfl, ?_⟩⟩
                  by_cases e1 : (r + 1) * o ≤ m - sumC kvs
                  · rw [decide_eq_true e1] at q ⊢
                    rw [Bool.true_and] at q
                    refine iteT ⟨.int r, rfl, _, _, rfl, rfl, cmulL (by decide) (by decide), .int o, rfl, _, _, rfl, rfl, cmulL (by omega) (by omega), _, _, rfl, rfl, ?_⟩
                    exact q H2 fun b o z => s2 b o (s1 b o z)
                  · rw [decide_eq_false e1] at q ⊢
                    rw [Bool.false_and] at q
                    exact iteF (q H2 fun b o z => s2 b o (s1 b o z))
                · rw [show decide ((kvs.length : Int) > r) = true from decide_eq_true (by omega)]
                  rw [decide_eq_false eL, Bool.false_and] at q
                  exact iteT (q H1 s1)
      · rw [skD_long h2l] at q
        refine ⟨true, congrArg V.bl ?_, iteT (q H (Same.refl H))⟩
        rw [decide_eq_false (by
          intro z
          injection z with z
          omega)]
        rfl
    | _ => exact iteT (iteT (q H (Same.refl H)))
end
end Kb

namespace Kb
open PySem PySem.Spec PyProof.Rows L2 SrtZ SrtO
/-! trees, as anything -/
def eqD : Dat → Str → Bool
  | .str y, z => decide (y = z)
  | _, _ => false
theorem DatAt.eqS {K : PySem.W.Frag} {F : Addr → Prop} {C : Addr} {B L n : Nat} {H : Hp} {v : V} {d : Dat} (c : XcT K C) (h : DatAt F C B L n H v d) (z : Str) : EqSE K H v z (eqD d z) := by
  rcases h.cases with h | ⟨m, a, xs, ds, rfl, rfl, rfl, h1, h2, h3⟩ | ⟨m, a, xs, ds, rfl, rfl, rfl, f, h1, h2, h3⟩ | ⟨m, a, l, xs, ds, rfl, rfl, rfl, h0, f, h1, h2, h3⟩
  · cases d with
    | non =>
      cases (show v = .non from h)
      exact .inl (.inl ⟨rfl, rfl⟩)
    | bl b =>
      cases (show v = .bl b from h)
      exact .inl (.inr (.inr (.inl ⟨b, rfl, rfl⟩)))
    | int i =>
      cases h.1
      exact .inl (.inr (.inl ⟨i, rfl, rfl⟩))
    | str y =>
      cases h.1
      exact .inl (.inr (.inr (.inr (.inl ⟨y, rfl, rfl⟩))))
    | err =>
      obtain ⟨a, t0, rfl, h1, h2⟩ := h
      exact .inr ⟨rfl, a, t0, C, rfl, h1, c.eqQ⟩
    | tup _ => exact h.elim
    | lst _ => exact h.elim
    | dic _ => exact h.elim
  · exact .inl (.inr (.inr (.inr (.inr ⟨a, rfl, rfl, .inr (.inl ⟨xs, h1.seq⟩)⟩))))
  · exact .inl (.inr (.inr (.inr (.inr ⟨a, rfl, rfl, .inl ⟨xs, sql h1⟩⟩))))
  · exact .inl (.inr (.inr (.inr (.inr ⟨a, rfl, rfl, .inr (.inr ⟨_, h0⟩)⟩))))
theorem DtAt.eqS {K : PySem.W.Frag} {H : Hp} {v : V} {d : Dat} (h : DtAt K H v d) (z : Str) : EqSE K H v z (eqD d z) := by
  rcases h with (⟨F, C, n, c, h⟩ | ⟨rfl, a, k, rfl, h0⟩) | ⟨a, x, e, rfl, rfl, h1, _⟩
  · exact h.eqS c z
  · exact .inl (.inr (.inr (.inr (.inr ⟨a, rfl, rfl, .inr (.inr ⟨_, h0⟩)⟩))))
  · exact .inl (.inr (.inr (.inr (.inr ⟨a, rfl, rfl, .inr (.inl ⟨_, h1.seq⟩)⟩))))
def stmD : Dat → Bool
  | .tup ds => ds.all nameD
  | _ => false
def putD : Dat → Bool
  | .tup [d0, _] => eqD d0 (Str.ofString "stream")
  | _ => false
def pouD : Dat → Bool
  | .tup [d0] => eqD d0 (Str.ofString "pour")
  | _ => false
def at1 : Dat → Dat
  | .tup [_, d1] => d1
  | _ => .non
def goD : Int → Int → List Dat → Option (Int × Int)
  | h, m, [] => some (h, m)
  | h, m, d :: ds => if (putD d && stmD (at1 d)) = true then goD (h + 1) (m + (lenD (at1 d) : Int)) ds else if (pouD d && decide (2 ≤ h)) = true then goD (h - 1) m ds else none
def enD : Option (Int × Int) → Bool
  | some (h, m) => decide (h = 1) && decide (m ≤ 50000)
  | none => false
def treeD : Dat → Bool
  | .tup ds => decide (ds.length ≤ 5000) && enD (goD 0 0 ds)
  | _ => false
theorem put_len {ds : List Dat} (h : ds.length ≠ 2) : putD (.tup ds) = false := by
  match ds, h with
  | [], _ => rfl
  | [_], _ => rfl
  | [_, _], h => exact absurd rfl h
  | _ :: _ :: _ :: _, _ => rfl
theorem pou_len {ds : List Dat} (h : ds.length ≠ 1) : pouD (.tup ds) = false := by
  match ds, h with
  | [], _ => rfl
  | [_], h => exact absurd rfl h
  | _ :: _ :: _, _ => rfl
theorem putD_is {d : Dat} (h : putD d = true) : ∃ d1, d = .tup [.str (Str.ofString "stream"), d1] := by
  match d, h with
  | .tup [d0, d1], h =>
    have h : eqD d0 (Str.ofString "stream") = true := h
    cases d0 with
    | str y => exact ⟨d1, by rw [of_decide_eq_true h]⟩
    | _ => cases h
theorem pouD_is {d : Dat} (h : pouD d = true) : d = .tup [.str (Str.ofString "pour")] := by
  match d, h with
  | .tup [d0], h =>
    have h : eqD d0 (Str.ofString "pour") = true := h
    cases d0 with
    | str y => rw [of_decide_eq_true h]
    | _ => cases h
theorem stmD_is {d : Dat} (h : stmD d = true) : ∃ ds, d = .tup ds ∧ ∀ e ∈ ds, nameD e = true := by
  cases d with
  | tup ds => exact ⟨ds, rfl, List.all_eq_true.mp h⟩
  | _ => cases h
theorem paired_to {α β : Type} {F : α → β → Prop} : ∀ {xs : List α} {ys : List β}, Paired F xs ys → ∀ {i : Nat} {y : β}, ys[i]? = some y → ∃ x, xs[i]? = some x ∧ F x y
  | _, _, .nil, _, _, h => nomatch h
  | _, _, .cons h t, 0, _, e => by cases e; exact ⟨_, rfl, h⟩
  | _, _, .cons _ t, i + 1, _, e => paired_to t (i := i) e
theorem two {α : Type} {xs : List α} (h : xs.length = 2) : ∃ a b, xs = [a, b] := match xs, h with | [a, b], _ => ⟨a, b, rfl⟩
theorem one {α : Type} {xs : List α} (h : xs.length = 1) : ∃ a, xs = [a] := match xs, h with | [a], _ => ⟨a, rfl⟩
section
variable {P : Program} {w : World} {K : PySem.W.Frag} {mg : Str → Option Value} {base : Heap}
/-! is_stream, of anything -/
def spIsStreamD (K : PySem.W.Frag) : Sp := fun vs H Q _ => ∃ (v : V) (d : Dat), vs = [v] ∧ DtAt K H v d ∧ ∀ H', Same H H' → Q (.bl (stmD d)) H'
theorem ok_is_streamD (T : Blt mg) (cL : Cst mg "LONGEST_NAME" (.int 8)) (dP_is_name : DnIsName K mg) (d : DnIsStream K mg) : FnOk P w K mg base CX0 2 d.f d.fd ["thing"] (spIsStreamD K) := by
  have GP_is_name : FnOk P w K mg base CX0 1 dP_is_name.f dP_is_name.fd ["thing"] (spIsNameD K) := ok_is_nameD T cL dP_is_name
  refine d.F.ok scP_is_stream (fun vs H Q E h => ?_) (fun cdv A outer s H vs Q E hr h => ?_)
  · obtain ⟨v, x, rfl, _⟩ := h
    rfl
  · obtain ⟨v, x, rfl, hx, q⟩ := h
    refine ⟨_, (pss_one (ps_ret (pe_and (pe_callB (call_isD (K := K) rfl) (by rfl) T.n_isinstance (by decide +kernel) (pa_cons (pv 0) (pa_cons (pe_bltn (v := .ty "tuple") (by rfl) T.n_tuple (by decide +kernel) rfl) pa_nil))) (pe_one (pe_callB (cr_all rfl) (by rfl) T.n_all (by decide +kernel) (pa_cons (pe_lc (own := [("item", 1)]) (g := gName 1) (tt := tYes) rfl scP_is_stream.nd (pi_tup (pv 0)) (blkOk_by (N := NP_is_stream) (sc := defScope sP_is_stream) (by decide +kernel)) (fun _ _ _ _ _ => pg_name (i := 1) scP_is_stream.nd rfl (Or.inl rfl)) (fun _ _ _ _ _ => pts_nil) (fun _ _ _ _ _ => (pe_call GP_is_name (hr.mono (by omega)) (by rfl) dP_is_name.g dP_is_name.F.kp dP_is_name.b .nil pass0 (pa_cons (pv 1) pa_nil)))) pa_nil)))))), ?_⟩
    obtain ⟨t, ty, kI, kB, kS, kT⟩ := hx.ty
    refine ⟨v, rfl, v, _, t, _, isT x, rfl, .ty "tuple", ty, kT, isT x, rfl, ?_⟩
    cases x with
    | tup ds =>
      obtain ⟨a, xs, rfl, h1, h2, h3⟩ := hx.tup
      have hl := Paired.length h3
      refine iteT ⟨.ref a, rfl, a, rfl, ⟨_, h1.seq⟩, fun D nD => lc_tup (xs := xs) (fun i H3 => Same H H3 ∧ H3 D = some (.lst ((ds.take i).map fun d => V.bl (nameD d)))) ⟨same_upd nD, upd_same⟩ (fun i H3 _ h4 => (h1.same h4.1).seq) (fun i x H3 hx4 h4 => ?_) (fun H3 h4 => ?_)⟩
      · obtain ⟨e, he, hat⟩ := paired_at h3 hx4
        refine ⟨rfl, x, rfl, x, e, rfl, hat.same h4.1, fun H4 s4 => ⟨_, s4 _ _ h4.2, ?_, fun b o z => ?_, ?_⟩⟩
        · rw [List.length_map, List.length_take, sizeLine_eq]
          omega
        · rw [upd_ne (ne_of_none z nD)]
          exact s4 b o (h4.1 b o z)
        · rw [upd_same, List.take_add_one, he, List.map_append]
          rfl
      · refine ⟨D, ds.map nameD, rfl, sql (by rw [h4.2, hl, List.take_length, List.map_map]; rfl), ?_⟩
        rw [show (ds.map nameD).all id = ds.all nameD by rw [List.all_map]; rfl]
        exact q H3 h4.1
    | _ => exact iteF (q H (Same.refl H))
/-! _is_put, _is_pour, of anything -/
def spIsPutD (K : PySem.W.Frag) : Sp := fun vs H Q _ => ∃ (v : V) (d : Dat), vs = [v, .str (Str.ofString "stream")] ∧ DtAt K H v d ∧ Q (.bl (putD d)) H
theorem ok_is_putD (T : Blt mg) (d : DnIsPut K mg) : FnOk P w K mg base CX0 1 d.p.f d.p.fd ["step", "word"] (spIsPutD K) := by
  refine d.p.F.ok scP_is_put (fun vs H Q E h => ?_) (fun cdv A outer s H vs Q E hr h => ?_)
  · obtain ⟨v, x, rfl, _⟩ := h
    rfl
  · obtain ⟨v, x, rfl, hx, q⟩ := h
    refine ⟨_, (pss_one (ps_ret (pe_and (pe_callB (call_isD (K := K) rfl) (by rfl) T.n_isinstance (by decide +kernel) (pa_cons (pv 0) (pa_cons (pe_bltn (v := .ty "tuple") (by rfl) T.n_tuple (by decide +kernel) rfl) pa_nil))) (pe_and (pe_cmpR op_eq (pe_callB call_len_seq (by rfl) T.n_len (by decide +kernel) (pa_cons (pv 0) pa_nil)) pe_int (nomark _)) (pe_one (pe_cmpR (op_eqSE (K := K) rfl hr.units) (pe_ix ix_tup (pv 0) pe_int (fun _ _ => rfl)) (pv 1) (nomark _))))))), ?_⟩
    obtain ⟨t, ty, kI, kB, kS, kT⟩ := hx.ty
    refine ⟨v, rfl, v, _, t, _, isT x, rfl, .ty "tuple", ty, kT, isT x, rfl, ?_⟩
    cases x with
    | tup ds =>
      obtain ⟨a, xs, rfl, h1, h2, h3⟩ := hx.tup
      have hl := Paired.length h3
      refine iteT ⟨.ref a, rfl, a, _, rfl, .inr h1.seq, rfl, ?_⟩
      by_cases h2l : ds.length = 2
      · obtain ⟨d1, d2, rfl⟩ := two h2l
        obtain ⟨x1, x2, rfl⟩ := two (hl.trans h2l)
        cases h3 with
        | cons e1 _ => exact ⟨true, rfl, iteT ⟨.ref a, rfl, a, _, _, _, rfl, rfl, h1.seq, atI_nat (j := 0) rfl, .str (Str.ofString "stream"), rfl, _, _, rfl, e1.eqS _, q⟩⟩
      · rw [put_len h2l] at q
        refine ⟨false, congrArg V.bl (decide_eq_false (by
          intro z
          injection z with z
          omega)), iteF q⟩
    | _ => exact iteF q
def spIsPourD (K : PySem.W.Frag) : Sp := fun vs H Q _ => ∃ (v : V) (d : Dat), vs = [v] ∧ DtAt K H v d ∧ Q (.bl (pouD d)) H
theorem ok_is_pourD (T : Blt mg) (d : DnIsPour K mg) : FnOk P w K mg base CX0 1 d.f d.fd ["step"] (spIsPourD K) := by
  refine d.F.ok scP_is_pour (fun vs H Q E h => ?_) (fun cdv A outer s H vs Q E hr h => ?_)
  · obtain ⟨v, x, rfl, _⟩ := h
    rfl
  · obtain ⟨v, x, rfl, hx, q⟩ := h
    refine ⟨_, (pss_one (ps_ret (pe_and (pe_callB (call_isD (K := K) rfl) (by rfl) T.n_isinstance (by decide +kernel) (pa_cons (pv 0) (pa_cons (pe_bltn (v := .ty "tuple") (by rfl) T.n_tuple (by decide +kernel) rfl) pa_nil))) (pe_and (pe_cmpR op_eq (pe_callB call_len_seq (by rfl) T.n_len (by decide +kernel) (pa_cons (pv 0) pa_nil)) pe_int (nomark _)) (pe_one (pe_cmpR (op_eqSE (K := K) rfl hr.units) (pe_ix ix_tup (pv 0) pe_int (fun _ _ => rfl)) pe_str (nomark _))))))), ?_⟩
    obtain ⟨t, ty, kI, kB, kS, kT⟩ := hx.ty
    refine ⟨v, rfl, v, _, t, _, isT x, rfl, .ty "tuple", ty, kT, isT x, rfl, ?_⟩
    cases x with
    | tup ds =>
      obtain ⟨a, xs, rfl, h1, h2, h3⟩ := hx.tup
      have hl := Paired.length h3
      refine iteT ⟨.ref a, rfl, a, _, rfl, .inr h1.seq, rfl, ?_⟩
      by_cases h2l : ds.length = 1
      · obtain ⟨d1, rfl⟩ := one h2l
        obtain ⟨x1, rfl⟩ := one (hl.trans h2l)
        cases h3 with
        | cons e1 _ => exact ⟨true, rfl, iteT ⟨.ref a, rfl, a, _, _, _, rfl, rfl, h1.seq, atI_nat (j := 0) rfl, _, _, rfl, e1.eqS _, q⟩⟩
      · rw [pou_len h2l] at q
        refine ⟨false, congrArg V.bl (decide_eq_false (by
          intro z
          injection z with z
          omega)), iteF q⟩
    | _ => exact iteF q
/-! is_tree_of, is_tree, of anything -/
def spIsTreeOfD (K : PySem.W.Frag) (g : Addr) : Sp := fun vs H Q _ => ∃ (v : V) (d : Dat), vs = [v, .str (Str.ofString "stream"), .ref g] ∧ DtAt K H v d ∧ ∀ H', Same H H' → Q (.bl (treeD d)) H'
theorem ok_is_tree_ofD (T : Blt mg) (cL : Cst mg "LONGEST_NAME" (.int 8)) (cS' : Cst mg "MOST_STEPS" (.int 5000)) (cI : Cst mg "MOST_ITEMS" (.int 50000)) (dP_is_name : DnIsName K mg) (dP_is_stream : DnIsStream K mg) (dP_is_put : DnIsPut K mg) (dP_is_pour : DnIsPour K mg) :
    FnOk P w K mg base CX0 3 dP_is_put.o.f dP_is_put.o.fd ["thing", "word", "is_right"] (spIsTreeOfD K dP_is_stream.f) := by
  have GP_is_stream : FnOk P w K mg base CX0 2 dP_is_stream.f dP_is_stream.fd ["thing"] (spIsStreamD K) := ok_is_streamD T cL dP_is_name dP_is_stream
  have GP_is_put : FnOk P w K mg base CX0 1 dP_is_put.p.f dP_is_put.p.fd ["step", "word"] (spIsPutD K) := ok_is_putD T dP_is_put
  have GP_is_pour : FnOk P w K mg base CX0 1 dP_is_pour.f dP_is_pour.fd ["step"] (spIsPourD K) := ok_is_pourD T dP_is_pour
  refine dP_is_put.o.F.ok scP_is_tree_of (fun vs H Q E h => ?_) (fun cdv A outer s H vs Q E hr h => ?_)
  · obtain ⟨v, x, rfl, _⟩ := h
    rfl
  · obtain ⟨v, x, rfl, hx, q⟩ := h
    refine ⟨_, (pss_cons (ps_if (PW.pt (pw_or (pt_not (pt_val (pe_callB (call_isD (K := K) rfl) (by rfl) T.n_isinstance (by decide +kernel) (pa_cons (pv 0) (pa_cons (pe_bltn (v := .ty "tuple") (by rfl) T.n_tuple (by decide +kernel) rfl) pa_nil))))) (pw_or1 (pt_cmpR op_gt (pe_callB call_len_seq (by rfl) T.n_len (by decide +kernel) (pa_cons (pv 0) pa_nil)) (pe_glob rfl cS'.g cS'.r) (nomark _)))))
      (pss_one (ps_ret pe_bl))
      pss_nil)
    (pss_cons (ps_set (i := 3) scP_is_tree_of.nd rfl (Or.inl rfl) pe_int)
    (pss_cons (ps_set (i := 4) scP_is_tree_of.nd rfl (Or.inl rfl) pe_int)
    (pss_cons (ps_for PassesOwn.never rfl (pi_tup (pv 0)) (pg_name (i := 5) scP_is_tree_of.nd rfl (Or.inl rfl))
      (pss_one (ps_if (PW.pt (pw_and (pt_val (pe_call GP_is_put (hr.mono (by omega)) (by rfl) dP_is_put.p.g dP_is_put.p.F.kp dP_is_put.p.b .nil pass0 (pa_cons (pv 5) (pa_cons (pv 1) pa_nil)))) (pw_and1 (pt_val (pe_callL (i := 2) GP_is_stream (hr.mono (by omega)) rfl (.inl rfl) dP_is_stream.F.kp dP_is_stream.b .nil pass0 (pa_cons (pe_ix ix_tup (pv 5) pe_int (fun _ _ => rfl)) pa_nil))))))
        (pss_cons (ps_aug (i := 4) scP_is_tree_of.nd rfl (Or.inl rfl) pe_int ip_add)
        (pss_one (ps_aug (i := 3) scP_is_tree_of.nd rfl (Or.inl rfl) (pe_callB call_len_seq (by rfl) T.n_len (by decide +kernel) (pa_cons (pe_ix ix_tup (pv 5) pe_int (fun _ _ => rfl)) pa_nil)) ip_add)))
        (pss_one (ps_if (PW.pt (pw_and (pt_val (pe_call GP_is_pour (hr.mono (by omega)) (by rfl) dP_is_pour.g dP_is_pour.F.kp dP_is_pour.b .nil pass0 (pa_cons (pv 5) pa_nil))) (pw_and1 (pt_cmpR op_ge (pv 4) pe_int (nomark _)))))
          (pss_one (ps_aug (i := 4) scP_is_tree_of.nd rfl (Or.inl rfl) pe_int ip_sub))
          (pss_one (ps_ret pe_bl)))))))
    (pss_one (ps_ret (pe_and (pe_cmpR op_eq (pv 4) pe_int (nomark _)) (pe_one (pe_cmpR op_le (pv 3) (pe_glob rfl cI.g cI.r) (nomark _)))))))))), ?_⟩
    obtain ⟨t, ty, kI, kB, kS, kT⟩ := hx.ty
    refine ⟨v, rfl, v, _, t, _, isT x, rfl, .ty "tuple", ty, kT, isT x, rfl, ?_⟩
    cases x with
    | tup ds =>
      obtain ⟨a, xs, rfl, h1, h2, h3⟩ := hx.tup
      have hl := Paired.length h3
      have q : ∀ H', Same H H' → Q (.bl (decide (ds.length ≤ 5000) && enD (goD 0 0 ds))) H' := q
      refine iteF ⟨.ref a, rfl, a, _, rfl, .inr h1.seq, _, _, rfl, rfl, ?_⟩
      by_cases h5 : ds.length ≤ 5000
      · rw [decide_eq_true h5, Bool.true_and] at q
        refine ⟨false, congrArg V.bl (decide_eq_false (by omega)), iteF ?_⟩
        refine ⟨.ref a, rfl, a, rfl, ⟨_, h1.seq⟩, for_tup (xs := xs) (fun i σ H3 => ∃ (x : Option V) (h m : Int), σ = [some (.ref a), some (.str (Str.ofString "stream")), some (.ref dP_is_stream.f), some (.int m), some (.int h), x] ∧ Same H H3 ∧ goD 0 0 ds = goD h m (ds.drop i)) ⟨none, 0, 0, rfl, Same.refl H, by rw [List.drop_zero]⟩ (fun i σ H3 _ ⟨_, _, _, _, s3, _⟩ => (h1.same s3).seq) ?_ ?_⟩
        · rintro i v σ H3 hi ⟨x, h, m, rfl, s3, hg⟩
          obtain ⟨e, he, hat⟩ := paired_at h3 hi
          have hde : ds.drop i = e :: ds.drop (i + 1) := by
            obtain ⟨hlt, hg⟩ := List.getElem?_eq_some_iff.mp he
            rw [List.drop_eq_getElem_cons hlt, hg]
          rw [hde] at hg
          have hg : goD 0 0 ds = (if (putD e && stmD (at1 e)) = true then goD (h + 1) (m + (lenD (at1 e) : Int)) (ds.drop (i + 1)) else if (pouD e && decide (2 ≤ h)) = true then goD (h - 1) m (ds.drop (i + 1)) else none) := hg
          have hat3 := hat.same s3
          refine ⟨v, rfl, _, rfl, v, e, rfl, hat3, putD e, rfl, ?_⟩
          cases ep : putD e with
          | false =>
            refine iteF ⟨v, rfl, v, e, rfl, hat3, pouD e, rfl, ?_⟩
            rw [ep, Bool.false_and, if_neg Bool.noConfusion] at hg
            cases eo : pouD e with
            | false =>
              rw [eo, Bool.false_and, if_neg Bool.noConfusion] at hg
              rw [hg] at q
              exact iteF (q H3 s3)
            | true =>
              rw [eo, Bool.true_and] at hg
              refine iteT ⟨.int h, rfl, _, _, rfl, rfl, ?_⟩
              by_cases h2 : 2 ≤ h
              · rw [decide_eq_true h2, if_pos rfl] at hg
                exact ⟨true, congrArg V.bl (decide_eq_true (by omega)), iteT ⟨.int h, rfl, _, _, rfl, rfl, some v, h - 1, m, rfl, s3, hg⟩⟩
              · rw [decide_eq_false h2, if_neg Bool.noConfusion] at hg
                rw [hg] at q
                exact ⟨false, congrArg V.bl (decide_eq_false (by omega)), iteF (q H3 s3)⟩
          | true =>
            obtain ⟨d1, rfl⟩ := putD_is ep
            obtain ⟨b, ys, rfl, g1, g2, g3⟩ := hat3.tup
            obtain ⟨y0, y1, rfl⟩ := two (show ys.length = 2 from Paired.length g3)
            cases g3 with
            | cons e0 g3 =>
            cases g3 with
            | cons e1 g3 =>
            refine iteT ⟨rfl, .ref b, rfl, b, _, _, _, rfl, rfl, g1.seq, atI_nat (j := 1) rfl, y1, d1, rfl, e1, fun H4 s4 => ⟨stmD d1, rfl, ?_⟩⟩
            have s04 := Same.trans s3 s4
            have ea : at1 (.tup [.str (Str.ofString "stream"), d1]) = d1 := rfl
            rw [ea] at hg
            cases em : stmD d1 with
            | false =>
              have hat4 := hat3.same s4
              refine iteF ⟨.ref b, rfl, .ref b, _, rfl, hat4, pouD (.tup [.str (Str.ofString "stream"), d1]), rfl, ?_⟩
              rw [ep, em, Bool.true_and, if_neg Bool.noConfusion] at hg
              cases eo : pouD (.tup [.str (Str.ofString "stream"), d1]) with
              | false =>
                rw [eo, Bool.false_and, if_neg Bool.noConfusion] at hg
                rw [hg] at q
                exact iteF (q H4 s04)
              | true =>
                rw [eo, Bool.true_and] at hg
                refine iteT ⟨.int h, rfl, _, _, rfl, rfl, ?_⟩
                by_cases h2 : 2 ≤ h
                · rw [decide_eq_true h2, if_pos rfl] at hg
                  exact ⟨true, congrArg V.bl (decide_eq_true (by omega)), iteT ⟨.int h, rfl, _, _, rfl, rfl, some (.ref b), h - 1, m, rfl, s04, hg⟩⟩
                · rw [decide_eq_false h2, if_neg Bool.noConfusion] at hg
                  rw [hg] at q
                  exact ⟨false, congrArg V.bl (decide_eq_false (by omega)), iteF (q H4 s04)⟩
            | true =>
              rw [ep, em, Bool.true_and, if_pos rfl] at hg
              obtain ⟨ns, rfl, hns⟩ := stmD_is em
              obtain ⟨c, zs, rfl, k1, k2, k3⟩ := e1.tup
              refine iteT ⟨.int h, rfl, _, _, rfl, rfl, .int m, rfl, .ref b, rfl, b, _, _, _, rfl, rfl, (g1.same s4).seq, atI_nat (j := 1) rfl, c, _, rfl, .inr (k1.same s4).seq, _, _, rfl, rfl, some (.ref b), h + 1, m + (zs.length : Int), rfl, s04, ?_⟩
              rw [hg, Paired.length k3]
              rfl
        · rintro σ H3 ⟨x, h, m, rfl, s3, hg⟩
          rw [hl, List.drop_length] at hg
          have hg : goD 0 0 ds = some (h, m) := hg
          rw [hg] at q
          have q : ∀ H', Same H H' → Q (.bl (decide (h = 1) && decide (m ≤ 50000))) H' := q
          refine ⟨.int h, rfl, rfl, decide (h = 1), congrArg V.bl (decide_eq_decide.mpr ⟨fun z => by injection z, fun z => by rw [z]⟩), ite2 (fun e => ⟨.int m, rfl, _, _, rfl, rfl, ?_⟩) (fun e => ?_)⟩
          · rw [e, Bool.true_and] at q
            exact q H3 s3
          · rw [show decide (h = 1) = false by simpa using e, Bool.false_and] at q
            exact q H3 s3
      · rw [decide_eq_false h5, Bool.false_and] at q
        exact ⟨true, congrArg V.bl (decide_eq_true (by omega)), iteT (q H (Same.refl H))⟩
    | _ => exact iteT (iteT (q H (Same.refl H)))
def spIsTreeD (K : PySem.W.Frag) : Sp := fun vs H Q _ => ∃ (v : V) (d : Dat), vs = [v] ∧ DtAt K H v d ∧ ∀ H', Same H H' → Q (.bl (treeD d)) H'
theorem ok_is_treeD (T : Blt mg) (cL : Cst mg "LONGEST_NAME" (.int 8)) (cS' : Cst mg "MOST_STEPS" (.int 5000)) (cI : Cst mg "MOST_ITEMS" (.int 50000)) (dP_is_name : DnIsName K mg) (dP_is_stream : DnIsStream K mg) (dP_is_put : DnIsPut K mg) (dP_is_pour : DnIsPour K mg) (d : DnIsTree K mg) :
    FnOk P w K mg base CX0 4 d.f d.fd ["thing"] (spIsTreeD K) := by
  have GP_is_tree_of : FnOk P w K mg base CX0 3 dP_is_put.o.f dP_is_put.o.fd ["thing", "word", "is_right"] (spIsTreeOfD K dP_is_stream.f) := ok_is_tree_ofD T cL cS' cI dP_is_name dP_is_stream dP_is_put dP_is_pour
  refine d.F.ok scP_is_tree (fun vs H Q E h => ?_) (fun cdv A outer s H vs Q E hr h => ?_)
  · obtain ⟨v, x, rfl, _⟩ := h
    rfl
  · obtain ⟨v, x, rfl, hx, q⟩ := h
    refine ⟨_, (pss_one (ps_ret (pe_call GP_is_tree_of (hr.mono (by omega)) (by rfl) dP_is_put.o.g dP_is_put.o.F.kp dP_is_put.o.b .nil pass0 (pa_cons (pv 0) (pa_cons pe_str (pa_cons (pe_glob (v := .ref dP_is_stream.f) rfl dP_is_stream.g rfl) pa_nil)))))), ?_⟩
    exact ⟨v, rfl, v, x, rfl, hx, q⟩
end
/-! a right tree, where it stands -/
end Kb

namespace Kb
open PySem PySem.Spec PyProof.Rows L2 SrtZ SrtO
abbrev Nname_fits : List Str := ["_law_thing_here", "_law_sign"]
theorem abc_mem (c : Nat) : decide (c ∈ (Str.ofString "abcdefghijklmnopqrstuvwxyz").cps.toList) = nmC c := by
  rw [show (Str.ofString "abcdefghijklmnopqrstuvwxyz").cps.toList = (List.range 26).map (97 + ·) by decide +kernel]
  unfold nmC
  by_cases h1 : c < 97
  · rw [decide_eq_true h1]
    refine decide_eq_false fun h => ?_
    obtain ⟨i, _, hi⟩ := List.mem_map.mp h
    omega
  · rw [decide_eq_false h1]
    by_cases h2 : 122 < c
    · rw [decide_eq_true h2]
      refine decide_eq_false fun h => ?_
      obtain ⟨i, h3, hi⟩ := List.mem_map.mp h
      have := List.mem_range.mp h3
      omega
    · rw [decide_eq_false h2]
      refine decide_eq_true (List.mem_map.mpr ⟨c - 97, List.mem_range.mpr (by omega), by omega⟩)
def lgB (n : Int) : Dat → Bool
  | .tup ds => decide ((ds.length : Int) = n)
  | _ => false
section
variable {P : Program} {w : World} {K : PySem.W.Frag} {mg : Str → Option Value} {base : Heap}
def spCountD (K : PySem.W.Frag) : Sp := fun vs H Q _ => ∃ (v : V) (d : Dat), vs = [v] ∧ DtAt K H v d ∧ Q (.bl (isNB (intD d))) H
def spLongD (K : PySem.W.Frag) : Sp := fun vs H Q _ => ∃ (v : V) (d : Dat) (n : Int), vs = [v, .int n] ∧ DtAt K H v d ∧ Q (.bl (lgB n d)) H
def spNameFitsD (K : PySem.W.Frag) : Sp := fun vs H Q _ => ∃ (v : V) (d : Dat), vs = [v] ∧ DtAt K H v d ∧ ∀ H', Same H H' → Q (.bl (nameD d)) H'
def spPairFitsD (K : PySem.W.Frag) : Sp := fun vs H Q _ => ∃ (v : V) (d : Dat), vs = [v] ∧ DtAt K H v d ∧ ∀ H', Same H H' → Q (.bl (cntB d)) H'
end
end Kb

namespace Kb
open PySem PySem.Spec PyProof.Rows L2 SrtZ SrtO
abbrev Ncounts_fit : List Str := ["_law_thing_here", "_law_k", "_law_one"]
def chainR (ns : List Str) : Bool := (List.range (ns.length - 1)).all fun k => ltZ (ns.getD k (Str.ofString "")) (ns.getD (k + 1) (Str.ofString ""))
theorem chainR_cons (a b : Str) (r : List Str) : chainR (a :: b :: r) = (ltZ a b && chainR (b :: r)) := by
  unfold chainR
  rw [show (a :: b :: r).length - 1 = r.length + 1 from rfl, show (b :: r).length - 1 = r.length from rfl, List.range_succ_eq_map, List.all_cons, List.all_map]
  rfl
theorem cts_eq : ∀ (ks : List Dat) (la : Str), ctsB la ks = (ks.all cntB && chainR (la :: ks.map nmOf))
  | [], la => rfl
  | d :: ds, la => by
    show (cntB d && (ltZ la (nmOf d) && ctsB (nmOf d) ds)) = _
    rw [cts_eq ds (nmOf d), List.map_cons, chainR_cons, List.all_cons]
    cases cntB d <;> cases ltZ la (nmOf d) <;> cases ds.all cntB <;> rfl
theorem cts_eq0 (ks : List Dat) : ctsB (Str.ofString "") ks = (ks.all cntB && chainR (ks.map nmOf)) := by
  rw [cts_eq]
  cases ks with
  | nil => rfl
  | cons d ds =>
    rw [List.map_cons, chainR_cons, List.all_cons]
    cases hc : cntB d with
    | false => rfl
    | true =>
      obtain ⟨z, i, rfl, hz, _⟩ := cntB_is hc
      have : ltZ (Str.ofString "") z = true := by
        have h1 := hz.pos
        show decide _ = true
        rw [show (Str.ofString "").cps.toList = [] by decide +kernel]
        refine decide_eq_true ?_
        cases hz : z.cps.toList with
        | nil =>
          have : z.length = 0 := by rw [← cs_len]; unfold cs; rw [hz]; rfl
          omega
        | cons c r => exact List.nil_lt_cons c r
      rw [show nmOf (.tup [.str z, .int i]) = z from rfl, this, Bool.true_and, Bool.true_and]
theorem nm_at {K : PySem.W.Frag} {H : Hp} {v : V} {d : Dat} (h : DtAt K H v d) (c : cntB d = true) : ∃ p ys, v = .ref p ∧ Ptp H p ys ∧ ys[0]? = some (.str (nmOf d)) := by
  obtain ⟨z, i, rfl, hz, _⟩ := cntB_is c
  obtain ⟨p, ys, rfl, g1, g2, g3⟩ := h.tup
  refine ⟨p, ys, rfl, g1, ?_⟩
  cases g3 with
  | cons k _ =>
    obtain ⟨rfl, _⟩ := k.str
    rfl
theorem atI_cast {xs : List V} {n : Nat} {j : Int} {v : V} (e : j = (n : Int)) (h : xs[n]? = some v) : atI xs j = some v := by
  subst e
  exact atI_nat h
theorem isPB_cnt {i : Int} (h : 1 ≤ i) : isPB (some i) = true := decide_eq_true h
abbrev snumber : Stmt := topS 89
theorem scnumber : FnScope ["_law_well_here", "_law_kind"] ["_law_well_here"] (defScope snumber) := ⟨rfl, rfl, rfl, by decide +kernel, rfl, by decide +kernel, by decide +kernel⟩
abbrev Nsum : List Str := ["_law_counts", "_law_pair"]
abbrev Dnnumber (K : PySem.W.Frag) (mg : Str → Option Value) := Dn K mg "_law_number" snumber ["_law_well_here"]
section
variable {P : Program} {w : World} {K : PySem.W.Frag} {mg : Str → Option Value} {base : Heap}
def spCountsFitD (K : PySem.W.Frag) : Sp := fun vs H Q _ => ∃ (v : V) (d : Dat), vs = [v] ∧ DtAt K H v d ∧ ∀ H', Same H H' → Q (.bl (ctD d)) H'
/-! _law_number -/
def spNumber : Sp := fun vs H Q _ => ∃ (a c : Addr), vs = [.ref a] ∧ Wl a c H ∧ ∀ H' (r : Int), Exw a H H' → Wl a c H' → 0 ≤ r → r < 1000000000 → Q (.int r) H'
theorem ok_number (T : Blt mg) (dmixed : Dnmixed K mg) (dfilled : Dnfilled K mg) (ddraw : Dndraw K mg) (d : Dnnumber K mg) : FnOk P w K mg base CX0 4 d.f d.fd ["_law_well_here"] spNumber := by
  have Gdraw : FnOk P w K mg base CX0 3 ddraw.f ddraw.fd ["_law_well_here", "_law_many"] spDraw := ok_draw T dmixed dfilled ddraw
  refine d.F.ok scnumber (fun vs H Q E h => ?_) (fun cdv A outer s H vs Q E hr h => ?_)
  · obtain ⟨a, c, rfl, _⟩ := h
    rfl
  · obtain ⟨a, c, rfl, hw, q⟩ := h
    refine ⟨_, (pss_cons (ps_set (i := 1) scnumber.nd rfl (Or.inl rfl) (pe_call Gdraw (hr.mono (by omega)) (by rfl) ddraw.g ddraw.F.kp ddraw.b .nil pass0 (pa_cons (pv 0) (pa_cons pe_int pa_nil))))
    (pss_cons (ps_if (pt_cmpR op_eq (pv 1) pe_int (nomark _))
      (pss_one (ps_ret (pe_call Gdraw (hr.mono (by omega)) (by rfl) ddraw.g ddraw.F.kp ddraw.b .nil pass0 (pa_cons (pv 0) (pa_cons (pe_op op_pow pe_int pe_int) pa_nil)))))
      pss_nil)
    (pss_one (ps_ret (pe_call Gdraw (hr.mono (by omega)) (by rfl) ddraw.g ddraw.F.kp ddraw.b .nil pass0 (pa_cons (pv 0) (pa_cons (pe_ix ix_list (pe_lst (pa_cons pe_int (pa_cons pe_int (pa_cons (pe_op op_pow pe_int pe_int) pa_nil)))) (pv 1) (fun _ _ => rfl)) pa_nil))))))), ?_⟩
    refine ⟨.ref a, rfl, a, c, 4, rfl, hw, (by decide), (by decide), fun H1 k x1 w1 k0 k1 => ?_⟩
    refine ⟨.int k, rfl, rfl, _, rfl, ?_⟩
    by_cases h3 : k = 3
    · rw [show decide (V.int k = V.int 3) = true from decide_eq_true (by rw [h3])]
      refine iteT ⟨.ref a, rfl, _, _, rfl, rfl, ⟨by decide, by decide, by decide⟩, a, c, 1000000000, rfl, w1, by decide, by decide, fun H2 r x2 w2 r0 r1 => ?_⟩
      exact q H2 r (x1.trans x2) w2 r0 r1
    · rw [show decide (V.int k = V.int 3) = false from decide_eq_false (by intro z; injection z with z; exact h3 z)]
      refine iteF ⟨.ref a, rfl, _, _, rfl, rfl, ⟨by decide, by decide, by decide⟩, (by show 3 ≤ sizeLine; decide), fun l nl => ?_⟩
      have hl := w1.ne2 nl
      obtain ⟨kn, rfl⟩ := Int.eq_ofNat_of_zero_le k0
      have hk : kn < 3 := by omega
      obtain ⟨m, hm, m0, m1⟩ : ∃ m : Int, [V.int 3, V.int 40, V.int (10 ^ (6 : Int).toNat)][kn]? = some (.int m) ∧ 0 < m ∧ m ≤ 1000000 := by
        match kn, hk with
        | 0, _ => exact ⟨3, rfl, by decide, by decide⟩
        | 1, _ => exact ⟨40, rfl, by decide, by decide⟩
        | 2, _ => exact ⟨10 ^ (6 : Int).toNat, rfl, by decide, by decide⟩
        | n + 3, h => exact absurd h (by omega)
      have sl : Same H1 (upd H1 l (.lst [V.int 3, V.int 40, V.int (10 ^ (6 : Int).toNat)])) := same_upd nl
      refine ⟨.int (kn : Int), rfl, l, _, _, _, rfl, rfl, sql upd_same, atI_nat hm, a, c, m, rfl, w1.same sl, m0, (by omega), fun H2 r x2 w2 r0 r1 => ?_⟩
      exact q H2 r ((x1.same sl).trans x2) w2 r0 (by omega)
/-! _law_sum -/
def spSum (K : PySem.W.Frag) : Sp := fun vs H Q _ => ∃ (k : Addr) (kvs : Ct), vs = [.ref k] ∧ CtAt K H k kvs ∧ kvs.length ≤ 1000 ∧ ∀ H', Same H H' → Q (.int (sumC kvs)) H'
/-! _law_space_fits, of anything -/
def spSketchFitsD (K : PySem.W.Frag) : Sp := fun vs H Q _ => ∃ (v : V) (d : Dat), vs = [v] ∧ DtAt K H v d ∧ ∀ H', Same H H' → Q (.bl (skD d)) H'
end
end Kb

namespace Kb
open PySem PySem.Spec PyProof.Rows L2 SrtZ SrtO
abbrev ssigns : Stmt := topS 90
theorem scsigns : FnScope ["_law_signs_here"] [] (defScope ssigns) := ⟨rfl, rfl, rfl, by decide +kernel, rfl, by decide +kernel, by decide +kernel⟩
abbrev Dnsigns (K : PySem.W.Frag) (mg : Str → Option Value) := Dn K mg "_law_signs" ssigns []
abbrev sstring : Stmt := topS 91
abbrev Nstring : List Str := ["_law_well_here", "_law_many", "_law_signs_here", "_law_k"]
theorem scstring : FnScope ["_law_well_here", "_law_many", "_law_signs_here", "_law_k"] ["_law_well_here", "_law_many"] (defScope sstring) := ⟨rfl, rfl, rfl, by decide +kernel, rfl, by decide +kernel, by decide +kernel⟩
abbrev Dnstring (K : PySem.W.Frag) (mg : Str → Option Value) := Dn K mg "_law_string" sstring ["_law_well_here", "_law_many"]
abbrev sany : Stmt := topS 94
abbrev Nany : List Str := ["_law_well_here", "_law_deep", "_law_kind", "_law_items", "_law_k"]
theorem scany : FnScope ["_law_well_here", "_law_deep", "_law_kind", "_law_items", "_law_k"] ["_law_well_here", "_law_deep"] (defScope sany) := ⟨rfl, rfl, rfl, by decide +kernel, rfl, by decide +kernel, by decide +kernel⟩
abbrev Dnany (K : PySem.W.Frag) (mg : Str → Option Value) := Dn K mg "_law_any" sany ["_law_well_here", "_law_deep"]
section
variable {X : Cx} {pos : Pos} {x : Str} {p : Pos}
/-- C(), C an own class of errors without own __init__ -/
theorem pmk_bare {C : Addr} {bmB : List Value} {B newId initId : String} (F : ExcBaseFacts B newId initId bmB) (isExc : PySem.W.excIn X.K C bmB newId = true) (at_ : X.mg x = some (.ref C)) (kept : PySem.W.keepIn X.K (.ref C) = true) (may : Raises X (.ref C)) (gl : Gl X x)
    (nodebug : (x == ("__debug__" : Str)) = false := by decide) : PMk X (.Call (.Name x p) [] [] pos) (fun _ H Q => Q (.ref C) none H) := by
  intro pins s σ H Q I h
  refine wpAny_Call_Name_kw (ld_glob I gl at_ ?_ nodebug)
  refine PySem.W.callWith_K0 I.kIn kept ?_
  obtain ⟨_, _, _, _, _, _, _, _, _, _, _, _, _, _, _, _, _, isC, names, noInit, tail⟩ := exc_obj I.kIn isExc
  exact wpAny_call_exc_subT F tail isC names noInit (fun h' e' made => mk_of I made may h (I.hok.gone made.new)) (Nat.zero_le _)
end
/-- an own class of errors -/
structure TxE (K : PySem.W.Frag) (mg : Str → Option Value) (nm : Str) where
  C : Addr
  gC : mg nm = some (.ref C)
  exc : PySem.W.excIn K C [.type "ValueError", .type "Exception", .type "BaseException", .type "object"] "ValueError.__new__" = true
  kp : PySem.W.keepIn K (.ref C) = true
  sub : PySem.W.subIn K (.ref C) (.type "BaseException") = some true
  ty : PySem.W.typeIn K (.ref C) = some (.type "type")
  isC : L2.ExcC K C
def sgn : Str := Str.ofString " !\"#$&'()*+,-./0123456789:;<=>?@ABCDEFGHIJKLMNOPQRSTUVWXYZ[\\]^_`" ++ Str.ofString "abcdefghijklmnopqrstuvwxyz{|}~"
theorem sgn_len : sgn.cps.toList.length = 94 := by decide +kernel
theorem dint (a b : Int) : decide (V.int a = V.int b) = decide (a = b) := by
  by_cases h : a = b
  · rw [decide_eq_true h, decide_eq_true (congrArg V.int h)]
  · rw [decide_eq_false h, decide_eq_false (fun z => h (by injection z))]
theorem sapp_len (a b : Str) : (a ++ b).length = a.length + b.length := by
  show (a.cps ++ b.cps).size = _
  rw [Array.size_append]
  rfl
theorem sgn_asc : ∀ c ∈ sgn.cps.toList, c < 128 := by decide +kernel
theorem asc_iff {z : Str} : ascB z = true ↔ ∀ c ∈ z.cps.toList, c < 128 := by
  unfold ascB
  rw [List.all_eq_true]
  exact ⟨fun h c hc => of_decide_eq_true (h c hc), fun h c hc => decide_eq_true (h c hc)⟩
theorem asc_app {a b : Str} (h : ascB a = true) (k : ascB b = true) : ascB (a ++ b) = true := asc_iff.mpr fun c hc => by
  have hc : c ∈ cs (a ++ b) := hc
  rw [cs_app] at hc
  exact (List.mem_append.mp hc).elim (asc_iff.mp h c) (asc_iff.mp k c)
theorem asc_nm {z : Str} (h : Nm z) : ascB z = true := asc_iff.mpr fun c hc => by
  have := h.abc c hc
  unfold nmC at this
  have h2 : (!decide (122 < c)) = true := by
    cases hx : (!decide (122 < c)) with
    | true => rfl
    | false => rw [hx] at this; simp at this
  have h3 : ¬ 122 < c := by simpa using h2
  omega
theorem asc_S {l : List Nat} (h : ∀ c ∈ l, c < 128) : ascB (S l) = true := asc_iff.mpr fun c hc => h c (by
  have hc : c ∈ cs (S l) := hc
  rw [cs_S] at hc
  exact hc)
theorem mergeA (l : Addr) : mergeK [] [(.inr (Str.ofString "a"), V.ref l), (.inl 1, V.non)] = [(.inr (Str.ofString "a"), V.ref l), (.inl 1, V.non)] := by
  simp [mergeK, putK]
section
variable {P : Program} {w : World} {K : PySem.W.Frag} {mg : Str → Option Value} {base : Heap}
def spSigns : Sp := fun vs H Q _ => vs = [] ∧ Q (.str sgn) H
theorem ok_signs (T : Blt mg) (d : Dnsigns K mg) : FnOk P w K mg base CX0 1 d.f d.fd [] spSigns := by
  refine d.F.ok scsigns (fun vs H Q E h => ?_) (fun cdv A outer s H vs Q E hr h => ?_)
  · obtain ⟨rfl, _⟩ := h
    rfl
  · obtain ⟨rfl, q⟩ := h
    refine ⟨_, (pss_cons (ps_set (i := 0) scsigns.nd rfl (Or.inl rfl) pe_str)
    (pss_one (ps_ret (pe_op op_add_str (pv 0) pe_str)))), ?_⟩
    exact ⟨_, rfl, _, _, rfl, rfl, (by decide +kernel), q⟩
def spString : Sp := fun vs H Q _ => ∃ (a c : Addr) (m : Nat), vs = [.ref a, .int (m : Int)] ∧ Wl a c H ∧ m ≤ 1000 ∧ ∀ H' z, Exw a H H' → Wl a c H' → z.length = m → ascB z = true → Q (.str z) H'
theorem ok_string (T : Blt mg) (dmixed : Dnmixed K mg) (dfilled : Dnfilled K mg) (ddraw : Dndraw K mg) (dsigns : Dnsigns K mg) (d : Dnstring K mg) : FnOk P w K mg base CX0 4 d.f d.fd ["_law_well_here", "_law_many"] spString := by
  have Gdraw : FnOk P w K mg base CX0 3 ddraw.f ddraw.fd ["_law_well_here", "_law_many"] spDraw := ok_draw T dmixed dfilled ddraw
  have Gsigns : FnOk P w K mg base CX0 1 dsigns.f dsigns.fd [] spSigns := ok_signs T dsigns
  refine d.F.ok scstring (fun vs H Q E h => ?_) (fun cdv A outer s H vs Q E hr h => ?_)
  · obtain ⟨a, c, m, rfl, _⟩ := h
    rfl
  · obtain ⟨a, c, m, rfl, hw, hm, q⟩ := h
    refine ⟨_, (pss_cons (ps_asg (pe_call0 Gsigns (hr.mono (by omega)) (by rfl) dsigns.g dsigns.F.kp dsigns.b .nil pass0) (pg_name (i := 2) scstring.nd rfl (Or.inr rfl)))
    (pss_one (ps_ret (pe_join pe_str (pe_lc (own := [("_law_k", 3)]) (g := gName 3) (tt := tYes) rfl scstring.nd (pi_range1 (by rfl) T.n_range (pa_cons (pv 1) pa_nil)) (blkOk_by (N := Nstring) (sc := defScope sstring) (by decide +kernel)) (fun _ _ _ _ _ => pg_name (i := 3) scstring.nd rfl (Or.inl rfl)) (fun _ _ _ _ _ => pts_nil) (fun _ _ _ _ _ => (pe_ix ix_str (pv 2) (pe_call Gdraw (hr.mono (by omega)) (by rfl) ddraw.g ddraw.F.kp ddraw.b .nil pass0 (pa_cons (pv 0) (pa_cons pe_int pa_nil))) (fun _ _ => rfl)))))))), ?_⟩
    refine ⟨rfl, ⟨_, rfl⟩, .int (m : Int), rfl, (m : Int), rfl, (by omega), (by omega), fun D nD => ?_⟩
    rw [Int.toNat_natCast]
    have hD := hw.ne2 nD
    refine lc_range (lo := 0) (n := m) (fun i H8 => Exw a H H8 ∧ Wl a c H8 ∧ ∃ l : List Nat, H8 D = some (.lst (l.map fun c => V.str (S [c]))) ∧ l.length = i ∧ ∀ c ∈ l, c < 128) ⟨(Exw.refl a H).put nD, hw.same (same_upd nD), [], upd_same, rfl, fun _ h => (nomatch h)⟩ (fun i H8 hi h8 => ?_) (fun H8 h8 => ?_)
    · obtain ⟨x8, p8, l, hD8, hl, hla⟩ := h8
      refine ⟨rfl, _, rfl, .ref a, rfl, a, c, 94, rfl, p8, (by decide), (by decide), fun H9 c' x9 p9 c0 c26 => ?_⟩
      obtain ⟨c', rfl⟩ := Int.eq_ofNat_of_zero_le c0
      have hc26 : c' < sgn.cps.toList.length := by rw [sgn_len]; omega
      refine ⟨_, _, _, rfl, rfl, (by decide +kernel), atI_nat (List.getElem?_eq_getElem hc26), _, x9 D _ hD.1 hD8, ?_, (x8.trans x9).put nD, p9.put hD, l ++ [sgn.cps.toList[c']], ?_, ?_, fun x hx => ?_⟩
      · rw [List.length_map, hl, sizeLine_eq]
        omega
      · rw [upd_same, List.map_append]
        rfl
      · rw [List.length_append, hl]
        rfl
      · rcases List.mem_append.mp hx with h | h
        · exact hla x h
        · rw [List.mem_singleton.mp h]
          exact sgn_asc _ (List.getElem_mem hc26)
    obtain ⟨x8, p8, l, hD8, hl, hla⟩ := h8
    have ej : Txt.join (Str.ofString "") (l.map fun c => S [c]) = S l := join_signs l
    refine ⟨_, D, l.map fun c => S [c], rfl, rfl, .inl (sql (by rw [hD8, List.map_map]; rfl)), ?_, ?_⟩
    · rw [List.map_map, List.length_map, signs_len]
      show l.length + l.length * 0 ≤ 16777216
      omega
    · rw [ej]
      exact q H8 _ x8 p8 (by rw [S_len]; exact hl) (asc_S hla)
/-! _law_any -/
def spAny (C : Addr) (n : Nat) : Sp := fun vs H Q _ => ∃ (a c : Addr), vs = [.ref a, .int (n : Int)] ∧ Wl a c H ∧ ∀ H' v d, Exw a H H' → Wl a c H' → DatAt (fun b => H b ≠ none) C (2 ^ 31) 20 n H' v d → wD d ≤ 200 * 4 ^ n → Q v H'
def spAny' (C : Addr) : Nat → Sp
  | 0 => fun _ _ _ _ => False
  | n + 1 => spAny C n
theorem ok_any' (T : Blt mg) (N : TxE K mg "NoTree") (dmixed : Dnmixed K mg) (dfilled : Dnfilled K mg) (ddraw : Dndraw K mg) (dnumber : Dnnumber K mg) (dsigns : Dnsigns K mg) (dstring : Dnstring K mg) (dname : Dnname K mg) (dany : Dnany K mg) (n : Nat) (Gany : FnOk P w K mg base CX0 (n + 4) dany.f dany.fd ["_law_well_here", "_law_deep"] (spAny' N.C n)) : FnOk P w K mg base CX0 (n + 5) dany.f dany.fd ["_law_well_here", "_law_deep"] (spAny N.C n) := by
  have Gdraw : FnOk P w K mg base CX0 3 ddraw.f ddraw.fd ["_law_well_here", "_law_many"] spDraw := ok_draw T dmixed dfilled ddraw
  have Gnumber : FnOk P w K mg base CX0 4 dnumber.f dnumber.fd ["_law_well_here"] spNumber := ok_number T dmixed dfilled ddraw dnumber
  have Gstring : FnOk P w K mg base CX0 4 dstring.f dstring.fd ["_law_well_here", "_law_many"] spString := ok_string T dmixed dfilled ddraw dsigns dstring
  have Gname : FnOk P w K mg base CX0 4 dname.f dname.fd ["_law_well_here"] spName := ok_name T dmixed dfilled ddraw dname
  refine dany.F.ok scany (fun vs H Q E h => ?_) (fun cdv A outer s H vs Q E hr h => ?_)
  · obtain ⟨a, c, rfl, _⟩ := h
    rfl
  · obtain ⟨a, c, rfl, hw, q⟩ := h
    refine ⟨_, (pss_cons (ps_set (i := 2) scany.nd rfl (Or.inl rfl) (pe_call Gdraw (hr.mono (by omega)) (by rfl) ddraw.g ddraw.F.kp ddraw.b .nil pass0 (pa_cons (pv 0) (pa_cons pe_int pa_nil))))
    (C8.pss_cut (ps_if (pt_cmpR op_eq (pv 1) pe_int (nomark _))
      (pss_one (ps_set (i := 2) scany.nd rfl (Or.inl rfl) (pe_op op_modB (pe_callTy call_int1 (by rfl) T.n_int (by decide +kernel) (pa_cons (pv 2) pa_nil)) pe_int)))
      pss_nil)
    (pss_cons (ps_if (pt_cmpR op_eq (pv 2) pe_int (nomark _))
      (pss_one (ps_ret (pe_op op_sub (pe_call Gdraw (hr.mono (by omega)) (by rfl) ddraw.g ddraw.F.kp ddraw.b .nil pass0 (pa_cons (pv 0) (pa_cons pe_int pa_nil))) pe_int)))
      pss_nil)
    (pss_cons (ps_if (pt_cmpR op_eq (pv 2) pe_int (nomark _))
      (pss_one (ps_ret (pe_op op_sub (pe_un un_neg pe_int) (pe_call Gnumber (hr.mono (by omega)) (by rfl) dnumber.g dnumber.F.kp dnumber.b .nil pass0 (pa_cons (pv 0) pa_nil)))))
      pss_nil)
    (pss_cons (ps_if (pt_cmpR op_eq (pv 2) pe_int (nomark _))
      (pss_one (ps_ret (pe_cmpR op_eq (pe_call Gdraw (hr.mono (by omega)) (by rfl) ddraw.g ddraw.F.kp ddraw.b .nil pass0 (pa_cons (pv 0) (pa_cons pe_int pa_nil))) pe_int (nomark _))))
      pss_nil)
    (pss_cons (ps_if (pt_cmpR op_eq (pv 2) pe_int (nomark _))
      (pss_one (ps_ret pe_non))
      pss_nil)
    (pss_cons (ps_if (pt_cmpR op_eq (pv 2) pe_int (nomark _))
      (pss_one (ps_ret (pe_call Gstring (hr.mono (by omega)) (by rfl) dstring.g dstring.F.kp dstring.b .nil pass0 (pa_cons (pv 0) (pa_cons (pe_call Gdraw (hr.mono (by omega)) (by rfl) ddraw.g ddraw.F.kp ddraw.b .nil pass0 (pa_cons (pv 0) (pa_cons pe_int pa_nil))) pa_nil)))))
      pss_nil)
    (pss_cons (ps_if (pt_cmpR op_eq (pv 2) pe_int (nomark _))
      (pss_one (ps_ret (pe_op op_add_str (pe_call Gname (hr.mono (by omega)) (by rfl) dname.g dname.F.kp dname.b .nil pass0 (pa_cons (pv 0) pa_nil)) (pe_ix ix_list (pe_lst (pa_cons pe_str (pa_cons pe_str (pa_cons pe_str (pa_cons pe_str pa_nil))))) (pe_call Gdraw (hr.mono (by omega)) (by rfl) ddraw.g ddraw.F.kp ddraw.b .nil pass0 (pa_cons (pv 0) (pa_cons pe_int pa_nil))) (fun _ _ => rfl)))))
      pss_nil)
    (pss_cons (ps_setLc (i := 3) (own := [("_law_k", 4)]) (g := gName 4) (tt := tYes) rfl scany.nd rfl rfl (sw_true rfl rfl rfl (by decide +kernel)) (pi_range1 (by rfl) T.n_range (pa_cons (pe_call Gdraw (hr.mono (by omega)) (by rfl) ddraw.g ddraw.F.kp ddraw.b .nil pass0 (pa_cons (pv 0) (pa_cons pe_int pa_nil))) pa_nil)) (blkOk_by (N := Nany) (sc := defScope sany) (by decide +kernel)) (fun _ _ _ _ _ => pg_name (i := 4) scany.nd rfl (Or.inl rfl)) (fun _ _ _ _ _ => pts_nil) (fun _ _ _ _ _ => (pe_call Gany (hr.mono (by omega)) (by rfl) dany.g dany.F.kp dany.b .nil pass0 (pa_cons (pv 0) (pa_cons (pe_op op_sub (pv 1) pe_int) pa_nil)))))
    (pss_cons (ps_if (pt_cmpR op_le (pv 2) pe_int (nomark _))
      (pss_one (ps_ret (pe_callTy call_tupleF (by rfl) T.n_tuple (by decide +kernel) (pa_cons (pv 3) pa_nil))))
      pss_nil)
    (pss_cons (ps_if (pt_cmpR op_eq (pv 2) pe_int (nomark _))
      (pss_one (ps_ret (pv 3)))
      pss_nil)
    (pss_cons (ps_if (pt_cmpR op_eq (pv 2) pe_int (nomark _))
      (pss_one (ps_ret (pe_disp (pps_cons pe_str (pv 3) (pps_cons pe_int pe_non pps_nil)) rfl rfl (by simp) (by decide))))
      pss_nil)
    (pss_one (ps_ret (pe_excN PySem.F.excBase_ValueError N.exc N.gC N.kp rfl))))))))))))))), ?_⟩
    refine ⟨.ref a, rfl, a, c, 12, rfl, hw, (by decide), (by decide), fun H1 k x1 w1 k0 k1 => ?_⟩
    obtain ⟨kn, rfl⟩ := Int.eq_ofNat_of_zero_le k0
    refine ⟨fun σ H3 => ∃ k : Nat, k < 12 ∧ (n = 0 → k < 6) ∧ σ = [some (.ref a), some (.int (n : Int)), some (.int (k : Int)), none, none] ∧ Exw a H H3 ∧ Wl a c H3, ?_, ?_⟩
    · refine ⟨.int (n : Int), rfl, rfl, decide ((n : Int) = 0), congrArg V.bl (dint _ _), ?_⟩
      by_cases hn : (n : Int) = 0
      · rw [decide_eq_true hn]
        refine iteT ⟨.int (kn : Int), rfl, .inl ⟨_, rfl, _, _, rfl, rfl, by decide, fun m m0 m1 hm => ?_⟩⟩
        obtain ⟨m, rfl⟩ := Int.eq_ofNat_of_zero_le m0
        exact ⟨m, by omega, fun _ => by omega, rfl, x1, w1⟩
      · rw [decide_eq_false hn]
        exact iteF ⟨kn, by omega, fun h => absurd h (by omega), rfl, x1, w1⟩
    · rintro σ H3 ⟨k, k12, k6, rfl, x3, w3⟩
      have pw : 1 ≤ 4 ^ n := Nat.one_le_pow n 4 (by decide)
      have tst : ∀ (m : Int), decide (V.int (k : Int) = V.int m) = decide ((k : Int) = m) := fun m => dint _ _
      refine ⟨.int (k : Int), rfl, rfl, _, congrArg V.bl (tst 0), ?_⟩
      by_cases h0 : (k : Int) = 0
      · rw [decide_eq_true h0]
        refine iteT ⟨.ref a, rfl, a, c, 120, rfl, w3, by decide, by decide, fun H4 r x4 w4 r0 r1 => ⟨_, _, rfl, rfl, ?_⟩⟩
        exact q H4 _ (.int (r - 20)) (x3.trans x4) w4 (.lint (by omega)) (by show 60 ≤ _; omega)
      rw [decide_eq_false h0]
      refine iteF ⟨.int (k : Int), rfl, rfl, _, congrArg V.bl (tst 1), ?_⟩
      by_cases h1 : (k : Int) = 1
      · rw [decide_eq_true h1]
        refine iteT ⟨1, rfl, .ref a, rfl, a, c, rfl, w3, fun H4 r x4 w4 r0 r1 => ⟨_, _, rfl, rfl, ?_⟩⟩
        exact q H4 _ (.int (-1 - r)) (x3.trans x4) w4 (.lint (by omega)) (by show 60 ≤ _; omega)
      rw [decide_eq_false h1]
      refine iteF ⟨.int (k : Int), rfl, rfl, _, congrArg V.bl (tst 2), ?_⟩
      by_cases h2 : (k : Int) = 2
      · rw [decide_eq_true h2]
        refine iteT ⟨.ref a, rfl, a, c, 2, rfl, w3, by decide, by decide, fun H4 r x4 w4 r0 r1 => ⟨rfl, ?_⟩⟩
        exact q H4 _ (.bl _) (x3.trans x4) w4 .lbl (by show 10 ≤ _; omega)
      rw [decide_eq_false h2]
      refine iteF ⟨.int (k : Int), rfl, rfl, _, congrArg V.bl (tst 3), ?_⟩
      by_cases h3 : (k : Int) = 3
      · rw [decide_eq_true h3]
        exact iteT (q H3 _ .non x3 w3 .lnon (by show 10 ≤ _; omega))
      rw [decide_eq_false h3]
      refine iteF ⟨.int (k : Int), rfl, rfl, _, congrArg V.bl (tst 4), ?_⟩
      by_cases h4 : (k : Int) = 4
      · rw [decide_eq_true h4]
        refine iteT ⟨.ref a, rfl, .ref a, rfl, a, c, 11, rfl, w3, by decide, by decide, fun H4 r x4 w4 r0 r1 => ?_⟩
        obtain ⟨r, rfl⟩ := Int.eq_ofNat_of_zero_le r0
        refine ⟨a, c, r, rfl, w4, by omega, fun H5 z x5 w5 hz ha => ?_⟩
        exact q H5 _ (.str z) ((x3.trans x4).trans x5) w5 (.lstr (by omega) ha) (by show 15 * z.length + 20 ≤ _; omega)
      rw [decide_eq_false h4]
      refine iteF ⟨.int (k : Int), rfl, rfl, _, congrArg V.bl (tst 5), ?_⟩
      by_cases h5 : (k : Int) = 5
      · rw [decide_eq_true h5]
        refine iteT ⟨.ref a, rfl, a, c, rfl, w3, fun H4 z x4 w4 hz => ⟨(by show 4 ≤ sizeLine; decide), fun l nl => ?_⟩⟩
        have sl := same_upd (o := .lst [.str (Str.ofString ""), .str (Str.ofString "\n"), .str (Str.ofString "A"), .str (Str.ofString "0")]) nl
        have hl : (upd H4 l (.lst [.str (Str.ofString ""), .str (Str.ofString "\n"), .str (Str.ofString "A"), .str (Str.ofString "0")])) l = some (.lst [.str (Str.ofString ""), .str (Str.ofString "\n"), .str (Str.ofString "A"), .str (Str.ofString "0")]) := upd_same
        have la := w4.ne2 nl
        generalize upd H4 l (.lst [.str (Str.ofString ""), .str (Str.ofString "\n"), .str (Str.ofString "A"), .str (Str.ofString "0")]) = H5 at sl hl ⊢
        refine ⟨.ref a, rfl, a, c, 4, rfl, w4.same sl, by decide, by decide, fun H6 r x6 w6 r0 r1 => ?_⟩
        obtain ⟨r, rfl⟩ := Int.eq_ofNat_of_zero_le r0
        obtain ⟨y, hy, yl, ya⟩ : ∃ y : Str, ([.str (Str.ofString ""), .str (Str.ofString "\n"), .str (Str.ofString "A"), .str (Str.ofString "0")] : List V)[r]? = some (.str y) ∧ y.length ≤ 1 ∧ ascB y = true := by
          match r, (show r < 4 by omega) with
          | 0, _ => exact ⟨_, rfl, by decide +kernel, by decide +kernel⟩
          | 1, _ => exact ⟨_, rfl, by decide +kernel, by decide +kernel⟩
          | 2, _ => exact ⟨_, rfl, by decide +kernel, by decide +kernel⟩
          | 3, _ => exact ⟨_, rfl, by decide +kernel, by decide +kernel⟩
          | n + 4, h => exact absurd h (by omega)
        have zl := hz.len
        refine ⟨l, _, _, _, rfl, rfl, sql (x6 _ _ la.1 hl), atI_nat hy, _, _, rfl, rfl, (by rw [sizeLine_eq]; omega), ?_⟩
        exact q H6 _ (.str (z ++ y)) (((x3.trans x4).same sl).trans x6) w6 (.lstr (by rw [sapp_len]; omega) (asc_app (asc_nm hz) ya)) (by show 15 * (z ++ y).length + 20 ≤ _; rw [sapp_len]; omega)
      rw [decide_eq_false h5]
      -- items
      obtain ⟨m, rfl⟩ : ∃ m, n = m + 1 := ⟨n - 1, by have : n ≠ 0 := fun h => by have := k6 h; omega
                                                     omega⟩
      refine iteF ⟨.ref a, rfl, a, c, 4, rfl, w3, by decide, by decide, fun H4 r x4 w4 r0 r1 => ?_⟩
      obtain ⟨r, rfl⟩ := Int.eq_ofNat_of_zero_le r0
      clear pw
      have pw : 1 ≤ 4 ^ m := Nat.one_le_pow m 4 (by decide)
      rw [Nat.pow_succ] at q
      refine ⟨(r : Int), rfl, by omega, by omega, fun D nD => ?_⟩
      rw [Int.toNat_natCast]
      have hD := w4.ne2 nD
      have x04 := x3.trans x4
      refine lc_range (lo := 0) (n := r) (fun i H8 => Exw a H4 H8 ∧ Wl a c H8 ∧ ∃ (vs : List V) (ds : List Dat), H8 D = some (.lst vs) ∧ Paired (DatAt (fun b => H b ≠ none ∨ b = D) N.C (2 ^ 31) 20 m H8) vs ds ∧ vs.length = i ∧ wDs ds ≤ i * (200 * 4 ^ m + 2)) ⟨(Exw.refl a H4).put nD, w4.same (same_upd nD), [], [], upd_same, .nil, rfl, Nat.zero_le _⟩ (fun i H8 hi h8 => ?_) (fun H8 h8 => ?_)
      · obtain ⟨x8, p8, vs, ds, hD8, hp, hl, hW⟩ := h8
        refine ⟨rfl, .ref a, rfl, .int ((m + 1 : Nat) : Int), rfl, _, _, rfl, rfl, a, c, ?_, p8, fun H9 v d x9 w9 hd hwd => ?_⟩
        · show [V.ref a, V.int (((m + 1 : Nat) : Int) - 1)] = _
          rw [show ((m + 1 : Nat) : Int) - 1 = (m : Int) by push_cast; omega]
        · have hD9 := x9 D _ hD.1 hD8
          have fa : (fun b => H b ≠ none ∨ b = D) a := .inl hw.dom
          have kk : DKeep (fun b => H b ≠ none ∨ b = D) N.C H8 (upd H9 D (.lst (vs ++ [v]))) := (dk_exw x9 p8 fa).trans (dk_put hD9 (.inr rfl))
          have hsub : ∀ b, (H b ≠ none ∨ b = D) → H8 b ≠ none := fun b hb => by
            rcases hb with hb | rfl
            · exact (x04.trans x8).dom p8 b hb
            · rw [hD8]; intro z; cases z
          have hd' := hd.wide hsub (Nat.le_refl _) (Nat.le_refl _) (Nat.le_refl _)
          refine ⟨vs, hD9, by rw [hl, sizeLine_eq]; omega, (x8.trans x9).put nD, w9.put hD, vs ++ [v], ds ++ [d], upd_same, paired_snoc (paired_imp (fun _ _ h => h.keep kk) hp) (hd'.keep (dk_put hD9 (.inr rfl))), by rw [List.length_append, hl]; rfl, ?_⟩
          rw [wDs_app, Nat.succ_mul]
          show wDs ds + (wD d + 2 + 0) ≤ _
          omega
      obtain ⟨x8, p8, vs, ds, hD8, hp, hl, hW⟩ := h8
      have x08 := x04.trans x8
      have hp : Paired (DatAt (fun b => H b ≠ none) N.C (2 ^ 31) 20 m H8) vs ds := paired_imp (fun _ _ h => h.wide (fun b hb => .inl hb) (Nat.le_refl _) (Nat.le_refl _) (Nat.le_refl _)) hp
      have nF : ¬ (H D ≠ none) := fun z => z (Exw.gone x04 hD.1 nD)
      have hW : wDs ds + 60 ≤ 200 * (4 ^ m * 4) := by
        have := Nat.mul_le_mul_right (200 * 4 ^ m + 2) (show r ≤ 3 by omega)
        omega
      refine ⟨.int (k : Int), rfl, _, _, rfl, rfl, decide ((k : Int) ≤ 8), rfl, ?_⟩
      by_cases h8 : (k : Int) ≤ 8
      · rw [decide_eq_true h8]
        refine iteT ⟨.ref D, rfl, D, vs, rfl, sql hD8, fun p o np ho => ?_⟩
        have sp := same_upd (o := .frz o (.tup vs)) np
        exact q _ _ (.tup ds) (x08.same sp) (p8.same sp) (.ltup ⟨o, upd_same, ho⟩ (by omega) (paired_imp (fun _ _ h => h.same sp) hp)) (by show 10 + wDs ds ≤ _; omega)
      rw [decide_eq_false h8]
      refine iteF ⟨.int (k : Int), rfl, rfl, _, congrArg V.bl (tst 9), ?_⟩
      by_cases h9 : (k : Int) = 9
      · rw [decide_eq_true h9]
        exact iteT ⟨.ref D, rfl, q H8 _ (.lst ds) x08 p8 (.llst nF hD8 (by omega) hp) (by show 10 + wDs ds ≤ _; omega)⟩
      rw [decide_eq_false h9]
      refine iteF ⟨.int (k : Int), rfl, rfl, _, congrArg V.bl (tst 10), ?_⟩
      by_cases h10 : (k : Int) = 10
      · rw [decide_eq_true h10]
        refine iteT fun p np => ?_
        have sp := same_upd (o := .dK []) np
        refine ⟨.ref D, rfl, upd_same, [(.inr (Str.ofString "a"), .ref D), (.inl 1, .non)], rfl, (by show 2 ≤ 15; decide), ?_⟩
        have sp2 : Same H8 (upd (upd H8 p (.dK [])) p (.dK (mergeK [] [(.inr (Str.ofString "a"), .ref D), (.inl 1, .non)]))) := Same.put sp np
        rw [mergeA] at sp2 ⊢
        exact q _ _ (.dic ds) (x08.same sp2) (p8.same sp2) (.ldic upd_same nF (sp2 _ _ hD8) (by omega) (paired_imp (fun _ _ h => h.same sp2) hp)) (by show 60 + wDs ds ≤ _; omega)
      rw [decide_eq_false h10]
      refine iteF fun p t o hpt np nt ho => ?_
      have s1 := same_upd (o := .frz o (.tup [])) nt
      have k1 : Ptp (upd H8 t (.frz o (.tup []))) t [] := ⟨o, upd_same, ho⟩
      have np1 : (upd H8 t (.frz o (.tup []))) p = none := by rw [upd_ne hpt]; exact np
      have s2 := same_upd (o := ExN N.C p t) np1
      have sp := Same.trans s1 s2
      exact q _ _ .err (x08.same sp) (p8.same sp) (.lerr upd_same (k1.same s2)) (by show 200 ≤ _; omega)
theorem ok_any (T : Blt mg) (N : TxE K mg "NoTree") (dmixed : Dnmixed K mg) (dfilled : Dnfilled K mg) (ddraw : Dndraw K mg) (dnumber : Dnnumber K mg) (dsigns : Dnsigns K mg) (dstring : Dnstring K mg) (dname : Dnname K mg) (dany : Dnany K mg) : ∀ n : Nat, FnOk P w K mg base CX0 (n + 4) dany.f dany.fd ["_law_well_here", "_law_deep"] (spAny' N.C n)
  | 0 => dany.F.ok scany (fun _ _ _ _ h => h.elim) (fun _ _ _ _ _ _ _ _ _ h => h.elim)
  | n + 1 => ok_any' T N dmixed dfilled ddraw dnumber dsigns dstring dname dany n (ok_any T N dmixed dfilled ddraw dnumber dsigns dstring dname dany n)
end
end Kb

namespace L2
open PySem PySem.Spec PyProof.Rows
/-- an error of the own class C, with a dict or without -/
def ErAt (H : Hp) (v : V) (C : Addr) : Prop := ∃ a, v = .ref a ∧ ((∃ φ, H a = some (.ext φ) ∧ ∀ h, φ h → ∃ oe, PySem.W.InstAt h a oe C none) ∨ ∃ d fs, H a = some (exo a C (some d)) ∧ H d = some (exd d fs))
theorem ErAt.same {H H' : Hp} {v : V} {C : Addr} (e : ErAt H v C) (s : Same H H') : ErAt H' v C := by
  obtain ⟨a, ev, ⟨φ, h, k⟩ | ⟨d, fs, h1, h2⟩⟩ := e
  · exact ⟨a, ev, .inl ⟨φ, s _ _ h, k⟩⟩
  · exact ⟨a, ev, .inr ⟨d, fs, s _ _ h1, s _ _ h2⟩⟩
theorem erAt_N {H : Hp} {C a t : Addr} (h : H a = some (ExN C a t)) : ErAt H (.ref a) C :=
  ⟨a, rfl, .inl ⟨_, h, fun g ⟨oe, vs, ho, hz, hd, _⟩ => ⟨oe, by
    obtain ⟨oc, od, oda, osl⟩ := oe
    obtain ⟨h1, h2⟩ := hz
    dsimp only at h1 h2 hd
    subst h1 h2 hd
    exact ⟨ho, rfl, rfl, trivial⟩⟩⟩⟩
def rIsX (K : PySem.W.Frag) : List V → Hp → VK → Prop := fun xs H Q => ∃ (x c : V) (C : Addr) (u : Value) (b : Bool), xs = [x, c] ∧ ClsV c u ∧ ErAt H x C ∧ ExcC K C ∧ PySem.W.kitOne K (.ref C) u = some b ∧ Q (.bl b) H
section
variable {X : Cx}
theorem call_isX {K : PySem.W.Frag} (hK : X.K = K) : CallR X (.builtin "isinstance") (rIsX K) := by
  subst hK
  intro pins s σ H xs us Q I r h
  obtain ⟨x, c, C, u, b, rfl, k, er, hC, e, q⟩ := h
  obtain ⟨u1, u2, rfl, r1, r2⟩ := vals2 r
  have e2 := k.eq r2
  subst e2
  obtain ⟨a, rfl, hh⟩ := er
  cases r1
  obtain ⟨oe, od, J⟩ : ∃ oe od, PySem.W.InstAt s.heap a oe C od := by
    rcases hh with ⟨φ, h, kk⟩ | ⟨d, fs, h1, h2⟩
    · obtain ⟨oe, J⟩ := kk _ (I.hok a _ h).1
      exact ⟨oe, none, J⟩
    · obtain ⟨t1, ho⟩ := (I.hok a _ h1).1
      obtain ⟨mA, hns, _⟩ := (I.hok d _ h2).1
      obtain ⟨odd, hod, _⟩ := lookIn_ns hns
      exact ⟨_, some odd, ho, rfl, rfl, hod⟩
  have hcl : (PySem.W.clsIn X.K C).isSome = true := by
    obtain ⟨cd, hc, _⟩ := PySem.W.any_some hC.hd
    rw [hc]
    rfl
  exact PySem.W.kia_one (PySem.W.kitx_exc hcl hC.hg hC.hk hC.hs hC.ha hC.hn hC.ht hC.hm) I.kIn J e (fun z => nomatch z) fun tk => ⟨.bl b, H, I.kept (t' := tk) fun _ _ z => z, rfl, q⟩
/-- e.n of an own error with a dict -/
def tFldE (K : PySem.W.Frag) (n : Str) (te : TE) : TE := fun σ H Q => te σ H fun x H1 => ∃ (a C d : Addr) (fs : List (Str × V)) (v : V), x = .ref a ∧ H1 a = some (exo a C (some d)) ∧ H1 d = some (exd d fs) ∧ XfC K C ∧ PySem.W.findIn K (.ref C) n = some none ∧ fs.lookup n = some v ∧ Q v H1
theorem pe_fldE {e : Expr} {te : TE} {pos : Pos} {n : Str} (it : PE X e te) (base : attributeBase e n X.env (eval e X.env) = eval e X.env := by rfl) : PE X (.Attribute e n pos) (tFldE X.K n te) := by
  refine ⟨fun pins s σ H Q I reads => attr_of base (thn (it.run pins s σ H _ I reads) fun u s1 got => ?_)⟩
  obtain ⟨x, H1, J, rx, a, C, d, fs, v, rfl, h1, h2, T, no, at_, q⟩ := got
  cases rx
  obtain ⟨t1, ho⟩ := (J.hok a _ h1).1
  obtain ⟨mA, hns, hr⟩ := (J.hok d _ h2).1
  obtain ⟨od, hod, hl⟩ := lookIn_ns hns
  obtain ⟨u, hu, ru⟩ := RelO.some_of (v := v) (o := mA n) (by rw [← at_]; exact hr n)
  have inst : PySem.W.InstAt s1.heap a _ C (some od) := ⟨ho, rfl, rfl, hod⟩
  exact HandSPX.exc_get J.kIn inst T.ga T.gg T.exC (PySem.W.findObj_own T.hdC no rfl (by rw [hl, hu])) (handed_of ru) ⟨v, H1, J.tok _, ru, q⟩
/-- C(e, ..) of an own class of errors with its own __init__, as a value -/
def tMkV (C : Addr) (sp : Sp) (ta : TA) : TE := fun σ H Q => ta σ H fun vs H1 => vs.length ≤ 1000 ∧ ∀ a, H1 a = none → sp (.ref a :: vs) (upd H1 a (exo a C none)) (fun v H2 => v = .non ∧ Q (.ref a) H2) (fun _ _ _ => False)
theorem pe_oexV {CX : CXT} {x : Str} {p pos : Pos} {e : Expr} {es : List Expr} {ta : TA} {C fI : Addr} {k : Nat} {fd : FuncData} {ps : List Str} {sp : Sp} (T : OexC X.K C) (own : PySem.W.findIn X.K (.ref C) "__init__" = some (some (.ref fI))) (fn : PySem.W.typeIn X.K (.ref fI) = some (.type "function"))
    (F : FnOk X.prog X.w X.K X.mg X.base CX k fI fd ps sp) (room : Room (k + 1) X.A) (binds : Binds X.K fd ps []) (way : Passes CX X (fun _ _ _ => False)) (gl : Gl X x) (there : X.mg x = some (.ref C)) (args : PA X (e :: es) ta)
    (nodebug : (x == ("__debug__" : Str)) = false := by decide) (h1 : starEach (e :: es) X.env = (false, eval e X.env) :: starEach es X.env := by rfl) (h2 : (backTo pos (starEach es X.env)).any (·.1) = false := by rfl) :
    PE X (.Call (.Name x p) (e :: es) [] pos) (tMkV C sp ta) := by
  refine ⟨fun pins s σ H Q I reads => ?_⟩
  obtain ⟨_, _, _, bs, bm, _, _, _, _, _, _, _, _, _, _, hC, hbm⟩ := T.cls
  refine wpAny_Call_Name_kw (ld_glob I gl there ?_ nodebug)
  refine PySem.W.callWith_K (h₀ := X.base) I.ok.mod.kin T.kC (thn (args.run pos pins s σ H _ I reads) fun us s1 ⟨vs, H1, J, r1, few, q1⟩ => ⟨J.kIn, ?_⟩) h1 h2
  show wpAny (model X.prog X.w) X.A (call (.ref C) us) _ _ s1
  obtain ⟨g1, gens, drawn, toks, os⟩ := s1
  obtain ⟨a, ea⟩ : ∃ a, a = g1.objs.size + 1 := ⟨_, rfl⟩
  have above : g1.objs.size ≤ a := by omega
  have new : H1 a = none := J.hok.fresh above
  have at_ : ((g1.push (PySem.W.kdv_tup us)).push (PySem.HandSPX.excO C g1.objs.size)).get? a = some (PySem.HandSPX.excO C g1.objs.size) := by
    subst ea
    heap_get
  have J2 : Inv X pins σ (upd H1 a (exo a C none)) ⟨(g1.push (PySem.W.kdv_tup us)).push (PySem.HandSPX.excO C g1.objs.size), gens, drawn, toks, os⟩ :=
    J.laid (t' := toks) (a := a) (o := exo a C none) (fun b o z => Heap.get?_push_of_some _ (Heap.get?_push_of_some _ z)) above (exo_ok at_)
  have asks := q1 a new
  have r2 : Vals (V.ref a :: vs) (Value.ref a :: us) := .cons rfl r1
  have long : (Value.ref a :: us ++ []).length = ps.length := by
    rw [List.append_nil, ← r2.length]
    exact F.len _ _ _ _ asks
  have fits : us.length ≤ sizeLine := by
    rw [← Paired.length r1, sizeLine_eq]
    omega
  have goes := F.run _ X.stack _ _ ⟨Value.ref a :: us, []⟩ (Value.ref a :: us) _ _ (fun _ _ _ => False) (room.make C us []) (J2.env0.make C us []) (by
    have := binds _ (Value.ref a :: us) J2.kIn long
    rw [List.append_nil] at this
    exact this) r2 asks
  subst ea
  refine wpAny_call (PySem.HandSPX.call_own PySem.F.excBase_ValueError (fun Y => PySem.HandSPX.refsVE_contains Y bm hbm) (J.kIn _ _ hC) (PySem.W.looks_findIn J.kIn own) (fun self => PySem.W.bind_fn J.kIn self fn) fits (codeAny_mono goes fun r s2 got => ?_))
  cases r with
  | error er => exact way pins σ _ _ er s2 J2 got
  | ok fl =>
    cases fl with
    | ret u =>
      obtain ⟨v, H2, J3, rv, ev, q2⟩ := J2.after got
      subst ev
      exact ⟨rv, .ref _, H2, J3, rfl, q2⟩
    | next => exact got.elim
    | brk => exact got.elim
    | cont => exact got.elim
end
end L2

namespace PySem
open PySem PySem.Spec PySem.Calls PyProof.Rows PySem.W Builtin
/-- an own class of errors without own __ne__ -/
structure ExNe (K : Frag) (C : Addr) : Prop extends ExQ K C where
  hn : findIn K (.ref C) "__ne__" = some (some (.builtin "object.__ne__"))
section
variable {prog : Program} {w : World} {M : Model} {A : Around} {E : Value → Shared → Prop} {s : Shared} {K : Frag} {C e t0 : Addr}
theorem special_eqC (x : ExcC K C e t0 s.heap) (q : ExQ K C) {Q : Option Value → Shared → Prop} (h : Q (some (.bool true)) s) : wpAny (model prog w) A (callSpecialIfBound? (.ref e) "__eq__" [.ref e]) Q E s :=
  ifBoundA_C x q.hq (F.cmp_object.eq.bind _) (wpAny_call (codeAny_call_builtin F.cmp_object.eq.plain F.cmpEntry_eq (@PySem.W.check_slot (model prog w) _ _ s "object.__eq__" "object" "__eq__" (.ref e) [.ref e] [] _ F.cmpKind_eq F.cmpSplit_eq (x.LT.andThen (looks_subIn x.1 q.ho)) (F.cmpArgs_eq _ _) (objEq_entry_same h))))
theorem objNe_entryC (x : ExcC K C e t0 s.heap) (q : ExQ K C) (hu : A.units < cLine) {Q : Fin → Shared → Prop} (h : Q (.done (.ret (.bool false))) s) : wpAny (model prog w) A (Builtin.«object.__ne__» ⟨[.ref e, .ref e], []⟩) Q E s := by
  unfold Builtin.«object.__ne__»
  repeat (first | with_reducible refine wpAny_cRoomFor hu ?_ | with_reducible refine special_eqC x q ?_ | wp_step)
  exact h
theorem try_neC (x : ExcC K C e t0 s.heap) (q : ExNe K C) (hu : A.units + 1 < cLine) {Q : Option Value → Shared → Prop} (h : Q (some (.bool false)) s) : wpAny (model prog w) A (tryCompare (.ref e) "__ne__" (.ref e)) Q E s := by
  simp only [tryCompare]
  refine wpAny_bind (ifBoundA_C x q.hn (F.cmp_object.ne.bind _) (wpAny_call (codeAny_call_builtin F.cmp_object.ne.plain F.cmpEntry_ne (@PySem.W.check_slot (model prog w) _ _ s "object.__ne__" "object" "__ne__" (.ref e) [.ref e] [] _ F.cmpKind_ne F.cmpSplit_ne (x.LT.andThen (looks_subIn x.1 q.ho)) (F.cmpArgs_ne _ _) (objNe_entryC (A := A.in1) x q.toExQ hu ?_)))))
  exact wpAny_pure h
theorem ne_exc_same (x : ExcC K C e t0 s.heap) (q : ExNe K C) (hu : A.units + 1 < cLine) {Q : Value → Shared → Prop} (h : Q (.bool false) s) : wpAny (model prog w) A (compareOp .NotEq (.ref e) (.ref e)) Q E s := by
  show wpAny (model prog w) A (richCompare .NotEq (.ref e) (.ref e)) Q E s
  simp only [richCompare, cmpInfo_NotEq, oneThing_ref]
  refine wpAny_holding ?_
  refine wpAny_bind (wpAny_cRoomFor (Nat.lt_of_succ_lt hu) ?_)
  refine wpAny_bind (x.LT.here (wpAny_bind (x.LT.here ?_)))
  rw [if_neg (show ¬ (Value.ref C != Value.ref C) = true by simp)]
  refine wpAny_bind (wpAny_pure ?_)
  simp only [Bool.false_eq_true, if_false, Bool.not_false, if_true]
  refine wpAny_bind (try_neC x q hu ?_)
  exact wpAny_pure h
end
end PySem
namespace L2
open PySem PySem.Spec PyProof.Rows
/-- what is equal to itself -/
def SameV (K : PySem.W.Frag) (H : Hp) (x : V) : Prop := x = .non ∨ (∃ b, x = .bl b) ∨ (∃ i, x = .int i) ∨ (∃ z, x = .str z) ∨ ∃ a, x = .ref a ∧ ((∃ xs, H a = some (.lst xs)) ∨ (∃ xs, Ptp H a xs) ∨ (∃ kvs, H a = some (.dK kvs) ∧ (kvs.map (·.1)).Nodup) ∨ ∃ C t, H a = some (ExN C a t) ∧ PySem.ExNe K C)
theorem keys_alike : ∀ {A : List (Key × V)} {B : List (Key × Value)}, KV A B → A.map (·.1) = B.map (·.1)
  | _, _, .nil => rfl
  | _, _, .cons h t => by
    rw [List.map_cons, List.map_cons, keys_alike t, h.1]
theorem hits_self {A : Around} {s : Shared} {kb : List (Key × Value)} (nd : (kb.map (·.1)).Nodup) : ∀ ka : List (Key × Value), (∀ p ∈ ka, p ∈ kb) → PySem.W.KeqHits A s kb ka true
  | [], _ => .nil
  | (k, v) :: ka, m => by
    have h := PySem.W.KeqHits.hit (A := A) (s := s) (e := true) (b := true) (PySem.valueAt_of_mem nd (m _ List.mem_cons_self)) (SeqAt.EqAt.same v) (hits_self nd ka fun p h => m p (List.mem_cons_of_mem _ h))
    exact h
section
variable {X : Cx}
theorem op_neSame {K : PySem.W.Frag} (hK : X.K = K) (hu : X.A.units + 64 < cLine) : OpR X (compareOp .NotEq) (fun x y H Q => x = y ∧ SameV K H x ∧ Q (.bl false) H) := by
  subst hK
  intro pins s σ H x y v u Q I rx ry h
  obtain ⟨rfl, h, q⟩ := h
  have fin : EP X pins σ Q (.bool false) s := ⟨.bl false, H, I, rfl, q⟩
  rcases h with rfl | ⟨b, rfl⟩ | ⟨i, rfl⟩ | ⟨z, rfl⟩ | ⟨a, rfl, h⟩
  · cases rx
    cases ry
    exact EqNone.ne_none_none fin
  · cases rx
    cases ry
    exact ne_bool (by rw [show (b != b) = false by simp]; exact fin)
  · obtain ⟨t, rfl⟩ := rx
    obtain ⟨t2, rfl⟩ := ry
    exact ne_int (by rw [show (i != i) = false by simp]; exact fin)
  · obtain ⟨t, rfl⟩ := rx
    obtain ⟨t2, rfl⟩ := ry
    exact ne_str (by rw [show (z != z) = false by simp]; exact fin)
  · cases rx
    cases ry
    rcases h with ⟨xs, h⟩ | ⟨xs, h⟩ | ⟨kvs, h, nd⟩ | ⟨C, t0, h, hq⟩
    · obtain ⟨_, its, n, r, _, e⟩ := I.lstM h
      have hl : s.heap.IsList a its.toArray := ⟨_, e, rfl, n, rfl⟩
      refine SeqAt.RcNeAt.lists (e := fun _ => true) hl hl rfl (by omega) (fun j h1 h2 => SeqAt.EqAt.same _) _ _ _ _ ?_
      rw [show (List.range its.toArray.size).all (fun _ => true) = true by simp]
      exact fin
    · obtain ⟨its, r, ht, _⟩ := I.tuple (h.seq (K := X.K))
      refine SeqAt.RcNeAt.tuples (e := fun _ => true) ht ht (by omega) (fun j h1 h2 => SeqAt.EqAt.same _) _ _ _ _ ?_
      rw [show ((List.range (min its.toArray.size its.toArray.size)).all (fun _ => true) && its.toArray.size == its.toArray.size) = true by simp]
      exact fin
    · obtain ⟨_, ma, va, ra, da⟩ := dk_of I.hok h
      have ek : kvs.map (·.1) = va.map (·.1) := keys_alike ra
      refine PySem.W.keq_ne (r := true) ma ma da da (by omega) (fun _ => hits_self (by rw [← ek]; exact nd) va fun _ h => h) ?_
      simpa using fin
    · obtain ⟨⟨oe, vs, e1, e2, e3, e4⟩, _, _⟩ := I.hok a _ h
      have x : PySem.ExcC X.K C a t0 s.heap := ⟨I.kIn, oe, vs, e1, e2.1, e3, e4⟩
      exact PySem.ne_exc_same x hq (by omega) fin
end
end L2

namespace Kb
open PySem PySem.Spec PyProof.Rows L2
section
variable {X : Cx} {x : Str} {p pos : Pos}
/-- C(), C an own class of errors without own __init__, its context None -/
theorem pmk_bareN {C : Addr} {bmB : List Value} {B newId initId : String} (F : ExcBaseFacts B newId initId bmB) (isExc : PySem.W.excIn X.K C bmB newId = true) (at_ : X.mg x = some (.ref C)) (kept : PySem.W.keepIn X.K (.ref C) = true) (may : Raises X (.ref C)) (gl : Gl X x)
    (nodebug : (x == ("__debug__" : Str)) = false := by decide) : L2N.PMk X (.Call (.Name x p) [] [] pos) (fun _ H Q => Q (.ref C) none H) := by
  intro pins s σ H Q I h
  refine wpAny_Call_Name_kw (ld_glob I gl at_ ?_ nodebug)
  refine PySem.W.callWith_K0 I.kIn kept ?_
  obtain ⟨_, _, _, _, _, _, _, _, _, _, _, _, _, _, _, _, _, isC, names, noInit, tail⟩ := exc_obj I.kIn isExc
  exact wpAny_call_exc_subT F tail isC names noInit (fun h' e' made => L2N.mk_of I made may h (I.hok.gone made.new)) (Nat.zero_le _)
end
section
variable {P : Program} {w : World} {K : PySem.W.Frag} {mg : Str → Option Value} {base : Heap}
/-- a def that may raise, the errors' contexts None -/
theorem okN {x qual : Str} {st : Stmt} {f : Addr} {fd : FuncData} {N ps : List Str} {k : Nat} {sp : Sp} (F : Fun K x qual st f fd) (S : FnScope N ps (defScope st)) (len : ∀ vs H Q E, sp vs H Q E → vs.length = ps.length)
    (body : ∀ (cdv : Value) (A : Around) (outer : List Env) (s : Shared) (H : Hp) (vs : List V) (Q : VK) (E : XK), Room k (A.deeper (envOfC qual (defScope st) s.heap.objs.size f cdv)) → sp vs H Q E →
      ∃ t, PSs (cxOf (L2N.CX P w) P w K mg base N qual (defScope st) f cdv A outer s H E) (defBody st) t ∧ t { nx := fun _ H' => Q .non H', rt := Q } (L2.start N vs) H) : FnOk P w K mg base (L2N.CX P w) (k + 1) f fd ps sp := by
  obtain ⟨_, _, _, _, _, _, cdv, _, _, rfl, there, code⟩ := F.ex
  exact fn_of there code S len fun A outer s H vs Q E room asks => body cdv A outer s H vs Q E room asks
/-- a def called where an error is handled -/
theorem okHot {CX : CXT} {x qual : Str} {st : Stmt} {f : Addr} {fd : FuncData} {N ps : List Str} {k : Nat} {sp : Addr × Obj → Sp} (F : Fun K x qual st f fd) (S : FnScope N ps (defScope st)) (p : Addr × Obj) (len : ∀ vs H Q E, sp p vs H Q E → vs.length = ps.length)
    (body : ∀ (cdv : Value) (A : Around) (outer : List Env) (s : Shared) (H : Hp) (vs : List V) (Q : VK) (E : XK) (q : Addr × Obj), L2H.Hot1 A q → L2H.RoomH k (A.deeper (envOfC qual (defScope st) s.heap.objs.size f cdv)) → sp p vs H Q E →
      ∃ t, PSs (L2H.cxH CX P w K mg base N qual (defScope st) f cdv A outer s H E q) (defBody st) t ∧ t { nx := fun _ H' => Q .non H', rt := Q } (L2.start N vs) H) : L2H.FnH P w K mg base CX (k + 1) f fd ps (sp p) := by
  obtain ⟨_, _, _, _, _, _, cdv, _, _, rfl, there, code⟩ := F.ex
  exact L2H.fn_ofH there code S len fun A outer s H vs Q E q hot room asks => body cdv A outer s H vs Q E q hot room asks
end
end Kb

namespace Kb
open PySem PySem.Spec PyProof.Rows L2 SrtZ SrtO
section
variable {P : Program} {w : World} {K : PySem.W.Frag} {mg : Str → Option Value} {base : Heap}
theorem spD_long {ds : List Dat} (h : ds.length ≠ 3) : spD (.tup ds) = false := by
  match ds, h with
  | [], _ => rfl
  | [_], _ => rfl
  | [_, _], _ => rfl
  | [_, _, _], h => exact absurd rfl h
  | _ :: _ :: _ :: _ :: _, _ => rfl
theorem three {α : Type} {xs : List α} (h : xs.length = 3) : ∃ a b c, xs = [a, b, c] := match xs, h with | [a, b, c], _ => ⟨a, b, c, rfl⟩
theorem paired3 {α β : Type} {F : α → β → Prop} {a b c : α} {e f g : β} (p : Paired F [a, b, c] [e, f, g]) : F a e ∧ F b f ∧ F c g := by
  cases p with | cons h1 p =>
  cases p with | cons h2 p =>
  cases p with | cons h3 p =>
  exact ⟨h1, h2, h3⟩
theorem isSRB_is {d : Dat} (h : isSRB (intD d) = true) : ∃ r, d = .int r ∧ 2 ≤ r ∧ r ≤ 65 := by
  cases d with
  | int r =>
    have h : (decide (2 ≤ r) && decide (r ≤ 65)) = true := h
    rw [Bool.and_eq_true, decide_eq_true_eq, decide_eq_true_eq] at h
    exact ⟨r, rfl, h.1, h.2⟩
  | _ => cases h
theorem isSm_is {d : Dat} (h : (intD d).isSome = true) : ∃ r, d = .int r := by
  cases d with
  | int r => exact ⟨r, rfl⟩
  | _ => cases h
def spIsSpaceRoomD (K : PySem.W.Frag) : Sp := fun vs H Q _ => ∃ (v : V) (d : Dat), vs = [v] ∧ DtAt K H v d ∧ Q (.bl (isSRB (intD d))) H
theorem ok_is_space_roomD (T : Blt mg) (cM : Cst mg "MOST_ROOM" (.int 64)) (dP_is_int : DnIsInt K mg) (d : DnIsSpaceRoom K mg) : FnOk P w K mg base CX0 2 d.f d.fd ["thing"] (spIsSpaceRoomD K) := by
  have GP_is_int : FnOk P w K mg base CX0 1 dP_is_int.f dP_is_int.fd ["thing"] (spIsIntD K) := ok_is_intD T dP_is_int
  refine d.F.ok scP_is_space_room (fun vs H Q E h => ?_) (fun cdv A outer s H vs Q E hr h => ?_)
  · obtain ⟨v, n, rfl, _⟩ := h
    rfl
  · obtain ⟨v, x, rfl, hx, q⟩ := h
    refine ⟨_, (pss_one (ps_ret (pe_and (pe_call GP_is_int (hr.mono (by omega)) (by rfl) dP_is_int.g dP_is_int.F.kp dP_is_int.b .nil pass0 (pa_cons (pv 0) pa_nil)) (pe_one (pe_chain op_le op_le pe_int (pv 0) (pe_op op_add (pe_glob rfl cM.g cM.r) pe_int)))))), ?_⟩
    refine ⟨v, rfl, v, x, rfl, hx, (intD x).isSome, rfl, ?_⟩
    cases x with
    | int i =>
      obtain ⟨rfl, _⟩ := hx.int
      have q : Q (.bl (decide (2 ≤ i) && decide (i ≤ 65))) H := q
      refine iteT ⟨.int i, rfl, _, _, rfl, rfl, decide (2 ≤ i), rfl, ite2 (fun e => ⟨_, _, rfl, rfl, _, _, rfl, rfl, ?_⟩) (fun e => ?_)⟩
      · rw [e, Bool.true_and] at q
        exact q
      · rw [show decide (2 ≤ i) = false from by simpa using e, Bool.false_and] at q
        exact q
    | _ => exact iteF q
def spIsSpaceD (K : PySem.W.Frag) : Sp := fun vs H Q _ => ∃ (v : V) (d : Dat), vs = [v] ∧ DtAt K H v d ∧ ∀ H', Same H H' → Q (.bl (spD d)) H'
theorem ok_is_spaceD (T : Blt mg) (cM : Cst mg "MOST_ROOM" (.int 64)) (cL : Cst mg "LONGEST_NAME" (.int 8)) (dP_is_int : DnIsInt K mg) (dP_is_name : DnIsName K mg) (dP_is_counted : DnIsCounted K mg) (dP_are_counts : DnAreCounts K mg) (dP_is_space_room : DnIsSpaceRoom K mg)
    (d : DnIsSpace K mg) : FnOk P w K mg base CX0 4 d.f d.fd ["thing"] (spIsSpaceD K) := by
  have GP_is_int : FnOk P w K mg base CX0 1 dP_is_int.f dP_is_int.fd ["thing"] (spIsIntD K) := ok_is_intD T dP_is_int
  have GP_are_counts : FnOk P w K mg base CX0 3 dP_are_counts.f dP_are_counts.fd ["thing"] (spAreCountsD K) := ok_are_countsD T cL dP_is_int dP_is_name dP_is_counted dP_are_counts
  have GP_is_space_room : FnOk P w K mg base CX0 2 dP_is_space_room.f dP_is_space_room.fd ["thing"] (spIsSpaceRoomD K) := ok_is_space_roomD T cM dP_is_int dP_is_space_room
  refine d.F.ok scP_is_space (fun vs H Q E h => ?_) (fun cdv A outer s H vs Q E hr h => ?_)
  · obtain ⟨v, n, rfl, _⟩ := h
    rfl
  · obtain ⟨v, x, rfl, hx, q⟩ := h
    refine ⟨_, (pss_cons (ps_if (PW.pt (pw_or (pt_not (pt_val (pe_callB (call_isD (K := K) rfl) (by rfl) T.n_isinstance (by decide +kernel) (pa_cons (pv 0) (pa_cons (pe_bltn (v := .ty "tuple") (by rfl) T.n_tuple (by decide +kernel) rfl) pa_nil))))) (pw_or1 (pt_cmpR op_ne (pe_callB call_len_seq (by rfl) T.n_len (by decide +kernel) (pa_cons (pv 0) pa_nil)) pe_int (nomark _)))))
      (pss_one (ps_ret pe_bl))
      pss_nil)
    (pss_cons (ps_asg (pv 0) (pg_tup (by rfl) (pgs_cons (pg_name (i := 1) scP_is_space.nd rfl (Or.inl rfl)) (pgs_cons (pg_name (i := 2) scP_is_space.nd rfl (Or.inl rfl)) (pgs_cons (pg_name (i := 3) scP_is_space.nd rfl (Or.inl rfl)) pgs_nil)))))
    (pss_cons (ps_if (PW.pt (pw_or (pt_not (pt_val (pe_call GP_is_space_room (hr.mono (by omega)) (by rfl) dP_is_space_room.g dP_is_space_room.F.kp dP_is_space_room.b .nil pass0 (pa_cons (pv 1) pa_nil)))) (pw_or (pt_not (pt_val (pe_call GP_is_int (hr.mono (by omega)) (by rfl) dP_is_int.g dP_is_int.F.kp dP_is_int.b .nil pass0 (pa_cons (pv 2) pa_nil)))) (pw_or1 (pt_not (pt_val (pe_call GP_are_counts (hr.mono (by omega)) (by rfl) dP_are_counts.g dP_are_counts.F.kp dP_are_counts.b .nil pass0 (pa_cons (pv 3) pa_nil))))))))
      (pss_one (ps_ret pe_bl))
      pss_nil)
    (pss_one (ps_ret (pe_and (pe_cmpR op_le (pe_callB call_len_seq (by rfl) T.n_len (by decide +kernel) (pa_cons (pv 3) pa_nil)) (pv 1) (nomark _)) (pe_one (pe_cmpR op_eq (pv 2) (pe_callB (cr_sum rfl) (by rfl) T.n_sum (by decide +kernel) (pa_cons (pe_lc (own := [("_", 4), ("count", 5)]) (g := gTup K 2 (gCons (gName 4) (gCons (gName 5) gNil))) (tt := tYes) rfl scP_is_space.nd (pi_tup (pv 3)) (blkOk_by (N := NP_is_space) (sc := defScope sP_is_space) (by decide +kernel)) (fun _ _ _ _ _ => pg_tup (by rfl) (pgs_cons (pg_name (i := 4) scP_is_space.nd rfl (Or.inl rfl)) (pgs_cons (pg_name (i := 5) scP_is_space.nd rfl (Or.inl rfl)) pgs_nil))) (fun _ _ _ _ _ => pts_nil) (fun _ _ _ _ _ => (pv 5))) pa_nil)) (nomark _))))))))), ?_⟩
    obtain ⟨t, ty, kI, kB, kS, kT⟩ := hx.ty
    refine ⟨v, rfl, v, _, t, _, isT x, rfl, .ty "tuple", ty, kT, isT x, rfl, ?_⟩
    cases x with
    | tup ds =>
      obtain ⟨a, xs, rfl, h1, h2, h3⟩ := hx.tup
      have hl := Paired.length h3
      refine iteF ⟨.ref a, rfl, a, _, rfl, .inr h1.seq, rfl, ?_⟩
      by_cases h2l : ds.length = 3
      · obtain ⟨d1, d2, d3, rfl⟩ := three h2l
        obtain ⟨x1, x2, x3, rfl⟩ := three (hl.trans h2l)
        obtain ⟨e1, e2, e3⟩ := paired3 h3
        refine ⟨false, rfl, iteF ?_⟩
        refine ⟨.ref a, rfl, a, _, rfl, h1.seq, rfl, _, _, rfl, _, _, rfl, _, _, rfl, rfl, ?_⟩
        have q : ∀ H', Same H H' → Q (.bl (isSRB (intD d1) && ((intD d2).isSome && (ctD d3 && (decide ((lenD d3 : Int) ≤ geI d1) && decide (geI d2 = sumC (kvD d3))))))) H' := q
        refine ⟨x1, rfl, x1, d1, rfl, e1, isSRB (intD d1), rfl, ?_⟩
        cases eR : isSRB (intD d1) with
        | false =>
          rw [eR, Bool.false_and] at q
          exact iteT (iteT (q H (Same.refl H)))
        | true =>
          rw [eR, Bool.true_and] at q
          refine iteF ⟨x2, rfl, x2, d2, rfl, e2, (intD d2).isSome, rfl, ?_⟩
          cases eM : (intD d2).isSome with
          | false =>
            rw [eM, Bool.false_and] at q
            exact iteT (iteT (q H (Same.refl H)))
          | true =>
            rw [eM, Bool.true_and] at q
            refine iteF ⟨x3, rfl, x3, d3, rfl, e3, fun H1 s1 => ⟨ctD d3, rfl, ?_⟩⟩
            cases eC : ctD d3 with
            | false =>
              rw [eC, Bool.false_and] at q
              exact iteT (q H1 s1)
            | true =>
              rw [eC, Bool.true_and] at q
              obtain ⟨k, rfl, hk, cc, hlen⟩ := ct_of e3 eC
              obtain ⟨r, rfl, r1, r64⟩ := isSRB_is eR
              obtain ⟨m, rfl⟩ := isSm_is eM
              obtain ⟨rfl, _⟩ := e1.int
              obtain ⟨rfl, _⟩ := e2.int
              generalize hkv : kvD d3 = kvs at hk cc hlen q
              rw [← hlen] at q
              have q : ∀ H', Same H H' → Q (.bl (decide ((kvs.length : Int) ≤ r) && decide (m = sumC kvs))) H' := q
              obtain ⟨ts, hS, hp⟩ := hk.same s1
              have htl := Paired.length hp
              have el : (ts.map V.ref).length = kvs.length := by rw [List.length_map, htl]
              refine iteF ⟨.ref k, rfl, k, _, rfl, .inr hS, .int r, rfl, _, _, rfl, rfl, _, rfl, ?_⟩
              rw [el]
              by_cases eL : (kvs.length : Int) ≤ r
              · rw [decide_eq_true eL] at q ⊢
                rw [Bool.true_and] at q
                refine iteT ⟨.int m, rfl, .ref k, rfl, k, rfl, ⟨_, hS⟩, fun D nD => lc_tup (xs := ts.map V.ref) (fun i H3 => Same H1 H3 ∧ H3 D = some (.lst ((kvs.take i).map fun e => V.int e.2))) ⟨same_upd nD, upd_same⟩ (fun i H3 _ h3 => seqT hS h3.1) (fun i x H3 hx h3 => ?_) (fun H3 h3 => ?_)⟩
                · obtain ⟨t, ht, rfl⟩ := map_at hx
                  obtain ⟨e, he, hat⟩ := paired_at hp ht
                  refine ⟨t, _, rfl, seqT hat h3.1, rfl, _, _, rfl, _, _, rfl, rfl, rfl, .int e.2, rfl, _, h3.2, ?_, Same.put h3.1 nD, ?_⟩
                  · rw [List.length_map, List.length_take, sizeLine_eq]
                    omega
                  · rw [upd_same, List.take_add_one, he, List.map_append]
                    rfl
                · refine ⟨D, kvs.map (fun e : Str × Int => e.2), rfl, sql ?_, rfl, ?_⟩
                  · rw [h3.2, List.length_map, htl, List.take_length, List.map_map]
                    rfl
                  · have qq := q H3 (Same.trans s1 h3.1)
                    show Q (.bl (decide (V.int m = V.int (sumC kvs)))) H3
                    by_cases em : m = sumC kvs
                    · rw [decide_eq_true em] at qq
                      rw [decide_eq_true (congrArg V.int em)]
                      exact qq
                    · rw [decide_eq_false em] at qq
                      rw [decide_eq_false (fun z => em (by injection z))]
                      exact qq
              · rw [decide_eq_false eL] at q ⊢
                rw [Bool.false_and] at q
                exact iteF (q H1 s1)
      · rw [spD_long h2l] at q
        refine ⟨true, congrArg V.bl ?_, iteT (q H (Same.refl H))⟩
        rw [decide_eq_false (by
          intro z
          injection z with z
          omega)]
        rfl
    | _ => exact iteT (iteT (q H (Same.refl H)))
def spFromSpaceR (K : PySem.W.Frag) (C : Addr) : Sp := fun vs H Q E => ∃ (v : V) (d : Dat), vs = [v] ∧ DtAt K H v d ∧ spD d = false ∧ ∀ H', Same H H' → E (.ref C) none H'
theorem ok_from_spaceR (T : Blt mg) (S : TxE K mg "NoSpace") (cM : Cst mg "MOST_ROOM" (.int 64)) (cL : Cst mg "LONGEST_NAME" (.int 8)) (dP_is_int : DnIsInt K mg) (dP_is_name : DnIsName K mg) (dP_is_counted : DnIsCounted K mg) (dP_are_counts : DnAreCounts K mg) (dP_is_space_room : DnIsSpaceRoom K mg) (dP_is_space : DnIsSpace K mg) (d : DnFromSpace K mg) : FnOk P w K mg base (L2N.CX P w) 5 d.f d.fd ["space"] (spFromSpaceR K S.C) := by
  have GP_is_space : FnOk P w K mg base CX0 4 dP_is_space.f dP_is_space.fd ["thing"] (spIsSpaceD K) := ok_is_spaceD T cM cL dP_is_int dP_is_name dP_is_counted dP_are_counts dP_is_space_room dP_is_space
  refine okN d.F scP_from_space (fun vs H Q E h => ?_) (fun cdv A outer s H vs Q E hr h => ?_)
  · obtain ⟨v, x, rfl, _⟩ := h
    rfl
  · obtain ⟨v, x, rfl, hx, hb, e⟩ := h
    refine ⟨_, (pss_cons (ps_if (pt_not (pt_val (pe_call GP_is_space (hr.mono (by omega)) (by rfl) dP_is_space.g dP_is_space.F.kp dP_is_space.b .nil pass0 (pa_cons (pv 0) pa_nil))))
      (pss_one (L2N.ps_raise rfl (L2N.takes_of rfl rfl rfl rfl) (pmk_bareN PySem.F.excBase_ValueError S.exc S.gC S.kp (raises_own S.sub S.ty) rfl)))
      pss_nil)
    pss_never), ?_⟩
    refine ⟨v, rfl, v, x, rfl, hx, fun H1 s1 => ⟨spD x, rfl, ?_⟩⟩
    rw [hb]
    exact iteT (e H1 s1)
def spFedSpaceR (K : PySem.W.Frag) (CS CN : Addr) : Sp := fun vs H Q E => ∃ (v vn : V) (d dn : Dat), vs = [v, vn] ∧ DtAt K H v d ∧ DtAt K H vn dn ∧ (spD d && nameD dn) = false ∧ (spD d = false → ∀ H', Same H H' → E (.ref CS) none H') ∧ (spD d = true → ∀ H', Same H H' → E (.ref CN) none H')
theorem ok_fed_spaceR (T : Blt mg) (S : TxE K mg "NoSpace") (Na : TxE K mg "NoName") (cM : Cst mg "MOST_ROOM" (.int 64)) (cL : Cst mg "LONGEST_NAME" (.int 8)) (dP_is_int : DnIsInt K mg) (dP_is_name : DnIsName K mg) (dP_is_counted : DnIsCounted K mg) (dP_are_counts : DnAreCounts K mg) (dP_is_space_room : DnIsSpaceRoom K mg) (dP_is_space : DnIsSpace K mg) (d : DnFedSpace K mg) : FnOk P w K mg base (L2N.CX P w) 5 d.f d.fd ["space", "name"] (spFedSpaceR K S.C Na.C) := by
  have GP_is_space : FnOk P w K mg base CX0 4 dP_is_space.f dP_is_space.fd ["thing"] (spIsSpaceD K) := ok_is_spaceD T cM cL dP_is_int dP_is_name dP_is_counted dP_are_counts dP_is_space_room dP_is_space
  have GP_is_name : FnOk P w K mg base CX0 1 dP_is_name.f dP_is_name.fd ["thing"] (spIsNameD K) := ok_is_nameD T cL dP_is_name
  refine okN d.F scP_fed_space (fun vs H Q E h => ?_) (fun cdv A outer s H vs Q E hr h => ?_)
  · obtain ⟨v, vn, x, xn, rfl, _⟩ := h
    rfl
  · obtain ⟨v, vn, x, xn, rfl, hx, hn, hb, e1, e2⟩ := h
    refine ⟨_, (pss_cons (ps_if (pt_not (pt_val (pe_call GP_is_space (hr.mono (by omega)) (by rfl) dP_is_space.g dP_is_space.F.kp dP_is_space.b .nil pass0 (pa_cons (pv 0) pa_nil))))
      (pss_one (L2N.ps_raise rfl (L2N.takes_of rfl rfl rfl rfl) (pmk_bareN PySem.F.excBase_ValueError S.exc S.gC S.kp (raises_own S.sub S.ty) rfl)))
      pss_nil)
    (pss_cons (ps_if (pt_not (pt_val (pe_call GP_is_name (hr.mono (by omega)) (by rfl) dP_is_name.g dP_is_name.F.kp dP_is_name.b .nil pass0 (pa_cons (pv 1) pa_nil))))
      (pss_one (L2N.ps_raise rfl (L2N.takes_of rfl rfl rfl rfl) (pmk_bareN PySem.F.excBase_ValueError Na.exc Na.gC Na.kp (raises_own Na.sub Na.ty) rfl)))
      pss_nil)
    pss_never)), ?_⟩
    refine ⟨v, rfl, v, x, rfl, hx, fun H1 s1 => ⟨spD x, rfl, ?_⟩⟩
    cases ha : spD x with
    | false => exact iteT (e1 ha H1 s1)
    | true =>
      rw [ha, Bool.true_and] at hb
      refine iteF ⟨vn, rfl, vn, xn, rfl, hn.same s1, fun H2 s2 => ⟨nameD xn, rfl, ?_⟩⟩
      rw [hb]
      exact iteT (e2 ha H2 (Same.trans s1 s2))
end
end Kb

namespace Kb
open PySem PySem.Spec PyProof.Rows L2 SrtZ SrtO
section
variable {P : Program} {w : World} {K : PySem.W.Frag} {mg : Str → Option Value} {base : Heap}
def spBareR (K : PySem.W.Frag) (C : Addr) : Sp := fun vs H Q E => ∃ (v : V) (d : Dat), vs = [v] ∧ DtAt K H v d ∧ isRB (intD d) = false ∧ E (.ref C) none H
theorem ok_bareR (T : Blt mg) (R : TxE K mg "NoRoom") (cM : Cst mg "MOST_ROOM" (.int 64)) (dP_is_int : DnIsInt K mg) (dP_is_room : DnIsRoom K mg) (d : DnBare K mg) : FnOk P w K mg base (L2N.CX P w) 3 d.f d.fd ["room"] (spBareR K R.C) := by
  have GP_is_room : FnOk P w K mg base CX0 2 dP_is_room.f dP_is_room.fd ["thing"] (spIsRoomD K) := ok_is_roomD T cM dP_is_int dP_is_room
  refine okN d.F scP_bare (fun vs H Q E h => ?_) (fun cdv A outer s H vs Q E hr h => ?_)
  · obtain ⟨v, x, rfl, _⟩ := h
    rfl
  · obtain ⟨v, x, rfl, hx, hb, e⟩ := h
    refine ⟨_, (pss_cons (ps_if (pt_not (pt_val (pe_call GP_is_room (hr.mono (by omega)) (by rfl) dP_is_room.g dP_is_room.F.kp dP_is_room.b .nil pass0 (pa_cons (pv 0) pa_nil))))
      (pss_one (L2N.ps_raise rfl (L2N.takes_of rfl rfl rfl rfl) (pmk_bareN PySem.F.excBase_ValueError R.exc R.gC R.kp (raises_own R.sub R.ty) rfl)))
      pss_nil)
    pss_never), ?_⟩
    refine ⟨v, rfl, v, x, rfl, hx, isRB (intD x), rfl, ?_⟩
    rw [hb]
    exact iteT e
def spFedManyR (K : PySem.W.Frag) (CS CN CU : Addr) : Sp := fun vs H Q E => ∃ (v vn vt : V) (d dn dt : Dat), vs = [v, vn, vt] ∧ DtAt K H v d ∧ DtAt K H vn dn ∧ DtAt K H vt dt ∧ (skD d && (nameD dn && isNB (intD dt))) = false ∧ (skD d = false → ∀ H', Same H H' → E (.ref CS) none H') ∧ (skD d = true → nameD dn = false → ∀ H', Same H H' → E (.ref CN) none H') ∧ (skD d = true → nameD dn = true → ∀ H', Same H H' → E (.ref CU) none H')
theorem ok_fed_manyR (T : Blt mg) (S : TxE K mg "NoSketch") (Na : TxE K mg "NoName") (Nu : TxE K mg "NoNumber") (cM : Cst mg "MOST_ROOM" (.int 64)) (cL : Cst mg "LONGEST_NAME" (.int 8)) (dP_is_int : DnIsInt K mg) (dP_is_number : DnIsNumber K mg) (dP_is_room : DnIsRoom K mg) (dP_is_name : DnIsName K mg) (dP_is_counted : DnIsCounted K mg) (dP_are_counts : DnAreCounts K mg) (dP_lost_of : DnLostOf K mg) (dP_is_sketch : DnIsSketch K mg) (d : DnFedMany K mg) : FnOk P w K mg base (L2N.CX P w) 5 d.f d.fd ["sketch", "name", "times"] (spFedManyR K S.C Na.C Nu.C) := by
  have GP_is_sketch : FnOk P w K mg base CX0 4 dP_is_sketch.f dP_is_sketch.fd ["thing"] (spIsSketchD K) := ok_is_sketchD T cM cL dP_is_int dP_is_number dP_is_room dP_is_name dP_is_counted dP_are_counts dP_lost_of dP_is_sketch
  have GP_is_name : FnOk P w K mg base CX0 1 dP_is_name.f dP_is_name.fd ["thing"] (spIsNameD K) := ok_is_nameD T cL dP_is_name
  have GP_is_number : FnOk P w K mg base CX0 2 dP_is_number.f dP_is_number.fd ["thing"] (spIsNumberD K) := ok_is_numberD T dP_is_int dP_is_number
  refine okN d.F scP_fed_many (fun vs H Q E h => ?_) (fun cdv A outer s H vs Q E hr h => ?_)
  · obtain ⟨v, vn, vt, x, xn, xt, rfl, _⟩ := h
    rfl
  · obtain ⟨v, vn, vt, x, xn, xt, rfl, hx, hn, ht, hb, e1, e2, e3⟩ := h
    refine ⟨_, (pss_cons (ps_if (pt_not (pt_val (pe_call GP_is_sketch (hr.mono (by omega)) (by rfl) dP_is_sketch.g dP_is_sketch.F.kp dP_is_sketch.b .nil pass0 (pa_cons (pv 0) pa_nil))))
      (pss_one (L2N.ps_raise rfl (L2N.takes_of rfl rfl rfl rfl) (pmk_bareN PySem.F.excBase_ValueError S.exc S.gC S.kp (raises_own S.sub S.ty) rfl)))
      pss_nil)
    (pss_cons (ps_if (pt_not (pt_val (pe_call GP_is_name (hr.mono (by omega)) (by rfl) dP_is_name.g dP_is_name.F.kp dP_is_name.b .nil pass0 (pa_cons (pv 1) pa_nil))))
      (pss_one (L2N.ps_raise rfl (L2N.takes_of rfl rfl rfl rfl) (pmk_bareN PySem.F.excBase_ValueError Na.exc Na.gC Na.kp (raises_own Na.sub Na.ty) rfl)))
      pss_nil)
    (pss_cons (ps_if (pt_not (pt_val (pe_call GP_is_number (hr.mono (by omega)) (by rfl) dP_is_number.g dP_is_number.F.kp dP_is_number.b .nil pass0 (pa_cons (pv 2) pa_nil))))
      (pss_one (L2N.ps_raise rfl (L2N.takes_of rfl rfl rfl rfl) (pmk_bareN PySem.F.excBase_ValueError Nu.exc Nu.gC Nu.kp (raises_own Nu.sub Nu.ty) rfl)))
      pss_nil)
    pss_never))), ?_⟩
    refine ⟨v, rfl, v, x, rfl, hx, fun H1 s1 => ⟨skD x, rfl, ?_⟩⟩
    cases ha : skD x with
    | false => exact iteT (e1 ha H1 s1)
    | true =>
      rw [ha, Bool.true_and] at hb
      refine iteF ⟨vn, rfl, vn, xn, rfl, hn.same s1, fun H2 s2 => ⟨nameD xn, rfl, ?_⟩⟩
      cases hn2 : nameD xn with
      | false => exact iteT (e2 ha hn2 H2 (Same.trans s1 s2))
      | true =>
        rw [hn2, Bool.true_and] at hb
        refine iteF ⟨vt, rfl, vt, xt, rfl, ht.same (Same.trans s1 s2), isNB (intD xt), rfl, ?_⟩
        rw [hb]
        exact iteT (e3 ha hn2 H2 (Same.trans s1 s2))
def spFedR (K : PySem.W.Frag) (CS CN : Addr) : Sp := fun vs H Q E => ∃ (v vn : V) (d dn : Dat), vs = [v, vn] ∧ DtAt K H v d ∧ DtAt K H vn dn ∧ (skD d && nameD dn) = false ∧ (skD d = false → ∀ H', Same H H' → E (.ref CS) none H') ∧ (skD d = true → nameD dn = false → ∀ H', Same H H' → E (.ref CN) none H')
theorem ok_fedR (T : Blt mg) {CX : Addr} (NX : XcT K CX) (S : TxE K mg "NoSketch") (Na : TxE K mg "NoName") (Nu : TxE K mg "NoNumber") (cM : Cst mg "MOST_ROOM" (.int 64)) (cL : Cst mg "LONGEST_NAME" (.int 8)) (dP_is_int : DnIsInt K mg) (dP_is_number : DnIsNumber K mg) (dP_is_room : DnIsRoom K mg) (dP_is_name : DnIsName K mg) (dP_is_counted : DnIsCounted K mg) (dP_are_counts : DnAreCounts K mg) (dP_lost_of : DnLostOf K mg) (dP_is_sketch : DnIsSketch K mg) (dP_fed_many : DnFedMany K mg) (d : DnFed K mg) : FnOk P w K mg base (L2N.CX P w) 6 d.f d.fd ["sketch", "name"] (spFedR K S.C Na.C) := by
  have GM : FnOk P w K mg base (L2N.CX P w) 5 dP_fed_many.f dP_fed_many.fd ["sketch", "name", "times"] (spFedManyR K S.C Na.C Nu.C) := ok_fed_manyR T S Na Nu cM cL dP_is_int dP_is_number dP_is_room dP_is_name dP_is_counted dP_are_counts dP_lost_of dP_is_sketch dP_fed_many
  refine okN d.F scP_fed (fun vs H Q E h => ?_) (fun cdv A outer s H vs Q E hr h => ?_)
  · obtain ⟨v, vn, x, xn, rfl, _⟩ := h
    rfl
  · obtain ⟨v, vn, x, xn, rfl, hx, hn, hb, e1, e2⟩ := h
    refine ⟨_, (pss_one (ps_ret (pe_callS GM (hr.mono (by omega)) (by rfl) dP_fed_many.g dP_fed_many.F.kp dP_fed_many.b (fun σ => L2N.passAt (L2N.takes_of rfl rfl rfl rfl) σ) (pa_cons (pv 0) (pa_cons (pv 1) (pa_cons pe_int pa_nil)))))), ?_⟩
    refine ⟨v, rfl, vn, rfl, v, vn, .int 1, x, xn, .int 1, rfl, hx, hn, DtAt.of (F := fun _ => False) (n := 0) NX (.lint (by decide)), ?_, e1, e2, fun h1 h2 => ?_⟩
    · rw [show isNB (intD (.int 1)) = true from rfl, Bool.and_true]
      exact hb
    · rw [h1, h2] at hb
      cases hb
def spNeedTwoR (K : PySem.W.Frag) (CS : Addr) : Sp := fun vs H Q E => ∃ (v1 v2 : V) (d1 d2 : Dat), vs = [v1, v2] ∧ DtAt K H v1 d1 ∧ DtAt K H v2 d2 ∧ (skD d1 && skD d2) = false ∧ ∀ H', Same H H' → E (.ref CS) none H'
theorem ok_need_twoR (T : Blt mg) (S : TxE K mg "NoSketch") (cM : Cst mg "MOST_ROOM" (.int 64)) (cL : Cst mg "LONGEST_NAME" (.int 8)) (dP_is_int : DnIsInt K mg) (dP_is_number : DnIsNumber K mg) (dP_is_room : DnIsRoom K mg) (dP_is_name : DnIsName K mg) (dP_is_counted : DnIsCounted K mg) (dP_are_counts : DnAreCounts K mg) (dP_lost_of : DnLostOf K mg) (dP_is_sketch : DnIsSketch K mg) (d : DnNeedTwo K mg) : FnOk P w K mg base (L2N.CX P w) 5 d.f d.fd ["one", "other"] (spNeedTwoR K S.C) := by
  have GP_is_sketch : FnOk P w K mg base CX0 4 dP_is_sketch.f dP_is_sketch.fd ["thing"] (spIsSketchD K) := ok_is_sketchD T cM cL dP_is_int dP_is_number dP_is_room dP_is_name dP_is_counted dP_are_counts dP_lost_of dP_is_sketch
  refine okN d.F scP_need_two (fun vs H Q E h => ?_) (fun cdv A outer s H vs Q E hr h => ?_)
  · obtain ⟨v1, v2, x1, x2, rfl, _⟩ := h
    rfl
  · obtain ⟨v1, v2, x1, x2, rfl, h1, h2, hb, e1⟩ := h
    refine ⟨_, (pss_cons (ps_if (PW.pt (pw_or (pt_not (pt_val (pe_call GP_is_sketch (hr.mono (by omega)) (by rfl) dP_is_sketch.g dP_is_sketch.F.kp dP_is_sketch.b .nil pass0 (pa_cons (pv 0) pa_nil)))) (pw_or1 (pt_not (pt_val (pe_call GP_is_sketch (hr.mono (by omega)) (by rfl) dP_is_sketch.g dP_is_sketch.F.kp dP_is_sketch.b .nil pass0 (pa_cons (pv 1) pa_nil)))))))
      (pss_one (L2N.ps_raise rfl (L2N.takes_of rfl rfl rfl rfl) (pmk_bareN PySem.F.excBase_ValueError S.exc S.gC S.kp (raises_own S.sub S.ty) rfl)))
      pss_nil)
    pss_never), ?_⟩
    refine ⟨v1, rfl, v1, x1, rfl, h1, fun H1 s1 => ⟨skD x1, rfl, ?_⟩⟩
    cases ea : skD x1 with
    | false => exact iteT (iteT (e1 H1 s1))
    | true =>
      refine iteF ⟨v2, rfl, v2, x2, rfl, h2.same s1, fun H2 s2 => ⟨skD x2, rfl, ?_⟩⟩
      have s12 := Same.trans s1 s2
      cases eb : skD x2 with
      | false => exact iteT (e1 H2 s12)
      | true =>
        rw [ea, eb] at hb
        cases hb
def spPouredR (K : PySem.W.Frag) (CS : Addr) : Sp := spNeedTwoR K CS
theorem ok_pouredR (T : Blt mg) (S : TxE K mg "NoSketch") (cM : Cst mg "MOST_ROOM" (.int 64)) (cL : Cst mg "LONGEST_NAME" (.int 8)) (dP_is_int : DnIsInt K mg) (dP_is_number : DnIsNumber K mg) (dP_is_room : DnIsRoom K mg) (dP_is_name : DnIsName K mg) (dP_is_counted : DnIsCounted K mg) (dP_are_counts : DnAreCounts K mg) (dP_lost_of : DnLostOf K mg) (dP_is_sketch : DnIsSketch K mg) (dP_need_two : DnNeedTwo K mg) (d : DnPoured K mg) : FnOk P w K mg base (L2N.CX P w) 6 d.f d.fd ["one", "other"] (spPouredR K S.C) := by
  have GN : FnOk P w K mg base (L2N.CX P w) 5 dP_need_two.f dP_need_two.fd ["one", "other"] (spNeedTwoR K S.C) := ok_need_twoR T S cM cL dP_is_int dP_is_number dP_is_room dP_is_name dP_is_counted dP_are_counts dP_lost_of dP_is_sketch dP_need_two
  refine okN d.F scP_poured (fun vs H Q E h => ?_) (fun cdv A outer s H vs Q E hr h => ?_)
  · obtain ⟨v1, v2, x1, x2, rfl, _⟩ := h
    rfl
  · obtain ⟨v1, v2, x1, x2, rfl, h⟩ := h
    refine ⟨_, (pss_cons (ps_expr (pe_callS GN (hr.mono (by omega)) (by rfl) dP_need_two.g dP_need_two.F.kp dP_need_two.b (fun σ => L2N.passAt (L2N.takes_of rfl rfl rfl rfl) σ) (pa_cons (pv 0) (pa_cons (pv 1) pa_nil)))) pss_never), ?_⟩
    exact ⟨v1, rfl, v2, rfl, v1, v2, x1, x2, rfl, h⟩
end
end Kb

namespace Kb
open PySem PySem.Spec PyProof.Rows L2 SrtZ SrtO
section
variable {P : Program} {w : World} {K : PySem.W.Frag} {mg : Str → Option Value} {base : Heap}
def arB : Dat → Bool
  | .tup ds => decide (ds.length ≤ 100) && ds.all skD
  | _ => false
def spAreSketchesD (K : PySem.W.Frag) : Sp := fun vs H Q _ => ∃ (v : V) (d : Dat), vs = [v] ∧ DtAt K H v d ∧ ∀ H', Same H H' → Q (.bl (arB d)) H'
theorem ok_are_sketchesD (T : Blt mg) (cM : Cst mg "MOST_ROOM" (.int 64)) (cL : Cst mg "LONGEST_NAME" (.int 8)) (dP_is_int : DnIsInt K mg) (dP_is_number : DnIsNumber K mg) (dP_is_room : DnIsRoom K mg) (dP_is_name : DnIsName K mg) (dP_is_counted : DnIsCounted K mg) (dP_are_counts : DnAreCounts K mg) (dP_lost_of : DnLostOf K mg) (dP_is_sketch : DnIsSketch K mg) (cK : Cst mg "MOST_SKETCHES" (.int 100)) (d : DnAreSketches K mg) : FnOk P w K mg base CX0 5 d.f d.fd ["thing"] (spAreSketchesD K) := by
  have GP_is_sketch : FnOk P w K mg base CX0 4 dP_is_sketch.f dP_is_sketch.fd ["thing"] (spIsSketchD K) := ok_is_sketchD T cM cL dP_is_int dP_is_number dP_is_room dP_is_name dP_is_counted dP_are_counts dP_lost_of dP_is_sketch
  refine d.F.ok scP_are_sketches (fun vs H Q E h => ?_) (fun cdv A outer s H vs Q E hr h => ?_)
  · obtain ⟨v, x, rfl, _⟩ := h
    rfl
  · obtain ⟨v, x, rfl, hx, q⟩ := h
    refine ⟨_, (pss_cons (ps_if (PW.pt (pw_or (pt_not (pt_val (pe_callB (call_isD (K := K) rfl) (by rfl) T.n_isinstance (by decide +kernel) (pa_cons (pv 0) (pa_cons (pe_bltn (v := .ty "tuple") (by rfl) T.n_tuple (by decide +kernel) rfl) pa_nil))))) (pw_or1 (pt_cmpR op_gt (pe_callB call_len_seq (by rfl) T.n_len (by decide +kernel) (pa_cons (pv 0) pa_nil)) (pe_glob rfl cK.g cK.r) (nomark _)))))
      (pss_one (ps_ret pe_bl))
      pss_nil)
    (pss_one (ps_ret (pe_callB (cr_all rfl) (by rfl) T.n_all (by decide +kernel) (pa_cons (pe_lc (own := [("sketch", 1)]) (g := gName 1) (tt := tYes) rfl scP_are_sketches.nd (pi_tup (pv 0)) (blkOk_by (N := NP_are_sketches) (sc := defScope sP_are_sketches) (by decide +kernel)) (fun _ _ _ _ _ => pg_name (i := 1) scP_are_sketches.nd rfl (Or.inl rfl)) (fun _ _ _ _ _ => pts_nil) (fun _ _ _ _ _ => (pe_call GP_is_sketch (hr.mono (by omega)) (by rfl) dP_is_sketch.g dP_is_sketch.F.kp dP_is_sketch.b .nil pass0 (pa_cons (pv 1) pa_nil)))) pa_nil))))), ?_⟩
    obtain ⟨t, ty, kI, kB, kS, kT⟩ := hx.ty
    refine ⟨v, rfl, v, _, t, _, isT x, rfl, .ty "tuple", ty, kT, isT x, rfl, ?_⟩
    cases x with
    | tup ds =>
      obtain ⟨a, xs, rfl, h1, h2, h3⟩ := hx.tup
      have hl := Paired.length h3
      have q : ∀ H', Same H H' → Q (.bl (decide (ds.length ≤ 100) && ds.all skD)) H' := q
      refine iteF ⟨.ref a, rfl, a, _, rfl, .inr h1.seq, _, _, rfl, rfl, ?_⟩
      by_cases h100 : ds.length ≤ 100
      · rw [decide_eq_true h100, Bool.true_and] at q
        refine ⟨false, congrArg V.bl (decide_eq_false (by omega)), iteF ⟨.ref a, rfl, a, rfl, ⟨_, h1.seq⟩, fun D nD => lc_tup (xs := xs) (fun i H3 => Same H H3 ∧ H3 D = some (.lst ((ds.take i).map fun d => V.bl (skD d)))) ⟨same_upd nD, upd_same⟩ (fun i H3 _ h3 => (h1.same h3.1).seq) (fun i x H3 hx h4 => ?_) (fun H3 h4 => ?_)⟩⟩
        · obtain ⟨e, he, hat⟩ := paired_at h3 hx
          refine ⟨rfl, x, rfl, x, e, rfl, hat.same h4.1, fun H4 s4 => ⟨_, s4 _ _ h4.2, ?_, fun b o z => ?_, ?_⟩⟩
          · rw [List.length_map, List.length_take, sizeLine_eq]
            omega
          · rw [upd_ne (ne_of_none z nD)]
            exact s4 b o (h4.1 b o z)
          · rw [upd_same, List.take_add_one, he, List.map_append]
            rfl
        · refine ⟨D, ds.map skD, rfl, sql (by rw [h4.2, hl, List.take_length, List.map_map]; rfl), ?_⟩
          rw [show (ds.map skD).all id = ds.all skD by rw [List.all_map]; rfl]
          exact q H3 h4.1
      · rw [decide_eq_false h100, Bool.false_and] at q
        exact ⟨true, congrArg V.bl (decide_eq_true (by omega)), iteT (q H (Same.refl H))⟩
    | _ => exact iteT (iteT (q H (Same.refl H)))
def spSumEndsR (K : PySem.W.Frag) (CS CN : Addr) : Sp := fun vs H Q E => ∃ (v vn : V) (d dn : Dat), vs = [v, vn] ∧ DtAt K H v d ∧ DtAt K H vn dn ∧ (arB d && nameD dn) = false ∧ (arB d = false → ∀ H', Same H H' → E (.ref CS) none H') ∧ (arB d = true → ∀ H', Same H H' → E (.ref CN) none H')
theorem ok_sum_endsR (T : Blt mg) (cM : Cst mg "MOST_ROOM" (.int 64)) (cL : Cst mg "LONGEST_NAME" (.int 8)) (dP_is_int : DnIsInt K mg) (dP_is_number : DnIsNumber K mg) (dP_is_room : DnIsRoom K mg) (dP_is_name : DnIsName K mg) (dP_is_counted : DnIsCounted K mg) (dP_are_counts : DnAreCounts K mg) (dP_lost_of : DnLostOf K mg) (dP_is_sketch : DnIsSketch K mg) (Ss : TxE K mg "NoSketches") (Na : TxE K mg "NoName") (cK : Cst mg "MOST_SKETCHES" (.int 100)) (dP_are_sketches : DnAreSketches K mg) (d : DnSumEnds K mg) : FnOk P w K mg base (L2N.CX P w) 7 d.f d.fd ["sketches", "name"] (spSumEndsR K Ss.C Na.C) := by
  have GP_are_sketches : FnOk P w K mg base CX0 5 dP_are_sketches.f dP_are_sketches.fd ["thing"] (spAreSketchesD K) := ok_are_sketchesD T cM cL dP_is_int dP_is_number dP_is_room dP_is_name dP_is_counted dP_are_counts dP_lost_of dP_is_sketch cK dP_are_sketches
  have GP_is_name : FnOk P w K mg base CX0 1 dP_is_name.f dP_is_name.fd ["thing"] (spIsNameD K) := ok_is_nameD T cL dP_is_name
  refine okN d.F scP_sum_ends (fun vs H Q E h => ?_) (fun cdv A outer s H vs Q E hr h => ?_)
  · obtain ⟨v, vn, x, xn, rfl, _⟩ := h
    rfl
  · obtain ⟨v, vn, x, xn, rfl, hx, hn, hb, e1, e2⟩ := h
    refine ⟨_, (pss_cons (ps_if (pt_not (pt_val (pe_call GP_are_sketches (hr.mono (by omega)) (by rfl) dP_are_sketches.g dP_are_sketches.F.kp dP_are_sketches.b .nil pass0 (pa_cons (pv 0) pa_nil))))
      (pss_one (L2N.ps_raise rfl (L2N.takes_of rfl rfl rfl rfl) (pmk_bareN PySem.F.excBase_ValueError Ss.exc Ss.gC Ss.kp (raises_own Ss.sub Ss.ty) rfl)))
      pss_nil)
    (pss_cons (ps_if (pt_not (pt_val (pe_call GP_is_name (hr.mono (by omega)) (by rfl) dP_is_name.g dP_is_name.F.kp dP_is_name.b .nil pass0 (pa_cons (pv 1) pa_nil))))
      (pss_one (L2N.ps_raise rfl (L2N.takes_of rfl rfl rfl rfl) (pmk_bareN PySem.F.excBase_ValueError Na.exc Na.gC Na.kp (raises_own Na.sub Na.ty) rfl)))
      pss_nil)
    pss_never)), ?_⟩
    refine ⟨v, rfl, v, x, rfl, hx, fun H1 s1 => ⟨arB x, rfl, ?_⟩⟩
    cases ha : arB x with
    | false => exact iteT (e1 ha H1 s1)
    | true =>
      rw [ha, Bool.true_and] at hb
      refine iteF ⟨vn, rfl, vn, xn, rfl, hn.same s1, fun H2 s2 => ⟨nameD xn, rfl, ?_⟩⟩
      rw [hb]
      exact iteT (e2 ha H2 (Same.trans s1 s2))
end
end Kb

namespace Kb
open PySem PySem.Spec PyProof.Rows L2 SrtZ SrtO
section
variable {P : Program} {w : World} {K : PySem.W.Frag} {mg : Str → Option Value} {base : Heap}
theorem fn_or {CX : CXT} {k : Nat} {f : Addr} {fd : FuncData} {ps : List Str} {s1 s2 : Sp} (F1 : FnOk P w K mg base CX k f fd ps s1) (F2 : FnOk P w K mg base CX k f fd ps s2) : FnOk P w K mg base CX k f fd ps (fun vs H Q E => s1 vs H Q E ∨ s2 vs H Q E) :=
  ⟨fun vs H Q E h => h.elim (F1.len vs H Q E) (F2.len vs H Q E), fun A outer s H args us vs Q E hr e0 hb r h => h.elim (F1.run A outer s H args us vs Q E hr e0 hb r) (F2.run A outer s H args us vs Q E hr e0 hb r)⟩
theorem fn_lift {CX : CXT} {k : Nat} {f : Addr} {fd : FuncData} {ps : List Str} {s1 : Sp} (F1 : FnOk P w K mg base CX0 k f fd ps s1) : FnOk P w K mg base CX k f fd ps s1 :=
  ⟨F1.len, fun A outer s H args us vs Q E hr e0 hb r h => codeAny_mono (F1.run A outer s H args us vs Q E hr e0 hb r h) fun r s' hq => by
    cases r with
    | error e => exact hq.elim
    | ok fl => cases fl <;> exact hq⟩
theorem fn_up {CX : CXT} {k k' : Nat} {f : Addr} {fd : FuncData} {ps : List Str} {s1 : Sp} (F1 : FnOk P w K mg base CX k f fd ps s1) (h : k ≤ k') : FnOk P w K mg base CX k' f fd ps s1 :=
  ⟨F1.len, fun A outer s H args us vs Q E hr e0 hb r g => F1.run A outer s H args us vs Q E (hr.mono h) e0 hb r g⟩
def spCountsOfR (K : PySem.W.Frag) (C : Addr) : Sp := fun vs H Q E => ∃ (v : V) (d : Dat), vs = [v] ∧ DtAt K H v d ∧ treeD d = false ∧ ∀ H', Same H H' → E (.ref C) none H'
theorem ok_counts_ofR (T : Blt mg) (N : TxE K mg "NoTree") (cL : Cst mg "LONGEST_NAME" (.int 8)) (cS' : Cst mg "MOST_STEPS" (.int 5000)) (cI : Cst mg "MOST_ITEMS" (.int 50000)) (dP_is_name : DnIsName K mg) (dP_is_stream : DnIsStream K mg) (dP_is_put : DnIsPut K mg) (dP_is_pour : DnIsPour K mg) (dP_is_tree : DnIsTree K mg) (d : DnCountsOf K mg) : FnOk P w K mg base (L2N.CX P w) 5 d.f d.fd ["tree"] (spCountsOfR K N.C) := by
  have GP_is_tree : FnOk P w K mg base CX0 4 dP_is_tree.f dP_is_tree.fd ["thing"] (spIsTreeD K) := ok_is_treeD T cL cS' cI dP_is_name dP_is_stream dP_is_put dP_is_pour dP_is_tree
  refine okN d.F scP_counts_of (fun vs H Q E h => ?_) (fun cdv A outer s H vs Q E hr h => ?_)
  · obtain ⟨v, x, rfl, _⟩ := h
    rfl
  · obtain ⟨v, x, rfl, hx, hb, e⟩ := h
    refine ⟨_, (pss_cons (ps_if (pt_not (pt_val (pe_call GP_is_tree (hr.mono (by omega)) (by rfl) dP_is_tree.g dP_is_tree.F.kp dP_is_tree.b .nil pass0 (pa_cons (pv 0) pa_nil))))
      (pss_one (L2N.ps_raise rfl (L2N.takes_of rfl rfl rfl rfl) (pmk_bareN PySem.F.excBase_ValueError N.exc N.gC N.kp (raises_own N.sub N.ty) rfl)))
      pss_nil)
    pss_never), ?_⟩
    refine ⟨v, rfl, v, x, rfl, hx, fun H1 s1 => ⟨treeD x, rfl, ?_⟩⟩
    rw [hb]
    exact iteT (e H1 s1)
def spSketchOfR (K : PySem.W.Frag) (CR CT : Addr) : Sp := fun vs H Q E => ∃ (vr v : V) (dr d : Dat), vs = [vr, v] ∧ DtAt K H vr dr ∧ DtAt K H v d ∧ (isRB (intD dr) && treeD d) = false ∧ (isRB (intD dr) = false → E (.ref CR) none H) ∧ (isRB (intD dr) = true → ∀ H', Same H H' → E (.ref CT) none H')
theorem ok_sketch_ofR (T : Blt mg) (R : TxE K mg "NoRoom") (N : TxE K mg "NoTree") (cM : Cst mg "MOST_ROOM" (.int 64)) (cL : Cst mg "LONGEST_NAME" (.int 8)) (cS' : Cst mg "MOST_STEPS" (.int 5000)) (cI : Cst mg "MOST_ITEMS" (.int 50000)) (dP_is_int : DnIsInt K mg) (dP_is_room : DnIsRoom K mg) (dP_is_name : DnIsName K mg) (dP_is_stream : DnIsStream K mg) (dP_is_put : DnIsPut K mg) (dP_is_pour : DnIsPour K mg) (dP_is_tree : DnIsTree K mg) (d : DnSketchOf K mg) : FnOk P w K mg base (L2N.CX P w) 5 d.f d.fd ["room", "tree"] (spSketchOfR K R.C N.C) := by
  have GP_is_room : FnOk P w K mg base CX0 2 dP_is_room.f dP_is_room.fd ["thing"] (spIsRoomD K) := ok_is_roomD T cM dP_is_int dP_is_room
  have GP_is_tree : FnOk P w K mg base CX0 4 dP_is_tree.f dP_is_tree.fd ["thing"] (spIsTreeD K) := ok_is_treeD T cL cS' cI dP_is_name dP_is_stream dP_is_put dP_is_pour dP_is_tree
  refine okN d.F scP_sketch_of (fun vs H Q E h => ?_) (fun cdv A outer s H vs Q E hr h => ?_)
  · obtain ⟨vr, v, dr, x, rfl, _⟩ := h
    rfl
  · obtain ⟨vr, v, dr, x, rfl, hrm, hx, hb, e1, e2⟩ := h
    refine ⟨_, (pss_cons (ps_if (pt_not (pt_val (pe_call GP_is_room (hr.mono (by omega)) (by rfl) dP_is_room.g dP_is_room.F.kp dP_is_room.b .nil pass0 (pa_cons (pv 0) pa_nil))))
      (pss_one (L2N.ps_raise rfl (L2N.takes_of rfl rfl rfl rfl) (pmk_bareN PySem.F.excBase_ValueError R.exc R.gC R.kp (raises_own R.sub R.ty) rfl)))
      pss_nil)
    (pss_cons (ps_if (pt_not (pt_val (pe_call GP_is_tree (hr.mono (by omega)) (by rfl) dP_is_tree.g dP_is_tree.F.kp dP_is_tree.b .nil pass0 (pa_cons (pv 1) pa_nil))))
      (pss_one (L2N.ps_raise rfl (L2N.takes_of rfl rfl rfl rfl) (pmk_bareN PySem.F.excBase_ValueError N.exc N.gC N.kp (raises_own N.sub N.ty) rfl)))
      pss_nil)
    pss_never)), ?_⟩
    refine ⟨vr, rfl, vr, dr, rfl, hrm, isRB (intD dr), rfl, ?_⟩
    cases er : isRB (intD dr) with
    | false => exact iteT (e1 er)
    | true =>
      rw [er, Bool.true_and] at hb
      refine iteF ⟨v, rfl, v, x, rfl, hx, fun H1 s1 => ⟨treeD x, rfl, ?_⟩⟩
      rw [hb]
      exact iteT (e2 er H1 s1)
end
end Kb

namespace Kb
open PySem PySem.Spec PyProof.Rows L2
/-! try: .. except A as n: f(n), where each error of the body is A's -/
section
variable {X : Cx} {x n : Str} {c : Value} {i : Nat} {body rest : List Stmt} {first : Stmt} {more : List ExceptHandler} {np pos hpos : Pos} {tb : WX → TS} {ts : Addr → Value → Option Addr → TS}
theorem ps_try_own (stk : X.stack = X.env :: X.outer) (frm : X.env.frame = some X.env.locals) (nd : X.N.Nodup) (at_ : X.N[i]? = some n) (loc : X.env.kindOf n = some .local) (nam : Names X x c)
    (runs : ∀ (W : WX) (pn : List (Addr × Obj)) (way : Value → Shared → Prop), L2.Takes (X.tr pn way) W → PassesOwn (model X.prog X.w) X.A X.env way → PSs (X.tr pn way) body (tb W))
    (caught : ∀ (a : Addr) (oe : Obj) (cls : Value) (d : Option Addr) (pn : List (Addr × Obj)), X.base.get? a = none → Zc cls d oe → (∃ vs, oe.data = .fields vs) → PSs (X.suite a ((a, oe) :: pn)) (first :: rest) (ts a cls d)) :
    PS X (.Try body (.ExceptHandler (some (.Name x np)) (some n) (first :: rest) hpos :: more) [] [] pos) (fun D σ H => tb (wFirst X.K c i ts D) D σ H) := by
  refine ⟨fun pins s σ H D I reads => ?_⟩
  have good := I.ok
  have fr : X.A.frames = some (X.env :: X.outer) := by rw [good.frames, stk]
  refine wpAny_Try_except ?_
  have whole := (runs (wFirst X.K c i ts D) (X.pn ++ pins) (fun e t1 => wpAny (model X.prog X.w) X.A (noteFrame e X.env) (fun _ t2 => wpAny (model X.prog X.w) X.A (setFlight e none) (fun _ t3 =>
    wpAny (model X.prog X.w) X.A (handleBy e X.env (.ExceptHandler (some (.Name x np)) (some n) (first :: rest) hpos :: more)) (SP X pins D) X.xe t3) X.xe t2) X.xe t1) (fun u s' air => ?_) PassesOwn.looking).run [] s σ H D (I.toTry _) reads
  · refine wpAny_mono whole (fun fl s1 got => ?_) fun _ _ z => z
    cases fl with
    | next => exact wpAny_execs_nil (let ⟨σ', H', J, q⟩ := got; ⟨σ', H', J.ofTry good, q⟩)
    | brk => exact let ⟨σ', H', J, q⟩ := got; ⟨σ', H', J.ofTry good, q⟩
    | cont => exact let ⟨σ', H', J, q⟩ := got; ⟨σ', H', J.ofTry good, q⟩
    | ret u => exact let ⟨v, σ', H', J, r, q⟩ := got; ⟨v, σ', H', J.ofTry good, r, q⟩
  · obtain ⟨a, B, sI, pins1, σ1, H1, cls, d, eu, J0, ground, up, sky, na, os, ag, yes, suite⟩ := air
    subst eu
    have J : L2.Inv X pins σ1 H1 sI := J0.ofTry good
    have sky : Sky B X.stack a (Zc cls d) X.env.locals s'.heap := sky
    rw [stk] at sky
    show wpAny (model X.prog X.w) X.A (noteFrame (.ref a) X.env) _ _ s'
    refine Sky.land Zc.steady fr frm sky fun g3 fly3 up3 => ?_
    have J3 : L2.Inv X pins σ1 H1 { s' with heap := g3 } := J.landed ground fly3.1 (up.trans up3) os ag
    obtain ⟨o3, v3, e3, z3, d3⟩ := fly3.there
    have offFrames : a ∉ frs (X.env :: X.outer) := fun hm => by
      obtain ⟨_, o', e', nofields⟩ := fly3.2.2.1.mem hm
      rw [e3] at e'
      cases e'
      exact nofields _ d3
    have newG : B.get? a = none := by
      rcases sky with ⟨_, h, _⟩ | ⟨_, h, _⟩ | ⟨_, h, _⟩ <;> exact h
    have newB : X.base.get? a = none := by
      cases hb : X.base.get? a with
      | none => rfl
      | some o =>
        have := ground a o (J.bs a o hb).1 (by
          show a ∉ frs X.stack
          rw [stk]
          exact offFrames)
        rw [newG] at this
        cases this
    have offL : a ≠ X.env.locals := fun z => offFrames (List.mem_filterMap.mpr ⟨X.env, List.mem_cons_self, by rw [frm, z]⟩)
    have offF : a ∉ X.fs := fun hm => by
      obtain ⟨e, he, q⟩ := List.mem_filterMap.mp hm
      exact offFrames (List.mem_filterMap.mpr ⟨e, List.mem_cons_of_mem _ he, q⟩)
    have in3 := J3.suite e3 d3 na offL offF
    refine wpAny_handleBy_cons (codeAny_handlers_test ?_) (by intro q; cases q)
    have its : PySem.W.Looks (model X.prog X.w) g3 (typeOf (.ref a)) cls := fun _ _ _ _ keep q => wpAny_typeOf_ref (keep _ _ e3) (by rw [z3.1]; exact q)
    have asks := PySem.W.exm_one (M := model X.prog X.w) J3.kIn its yes
    have named : ∀ {R : Value → Shared → Prop} {way : Value → Shared → Prop}, R c { s' with heap := g3 } → wpAny (model X.prog X.w) (X.A.mark (some (.ref a))) (eval (.Name x np) X.env) R way { s' with heap := g3 } := fun {R way} q =>
      match nam with
      | ⟨gl, nodebug, .inl own⟩ => ld_glob (X := X.suite a ((a, o3) :: (X.pn ++ pins))) in3 gl own q nodebug
      | ⟨gl, nodebug, .inr ⟨none_, boot, nonm⟩⟩ => ld_blt (X := X.suite a ((a, o3) :: (X.pn ++ pins))) in3 gl none_ boot q nonm nodebug
    refine named (asks.here (codeAny_handlers_suite_as (HandSPX.lands_againZ fly3 fun g4 fly4 up4 => ?_)))
    have J4 : L2.Inv X pins σ1 H1 { s' with heap := g4 } := J.landed ground fly4.1 ((up.trans up3).trans up4) os ag
    obtain ⟨o4, v4, e4, z4, d4⟩ := fly4.there
    refine store_ok (X := X.suite a ((a, o4) :: (X.pn ++ pins))) (v := .ref a) (J4.suite e4 d4 na offL offF) nd at_ (.inl loc) rfl (fun s5 in5 => ?_) (.inr loc)
    refine wpAny_mono ((caught a o4 cls d (X.pn ++ pins) newB z4 ⟨_, d4⟩).run [] s5 _ H1 _ in5 (suite a na)) (fun fl s6 got => ?_) fun _ _ z => z.elim
    have over : ∀ {σ6 : L2.St} {H6 : Hp} {R : Shared → Prop}, L2.Inv (X.suite a ((a, o4) :: (X.pn ++ pins))) [] σ6 H6 s6 → (∀ s7, L2.Inv X pins (σ6.set i none) H6 s7 → R s7) →
        wpAny (model X.prog X.w) X.A (do bindName X.env n .none; unbindBehindTheSuite X.env n hpos) (fun _ s7 => R s7) X.xe s6 := fun in6 q => gone_ok (in6.unsuite good) nd at_ loc q
    cases fl with
    | next => exact let ⟨_, _, in6, q6⟩ := got; over in6 fun _ J7 => ⟨_, _, J7, q6⟩
    | brk => exact let ⟨_, _, in6, q6⟩ := got; over in6 fun _ J7 => ⟨_, _, J7, q6⟩
    | cont => exact let ⟨_, _, in6, q6⟩ := got; over in6 fun _ J7 => ⟨_, _, J7, q6⟩
    | ret u => exact let ⟨_, _, _, in6, r6, q6⟩ := got; over in6 fun _ J7 => ⟨_, _, _, J7, r6, q6⟩
end
/-- a caught error, as the heap knows it while another def has it -/
def exk (a : Addr) (oe : Obj) : HO := .ext fun h => h.get? a = some oe
theorem erAt_k {H : Hp} {a C : Addr} {oe : Obj} (h : H a = some (exk a oe)) (z : Zc (.ref C) none oe) (f : ∃ vs, oe.data = .fields vs) : ErAt H (.ref a) C :=
  ⟨a, rfl, .inl ⟨_, h, fun g ho => ⟨oe, by
    obtain ⟨vs, hd⟩ := f
    obtain ⟨oc, od, oda, osl⟩ := oe
    obtain ⟨h1, h2⟩ := z
    dsimp only at h1 h2 hd
    subst h1 h2 hd
    exact ⟨ho, rfl, rfl, trivial⟩⟩⟩⟩
section
variable {X : Cx} {a : Addr} {oe : Obj} {pn : List (Addr × Obj)} {e : Expr} {te : TE} {x : Str} {p pos : Pos} {k : Nat} {f : Addr} {fd : FuncData} {ps : List Str} {sp : Sp}
def tCaught (a : Addr) (oe : Obj) (sp : Sp) (te : TE) : TE := fun σ H Q => tCons te tNil σ H fun vs H1 => vs = [.ref a] ∧ sp vs (upd H1 a (exk a oe)) (fun r H2 => H2 a = some (exk a oe) ∧ Q r (del H2 a)) (fun _ _ _ => False)
theorem pe_callC (F : FnOk X.prog X.w X.K X.mg X.base CX0 k f fd ps sp) (new : X.base.get? a = none) (room : Room k (X.suite a ((a, oe) :: pn)).A) (gl : Gl (X.suite a ((a, oe) :: pn)) x) (there : X.mg x = some (.ref f)) (kp : PySem.W.keepIn X.K (.ref f) = true) (binds : Binds X.K fd ps [])
    (it : PE (X.suite a ((a, oe) :: pn)) e te) (nodebug : (x == ("__debug__" : Str)) = false := by decide) (h1 : starEach [e] X.env = (false, eval e X.env) :: starEach [] X.env := by rfl) (h2 : (backTo pos (starEach [] X.env)).any (·.1) = false := by rfl) :
    PE (X.suite a ((a, oe) :: pn)) (.Call (.Name x p) [e] [] pos) (tCaught a oe sp te) := by
  refine ⟨fun pins s σ H Q I reads => ?_⟩
  refine wpAny_Call_Name_kw (ld_glob I gl there ?_ nodebug)
  refine PySem.W.callWith_K (h₀ := X.base) I.ok.mod.kin kp (thn ((pa_cons (hs := h1) it pa_nil).run pos pins s σ H _ I reads) fun us s1 ⟨vs, H1, J, r, ev, q⟩ => ⟨J.kIn, ?_⟩) h1 h2
  subst ev
  obtain ⟨ha, na, nL, nF, _⟩ := J.pin (a, oe) (List.mem_append_left _ List.mem_cons_self)
  have off : a ∉ frs X.stack := fun z => by
    rcases List.mem_cons.mp (J.stkSub a z) with e | e
    · exact nL e
    · exact nF e
  have e0 := J.env0
  have ok1 : HOk X.prog X.w (upd H1 a (exk a oe)) s1.heap := J.hok.laidN (fun _ _ z => z) na ⟨ha, ⟨oe, ha⟩, fun _ _ z w => w _ z⟩
  have e1 : Env0 X.prog X.w X.K X.mg X.base (X.suite a ((a, oe) :: pn)).A X.stack s1 (upd H1 a (exk a oe)) :=
    ⟨e0.frames, e0.mod, fun b o z => ⟨(e0.bs b o z).1, by
      rw [upd_ne (show b ≠ a from fun w => by rw [w, new] at z; cases z)]
      exact (e0.bs b o z).2⟩, e0.bsz, e0.funs, fun b hb => by
      rw [upd_ne (show b ≠ a from fun w => off (by rw [← w]; exact hb))]
      exact e0.frf b hb, ok1, e0.bare⟩
  have long : (us ++ []).length = ps.length := by
    rw [List.append_nil, ← r.length]
    exact F.len _ _ _ _ q
  refine wpAny_call (codeAny_mono (F.run _ X.stack s1 _ ⟨us, []⟩ us [.ref a] _ _ room e1 (by
    have := binds s1 us J.kIn long
    rw [List.append_nil] at this
    exact this) r q) fun r2 s2 got => ?_)
  cases r2 with
  | error er => exact got.elim
  | ok fl =>
    cases fl with
    | next => exact got.elim
    | brk => exact got.elim
    | cont => exact got.elim
    | ret u =>
      obtain ⟨v, H2, os, bare, un, hok, rv, h2a, q2⟩ := got
      have hup : ∀ b, H1 b = none → b ≠ a → upd H1 a (exk a oe) b = none := fun b n w => by rw [upd_ne w]; exact n
      have nea : ∀ {b : Addr} {o : HO}, H1 b = some o → b ≠ a := fun {b o} z w => by rw [w, na] at z; cases z
      have un2 : Un (frs X.stack) [] H1 (del H2 a) s1.heap s2.heap := {
        keep := fun b o z n hf hx => by
          by_cases w : b = a
          · rw [w] at z ⊢
            rw [ha] at z
            cases z
            exact (hok a _ h2a).1
          · exact un.keep b o z (hup b n w) hf hx
        slot := fun b o z n hf hx => un.slot b o z (hup b n fun w => off (by rw [← w]; exact hf)) hf hx
        free := fun b o z n hx => by
          by_cases w : b = a
          · rw [w]
            exact del_same
          · rw [del_ne w]
            exact un.free b o z (hup b n w) hx
        there := un.there
        tups := fun b xs z => by
          rw [del_ne (nea z)]
          exact un.tups b xs (by rw [upd_ne (nea z)]; exact z)
        frzs := fun b o xs z => by
          rw [del_ne (nea z)]
          exact un.frzs b o xs (by rw [upd_ne (nea z)]; exact z)
        tbls := fun b xs z => by
          rw [del_ne (nea z)]
          exact un.tbls b xs (by rw [upd_ne (nea z)]; exact z) }
      have hok2 : HOk X.prog X.w (del H2 a) s2.heap := fun b o z => by
        by_cases w : b = a
        · rw [w, del_same] at z
          cases z
        · rw [del_ne w] at z
          refine (hok b o z).stay (fun _ _ _ y => y) (fun c hc => ?_) fun c xs hc => ?_
          · rw [del_ne (fun y => by rw [y, h2a] at hc; cases hc)]
            exact hc
          · rw [del_ne (fun y => by rw [y, h2a] at hc; cases hc)]
            exact hc
      exact ⟨v, del H2 a, J.call' (ch := []) os un2 hok2 bare (fun b z => absurd z (by simp)), rv, q2⟩
end
end Kb

namespace Kb
open PySem PySem.Spec PyProof.Rows L2 SrtZ SrtO

/-! the classes of errors, by their numbers -/
def fitC (K : PySem.W.Frag) (C : Addr) : Bool := decide (PySem.W.findIn K (.ref C) "__getattribute__" = some (some (.builtin "BaseException.__getattribute__"))) && (decide (PySem.W.findIn K (.ref C) "__getattr__" = some none) && (decide (PySem.W.subIn K (.ref C) (.type "BaseException") = some true) && (PySem.W.hasDictIn K C && (decide (PySem.W.findIn K (.ref C) "__class__" = some (some (.builtin "object.__class__"))) && (decide (PySem.W.specialIn K (.builtin "object.__class__") "__get__" = some (some (.builtin "getset_descriptor.__get__"))) && (decide (PySem.W.takesIn K (.builtin "object.__class__") = some true) && (decide (PySem.W.mroIn K C (.type "object") = some true) && (PySem.W.keepIn K (.ref C) && (decide (PySem.W.typeIn K (.ref C) = some (.type "type")) && decide (PySem.W.kitOne K (.ref C) (.type "ValueError") = some true))))))))))
def fitN (K : PySem.W.Frag) (C : Addr) : Bool := PySem.W.excIn K C [.type "ValueError", .type "Exception", .type "BaseException", .type "object"] "ValueError.__new__"
def fitK (K : PySem.W.Frag) (tb : List Addr) : Bool := (List.range 28).all fun i => (List.range 28).all fun j => decide (PySem.W.kitOne K (.ref (tb.getD i 0)) (.ref (tb.getD j 0)) = some (i == j || j == 24))
def fitX (K : PySem.W.Frag) (tb : List Addr) : Bool := (List.range 28).all fun i => decide (PySem.W.exmOne K (.ref (tb.getD i 0)) (.ref (tb.getD 24 0)) = some true)
structure ErT (K : PySem.W.Frag) (mg : Str → Option Value) where
  tb : List Addr
  len : tb.length = 28
  okC : tb.all (fitC K) = true
  okN : (tb.take 25).all (fitN K) = true
  okK : fitK K tb = true
  okX : fitX K tb = true
  g0 : mg "NoTree" = some (.ref (tb.getD 0 0))
  g1 : mg "NoRoom" = some (.ref (tb.getD 1 0))
  g2 : mg "NoSketch" = some (.ref (tb.getD 2 0))
  g3 : mg "NoName" = some (.ref (tb.getD 3 0))
  g4 : mg "NoNumber" = some (.ref (tb.getD 4 0))
  g5 : mg "OtherRoom" = some (.ref (tb.getD 5 0))
  g6 : mg "NoSpace" = some (.ref (tb.getD 6 0))
  g7 : mg "NoSketches" = some (.ref (tb.getD 7 0))
  g8 : mg "NoRanks" = some (.ref (tb.getD 8 0))
  g9 : mg "NoPlace" = some (.ref (tb.getD 9 0))
  g10 : mg "NoMarks" = some (.ref (tb.getD 10 0))
  g11 : mg "NoNumbers" = some (.ref (tb.getD 11 0))
  g12 : mg "NoSide" = some (.ref (tb.getD 12 0))
  g13 : mg "NoBook" = some (.ref (tb.getD 13 0))
  g14 : mg "NoEvent" = some (.ref (tb.getD 14 0))
  g15 : mg "NoArea" = some (.ref (tb.getD 15 0))
  g16 : mg "NoText" = some (.ref (tb.getD 16 0))
  g17 : mg "NoStand" = some (.ref (tb.getD 17 0))
  g18 : mg "NoThing" = some (.ref (tb.getD 18 0))
  g19 : mg "NoItems" = some (.ref (tb.getD 19 0))
  g20 : mg "NoQuestion" = some (.ref (tb.getD 20 0))
  g21 : mg "NoDay" = some (.ref (tb.getD 21 0))
  g22 : mg "NoTruth" = some (.ref (tb.getD 22 0))
  g23 : mg "NoCounts" = some (.ref (tb.getD 23 0))
  g24 : mg "KnownError" = some (.ref (tb.getD 24 0))
  g25 : mg "BadText" = some (.ref (tb.getD 25 0))
  g26 : mg "BadSheet" = some (.ref (tb.getD 26 0))
  g27 : mg "TooMany" = some (.ref (tb.getD 27 0))
section
variable {K : PySem.W.Frag} {mg : Str → Option Value}
abbrev ErT.at (E : ErT K mg) (i : Nat) : Addr := E.tb.getD i 0
theorem ErT.mem (E : ErT K mg) {i : Nat} (h : i < 28) : E.at i ∈ E.tb := by
  have hl := E.len
  unfold ErT.at
  rw [List.getD_eq_getElem?_getD, List.getElem?_eq_getElem (by omega)]
  exact List.getElem_mem _
theorem ErT.fit (E : ErT K mg) {i : Nat} (h : i < 28) : fitC K (E.at i) = true := List.all_eq_true.mp E.okC _ (E.mem h)
theorem ErT.isC (E : ErT K mg) {i : Nat} (h : i < 28) : L2.ExcC K (E.at i) := by
  have f := E.fit h
  unfold fitC at f
  simp only [Bool.and_eq_true, decide_eq_true_eq] at f
  obtain ⟨h1, h2, h3, h4, h5, h6, h7, h8, _⟩ := f
  exact ⟨h1, h2, h3, h4, h5, h6, h7, h8⟩
theorem ErT.kp (E : ErT K mg) {i : Nat} (h : i < 28) : PySem.W.keepIn K (.ref (E.at i)) = true := by
  have f := E.fit h
  unfold fitC at f
  simp only [Bool.and_eq_true, decide_eq_true_eq] at f
  exact f.2.2.2.2.2.2.2.2.1
theorem ErT.ty (E : ErT K mg) {i : Nat} (h : i < 28) : PySem.W.typeIn K (.ref (E.at i)) = some (.type "type") := by
  have f := E.fit h
  unfold fitC at f
  simp only [Bool.and_eq_true, decide_eq_true_eq] at f
  exact f.2.2.2.2.2.2.2.2.2.1
theorem ErT.va (E : ErT K mg) {i : Nat} (h : i < 28) : PySem.W.kitOne K (.ref (E.at i)) (.type "ValueError") = some true := by
  have f := E.fit h
  unfold fitC at f
  simp only [Bool.and_eq_true, decide_eq_true_eq] at f
  exact f.2.2.2.2.2.2.2.2.2.2
theorem ErT.exc (E : ErT K mg) {i : Nat} (h : i < 25) : PySem.W.excIn K (E.at i) [.type "ValueError", .type "Exception", .type "BaseException", .type "object"] "ValueError.__new__" = true := by
  have hl := E.len
  refine List.all_eq_true.mp E.okN _ ?_
  unfold ErT.at
  rw [List.getD_eq_getElem?_getD, List.getElem?_eq_getElem (by omega)]
  rw [List.mem_take_iff_getElem]
  exact ⟨i, by omega, rfl⟩
theorem ErT.kit (E : ErT K mg) {i j : Nat} (hi : i < 28) (hj : j < 28) : PySem.W.kitOne K (.ref (E.at i)) (.ref (E.at j)) = some (i == j || j == 24) :=
  of_decide_eq_true (List.all_eq_true.mp (List.all_eq_true.mp E.okK i (List.mem_range.mpr hi)) j (List.mem_range.mpr hj))
theorem ErT.exm (E : ErT K mg) {i : Nat} (hi : i < 28) : PySem.W.exmOne K (.ref (E.at i)) (.ref (E.at 24)) = some true :=
  of_decide_eq_true (List.all_eq_true.mp E.okX i (List.mem_range.mpr hi))
def ErT.tx (E : ErT K mg) {nm : Str} (i : Nat) (h : i < 25) (g : mg nm = some (.ref (E.at i))) : TxE K mg nm := ⟨E.at i, g, E.exc h, E.kp (by omega), (E.isC (by omega)).hs, E.ty (by omega), E.isC (by omega)⟩
end
/-! errors with a field -/
structure TxB (K : PySem.W.Frag) (qual fld : Str) (st : Stmt) (C : Addr) where
  fI : Addr
  fdI : FuncData
  oex : OexC K C
  iC : PySem.W.findIn K (.ref C) "__init__" = some (some (.ref fI))
  tI : PySem.W.typeIn K (.ref fI) = some (.type "function")
  F : Fun K "__init__" qual st fI fdI
  b : Binds K fdI ["self", fld] []
  noP : PySem.W.findIn K (.ref C) fld = some none
  xf : XfC K C
def spInitF (C : Addr) (fld : Str) : Sp := fun vs H Q _ => ∃ (a : Addr) (y : V), vs = [.ref a, y] ∧ H a = some (exo a C none) ∧ ∀ dx, H dx = none → dx ≠ a → Q .non (upd (upd H dx (exd dx [(fld, y)])) a (exo a C (some dx)))
abbrev fldS (i : Nat) : Str := if i = 25 then "place" else if i = 26 then "line" else "most"
abbrev sB25 : Stmt := inClass (topS 26) 0
theorem scB25 : FnScope ["self", "place"] ["self", "place"] (defScope sB25) := ⟨rfl, rfl, rfl, by decide +kernel, rfl, by decide +kernel, by decide +kernel⟩
abbrev sB26 : Stmt := inClass (topS 27) 0
theorem scB26 : FnScope ["self", "line"] ["self", "line"] (defScope sB26) := ⟨rfl, rfl, rfl, by decide +kernel, rfl, by decide +kernel, by decide +kernel⟩
abbrev sB27 : Stmt := inClass (topS 28) 0
theorem scB27 : FnScope ["self", "most"] ["self", "most"] (defScope sB27) := ⟨rfl, rfl, rfl, by decide +kernel, rfl, by decide +kernel, by decide +kernel⟩
section
variable {P : Program} {w : World} {K : PySem.W.Frag} {mg : Str → Option Value} {base : Heap}
theorem ok_B25 {C : Addr} (B : TxB K "BadText.__init__" "place" sB25 C) : FnOk P w K mg base CX0 1 B.fI B.fdI ["self", "place"] (spInitF C "place") := by
  refine B.F.ok scB25 (fun vs H Q E h => ?_) (fun cdv A outer s H vs Q E hr h => ?_)
  · obtain ⟨a, y, rfl, _⟩ := h
    rfl
  · obtain ⟨a, y, rfl, ea, q⟩ := h
    refine ⟨_, (pss_one (ps_ost (pv 0) (pv 1))), ?_⟩
    exact ⟨y, rfl, .ref a, rfl, a, C, rfl, B.oex, B.noP, .inl ⟨ea, fun dx nd ne => q dx nd ne⟩⟩
theorem ok_B26 {C : Addr} (B : TxB K "BadSheet.__init__" "line" sB26 C) : FnOk P w K mg base CX0 1 B.fI B.fdI ["self", "line"] (spInitF C "line") := by
  refine B.F.ok scB26 (fun vs H Q E h => ?_) (fun cdv A outer s H vs Q E hr h => ?_)
  · obtain ⟨a, y, rfl, _⟩ := h
    rfl
  · obtain ⟨a, y, rfl, ea, q⟩ := h
    refine ⟨_, (pss_one (ps_ost (pv 0) (pv 1))), ?_⟩
    exact ⟨y, rfl, .ref a, rfl, a, C, rfl, B.oex, B.noP, .inl ⟨ea, fun dx nd ne => q dx nd ne⟩⟩
theorem ok_B27 {C : Addr} (B : TxB K "TooMany.__init__" "most" sB27 C) : FnOk P w K mg base CX0 1 B.fI B.fdI ["self", "most"] (spInitF C "most") := by
  refine B.F.ok scB27 (fun vs H Q E h => ?_) (fun cdv A outer s H vs Q E hr h => ?_)
  · obtain ⟨a, y, rfl, _⟩ := h
    rfl
  · obtain ⟨a, y, rfl, ea, q⟩ := h
    refine ⟨_, (pss_one (ps_ost (pv 0) (pv 1))), ?_⟩
    exact ⟨y, rfl, .ref a, rfl, a, C, rfl, B.oex, B.noP, .inl ⟨ea, fun dx nd ne => q dx nd ne⟩⟩
structure ErB (K : PySem.W.Frag) (mg : Str → Option Value) extends ErT K mg where
  B25 : TxB K "BadText.__init__" "place" sB25 (tb.getD 25 0)
  B26 : TxB K "BadSheet.__init__" "line" sB26 (tb.getD 26 0)
  B27 : TxB K "TooMany.__init__" "most" sB27 (tb.getD 27 0)
end

abbrev smade : Stmt := topS 95
theorem scmade : FnScope ["_law_k", "_law_value"] ["_law_k", "_law_value"] (defScope smade) := ⟨rfl, rfl, rfl, by decide +kernel, rfl, by decide +kernel, by decide +kernel⟩
abbrev Dnmade (K : PySem.W.Frag) (mg : Str → Option Value) := Dn K mg "_law_made" smade ["_law_k", "_law_value"]
abbrev smade_first : Stmt := topS 96
theorem scmade_first : FnScope ["_law_k"] ["_law_k"] (defScope smade_first) := ⟨rfl, rfl, rfl, by decide +kernel, rfl, by decide +kernel, by decide +kernel⟩
abbrev Dnmade_first (K : PySem.W.Frag) (mg : Str → Option Value) := Dn K mg "_law_made_first" smade_first ["_law_k"]
abbrev smade_more : Stmt := topS 97
theorem scmade_more : FnScope ["_law_k"] ["_law_k"] (defScope smade_more) := ⟨rfl, rfl, rfl, by decide +kernel, rfl, by decide +kernel, by decide +kernel⟩
abbrev Dnmade_more (K : PySem.W.Frag) (mg : Str → Option Value) := Dn K mg "_law_made_more" smade_more ["_law_k"]
section
variable {P : Program} {w : World} {K : PySem.W.Frag} {mg : Str → Option Value} {base : Heap}
def spMadeN (E : ErT K mg) (lo hi : Nat) : Sp := fun vs H Q _ => ∃ i : Nat, vs = [.int (i : Int)] ∧ lo ≤ i ∧ i < hi ∧ ∀ H' a t, Same H H' → H' a = some (ExN (E.at i) a t) → Q (.ref a) H'
theorem made_fin {E : ErT K mg} {H : Hp} {Q : VK} {i : Nat} (q : ∀ H' a t, Same H H' → H' a = some (ExN (E.at i) a t) → Q (.ref a) H') (j : Nat) (e : i = j) : ∀ (a t : Addr) (o : Obj), a ≠ t → H a = none → H t = none → o.dict = none → Q (.ref a) (upd (upd H t (.frz o (.tup []))) a (ExN (E.at j) a t)) := by
  subst e
  intro a t o ne ha ht _
  refine q _ a t (fun b u e => ?_) upd_same
  rw [upd_ne (ne_of_none e ha), upd_ne (ne_of_none e ht)]
  exact e
theorem is_k {i j : Nat} (e : decide (V.int (i : Int) = V.int (j : Int)) = true) : i = j := by
  have := of_decide_eq_true e
  injection this with t
  omega
theorem not_k {i j : Nat} (e : ¬ decide (V.int (i : Int) = V.int (j : Int)) = true) : i ≠ j := fun z => e (decide_eq_true (by rw [z]))
theorem ok_made_first (E : ErT K mg) (d : Dnmade_first K mg) : FnOk P w K mg base CX0 1 d.f d.fd ["_law_k"] (spMadeN E 0 13) := by
  refine d.F.ok scmade_first (fun vs H Q E h => ?_) (fun cdv A outer s H vs Q E2 hr h => ?_)
  · obtain ⟨i, rfl, _⟩ := h
    rfl
  · obtain ⟨i, rfl, h0, h1, q⟩ := h
    refine ⟨_, (pss_cons (ps_if (pt_cmpR op_eq (pv 0) pe_int (nomark _))
      (pss_one (ps_ret (pe_excN PySem.F.excBase_ValueError (E.exc (i := 0) (by decide)) E.g0 (E.kp (i := 0) (by decide)) rfl)))
      pss_nil)
    (pss_cons (ps_if (pt_cmpR op_eq (pv 0) pe_int (nomark _))
      (pss_one (ps_ret (pe_excN PySem.F.excBase_ValueError (E.exc (i := 1) (by decide)) E.g1 (E.kp (i := 1) (by decide)) rfl)))
      pss_nil)
    (pss_cons (ps_if (pt_cmpR op_eq (pv 0) pe_int (nomark _))
      (pss_one (ps_ret (pe_excN PySem.F.excBase_ValueError (E.exc (i := 2) (by decide)) E.g2 (E.kp (i := 2) (by decide)) rfl)))
      pss_nil)
    (pss_cons (ps_if (pt_cmpR op_eq (pv 0) pe_int (nomark _))
      (pss_one (ps_ret (pe_excN PySem.F.excBase_ValueError (E.exc (i := 3) (by decide)) E.g3 (E.kp (i := 3) (by decide)) rfl)))
      pss_nil)
    (pss_cons (ps_if (pt_cmpR op_eq (pv 0) pe_int (nomark _))
      (pss_one (ps_ret (pe_excN PySem.F.excBase_ValueError (E.exc (i := 4) (by decide)) E.g4 (E.kp (i := 4) (by decide)) rfl)))
      pss_nil)
    (pss_cons (ps_if (pt_cmpR op_eq (pv 0) pe_int (nomark _))
      (pss_one (ps_ret (pe_excN PySem.F.excBase_ValueError (E.exc (i := 5) (by decide)) E.g5 (E.kp (i := 5) (by decide)) rfl)))
      pss_nil)
    (pss_cons (ps_if (pt_cmpR op_eq (pv 0) pe_int (nomark _))
      (pss_one (ps_ret (pe_excN PySem.F.excBase_ValueError (E.exc (i := 6) (by decide)) E.g6 (E.kp (i := 6) (by decide)) rfl)))
      pss_nil)
    (pss_cons (ps_if (pt_cmpR op_eq (pv 0) pe_int (nomark _))
      (pss_one (ps_ret (pe_excN PySem.F.excBase_ValueError (E.exc (i := 7) (by decide)) E.g7 (E.kp (i := 7) (by decide)) rfl)))
      pss_nil)
    (pss_cons (ps_if (pt_cmpR op_eq (pv 0) pe_int (nomark _))
      (pss_one (ps_ret (pe_excN PySem.F.excBase_ValueError (E.exc (i := 8) (by decide)) E.g8 (E.kp (i := 8) (by decide)) rfl)))
      pss_nil)
    (pss_cons (ps_if (pt_cmpR op_eq (pv 0) pe_int (nomark _))
      (pss_one (ps_ret (pe_excN PySem.F.excBase_ValueError (E.exc (i := 9) (by decide)) E.g9 (E.kp (i := 9) (by decide)) rfl)))
      pss_nil)
    (pss_cons (ps_if (pt_cmpR op_eq (pv 0) pe_int (nomark _))
      (pss_one (ps_ret (pe_excN PySem.F.excBase_ValueError (E.exc (i := 10) (by decide)) E.g10 (E.kp (i := 10) (by decide)) rfl)))
      pss_nil)
    (pss_cons (ps_if (pt_cmpR op_eq (pv 0) pe_int (nomark _))
      (pss_one (ps_ret (pe_excN PySem.F.excBase_ValueError (E.exc (i := 11) (by decide)) E.g11 (E.kp (i := 11) (by decide)) rfl)))
      pss_nil)
    (pss_one (ps_ret (pe_excN PySem.F.excBase_ValueError (E.exc (i := 12) (by decide)) E.g12 (E.kp (i := 12) (by decide)) rfl))))))))))))))), ?_⟩
    refine ⟨.int (i : Int), rfl, rfl, _, rfl, ite2 (fun e => made_fin q 0 (is_k (j := 0) e)) (fun e0 => ?_)⟩
    have e0 := not_k (j := 0) e0
    refine ⟨.int (i : Int), rfl, rfl, _, rfl, ite2 (fun e => made_fin q 1 (is_k (j := 1) e)) (fun e1 => ?_)⟩
    have e1 := not_k (j := 1) e1
    refine ⟨.int (i : Int), rfl, rfl, _, rfl, ite2 (fun e => made_fin q 2 (is_k (j := 2) e)) (fun e2 => ?_)⟩
    have e2 := not_k (j := 2) e2
    refine ⟨.int (i : Int), rfl, rfl, _, rfl, ite2 (fun e => made_fin q 3 (is_k (j := 3) e)) (fun e3 => ?_)⟩
    have e3 := not_k (j := 3) e3
    refine ⟨.int (i : Int), rfl, rfl, _, rfl, ite2 (fun e => made_fin q 4 (is_k (j := 4) e)) (fun e4 => ?_)⟩
    have e4 := not_k (j := 4) e4
    refine ⟨.int (i : Int), rfl, rfl, _, rfl, ite2 (fun e => made_fin q 5 (is_k (j := 5) e)) (fun e5 => ?_)⟩
    have e5 := not_k (j := 5) e5
    refine ⟨.int (i : Int), rfl, rfl, _, rfl, ite2 (fun e => made_fin q 6 (is_k (j := 6) e)) (fun e6 => ?_)⟩
    have e6 := not_k (j := 6) e6
    refine ⟨.int (i : Int), rfl, rfl, _, rfl, ite2 (fun e => made_fin q 7 (is_k (j := 7) e)) (fun e7 => ?_)⟩
    have e7 := not_k (j := 7) e7
    refine ⟨.int (i : Int), rfl, rfl, _, rfl, ite2 (fun e => made_fin q 8 (is_k (j := 8) e)) (fun e8 => ?_)⟩
    have e8 := not_k (j := 8) e8
    refine ⟨.int (i : Int), rfl, rfl, _, rfl, ite2 (fun e => made_fin q 9 (is_k (j := 9) e)) (fun e9 => ?_)⟩
    have e9 := not_k (j := 9) e9
    refine ⟨.int (i : Int), rfl, rfl, _, rfl, ite2 (fun e => made_fin q 10 (is_k (j := 10) e)) (fun e10 => ?_)⟩
    have e10 := not_k (j := 10) e10
    refine ⟨.int (i : Int), rfl, rfl, _, rfl, ite2 (fun e => made_fin q 11 (is_k (j := 11) e)) (fun e11 => ?_)⟩
    have e11 := not_k (j := 11) e11
    exact made_fin q 12 (by omega)
theorem ok_made_more (E : ErT K mg) (d : Dnmade_more K mg) : FnOk P w K mg base CX0 1 d.f d.fd ["_law_k"] (spMadeN E 13 25) := by
  refine d.F.ok scmade_more (fun vs H Q E h => ?_) (fun cdv A outer s H vs Q E2 hr h => ?_)
  · obtain ⟨i, rfl, _⟩ := h
    rfl
  · obtain ⟨i, rfl, h0, h1, q⟩ := h
    refine ⟨_, (pss_cons (ps_if (pt_cmpR op_eq (pv 0) pe_int (nomark _))
      (pss_one (ps_ret (pe_excN PySem.F.excBase_ValueError (E.exc (i := 13) (by decide)) E.g13 (E.kp (i := 13) (by decide)) rfl)))
      pss_nil)
    (pss_cons (ps_if (pt_cmpR op_eq (pv 0) pe_int (nomark _))
      (pss_one (ps_ret (pe_excN PySem.F.excBase_ValueError (E.exc (i := 14) (by decide)) E.g14 (E.kp (i := 14) (by decide)) rfl)))
      pss_nil)
    (pss_cons (ps_if (pt_cmpR op_eq (pv 0) pe_int (nomark _))
      (pss_one (ps_ret (pe_excN PySem.F.excBase_ValueError (E.exc (i := 15) (by decide)) E.g15 (E.kp (i := 15) (by decide)) rfl)))
      pss_nil)
    (pss_cons (ps_if (pt_cmpR op_eq (pv 0) pe_int (nomark _))
      (pss_one (ps_ret (pe_excN PySem.F.excBase_ValueError (E.exc (i := 16) (by decide)) E.g16 (E.kp (i := 16) (by decide)) rfl)))
      pss_nil)
    (pss_cons (ps_if (pt_cmpR op_eq (pv 0) pe_int (nomark _))
      (pss_one (ps_ret (pe_excN PySem.F.excBase_ValueError (E.exc (i := 17) (by decide)) E.g17 (E.kp (i := 17) (by decide)) rfl)))
      pss_nil)
    (pss_cons (ps_if (pt_cmpR op_eq (pv 0) pe_int (nomark _))
      (pss_one (ps_ret (pe_excN PySem.F.excBase_ValueError (E.exc (i := 18) (by decide)) E.g18 (E.kp (i := 18) (by decide)) rfl)))
      pss_nil)
    (pss_cons (ps_if (pt_cmpR op_eq (pv 0) pe_int (nomark _))
      (pss_one (ps_ret (pe_excN PySem.F.excBase_ValueError (E.exc (i := 19) (by decide)) E.g19 (E.kp (i := 19) (by decide)) rfl)))
      pss_nil)
    (pss_cons (ps_if (pt_cmpR op_eq (pv 0) pe_int (nomark _))
      (pss_one (ps_ret (pe_excN PySem.F.excBase_ValueError (E.exc (i := 20) (by decide)) E.g20 (E.kp (i := 20) (by decide)) rfl)))
      pss_nil)
    (pss_cons (ps_if (pt_cmpR op_eq (pv 0) pe_int (nomark _))
      (pss_one (ps_ret (pe_excN PySem.F.excBase_ValueError (E.exc (i := 21) (by decide)) E.g21 (E.kp (i := 21) (by decide)) rfl)))
      pss_nil)
    (pss_cons (ps_if (pt_cmpR op_eq (pv 0) pe_int (nomark _))
      (pss_one (ps_ret (pe_excN PySem.F.excBase_ValueError (E.exc (i := 22) (by decide)) E.g22 (E.kp (i := 22) (by decide)) rfl)))
      pss_nil)
    (pss_cons (ps_if (pt_cmpR op_eq (pv 0) pe_int (nomark _))
      (pss_one (ps_ret (pe_excN PySem.F.excBase_ValueError (E.exc (i := 23) (by decide)) E.g23 (E.kp (i := 23) (by decide)) rfl)))
      pss_nil)
    (pss_one (ps_ret (pe_excN PySem.F.excBase_ValueError (E.exc (i := 24) (by decide)) E.g24 (E.kp (i := 24) (by decide)) rfl)))))))))))))), ?_⟩
    refine ⟨.int (i : Int), rfl, rfl, _, rfl, ite2 (fun e => made_fin q 13 (is_k (j := 13) e)) (fun e13 => ?_)⟩
    have e13 := not_k (j := 13) e13
    refine ⟨.int (i : Int), rfl, rfl, _, rfl, ite2 (fun e => made_fin q 14 (is_k (j := 14) e)) (fun e14 => ?_)⟩
    have e14 := not_k (j := 14) e14
    refine ⟨.int (i : Int), rfl, rfl, _, rfl, ite2 (fun e => made_fin q 15 (is_k (j := 15) e)) (fun e15 => ?_)⟩
    have e15 := not_k (j := 15) e15
    refine ⟨.int (i : Int), rfl, rfl, _, rfl, ite2 (fun e => made_fin q 16 (is_k (j := 16) e)) (fun e16 => ?_)⟩
    have e16 := not_k (j := 16) e16
    refine ⟨.int (i : Int), rfl, rfl, _, rfl, ite2 (fun e => made_fin q 17 (is_k (j := 17) e)) (fun e17 => ?_)⟩
    have e17 := not_k (j := 17) e17
    refine ⟨.int (i : Int), rfl, rfl, _, rfl, ite2 (fun e => made_fin q 18 (is_k (j := 18) e)) (fun e18 => ?_)⟩
    have e18 := not_k (j := 18) e18
    refine ⟨.int (i : Int), rfl, rfl, _, rfl, ite2 (fun e => made_fin q 19 (is_k (j := 19) e)) (fun e19 => ?_)⟩
    have e19 := not_k (j := 19) e19
    refine ⟨.int (i : Int), rfl, rfl, _, rfl, ite2 (fun e => made_fin q 20 (is_k (j := 20) e)) (fun e20 => ?_)⟩
    have e20 := not_k (j := 20) e20
    refine ⟨.int (i : Int), rfl, rfl, _, rfl, ite2 (fun e => made_fin q 21 (is_k (j := 21) e)) (fun e21 => ?_)⟩
    have e21 := not_k (j := 21) e21
    refine ⟨.int (i : Int), rfl, rfl, _, rfl, ite2 (fun e => made_fin q 22 (is_k (j := 22) e)) (fun e22 => ?_)⟩
    have e22 := not_k (j := 22) e22
    refine ⟨.int (i : Int), rfl, rfl, _, rfl, ite2 (fun e => made_fin q 23 (is_k (j := 23) e)) (fun e23 => ?_)⟩
    have e23 := not_k (j := 23) e23
    exact made_fin q 24 (by omega)
/-- an error that was made, what it holds -/
def MadeAt (H : Hp) (e : V) (C : Addr) (i : Nat) (v : V) : Prop := ErAt H e C ∧ (25 ≤ i → ∃ a d, e = .ref a ∧ H a = some (exo a C (some d)) ∧ H d = some (exd d [(fldS i, v)]))
def spMade (E : ErT K mg) : Sp := fun vs H Q _ => ∃ (i : Nat) (v : V), vs = [.int (i : Int), v] ∧ i < 28 ∧ ∀ H' e, Same H H' → MadeAt H' e (E.at i) i v → Q e H'
theorem made_field {E : ErT K mg} {H : Hp} {Q : VK} {i : Nat} {v : V} (q : ∀ H' e, Same H H' → MadeAt H' e (E.at i) i v → Q e H') (j : Nat) (f : Str) (ej : i = j) (ef : fldS j = f) : ([v] : List V).length ≤ 1000 ∧ ∀ a, H a = none → spInitF (E.at j) f (.ref a :: [v]) (upd H a (exo a (E.at j) none)) (fun r H2 => r = .non ∧ Q (.ref a) H2) (fun _ _ _ => False) := by
  subst ej
  subst ef
  refine ⟨(by show 1 ≤ 1000; decide), fun a na => ⟨a, v, rfl, upd_same, fun dx nd ne => ⟨rfl, ?_⟩⟩⟩
  rw [upd_ne ne] at nd
  have h1 : (upd (upd (upd H a (exo a (E.at i) none)) dx (exd dx [(fldS i, v)])) a (exo a (E.at i) (some dx))) a = some (exo a (E.at i) (some dx)) := upd_same
  have h2 : (upd (upd (upd H a (exo a (E.at i) none)) dx (exd dx [(fldS i, v)])) a (exo a (E.at i) (some dx))) dx = some (exd dx [(fldS i, v)]) := by rw [upd_ne ne, upd_same]
  refine q _ _ (fun b u e => ?_) ⟨⟨a, rfl, .inr ⟨dx, _, h1, h2⟩⟩, fun _ => ⟨a, dx, rfl, h1, h2⟩⟩
  rw [upd_ne (ne_of_none e na), upd_ne (ne_of_none e nd), upd_ne (ne_of_none e na)]
  exact e
theorem ok_made (E : ErB K mg) (dmade_first : Dnmade_first K mg) (dmade_more : Dnmade_more K mg) (d : Dnmade K mg) : FnOk P w K mg base CX0 3 d.f d.fd ["_law_k", "_law_value"] (spMade E.toErT) := by
  have Gmade_first : FnOk P w K mg base CX0 1 dmade_first.f dmade_first.fd ["_law_k"] (spMadeN E.toErT 0 13) := ok_made_first E.toErT dmade_first
  have Gmade_more : FnOk P w K mg base CX0 1 dmade_more.f dmade_more.fd ["_law_k"] (spMadeN E.toErT 13 25) := ok_made_more E.toErT dmade_more
  refine d.F.ok scmade (fun vs H Q E h => ?_) (fun cdv A outer s H vs Q E2 hr h => ?_)
  · obtain ⟨i, v, rfl, _⟩ := h
    rfl
  · obtain ⟨i, v, rfl, h1, q⟩ := h
    refine ⟨_, (pss_cons (ps_if (pt_cmpR op_lt (pv 0) pe_int (nomark _))
      (pss_one (ps_ret (pe_call Gmade_first (hr.mono (by omega)) (by rfl) dmade_first.g dmade_first.F.kp dmade_first.b .nil pass0 (pa_cons (pv 0) pa_nil))))
      pss_nil)
    (pss_cons (ps_if (pt_cmpR op_eq (pv 0) pe_int (nomark _))
      (pss_one (ps_ret (pe_oexV E.B25.oex E.B25.iC E.B25.tI (ok_B25 E.B25) (hr.mono (by omega)) E.B25.b pass0 (by rfl) E.g25 (pa_cons (pv 1) pa_nil))))
      pss_nil)
    (pss_cons (ps_if (pt_cmpR op_eq (pv 0) pe_int (nomark _))
      (pss_one (ps_ret (pe_oexV E.B26.oex E.B26.iC E.B26.tI (ok_B26 E.B26) (hr.mono (by omega)) E.B26.b pass0 (by rfl) E.g26 (pa_cons (pv 1) pa_nil))))
      pss_nil)
    (pss_cons (ps_if (pt_cmpR op_eq (pv 0) pe_int (nomark _))
      (pss_one (ps_ret (pe_oexV E.B27.oex E.B27.iC E.B27.tI (ok_B27 E.B27) (hr.mono (by omega)) E.B27.b pass0 (by rfl) E.g27 (pa_cons (pv 1) pa_nil))))
      pss_nil)
    (pss_one (ps_ret (pe_call Gmade_more (hr.mono (by omega)) (by rfl) dmade_more.g dmade_more.F.kp dmade_more.b .nil pass0 (pa_cons (pv 0) pa_nil)))))))), ?_⟩
    have plain : i < 25 → ∀ H' a t, Same H H' → H' a = some (ExN (E.at i) a t) → Q (.ref a) H' := fun hi H' a t s h => q H' _ s ⟨erAt_N h, fun z => absurd z (by omega)⟩
    refine ⟨.int (i : Int), rfl, _, _, rfl, rfl, _, rfl, ite2 (fun e => ?_) (fun e => ?_)⟩
    · have e : (i : Int) < 13 := of_decide_eq_true e
      exact ⟨.int (i : Int), rfl, i, rfl, by omega, by omega, plain (by omega)⟩
    have e : ¬ (i : Int) < 13 := fun z => e (decide_eq_true z)
    refine ⟨.int (i : Int), rfl, rfl, _, rfl, ite2 (fun e5 => ⟨v, rfl, made_field q 25 _ (is_k (j := 25) e5) rfl⟩) (fun e5 => ?_)⟩
    have e5 := not_k (j := 25) e5
    refine ⟨.int (i : Int), rfl, rfl, _, rfl, ite2 (fun e6 => ⟨v, rfl, made_field q 26 _ (is_k (j := 26) e6) rfl⟩) (fun e6 => ?_)⟩
    have e6 := not_k (j := 26) e6
    refine ⟨.int (i : Int), rfl, rfl, _, rfl, ite2 (fun e7 => ⟨v, rfl, made_field q 27 _ (is_k (j := 27) e7) rfl⟩) (fun e7 => ?_)⟩
    have e7 := not_k (j := 27) e7
    exact ⟨.int (i : Int), rfl, i, rfl, by omega, by omega, plain (by omega)⟩
end
end Kb

namespace Kb
open PySem PySem.Spec PyProof.Rows L2 SrtZ SrtO
abbrev skinds : Stmt := topS 98
abbrev Nkinds : List Str := ["_law_e", "_law_kinds_here", "_law_k"]
theorem sckinds : FnScope ["_law_e", "_law_kinds_here", "_law_k"] ["_law_e"] (defScope skinds) := ⟨rfl, rfl, rfl, by decide +kernel, rfl, by decide +kernel, by decide +kernel⟩
abbrev Dnkinds (K : PySem.W.Frag) (mg : Str → Option Value) := Dn K mg "_law_kinds" skinds ["_law_e"]
abbrev bK (i j : Nat) : Bool := i == j || j == 24
abbrev kB (i j : Nat) : Bool := if j = 24 then false else bK i j
/-- what its kinds are told to be -/
def kindL (i : Nat) : List V := (if i = 24 then [] else [.int (i : Int)]) ++ [.bl true, .bl true]
theorem kB_of {i j : Nat} (h : i < 28) : kB i j = true ↔ (i = j ∧ i ≠ 24) := by
  unfold kB bK
  by_cases e : j = 24
  · rw [if_pos e]
    exact ⟨fun z => (by cases z), fun ⟨z, w⟩ => absurd (z.trans e) w⟩
  · rw [if_neg e]
    simp only [Bool.or_eq_true, beq_iff_eq]
    exact ⟨fun z => z.elim (fun z => ⟨z, fun w => e (z.symm.trans w)⟩) fun z => absurd z e, fun z => .inl z.1⟩
/-- the numbers told before j -/
def kT (i j : Nat) : List V := if i < j ∧ i ≠ 24 then [.int (i : Int)] else []
theorem kT_end {i : Nat} (h : i < 28) : kT i 28 = if i = 24 then [] else [.int (i : Int)] := by
  unfold kT
  by_cases e : i = 24
  · rw [if_pos e, if_neg (fun z => z.2 e)]
  · rw [if_neg e, if_pos ⟨h, e⟩]
section
variable {P : Program} {w : World} {K : PySem.W.Frag} {mg : Str → Option Value} {base : Heap}
def spKinds (E : ErT K mg) : Sp := fun vs H Q _ => ∃ (v : V) (i : Nat), vs = [v] ∧ i < 28 ∧ ErAt H v (E.at i) ∧ ∀ H' l, Same H H' → H l = none → H' l = some (.lst (kindL i)) → Q (.ref l) H'
theorem ok_kinds (T : Blt mg) (n_VE : mg "ValueError" = none) (E : ErT K mg) (d : Dnkinds K mg) : FnOk P w K mg base CX0 1 d.f d.fd ["_law_e"] (spKinds E) := by
  refine d.F.ok sckinds (fun vs H Q E2 h => ?_) (fun cdv A outer s H vs Q E2 hr h => ?_)
  · obtain ⟨v, i, rfl, _⟩ := h
    rfl
  · obtain ⟨v, i, rfl, hi, er, q⟩ := h
    refine ⟨_, (pss_cons (ps_asg (pe_lst (pa_cons (pe_callB (call_isX (K := K) rfl) (by rfl) T.n_isinstance (by decide +kernel) (pa_cons (pv 0) (pa_cons (pe_glob (v := .ref (E.at 0)) rfl E.g0 rfl) pa_nil))) (pa_cons (pe_callB (call_isX (K := K) rfl) (by rfl) T.n_isinstance (by decide +kernel) (pa_cons (pv 0) (pa_cons (pe_glob (v := .ref (E.at 1)) rfl E.g1 rfl) pa_nil))) (pa_cons (pe_callB (call_isX (K := K) rfl) (by rfl) T.n_isinstance (by decide +kernel) (pa_cons (pv 0) (pa_cons (pe_glob (v := .ref (E.at 2)) rfl E.g2 rfl) pa_nil))) (pa_cons (pe_callB (call_isX (K := K) rfl) (by rfl) T.n_isinstance (by decide +kernel) (pa_cons (pv 0) (pa_cons (pe_glob (v := .ref (E.at 3)) rfl E.g3 rfl) pa_nil))) pa_nil))))) (pg_name (i := 1) sckinds.nd rfl (Or.inr rfl)))
    (pss_cons (ps_asg (pe_op op_cat (pv 1) (pe_lst (pa_cons (pe_callB (call_isX (K := K) rfl) (by rfl) T.n_isinstance (by decide +kernel) (pa_cons (pv 0) (pa_cons (pe_glob (v := .ref (E.at 4)) rfl E.g4 rfl) pa_nil))) (pa_cons (pe_callB (call_isX (K := K) rfl) (by rfl) T.n_isinstance (by decide +kernel) (pa_cons (pv 0) (pa_cons (pe_glob (v := .ref (E.at 5)) rfl E.g5 rfl) pa_nil))) (pa_cons (pe_callB (call_isX (K := K) rfl) (by rfl) T.n_isinstance (by decide +kernel) (pa_cons (pv 0) (pa_cons (pe_glob (v := .ref (E.at 6)) rfl E.g6 rfl) pa_nil))) pa_nil))))) (pg_name (i := 1) sckinds.nd rfl (Or.inr rfl)))
    (pss_cons (ps_asg (pe_op op_cat (pv 1) (pe_lst (pa_cons (pe_callB (call_isX (K := K) rfl) (by rfl) T.n_isinstance (by decide +kernel) (pa_cons (pv 0) (pa_cons (pe_glob (v := .ref (E.at 7)) rfl E.g7 rfl) pa_nil))) (pa_cons (pe_callB (call_isX (K := K) rfl) (by rfl) T.n_isinstance (by decide +kernel) (pa_cons (pv 0) (pa_cons (pe_glob (v := .ref (E.at 8)) rfl E.g8 rfl) pa_nil))) (pa_cons (pe_callB (call_isX (K := K) rfl) (by rfl) T.n_isinstance (by decide +kernel) (pa_cons (pv 0) (pa_cons (pe_glob (v := .ref (E.at 9)) rfl E.g9 rfl) pa_nil))) (pa_cons (pe_callB (call_isX (K := K) rfl) (by rfl) T.n_isinstance (by decide +kernel) (pa_cons (pv 0) (pa_cons (pe_glob (v := .ref (E.at 10)) rfl E.g10 rfl) pa_nil))) pa_nil)))))) (pg_name (i := 1) sckinds.nd rfl (Or.inr rfl)))
    (pss_cons (ps_asg (pe_op op_cat (pv 1) (pe_lst (pa_cons (pe_callB (call_isX (K := K) rfl) (by rfl) T.n_isinstance (by decide +kernel) (pa_cons (pv 0) (pa_cons (pe_glob (v := .ref (E.at 11)) rfl E.g11 rfl) pa_nil))) (pa_cons (pe_callB (call_isX (K := K) rfl) (by rfl) T.n_isinstance (by decide +kernel) (pa_cons (pv 0) (pa_cons (pe_glob (v := .ref (E.at 12)) rfl E.g12 rfl) pa_nil))) (pa_cons (pe_callB (call_isX (K := K) rfl) (by rfl) T.n_isinstance (by decide +kernel) (pa_cons (pv 0) (pa_cons (pe_glob (v := .ref (E.at 13)) rfl E.g13 rfl) pa_nil))) (pa_cons (pe_callB (call_isX (K := K) rfl) (by rfl) T.n_isinstance (by decide +kernel) (pa_cons (pv 0) (pa_cons (pe_glob (v := .ref (E.at 14)) rfl E.g14 rfl) pa_nil))) pa_nil)))))) (pg_name (i := 1) sckinds.nd rfl (Or.inr rfl)))
    (pss_cons (ps_asg (pe_op op_cat (pv 1) (pe_lst (pa_cons (pe_callB (call_isX (K := K) rfl) (by rfl) T.n_isinstance (by decide +kernel) (pa_cons (pv 0) (pa_cons (pe_glob (v := .ref (E.at 15)) rfl E.g15 rfl) pa_nil))) (pa_cons (pe_callB (call_isX (K := K) rfl) (by rfl) T.n_isinstance (by decide +kernel) (pa_cons (pv 0) (pa_cons (pe_glob (v := .ref (E.at 16)) rfl E.g16 rfl) pa_nil))) (pa_cons (pe_callB (call_isX (K := K) rfl) (by rfl) T.n_isinstance (by decide +kernel) (pa_cons (pv 0) (pa_cons (pe_glob (v := .ref (E.at 17)) rfl E.g17 rfl) pa_nil))) (pa_cons (pe_callB (call_isX (K := K) rfl) (by rfl) T.n_isinstance (by decide +kernel) (pa_cons (pv 0) (pa_cons (pe_glob (v := .ref (E.at 18)) rfl E.g18 rfl) pa_nil))) pa_nil)))))) (pg_name (i := 1) sckinds.nd rfl (Or.inr rfl)))
    (pss_cons (ps_asg (pe_op op_cat (pv 1) (pe_lst (pa_cons (pe_callB (call_isX (K := K) rfl) (by rfl) T.n_isinstance (by decide +kernel) (pa_cons (pv 0) (pa_cons (pe_glob (v := .ref (E.at 19)) rfl E.g19 rfl) pa_nil))) (pa_cons (pe_callB (call_isX (K := K) rfl) (by rfl) T.n_isinstance (by decide +kernel) (pa_cons (pv 0) (pa_cons (pe_glob (v := .ref (E.at 20)) rfl E.g20 rfl) pa_nil))) (pa_cons (pe_callB (call_isX (K := K) rfl) (by rfl) T.n_isinstance (by decide +kernel) (pa_cons (pv 0) (pa_cons (pe_glob (v := .ref (E.at 21)) rfl E.g21 rfl) pa_nil))) (pa_cons (pe_callB (call_isX (K := K) rfl) (by rfl) T.n_isinstance (by decide +kernel) (pa_cons (pv 0) (pa_cons (pe_glob (v := .ref (E.at 22)) rfl E.g22 rfl) pa_nil))) pa_nil)))))) (pg_name (i := 1) sckinds.nd rfl (Or.inr rfl)))
    (pss_cons (ps_asg (pe_op op_cat (pv 1) (pe_lst (pa_cons (pe_callB (call_isX (K := K) rfl) (by rfl) T.n_isinstance (by decide +kernel) (pa_cons (pv 0) (pa_cons (pe_glob (v := .ref (E.at 23)) rfl E.g23 rfl) pa_nil))) (pa_cons pe_bl (pa_cons (pe_callB (call_isX (K := K) rfl) (by rfl) T.n_isinstance (by decide +kernel) (pa_cons (pv 0) (pa_cons (pe_glob (v := .ref (E.at 25)) rfl E.g25 rfl) pa_nil))) (pa_cons (pe_callB (call_isX (K := K) rfl) (by rfl) T.n_isinstance (by decide +kernel) (pa_cons (pv 0) (pa_cons (pe_glob (v := .ref (E.at 26)) rfl E.g26 rfl) pa_nil))) pa_nil)))))) (pg_name (i := 1) sckinds.nd rfl (Or.inr rfl)))
    (pss_cons (ps_asg (pe_op op_cat (pv 1) (pe_lst (pa_cons (pe_callB (call_isX (K := K) rfl) (by rfl) T.n_isinstance (by decide +kernel) (pa_cons (pv 0) (pa_cons (pe_glob (v := .ref (E.at 27)) rfl E.g27 rfl) pa_nil))) pa_nil))) (pg_name (i := 1) sckinds.nd rfl (Or.inr rfl)))
    (pss_one (ps_ret (pe_op op_cat (pe_lc (own := [("_law_k", 2)]) (g := gName 2) rfl sckinds.nd (pi_range1 (by rfl) T.n_range (pa_cons pe_int pa_nil)) (blkOk_by (N := Nkinds) (sc := defScope skinds) (by decide +kernel)) (fun _ _ _ _ _ => pg_name (i := 2) sckinds.nd rfl (Or.inl rfl)) (fun _ _ _ _ _ => pts_one (pt_val (pe_ix (r := rIxL K) ix_list (pv 1) (pv 2) (fun _ _ => rfl)))) (fun _ _ _ _ _ => (pv 2))) (pe_lst (pa_cons (pe_callB (call_isX (K := K) rfl) (by rfl) T.n_isinstance (by decide +kernel) (pa_cons (pv 0) (pa_cons (pe_glob (v := .ref (E.at 24)) rfl E.g24 rfl) pa_nil))) (pa_cons (pe_callB (call_isX (K := K) rfl) (by rfl) T.n_isinstance (by decide +kernel) (pa_cons (pv 0) (pa_cons (pe_bltn (v := .ty "ValueError") (by rfl) n_VE (by decide +kernel) rfl) pa_nil))) pa_nil)))))))))))))), ?_⟩
    have s0 : Same H H := Same.refl H
    refine ⟨v, rfl, v, _, E.at i, _, bK i 0, rfl, .own _, (er.same s0), E.isC hi, E.kit hi (by decide), v, rfl, v, _, E.at i, _, bK i 1, rfl, .own _, (er.same s0), E.isC hi, E.kit hi (by decide), v, rfl, v, _, E.at i, _, bK i 2, rfl, .own _, (er.same s0), E.isC hi, E.kit hi (by decide), v, rfl, v, _, E.at i, _, bK i 3, rfl, .own _, (er.same s0), E.isC hi, E.kit hi (by decide), (by show 4 ≤ sizeLine; decide), fun P1 np1 => ?_⟩
    have t1 := same_upd (o := .lst [.bl (bK i 0), .bl (bK i 1), .bl (bK i 2), .bl (bK i 3)]) np1
    have f1 : (upd H P1 (.lst [.bl (bK i 0), .bl (bK i 1), .bl (bK i 2), .bl (bK i 3)])) P1 = some (.lst [.bl (bK i 0), .bl (bK i 1), .bl (bK i 2), .bl (bK i 3)]) := upd_same
    have s2 := Same.trans s0 t1
    generalize upd H P1 (.lst [.bl (bK i 0), .bl (bK i 1), .bl (bK i 2), .bl (bK i 3)]) = G1 at t1 f1 s2 ⊢
    refine ⟨.ref P1, rfl, v, rfl, v, _, E.at i, _, bK i 4, rfl, .own _, (er.same s2), E.isC hi, E.kit hi (by decide), v, rfl, v, _, E.at i, _, bK i 5, rfl, .own _, (er.same s2), E.isC hi, E.kit hi (by decide), v, rfl, v, _, E.at i, _, bK i 6, rfl, .own _, (er.same s2), E.isC hi, E.kit hi (by decide), (by show 3 ≤ sizeLine; decide), fun R1 nr1 => ?_⟩
    have tr1 := same_upd (o := .lst [.bl (bK i 4), .bl (bK i 5), .bl (bK i 6)]) nr1
    have fr1 : (upd G1 R1 (.lst [.bl (bK i 4), .bl (bK i 5), .bl (bK i 6)])) R1 = some (.lst [.bl (bK i 4), .bl (bK i 5), .bl (bK i 6)]) := upd_same
    generalize upd G1 R1 (.lst [.bl (bK i 4), .bl (bK i 5), .bl (bK i 6)]) = J1 at tr1 fr1 ⊢
    refine ⟨P1, R1, _, _, rfl, rfl, tr1 _ _ f1, fr1, (by show 7 ≤ sizeLine; decide), fun P2 np2 => ?_⟩
    have t2 := same_upd (o := .lst ([.bl (bK i 0), .bl (bK i 1), .bl (bK i 2), .bl (bK i 3)] ++ [.bl (bK i 4), .bl (bK i 5), .bl (bK i 6)])) np2
    have f2 : (upd J1 P2 (.lst ([.bl (bK i 0), .bl (bK i 1), .bl (bK i 2), .bl (bK i 3)] ++ [.bl (bK i 4), .bl (bK i 5), .bl (bK i 6)]))) P2 = some (.lst [.bl (bK i 0), .bl (bK i 1), .bl (bK i 2), .bl (bK i 3), .bl (bK i 4), .bl (bK i 5), .bl (bK i 6)]) := upd_same
    have s4 := Same.trans s2 (Same.trans tr1 t2)
    generalize upd J1 P2 (.lst ([.bl (bK i 0), .bl (bK i 1), .bl (bK i 2), .bl (bK i 3)] ++ [.bl (bK i 4), .bl (bK i 5), .bl (bK i 6)])) = G2 at t2 f2 s4 ⊢
    refine ⟨.ref P2, rfl, v, rfl, v, _, E.at i, _, bK i 7, rfl, .own _, (er.same s4), E.isC hi, E.kit hi (by decide), v, rfl, v, _, E.at i, _, bK i 8, rfl, .own _, (er.same s4), E.isC hi, E.kit hi (by decide), v, rfl, v, _, E.at i, _, bK i 9, rfl, .own _, (er.same s4), E.isC hi, E.kit hi (by decide), v, rfl, v, _, E.at i, _, bK i 10, rfl, .own _, (er.same s4), E.isC hi, E.kit hi (by decide), (by show 4 ≤ sizeLine; decide), fun R2 nr2 => ?_⟩
    have tr2 := same_upd (o := .lst [.bl (bK i 7), .bl (bK i 8), .bl (bK i 9), .bl (bK i 10)]) nr2
    have fr2 : (upd G2 R2 (.lst [.bl (bK i 7), .bl (bK i 8), .bl (bK i 9), .bl (bK i 10)])) R2 = some (.lst [.bl (bK i 7), .bl (bK i 8), .bl (bK i 9), .bl (bK i 10)]) := upd_same
    generalize upd G2 R2 (.lst [.bl (bK i 7), .bl (bK i 8), .bl (bK i 9), .bl (bK i 10)]) = J2 at tr2 fr2 ⊢
    refine ⟨P2, R2, _, _, rfl, rfl, tr2 _ _ f2, fr2, (by show 11 ≤ sizeLine; decide), fun P3 np3 => ?_⟩
    have t3 := same_upd (o := .lst ([.bl (bK i 0), .bl (bK i 1), .bl (bK i 2), .bl (bK i 3), .bl (bK i 4), .bl (bK i 5), .bl (bK i 6)] ++ [.bl (bK i 7), .bl (bK i 8), .bl (bK i 9), .bl (bK i 10)])) np3
    have f3 : (upd J2 P3 (.lst ([.bl (bK i 0), .bl (bK i 1), .bl (bK i 2), .bl (bK i 3), .bl (bK i 4), .bl (bK i 5), .bl (bK i 6)] ++ [.bl (bK i 7), .bl (bK i 8), .bl (bK i 9), .bl (bK i 10)]))) P3 = some (.lst [.bl (bK i 0), .bl (bK i 1), .bl (bK i 2), .bl (bK i 3), .bl (bK i 4), .bl (bK i 5), .bl (bK i 6), .bl (bK i 7), .bl (bK i 8), .bl (bK i 9), .bl (bK i 10)]) := upd_same
    have s6 := Same.trans s4 (Same.trans tr2 t3)
    generalize upd J2 P3 (.lst ([.bl (bK i 0), .bl (bK i 1), .bl (bK i 2), .bl (bK i 3), .bl (bK i 4), .bl (bK i 5), .bl (bK i 6)] ++ [.bl (bK i 7), .bl (bK i 8), .bl (bK i 9), .bl (bK i 10)])) = G3 at t3 f3 s6 ⊢
    refine ⟨.ref P3, rfl, v, rfl, v, _, E.at i, _, bK i 11, rfl, .own _, (er.same s6), E.isC hi, E.kit hi (by decide), v, rfl, v, _, E.at i, _, bK i 12, rfl, .own _, (er.same s6), E.isC hi, E.kit hi (by decide), v, rfl, v, _, E.at i, _, bK i 13, rfl, .own _, (er.same s6), E.isC hi, E.kit hi (by decide), v, rfl, v, _, E.at i, _, bK i 14, rfl, .own _, (er.same s6), E.isC hi, E.kit hi (by decide), (by show 4 ≤ sizeLine; decide), fun R3 nr3 => ?_⟩
    have tr3 := same_upd (o := .lst [.bl (bK i 11), .bl (bK i 12), .bl (bK i 13), .bl (bK i 14)]) nr3
    have fr3 : (upd G3 R3 (.lst [.bl (bK i 11), .bl (bK i 12), .bl (bK i 13), .bl (bK i 14)])) R3 = some (.lst [.bl (bK i 11), .bl (bK i 12), .bl (bK i 13), .bl (bK i 14)]) := upd_same
    generalize upd G3 R3 (.lst [.bl (bK i 11), .bl (bK i 12), .bl (bK i 13), .bl (bK i 14)]) = J3 at tr3 fr3 ⊢
    refine ⟨P3, R3, _, _, rfl, rfl, tr3 _ _ f3, fr3, (by show 15 ≤ sizeLine; decide), fun P4 np4 => ?_⟩
    have t4 := same_upd (o := .lst ([.bl (bK i 0), .bl (bK i 1), .bl (bK i 2), .bl (bK i 3), .bl (bK i 4), .bl (bK i 5), .bl (bK i 6), .bl (bK i 7), .bl (bK i 8), .bl (bK i 9), .bl (bK i 10)] ++ [.bl (bK i 11), .bl (bK i 12), .bl (bK i 13), .bl (bK i 14)])) np4
    have f4 : (upd J3 P4 (.lst ([.bl (bK i 0), .bl (bK i 1), .bl (bK i 2), .bl (bK i 3), .bl (bK i 4), .bl (bK i 5), .bl (bK i 6), .bl (bK i 7), .bl (bK i 8), .bl (bK i 9), .bl (bK i 10)] ++ [.bl (bK i 11), .bl (bK i 12), .bl (bK i 13), .bl (bK i 14)]))) P4 = some (.lst [.bl (bK i 0), .bl (bK i 1), .bl (bK i 2), .bl (bK i 3), .bl (bK i 4), .bl (bK i 5), .bl (bK i 6), .bl (bK i 7), .bl (bK i 8), .bl (bK i 9), .bl (bK i 10), .bl (bK i 11), .bl (bK i 12), .bl (bK i 13), .bl (bK i 14)]) := upd_same
    have s8 := Same.trans s6 (Same.trans tr3 t4)
    generalize upd J3 P4 (.lst ([.bl (bK i 0), .bl (bK i 1), .bl (bK i 2), .bl (bK i 3), .bl (bK i 4), .bl (bK i 5), .bl (bK i 6), .bl (bK i 7), .bl (bK i 8), .bl (bK i 9), .bl (bK i 10)] ++ [.bl (bK i 11), .bl (bK i 12), .bl (bK i 13), .bl (bK i 14)])) = G4 at t4 f4 s8 ⊢
    refine ⟨.ref P4, rfl, v, rfl, v, _, E.at i, _, bK i 15, rfl, .own _, (er.same s8), E.isC hi, E.kit hi (by decide), v, rfl, v, _, E.at i, _, bK i 16, rfl, .own _, (er.same s8), E.isC hi, E.kit hi (by decide), v, rfl, v, _, E.at i, _, bK i 17, rfl, .own _, (er.same s8), E.isC hi, E.kit hi (by decide), v, rfl, v, _, E.at i, _, bK i 18, rfl, .own _, (er.same s8), E.isC hi, E.kit hi (by decide), (by show 4 ≤ sizeLine; decide), fun R4 nr4 => ?_⟩
    have tr4 := same_upd (o := .lst [.bl (bK i 15), .bl (bK i 16), .bl (bK i 17), .bl (bK i 18)]) nr4
    have fr4 : (upd G4 R4 (.lst [.bl (bK i 15), .bl (bK i 16), .bl (bK i 17), .bl (bK i 18)])) R4 = some (.lst [.bl (bK i 15), .bl (bK i 16), .bl (bK i 17), .bl (bK i 18)]) := upd_same
    generalize upd G4 R4 (.lst [.bl (bK i 15), .bl (bK i 16), .bl (bK i 17), .bl (bK i 18)]) = J4 at tr4 fr4 ⊢
    refine ⟨P4, R4, _, _, rfl, rfl, tr4 _ _ f4, fr4, (by show 19 ≤ sizeLine; decide), fun P5 np5 => ?_⟩
    have t5 := same_upd (o := .lst ([.bl (bK i 0), .bl (bK i 1), .bl (bK i 2), .bl (bK i 3), .bl (bK i 4), .bl (bK i 5), .bl (bK i 6), .bl (bK i 7), .bl (bK i 8), .bl (bK i 9), .bl (bK i 10), .bl (bK i 11), .bl (bK i 12), .bl (bK i 13), .bl (bK i 14)] ++ [.bl (bK i 15), .bl (bK i 16), .bl (bK i 17), .bl (bK i 18)])) np5
    have f5 : (upd J4 P5 (.lst ([.bl (bK i 0), .bl (bK i 1), .bl (bK i 2), .bl (bK i 3), .bl (bK i 4), .bl (bK i 5), .bl (bK i 6), .bl (bK i 7), .bl (bK i 8), .bl (bK i 9), .bl (bK i 10), .bl (bK i 11), .bl (bK i 12), .bl (bK i 13), .bl (bK i 14)] ++ [.bl (bK i 15), .bl (bK i 16), .bl (bK i 17), .bl (bK i 18)]))) P5 = some (.lst [.bl (bK i 0), .bl (bK i 1), .bl (bK i 2), .bl (bK i 3), .bl (bK i 4), .bl (bK i 5), .bl (bK i 6), .bl (bK i 7), .bl (bK i 8), .bl (bK i 9), .bl (bK i 10), .bl (bK i 11), .bl (bK i 12), .bl (bK i 13), .bl (bK i 14), .bl (bK i 15), .bl (bK i 16), .bl (bK i 17), .bl (bK i 18)]) := upd_same
    have s10 := Same.trans s8 (Same.trans tr4 t5)
    generalize upd J4 P5 (.lst ([.bl (bK i 0), .bl (bK i 1), .bl (bK i 2), .bl (bK i 3), .bl (bK i 4), .bl (bK i 5), .bl (bK i 6), .bl (bK i 7), .bl (bK i 8), .bl (bK i 9), .bl (bK i 10), .bl (bK i 11), .bl (bK i 12), .bl (bK i 13), .bl (bK i 14)] ++ [.bl (bK i 15), .bl (bK i 16), .bl (bK i 17), .bl (bK i 18)])) = G5 at t5 f5 s10 ⊢
    refine ⟨.ref P5, rfl, v, rfl, v, _, E.at i, _, bK i 19, rfl, .own _, (er.same s10), E.isC hi, E.kit hi (by decide), v, rfl, v, _, E.at i, _, bK i 20, rfl, .own _, (er.same s10), E.isC hi, E.kit hi (by decide), v, rfl, v, _, E.at i, _, bK i 21, rfl, .own _, (er.same s10), E.isC hi, E.kit hi (by decide), v, rfl, v, _, E.at i, _, bK i 22, rfl, .own _, (er.same s10), E.isC hi, E.kit hi (by decide), (by show 4 ≤ sizeLine; decide), fun R5 nr5 => ?_⟩
    have tr5 := same_upd (o := .lst [.bl (bK i 19), .bl (bK i 20), .bl (bK i 21), .bl (bK i 22)]) nr5
    have fr5 : (upd G5 R5 (.lst [.bl (bK i 19), .bl (bK i 20), .bl (bK i 21), .bl (bK i 22)])) R5 = some (.lst [.bl (bK i 19), .bl (bK i 20), .bl (bK i 21), .bl (bK i 22)]) := upd_same
    generalize upd G5 R5 (.lst [.bl (bK i 19), .bl (bK i 20), .bl (bK i 21), .bl (bK i 22)]) = J5 at tr5 fr5 ⊢
    refine ⟨P5, R5, _, _, rfl, rfl, tr5 _ _ f5, fr5, (by show 23 ≤ sizeLine; decide), fun P6 np6 => ?_⟩
    have t6 := same_upd (o := .lst ([.bl (bK i 0), .bl (bK i 1), .bl (bK i 2), .bl (bK i 3), .bl (bK i 4), .bl (bK i 5), .bl (bK i 6), .bl (bK i 7), .bl (bK i 8), .bl (bK i 9), .bl (bK i 10), .bl (bK i 11), .bl (bK i 12), .bl (bK i 13), .bl (bK i 14), .bl (bK i 15), .bl (bK i 16), .bl (bK i 17), .bl (bK i 18)] ++ [.bl (bK i 19), .bl (bK i 20), .bl (bK i 21), .bl (bK i 22)])) np6
    have f6 : (upd J5 P6 (.lst ([.bl (bK i 0), .bl (bK i 1), .bl (bK i 2), .bl (bK i 3), .bl (bK i 4), .bl (bK i 5), .bl (bK i 6), .bl (bK i 7), .bl (bK i 8), .bl (bK i 9), .bl (bK i 10), .bl (bK i 11), .bl (bK i 12), .bl (bK i 13), .bl (bK i 14), .bl (bK i 15), .bl (bK i 16), .bl (bK i 17), .bl (bK i 18)] ++ [.bl (bK i 19), .bl (bK i 20), .bl (bK i 21), .bl (bK i 22)]))) P6 = some (.lst [.bl (bK i 0), .bl (bK i 1), .bl (bK i 2), .bl (bK i 3), .bl (bK i 4), .bl (bK i 5), .bl (bK i 6), .bl (bK i 7), .bl (bK i 8), .bl (bK i 9), .bl (bK i 10), .bl (bK i 11), .bl (bK i 12), .bl (bK i 13), .bl (bK i 14), .bl (bK i 15), .bl (bK i 16), .bl (bK i 17), .bl (bK i 18), .bl (bK i 19), .bl (bK i 20), .bl (bK i 21), .bl (bK i 22)]) := upd_same
    have s12 := Same.trans s10 (Same.trans tr5 t6)
    generalize upd J5 P6 (.lst ([.bl (bK i 0), .bl (bK i 1), .bl (bK i 2), .bl (bK i 3), .bl (bK i 4), .bl (bK i 5), .bl (bK i 6), .bl (bK i 7), .bl (bK i 8), .bl (bK i 9), .bl (bK i 10), .bl (bK i 11), .bl (bK i 12), .bl (bK i 13), .bl (bK i 14), .bl (bK i 15), .bl (bK i 16), .bl (bK i 17), .bl (bK i 18)] ++ [.bl (bK i 19), .bl (bK i 20), .bl (bK i 21), .bl (bK i 22)])) = G6 at t6 f6 s12 ⊢
    refine ⟨.ref P6, rfl, v, rfl, v, _, E.at i, _, bK i 23, rfl, .own _, (er.same s12), E.isC hi, E.kit hi (by decide), v, rfl, v, _, E.at i, _, bK i 25, rfl, .own _, (er.same s12), E.isC hi, E.kit hi (by decide), v, rfl, v, _, E.at i, _, bK i 26, rfl, .own _, (er.same s12), E.isC hi, E.kit hi (by decide), (by show 4 ≤ sizeLine; decide), fun R6 nr6 => ?_⟩
    have tr6 := same_upd (o := .lst [.bl (bK i 23), .bl false, .bl (bK i 25), .bl (bK i 26)]) nr6
    have fr6 : (upd G6 R6 (.lst [.bl (bK i 23), .bl false, .bl (bK i 25), .bl (bK i 26)])) R6 = some (.lst [.bl (bK i 23), .bl false, .bl (bK i 25), .bl (bK i 26)]) := upd_same
    generalize upd G6 R6 (.lst [.bl (bK i 23), .bl false, .bl (bK i 25), .bl (bK i 26)]) = J6 at tr6 fr6 ⊢
    refine ⟨P6, R6, _, _, rfl, rfl, tr6 _ _ f6, fr6, (by show 27 ≤ sizeLine; decide), fun P7 np7 => ?_⟩
    have t7 := same_upd (o := .lst ([.bl (bK i 0), .bl (bK i 1), .bl (bK i 2), .bl (bK i 3), .bl (bK i 4), .bl (bK i 5), .bl (bK i 6), .bl (bK i 7), .bl (bK i 8), .bl (bK i 9), .bl (bK i 10), .bl (bK i 11), .bl (bK i 12), .bl (bK i 13), .bl (bK i 14), .bl (bK i 15), .bl (bK i 16), .bl (bK i 17), .bl (bK i 18), .bl (bK i 19), .bl (bK i 20), .bl (bK i 21), .bl (bK i 22)] ++ [.bl (bK i 23), .bl false, .bl (bK i 25), .bl (bK i 26)])) np7
    have f7 : (upd J6 P7 (.lst ([.bl (bK i 0), .bl (bK i 1), .bl (bK i 2), .bl (bK i 3), .bl (bK i 4), .bl (bK i 5), .bl (bK i 6), .bl (bK i 7), .bl (bK i 8), .bl (bK i 9), .bl (bK i 10), .bl (bK i 11), .bl (bK i 12), .bl (bK i 13), .bl (bK i 14), .bl (bK i 15), .bl (bK i 16), .bl (bK i 17), .bl (bK i 18), .bl (bK i 19), .bl (bK i 20), .bl (bK i 21), .bl (bK i 22)] ++ [.bl (bK i 23), .bl false, .bl (bK i 25), .bl (bK i 26)]))) P7 = some (.lst [.bl (bK i 0), .bl (bK i 1), .bl (bK i 2), .bl (bK i 3), .bl (bK i 4), .bl (bK i 5), .bl (bK i 6), .bl (bK i 7), .bl (bK i 8), .bl (bK i 9), .bl (bK i 10), .bl (bK i 11), .bl (bK i 12), .bl (bK i 13), .bl (bK i 14), .bl (bK i 15), .bl (bK i 16), .bl (bK i 17), .bl (bK i 18), .bl (bK i 19), .bl (bK i 20), .bl (bK i 21), .bl (bK i 22), .bl (bK i 23), .bl false, .bl (bK i 25), .bl (bK i 26)]) := upd_same
    have s14 := Same.trans s12 (Same.trans tr6 t7)
    generalize upd J6 P7 (.lst ([.bl (bK i 0), .bl (bK i 1), .bl (bK i 2), .bl (bK i 3), .bl (bK i 4), .bl (bK i 5), .bl (bK i 6), .bl (bK i 7), .bl (bK i 8), .bl (bK i 9), .bl (bK i 10), .bl (bK i 11), .bl (bK i 12), .bl (bK i 13), .bl (bK i 14), .bl (bK i 15), .bl (bK i 16), .bl (bK i 17), .bl (bK i 18), .bl (bK i 19), .bl (bK i 20), .bl (bK i 21), .bl (bK i 22)] ++ [.bl (bK i 23), .bl false, .bl (bK i 25), .bl (bK i 26)])) = G7 at t7 f7 s14 ⊢
    refine ⟨.ref P7, rfl, v, rfl, v, _, E.at i, _, bK i 27, rfl, .own _, (er.same s14), E.isC hi, E.kit hi (by decide), (by show 1 ≤ sizeLine; decide), fun R7 nr7 => ?_⟩
    have tr7 := same_upd (o := .lst [.bl (bK i 27)]) nr7
    have fr7 : (upd G7 R7 (.lst [.bl (bK i 27)])) R7 = some (.lst [.bl (bK i 27)]) := upd_same
    generalize upd G7 R7 (.lst [.bl (bK i 27)]) = J7 at tr7 fr7 ⊢
    refine ⟨P7, R7, _, _, rfl, rfl, tr7 _ _ f7, fr7, (by show 28 ≤ sizeLine; decide), fun P8 np8 => ?_⟩
    have t8 := same_upd (o := .lst ([.bl (bK i 0), .bl (bK i 1), .bl (bK i 2), .bl (bK i 3), .bl (bK i 4), .bl (bK i 5), .bl (bK i 6), .bl (bK i 7), .bl (bK i 8), .bl (bK i 9), .bl (bK i 10), .bl (bK i 11), .bl (bK i 12), .bl (bK i 13), .bl (bK i 14), .bl (bK i 15), .bl (bK i 16), .bl (bK i 17), .bl (bK i 18), .bl (bK i 19), .bl (bK i 20), .bl (bK i 21), .bl (bK i 22), .bl (bK i 23), .bl false, .bl (bK i 25), .bl (bK i 26)] ++ [.bl (bK i 27)])) np8
    have f8 : (upd J7 P8 (.lst ([.bl (bK i 0), .bl (bK i 1), .bl (bK i 2), .bl (bK i 3), .bl (bK i 4), .bl (bK i 5), .bl (bK i 6), .bl (bK i 7), .bl (bK i 8), .bl (bK i 9), .bl (bK i 10), .bl (bK i 11), .bl (bK i 12), .bl (bK i 13), .bl (bK i 14), .bl (bK i 15), .bl (bK i 16), .bl (bK i 17), .bl (bK i 18), .bl (bK i 19), .bl (bK i 20), .bl (bK i 21), .bl (bK i 22), .bl (bK i 23), .bl false, .bl (bK i 25), .bl (bK i 26)] ++ [.bl (bK i 27)]))) P8 = some (.lst [.bl (bK i 0), .bl (bK i 1), .bl (bK i 2), .bl (bK i 3), .bl (bK i 4), .bl (bK i 5), .bl (bK i 6), .bl (bK i 7), .bl (bK i 8), .bl (bK i 9), .bl (bK i 10), .bl (bK i 11), .bl (bK i 12), .bl (bK i 13), .bl (bK i 14), .bl (bK i 15), .bl (bK i 16), .bl (bK i 17), .bl (bK i 18), .bl (bK i 19), .bl (bK i 20), .bl (bK i 21), .bl (bK i 22), .bl (bK i 23), .bl false, .bl (bK i 25), .bl (bK i 26), .bl (bK i 27)]) := upd_same
    have s16 := Same.trans s14 (Same.trans tr7 t8)
    generalize upd J7 P8 (.lst ([.bl (bK i 0), .bl (bK i 1), .bl (bK i 2), .bl (bK i 3), .bl (bK i 4), .bl (bK i 5), .bl (bK i 6), .bl (bK i 7), .bl (bK i 8), .bl (bK i 9), .bl (bK i 10), .bl (bK i 11), .bl (bK i 12), .bl (bK i 13), .bl (bK i 14), .bl (bK i 15), .bl (bK i 16), .bl (bK i 17), .bl (bK i 18), .bl (bK i 19), .bl (bK i 20), .bl (bK i 21), .bl (bK i 22), .bl (bK i 23), .bl false, .bl (bK i 25), .bl (bK i 26)] ++ [.bl (bK i 27)])) = G8 at t8 f8 s16 ⊢
    have fk : ∀ j, j < 28 → ([.bl (bK i 0), .bl (bK i 1), .bl (bK i 2), .bl (bK i 3), .bl (bK i 4), .bl (bK i 5), .bl (bK i 6), .bl (bK i 7), .bl (bK i 8), .bl (bK i 9), .bl (bK i 10), .bl (bK i 11), .bl (bK i 12), .bl (bK i 13), .bl (bK i 14), .bl (bK i 15), .bl (bK i 16), .bl (bK i 17), .bl (bK i 18), .bl (bK i 19), .bl (bK i 20), .bl (bK i 21), .bl (bK i 22), .bl (bK i 23), .bl false, .bl (bK i 25), .bl (bK i 26), .bl (bK i 27)] : List V)[j]? = some (.bl (kB i j)) := fun j hj => by
      match j, hj with
      | 0, _ => rfl
      | 1, _ => rfl
      | 2, _ => rfl
      | 3, _ => rfl
      | 4, _ => rfl
      | 5, _ => rfl
      | 6, _ => rfl
      | 7, _ => rfl
      | 8, _ => rfl
      | 9, _ => rfl
      | 10, _ => rfl
      | 11, _ => rfl
      | 12, _ => rfl
      | 13, _ => rfl
      | 14, _ => rfl
      | 15, _ => rfl
      | 16, _ => rfl
      | 17, _ => rfl
      | 18, _ => rfl
      | 19, _ => rfl
      | 20, _ => rfl
      | 21, _ => rfl
      | 22, _ => rfl
      | 23, _ => rfl
      | 24, _ => rfl
      | 25, _ => rfl
      | 26, _ => rfl
      | 27, _ => rfl
      | n + 28, h => exact absurd h (by omega)
    refine ⟨28, rfl, by decide, by decide, fun D nD => ?_⟩
    have PD : P8 ≠ D := ne_of_none f8 nD
    refine lc_range (lo := 0) (n := 28) (fun j G => Same G8 G ∧ G D = some (.lst (kT i j))) ⟨same_upd nD, upd_same⟩ (fun j G hj h => ?_) (fun G h => ?_)
    · obtain ⟨sG, hD⟩ := h
      rw [Int.zero_add]
      refine ⟨rfl, .ref P8, rfl, .int (j : Int), rfl, P8, _, _, _, rfl, rfl, sql (sG _ _ f8), atI_nat (fk j hj), kB i j, rfl, ite2 (fun e => ?_) (fun e => ?_)⟩
      · obtain ⟨rfl, n24⟩ := (kB_of hi).mp e
        refine ⟨.int (i : Int), rfl, kT i i, hD, ?_, fun b u z => ?_, ?_⟩
        · unfold kT
          rw [if_neg (fun z => absurd z.1 (by omega)), sizeLine_eq]
          decide
        · rw [upd_ne (ne_of_none z nD)]
          exact sG b u z
        · rw [upd_same]
          unfold kT
          rw [if_neg (fun z => absurd z.1 (by omega)), if_pos ⟨by omega, n24⟩]
          rfl
      · refine ⟨sG, ?_⟩
        rw [hD]
        unfold kT
        have ne : ¬ (i = j ∧ i ≠ 24) := fun z => e ((kB_of hi).mpr z)
        by_cases h2 : i < j ∧ i ≠ 24
        · rw [if_pos h2, if_pos ⟨by omega, h2.2⟩]
        · rw [if_neg h2, if_neg (fun z => h2 ⟨by
            have := z.1
            have z2 := z.2
            by_cases w : i = j
            · exact absurd ⟨w, z2⟩ ne
            · omega, z.2⟩)]
    · obtain ⟨sG, hD⟩ := h
      rw [kT_end hi] at hD
      have sHG := Same.trans s16 sG
      refine ⟨v, rfl, v, _, E.at i, _, bK i 24, rfl, .own _, er.same sHG, E.isC hi, E.kit hi (by decide), v, rfl, v, _, E.at i, _, true, rfl, .ty _, er.same sHG, E.isC hi, E.va hi, (by show 2 ≤ sizeLine; decide), fun R nR => ?_⟩
      have sR := same_upd (o := .lst [.bl (bK i 24), .bl true]) nR
      have fR : (upd G R (.lst [.bl (bK i 24), .bl true])) R = some (.lst [.bl (bK i 24), .bl true]) := upd_same
      generalize upd G R (.lst [.bl (bK i 24), .bl true]) = G2 at sR fR ⊢
      refine ⟨D, R, _, _, rfl, rfl, sR _ _ hD, fR, ?_, fun l nl => q _ l (Same.trans sHG (Same.trans sR (same_upd nl))) ?_ ?_⟩
      · rw [sizeLine_eq]
        by_cases e : i = 24
        · rw [if_pos e]
          show 0 + 2 ≤ 16777216
          decide
        · rw [if_neg e]
          show 1 + 2 ≤ 16777216
          decide
      · cases hh : H l with
        | none => rfl
        | some u =>
          have := Same.trans sHG sR _ _ hh
          rw [nl] at this
          cases this
      · rw [upd_same]
        unfold kindL
        rw [show bK i 24 = true by simp [bK]]
end
end Kb

namespace Kb
open PySem PySem.Spec PyProof.Rows L2
/-! a list comprehension where an error is handled -/
abbrev blkP (Y : Cx) (p : Addr × Obj) : Cx := { Y with pn := [p] }
section
variable {Y : Cx} {p : Addr × Obj} {σ : L2.St} {H : Hp} {s : Shared}
theorem okP (ok : Y.Ok) : (blkP Y p).Ok := ⟨ok.mod, ok.kind, ok.glob, ok.blt, ok.above, ok.inj, ok.has, ok.cab, ok.hd, ok.frames, ok.stk, ok.exf, ok.bs, ok.bsz, ok.noex, ok.exfs, ok.funs, ok.frf⟩
theorem ofP (ok : (blkP Y p).Ok) : Y.Ok := ⟨ok.mod, ok.kind, ok.glob, ok.blt, ok.above, ok.inj, ok.has, ok.cab, ok.hd, ok.frames, ok.stk, ok.exf, ok.bs, ok.bsz, ok.noex, ok.exfs, ok.funs, ok.frf⟩
theorem inP (I : Inv Y [] σ H s) (none_ : Y.pn = []) (h : s.heap.get? p.1 = some p.2 ∧ H p.1 = none ∧ p.1 ≠ Y.env.locals ∧ p.1 ∉ Y.fs ∧ ∀ v, p.2.data ≠ .cell v) : Inv (blkP Y p) [] σ H s :=
  ⟨okP I.ok, I.os, I.bare, I.base, I.loc, I.cell, I.free, I.freeC, fun q hq => by
    have : q = p := by simpa using hq
    subst this
    exact h, I.hok, I.len⟩
theorem outP (I : Inv (blkP Y p) [] σ H s) (none_ : Y.pn = []) : Inv Y [] σ H s :=
  ⟨ofP I.ok, I.os, I.bare, I.base, I.loc, I.cell, I.free, I.freeC, fun q hq => by
    rw [none_] at hq
    exact absurd hq (by simp), I.hok, I.len⟩
end
section
variable {X : Cx}
theorem pe_lcH {elt tg iter : Expr} {ifs : List Expr} {scope : Scope} {own : List (Str × Nat)} {pos : Pos} {wi : TI} {g : TG} {tt : TT} {te : TE} (hot : L2H.HotC X) (nd : X.N.Nodup) (over : L2H.PIH X tg iter wi) (ok : BlkOk X.N X.env.scope scope own)
    (tgt : ∀ (s : Shared) (H : Hp) (C : Addr) (cl : List (Str × Addr)) (fp : List Addr), PG (X.blk s H scope (compEnvC scope cl C X.env) fp) tg g) (tst : ∀ (s : Shared) (H : Hp) (C : Addr) (cl : List (Str × Addr)) (fp : List Addr), PTs (X.blk s H scope (compEnvC scope cl C X.env) fp) ifs tt)
    (item : ∀ (s : Shared) (H : Hp) (C : Addr) (cl : List (Str × Addr)) (fp : List Addr), PE (X.blk s H scope (compEnvC scope cl C X.env) fp) elt te) (plain : ∀ x, foldedSetIterable iter X.env x = pure x := by intro _; rfl) :
    PE X (.ListComp elt [⟨tg, iter, ifs, 0⟩] scope pos) (tLc wi g tt te (own.map (·.2))) := by
  refine ⟨fun pins s σ H Q I reads => ?_⟩
  rw [eval_ListComp]
  obtain ⟨p, hp1, hpin⟩ := hot
  have captured : ∀ y ∈ scope.names, y.2 = .free → ∃ c, X.env.cells.lookup y.1 = some c := fun y hy e =>
    (ok.free y hy e).elim (fun k => I.ok.has _ (.inl k)) fun k => I.ok.has _ (.inr k)
  refine wpAny_comprehension_free rfl plain (closure_ok captured) ok.kind (fun y hy e => by rw [ok.uniq y hy, e])
    (thn (over.run pins s σ H _ I reads) fun xv s1 hx => thn hx fun itv s2 got => ?_)
  obtain ⟨it, fp, tn, J, H2, eit, I2, T, st2, free2, q⟩ := got
  subst eit
  refine wpAny_newObj_type (newEnv_comp ?_) (by show 0 ≤ sizeLine; decide)
  obtain ⟨D, hD⟩ : ∃ D, s2.heap.objs.size = D := ⟨_, rfl⟩
  rw [hD]
  have new : H2 D = none := I2.hok.fresh (Nat.le_of_eq hD)
  obtain ⟨W, ⟨m0, w0⟩, turns⟩ := q D new
  obtain ⟨s3, hs3⟩ : ∃ s3 : Shared, ({ s2 with heap := s2.heap.push { cls := .type "list", data := .seq ([] : List Value).toArray } } : Shared) = s3 := ⟨_, rfl⟩
  have hp3 : s3.heap = s2.heap.push { cls := .type "list", data := .seq ([] : List Value).toArray } := by rw [← hs3]
  obtain ⟨H3, hH3⟩ : ∃ H3, upd H2 D (.lst []) = H3 := ⟨_, rfl⟩
  have I3 : Inv X pins σ H3 s3 := by
    rw [← hs3, ← hH3]
    refine I2.laid (t' := s2.toks) (fun b o e => Heap.get?_push_of_some _ e) (Nat.le_of_eq hD) ⟨Nat.zero_le _, [], 0, .nil, ?_⟩
    rw [← hD]
    exact Heap.get?_push_size _ rfl
  have below : ∀ b ∈ fp, b < s2.heap.objs.size := fun b hb => let ⟨_, e, _⟩ := T.obj _ _ st2 b hb; Heap.lt_size e
  have free3 : ∀ b ∈ fp, FpOk X pins H3 b ∧ b < s3.heap.objs.size := fun b hb => by
    have lt := below b hb
    refine ⟨⟨?_, (free2 b hb).2⟩, by rw [hp3, Heap.size_push]; exact Nat.lt_succ_of_lt lt⟩
    rw [← hH3, upd_ne (by rw [← hD]; exact Nat.ne_of_lt lt)]
    exact (free2 b hb).1
  have st3 : tn 0 s3.heap := T.keep _ _ _ st2 fun b _ o e => by rw [hp3]; exact Heap.get?_push_of_some _ e
  rw [hH3] at w0
  have I4 := block_start I3 ok nd free3
  have ptg := tgt s3 H3 s3.heap.objs.size (cellsFrom (s3.heap.objs.size + 1) scope.names (cloFrom X.env.cells scope.names [])) fp
  have pts := tst s3 H3 s3.heap.objs.size (cellsFrom (s3.heap.objs.size + 1) scope.names (cloFrom X.env.cells scope.names [])) fp
  have pit := item s3 H3 s3.heap.objs.size (cellsFrom (s3.heap.objs.size + 1) scope.names (cloFrom X.env.cells scope.names [])) fp
  rw [hs3]
  show codeAny _ _ (.compStart (.ListComp elt [⟨tg, iter, ifs, 0⟩] scope pos) 0 (.ref it) (.ref D) (compEnvC scope (cellsFrom (s3.heap.objs.size + 1) scope.names (cloFrom X.env.cells scope.names [])) s3.heap.objs.size X.env)) (compPost (model X.prog X.w) X.A X.xe _ _ (.ref D) s3.heap.objs.size) { s3 with heap := pushCells (s3.heap.push { cls := .type "dict", data := .dict #[] }) scope.names }
  have nfp : ∀ b ∈ fp, H3 b = none := fun b hb => (free3 b hb).1.1
  generalize hce : compEnvC scope (cellsFrom (s3.heap.objs.size + 1) scope.names (cloFrom X.env.cells scope.names [])) s3.heap.objs.size X.env = ce at I4 ptg pts pit ⊢
  have cL : ce.locals = s3.heap.objs.size := by subst hce; rfl
  generalize hs4 : ({ s3 with heap := pushCells (s3.heap.push { cls := .type "dict", data := .dict #[] }) scope.names } : Shared) = s4 at I4 ⊢
  have st4 : tn 0 s4.heap := T.keep _ _ _ st3 fun b _ o e => by rw [← hs4]; exact pushCells_keeps _ _ _ _ (Heap.get?_push_of_some _ e)
  -- the handled error stays where it is
  have pin3 := I3.pin p (List.mem_append_left _ hpin)
  have offF : p.1 ∉ frs X.stack := fun z => (List.mem_cons.mp (I3.stkSub p.1 z)).elim pin3.2.2.1 pin3.2.2.2.1
  have offP : p.1 ∉ fp := fun z => (free3 p.1 z).1.2.2.2.2.2 p (List.mem_append_left _ hpin) rfl
  have enter : ∀ {σ' : L2.St} {H' : Hp} {s' : Shared}, Inv (X.blk s3 H3 scope ce fp) [] σ' H' s' → Inv (blkP (X.blk s3 H3 scope ce fp) p) [] σ' H' s' := fun {σ' H' s'} I' =>
    inP I' rfl ⟨I'.base.keep p.1 p.2 pin3.1 pin3.2.1 offF offP, I'.base.free p.1 p.2 pin3.1 pin3.2.1 offP, by
      show p.1 ≠ ce.locals
      rw [cL]
      exact Nat.ne_of_lt (Heap.lt_size pin3.1), offF, pin3.2.2.2.2⟩
  have hotP : L2H.HotC (blkP (X.blk s3 H3 scope ce fp) p) := ⟨p, hp1, List.mem_cons_self⟩
  have stands : ∀ {σ' : L2.St} {H' : Hp} {s' : Shared}, Inv (X.blk s3 H3 scope ce fp) [] σ' H' s' → (∀ b ∈ fp, H' b = none) → ∀ b ∈ fp, FpOk (X.blk s3 H3 scope ce fp) [] H' b := fun {σ' H' s'} I' hn b hb =>
    ⟨hn b hb, (I'.ok.exf b hb).1, I'.ok.exfs b hb, .inl hb, fun x c e => (I'.ok.exf b hb).2 x c e, fun q hq => absurd (show q ∈ ([] : List (Addr × Obj)) ++ [] from hq) (by simp)⟩
  have standsP : ∀ {σ' : L2.St} {H' : Hp} {s' : Shared}, Inv (X.blk s3 H3 scope ce fp) [] σ' H' s' → (∀ b ∈ fp, H' b = none) → ∀ b ∈ fp, FpOk (blkP (X.blk s3 H3 scope ce fp) p) [] H' b := fun {σ' H' s'} I' hn b hb =>
    ⟨hn b hb, (I'.ok.exf b hb).1, I'.ok.exfs b hb, .inl hb, fun x c e => (I'.ok.exf b hb).2 x c e, fun q hq => by
      have : q = p := by simpa using hq
      rw [this]
      exact fun z => offP (by rw [z]; exact hb)⟩
  refine codeAny_compStart_list ?loop (T.self X.A 0 _ _ _ st4 ?loop)
  case loop =>
    refine compLoop_any (fun n s' => ∃ i H', Inv (X.blk s3 H3 scope ce fp) [] (wipe σ (own.map (·.2))) H' s' ∧ tn i s'.heap ∧ (∀ b ∈ fp, H' b = none) ∧ W i n H') ?_ m0 ⟨0, H3, I4, st4, nfp, w0⟩
    rintro n s5 ⟨i, H5, I5, st5, n5, w5⟩
    rcases turns i n H5 w5 with ⟨stop, qq⟩ | ⟨go, Nx, less, step⟩
    · refine thnF (T.done (blkP (X.blk s3 H3 scope ce fp) p) rfl rfl rfl hotP i [] s5 _ H5 (fun _ _ => False) (enter I5) (standsP I5 n5) st5 stop) fun r s6 ⟨hr, I6P⟩ => ?_
      subst hr
      have I6 := outP I6P rfl
      have I7 : Inv X pins σ H5 s6 := I3.call' (ch := fp) I6.os I6.base I6.hok I6.bare fun b hb => ⟨(free3 b hb).1.2.2.2.1, (free3 b hb).1.2.1, (free3 b hb).1.2.2.2.2.1, (free3 b hb).1.2.2.2.2.2⟩
      have nC : H5 s3.heap.objs.size = none := by
        have z : H5 ce.locals = none := I6.free
        rw [cL] at z
        exact z
      obtain ⟨m, hn, _⟩ := I6.loc
      have hn : s6.heap.Ns ce.locals m := hn
      rw [cL] at hn
      obtain ⟨f0, f1, f2, f3, f4, f5⟩ := I3.fpOk (Nat.le_refl _) nC
      exact ⟨m, hn, fun h'' sb => ⟨.ref D, H5, I7.turned (t' := s6.toks) (fun b o hb e => (sb.2 b hb).trans e) f0 f1 f3 f4 f5, rfl, qq⟩⟩
    · refine thnF (T.item (blkP (X.blk s3 H3 scope ce fp) p) rfl rfl rfl hotP i [] s5 _ H5 (fun _ _ => False) (enter I5) (standsP I5 n5) st5 go) fun r s6 ⟨u, hr, h6⟩ => ?_
      subst hr
      refine thnF h6 fun _ s7 ⟨x, H7, I7P, r7, y7, st7, n7⟩ => ?_
      have I7 := outP I7P rfl
      refine thnF (ptg.run _ s7 _ H7 x u _ (I7.pinned (stands I7 n7) (T.obj _ _ st7)) r7 (step x H7 y7)) fun _ s8 ⟨σ8, H8, I8, hw8, q8⟩ => ?_
      refine thnF (pts.run _ s8 σ8 H8 _ I8 q8) fun b s9 ⟨H9, I9, q9⟩ => ?_
      have next : ∀ {s' : Shared} {H' : Hp}, Inv (X.blk s3 H3 scope ce fp) ([] ++ pinsAt fp s7.heap) σ8 H' s' → Nx H' → ∃ m, m < n ∧ ∃ i H', Inv (X.blk s3 H3 scope ce fp) [] (wipe σ (own.map (·.2))) H' s' ∧ tn i s'.heap ∧ (∀ b ∈ fp, H' b = none) ∧ W i m H' := fun {s' H'} I' nx => by
        obtain ⟨m', hm, w'⟩ := less H' nx
        have kept : ∀ b ∈ fp, ∀ o, s7.heap.get? b = some o → s'.heap.get? b = some o ∧ H' b = none := fun b hb o e =>
          let z := I'.pin (b, o) (List.mem_append_right _ (List.mem_append_right _ (mem_pinsAt hb e)))
          ⟨z.1, z.2.1⟩
        refine ⟨m', hm, i + 1, H', (I'.unpinned (pins := [])).weak (by rw [← hw8, wipe_length]) (fun j v e => ?_), T.keep _ _ _ st7 fun b hb o e => (kept b hb o e).1, fun b hb => ?_, w'⟩
        · rw [← hw8] at e
          exact (wipe_some e).1
        · obtain ⟨o, e, _⟩ := T.obj _ _ st7 b hb
          exact (kept b hb o e).2
      cases b with
      | false => exact next I9 q9
      | true => exact thnF (pit.run _ s9 σ8 H9 _ I9 q9) fun z s10 ⟨yv, H10, I10, r10, acc, hD10, hz10, nx⟩ => app_ok (X := X.blk s3 H3 scope ce fp) I10 hD10 hz10 r10 fun s11 I11 => next I11 nx
end
end Kb

namespace Kb
open PySem PySem.Spec PyProof.Rows L2
/-! a def that is handed the handled error -/
structure FnE (P : Program) (w : World) (K : PySem.W.Frag) (mg : Str → Option Value) (base : Heap) (k : Nat) (f : Addr) (fd : FuncData) (ps : List Str) (sp : Addr × Obj → Sp) : Prop where
  len : ∀ p vs H Q E, sp p vs H Q E → vs.length = ps.length
  run : ∀ (A : Around) (outer : List Env) (s : Shared) (H : Hp) (args : Args) (us : List Value) (vs : List V) (Q : VK) (E : XK) (p : Addr × Obj), L2H.RoomH k A → L2H.Hot1 A p → L2H.PinOk outer H s p → Env0 P w K mg base A outer s H → BindsTo s fd args (ps.zip us) → Vals vs us → sp p vs H Q E →
    codeAny (model P w) A (.call (.ref f) args) (CR CX0 outer P w H s Q E) s
section
variable {P : Program} {w : World} {K : PySem.W.Frag} {mg : Str → Option Value} {base : Heap}
theorem okE {x qual : Str} {st : Stmt} {f : Addr} {fd : FuncData} {N ps : List Str} {k : Nat} {sp : Addr × Obj → Sp} (F : Fun K x qual st f fd) (S : FnScope N ps (defScope st)) (len : ∀ p vs H Q E, sp p vs H Q E → vs.length = ps.length)
    (body : ∀ (cdv : Value) (A : Around) (outer : List Env) (s : Shared) (H : Hp) (vs : List V) (Q : VK) (E : XK) (p : Addr × Obj), L2H.Hot1 A p → L2H.RoomH k (A.deeper (envOfC qual (defScope st) s.heap.objs.size f cdv)) → sp p vs H Q E →
      ∃ t, PSs (L2H.cxH CX0 P w K mg base N qual (defScope st) f cdv A outer s H E p) (defBody st) t ∧ t { nx := fun _ H' => Q .non H', rt := Q } (L2.start N vs) H) : FnE P w K mg base (k + 1) f fd ps sp := by
  obtain ⟨_, _, _, _, _, _, cdv, _, _, rfl, there, code⟩ := F.ex
  refine ⟨len, fun A outer s H args us vs Q E p room hot pin e0 binds r asks => ?_⟩
  have many := len _ _ _ _ _ asks
  have KX : K.In s.heap := e0.mod.kin.keeps fun b o e => (e0.bs b o e).1
  have kinds : ∀ y ∈ ps.zip us, (defScope st).names.lookup y.1 = some .local ∨ ((defScope st).names.lookup y.1 = some .cell ∧ ((cellsFrom (s.heap.objs.size + 1) (defScope st).names []).lookup y.1).isSome = true) := fun y hy =>
    (S.par y.1 (List.of_mem_zip hy).1).elim .inl fun q => .inr ⟨q, PySem.W.cellsFrom_some _ _ _ (.inl q)⟩
  refine codeAny_call_function room.depth (KX _ _ there) rfl S.co S.gen rfl (PySem.W.codeRec_of KX code) (binds _ _ _ _ (wpAny_newFunctionEnv_cells S.kind kinds fun env ev s1 inside => ?_))
  subst ev
  refine ⟨(e0.mod.nolimit.keeps fun b o e => (e0.bs b o e).1).keeps inside.toInCall.keep, codeAny_func ?_⟩
  obtain ⟨t, runs, reads⟩ := body cdv A outer s H vs Q E p hot (room.deeper _) asks
  have I := L2H.inv_startH (CX := CX0) (E := E) S pin e0 many r inside
  have over : ∀ {σ' : L2.St} {H' : Hp} {v : V} {u : Value} {s' : Shared}, Inv (L2H.cxH CX0 P w K mg base N qual (defScope st) f cdv A outer s H E p) [] σ' H' s' → RelV v u → Q v H' → CE outer P w H s Q u s' := fun {σ' H' v u s'} J rv q => ⟨v, H', J.os, J.bare, J.base, J.hok, rv, q⟩
  refine wpAny_mono (runs.run [] s1 (L2.start N vs) H _ I reads) (fun fl s' got => ?_) fun e s' z => z
  cases fl with
  | next => exact let ⟨_, _, J, q⟩ := got; over (v := V.non) (u := Value.none) J rfl q
  | ret u => exact let ⟨_, _, _, J, rv, q⟩ := got; over J rv q
  | brk => exact (let ⟨_, _, _, q⟩ := got; q : False).elim
  | cont => exact (let ⟨_, _, _, q⟩ := got; q : False).elim
end
section
variable {X : Cx} {a : Addr} {oe : Obj} {pn : List (Addr × Obj)} {e : Expr} {te : TE} {x : Str} {p pos : Pos} {k : Nat} {f : Addr} {fd : FuncData} {ps : List Str} {sp : Addr × Obj → Sp}
/-- f(n) in the suite of except A as n -/
def tGive (a : Addr) (oe : Obj) (sp : Addr × Obj → Sp) (te : TE) : TE := fun σ H Q => tCons te tNil σ H fun vs H1 => sp (a, oe) vs H1 Q (fun _ _ _ => False)
theorem pe_callE (F : FnE X.prog X.w X.K X.mg X.base k f fd ps sp) (hot : ∃ vs : Array Value, oe.data = .fields vs ∧ vs[2]? = some .none) (room : L2H.RoomH k (X.suite a ((a, oe) :: pn)).A) (gl : Gl (X.suite a ((a, oe) :: pn)) x) (there : X.mg x = some (.ref f)) (kp : PySem.W.keepIn X.K (.ref f) = true) (binds : Binds X.K fd ps [])
    (it : PE (X.suite a ((a, oe) :: pn)) e te) (nodebug : (x == ("__debug__" : Str)) = false := by decide) (h1 : starEach [e] X.env = (false, eval e X.env) :: starEach [] X.env := by rfl) (h2 : (backTo pos (starEach [] X.env)).any (·.1) = false := by rfl) :
    PE (X.suite a ((a, oe) :: pn)) (.Call (.Name x p) [e] [] pos) (tGive a oe sp te) := by
  refine ⟨fun pins s σ H Q I reads => ?_⟩
  refine wpAny_Call_Name_kw (ld_glob I gl there ?_ nodebug)
  refine PySem.W.callWith_K (h₀ := X.base) I.ok.mod.kin kp (thn ((pa_cons (hs := h1) it pa_nil).run pos pins s σ H _ I reads) fun us s1 ⟨vs, H1, J, r, asks⟩ => ⟨J.kIn, ?_⟩) h1 h2
  obtain ⟨ha, na, nL, nF, nc⟩ := J.pin (a, oe) (List.mem_append_left _ List.mem_cons_self)
  have off : a ∉ frs X.stack := fun z => (List.mem_cons.mp (J.stkSub a z)).elim nL nF
  have long : (us ++ []).length = ps.length := by
    rw [List.append_nil, ← r.length]
    exact F.len _ _ _ _ _ asks
  refine wpAny_call (codeAny_mono (F.run _ X.stack s1 H1 ⟨us, []⟩ us vs Q _ (a, oe) room ⟨rfl, hot⟩ ⟨ha, na, off, nc⟩ J.env0 (by
    have := binds s1 us J.kIn long
    rw [List.append_nil] at this
    exact this) r asks) fun r2 s2 got => ?_)
  cases r2 with
  | error er => exact got.elim
  | ok fl =>
    cases fl with
    | ret u => exact J.after got
    | next => exact got.elim
    | brk => exact got.elim
    | cont => exact got.elim
end
/-- isinstance(e, C), e a pinned error -/
def rIsP (K : PySem.W.Frag) (a C : Addr) : List V → Hp → VK → Prop := fun xs H Q => ∃ (c : V) (u : Value) (b : Bool), xs = [.ref a, c] ∧ ClsV c u ∧ PySem.W.kitOne K (.ref C) u = some b ∧ Q (.bl b) H
section
variable {X : Cx}
theorem call_isP {K : PySem.W.Frag} {a C : Addr} {oe : Obj} (hK : X.K = K) (mem : (a, oe) ∈ X.pn) (hC : L2.ExcC K C) (z : Zc (.ref C) none oe) (f : ∃ vs, oe.data = .fields vs) : CallR X (.builtin "isinstance") (rIsP K a C) := by
  subst hK
  intro pins s σ H xs us Q I r h
  obtain ⟨c, u, b, rfl, k, e, q⟩ := h
  obtain ⟨u1, u2, rfl, r1, r2⟩ := vals2 r
  have e2 := k.eq r2
  subst e2
  cases r1
  have get := (I.pin (a, oe) (List.mem_append_left _ mem)).1
  have J : PySem.W.InstAt s.heap a oe C none := by
    obtain ⟨vs, hd⟩ := f
    obtain ⟨oc, od, oda, osl⟩ := oe
    obtain ⟨h1, h2⟩ := z
    dsimp only at h1 h2 hd
    subst h1 h2 hd
    exact ⟨get, rfl, rfl, trivial⟩
  exact PySem.W.kia_one (PySem.W.handS_kitx_exc hC.hg hC.hk hC.hs hC.hd hC.ha hC.hn hC.ht hC.hm) I.kIn J e (fun z => nomatch z) fun tk => ⟨.bl b, H, I.kept (t' := tk) fun _ _ z => z, rfl, q⟩
end
end Kb

namespace Kb
open PySem PySem.Spec PyProof.Rows L2 SrtZ SrtO
section
variable {P : Program} {w : World} {K : PySem.W.Frag} {mg : Str → Option Value} {base : Heap}
def spKindsE (E : ErT K mg) : Addr × Obj → Sp := fun p vs H Q _ => ∃ (i : Nat), vs = [.ref p.1] ∧ i < 28 ∧ Zc (.ref (E.at i)) none p.2 ∧ (∃ vs, p.2.data = .fields vs) ∧ ∀ H' l, Same H H' → H' l = some (.lst (kindL i)) → Q (.ref l) H'
theorem ok_kindsE (T : Blt mg) (n_VE : mg "ValueError" = none) (E : ErT K mg) (d : Dnkinds K mg) : FnE P w K mg base 1 d.f d.fd ["_law_e"] (spKindsE E) := by
  refine okE d.F sckinds (fun p vs H Q E2 h => ?_) (fun cdv A outer s H vs Q E2 p hot hr h => ?_)
  · obtain ⟨i, rfl, _⟩ := h
    rfl
  · obtain ⟨i, rfl, hi, z, f, q⟩ := h
    refine ⟨_, (pss_cons (ps_asg (pe_lst (pa_cons (pe_callB (call_isP (K := K) (oe := p.2) rfl (by exact List.mem_cons_self) (E.isC hi) z f) (by rfl) T.n_isinstance (by decide +kernel) (pa_cons (pv 0) (pa_cons (pe_glob (v := .ref (E.at 0)) rfl E.g0 rfl) pa_nil))) (pa_cons (pe_callB (call_isP (K := K) (oe := p.2) rfl (by exact List.mem_cons_self) (E.isC hi) z f) (by rfl) T.n_isinstance (by decide +kernel) (pa_cons (pv 0) (pa_cons (pe_glob (v := .ref (E.at 1)) rfl E.g1 rfl) pa_nil))) (pa_cons (pe_callB (call_isP (K := K) (oe := p.2) rfl (by exact List.mem_cons_self) (E.isC hi) z f) (by rfl) T.n_isinstance (by decide +kernel) (pa_cons (pv 0) (pa_cons (pe_glob (v := .ref (E.at 2)) rfl E.g2 rfl) pa_nil))) (pa_cons (pe_callB (call_isP (K := K) (oe := p.2) rfl (by exact List.mem_cons_self) (E.isC hi) z f) (by rfl) T.n_isinstance (by decide +kernel) (pa_cons (pv 0) (pa_cons (pe_glob (v := .ref (E.at 3)) rfl E.g3 rfl) pa_nil))) pa_nil))))) (pg_name (i := 1) sckinds.nd rfl (Or.inr rfl)))
    (pss_cons (ps_asg (pe_op op_cat (pv 1) (pe_lst (pa_cons (pe_callB (call_isP (K := K) (oe := p.2) rfl (by exact List.mem_cons_self) (E.isC hi) z f) (by rfl) T.n_isinstance (by decide +kernel) (pa_cons (pv 0) (pa_cons (pe_glob (v := .ref (E.at 4)) rfl E.g4 rfl) pa_nil))) (pa_cons (pe_callB (call_isP (K := K) (oe := p.2) rfl (by exact List.mem_cons_self) (E.isC hi) z f) (by rfl) T.n_isinstance (by decide +kernel) (pa_cons (pv 0) (pa_cons (pe_glob (v := .ref (E.at 5)) rfl E.g5 rfl) pa_nil))) (pa_cons (pe_callB (call_isP (K := K) (oe := p.2) rfl (by exact List.mem_cons_self) (E.isC hi) z f) (by rfl) T.n_isinstance (by decide +kernel) (pa_cons (pv 0) (pa_cons (pe_glob (v := .ref (E.at 6)) rfl E.g6 rfl) pa_nil))) pa_nil))))) (pg_name (i := 1) sckinds.nd rfl (Or.inr rfl)))
    (pss_cons (ps_asg (pe_op op_cat (pv 1) (pe_lst (pa_cons (pe_callB (call_isP (K := K) (oe := p.2) rfl (by exact List.mem_cons_self) (E.isC hi) z f) (by rfl) T.n_isinstance (by decide +kernel) (pa_cons (pv 0) (pa_cons (pe_glob (v := .ref (E.at 7)) rfl E.g7 rfl) pa_nil))) (pa_cons (pe_callB (call_isP (K := K) (oe := p.2) rfl (by exact List.mem_cons_self) (E.isC hi) z f) (by rfl) T.n_isinstance (by decide +kernel) (pa_cons (pv 0) (pa_cons (pe_glob (v := .ref (E.at 8)) rfl E.g8 rfl) pa_nil))) (pa_cons (pe_callB (call_isP (K := K) (oe := p.2) rfl (by exact List.mem_cons_self) (E.isC hi) z f) (by rfl) T.n_isinstance (by decide +kernel) (pa_cons (pv 0) (pa_cons (pe_glob (v := .ref (E.at 9)) rfl E.g9 rfl) pa_nil))) (pa_cons (pe_callB (call_isP (K := K) (oe := p.2) rfl (by exact List.mem_cons_self) (E.isC hi) z f) (by rfl) T.n_isinstance (by decide +kernel) (pa_cons (pv 0) (pa_cons (pe_glob (v := .ref (E.at 10)) rfl E.g10 rfl) pa_nil))) pa_nil)))))) (pg_name (i := 1) sckinds.nd rfl (Or.inr rfl)))
    (pss_cons (ps_asg (pe_op op_cat (pv 1) (pe_lst (pa_cons (pe_callB (call_isP (K := K) (oe := p.2) rfl (by exact List.mem_cons_self) (E.isC hi) z f) (by rfl) T.n_isinstance (by decide +kernel) (pa_cons (pv 0) (pa_cons (pe_glob (v := .ref (E.at 11)) rfl E.g11 rfl) pa_nil))) (pa_cons (pe_callB (call_isP (K := K) (oe := p.2) rfl (by exact List.mem_cons_self) (E.isC hi) z f) (by rfl) T.n_isinstance (by decide +kernel) (pa_cons (pv 0) (pa_cons (pe_glob (v := .ref (E.at 12)) rfl E.g12 rfl) pa_nil))) (pa_cons (pe_callB (call_isP (K := K) (oe := p.2) rfl (by exact List.mem_cons_self) (E.isC hi) z f) (by rfl) T.n_isinstance (by decide +kernel) (pa_cons (pv 0) (pa_cons (pe_glob (v := .ref (E.at 13)) rfl E.g13 rfl) pa_nil))) (pa_cons (pe_callB (call_isP (K := K) (oe := p.2) rfl (by exact List.mem_cons_self) (E.isC hi) z f) (by rfl) T.n_isinstance (by decide +kernel) (pa_cons (pv 0) (pa_cons (pe_glob (v := .ref (E.at 14)) rfl E.g14 rfl) pa_nil))) pa_nil)))))) (pg_name (i := 1) sckinds.nd rfl (Or.inr rfl)))
    (pss_cons (ps_asg (pe_op op_cat (pv 1) (pe_lst (pa_cons (pe_callB (call_isP (K := K) (oe := p.2) rfl (by exact List.mem_cons_self) (E.isC hi) z f) (by rfl) T.n_isinstance (by decide +kernel) (pa_cons (pv 0) (pa_cons (pe_glob (v := .ref (E.at 15)) rfl E.g15 rfl) pa_nil))) (pa_cons (pe_callB (call_isP (K := K) (oe := p.2) rfl (by exact List.mem_cons_self) (E.isC hi) z f) (by rfl) T.n_isinstance (by decide +kernel) (pa_cons (pv 0) (pa_cons (pe_glob (v := .ref (E.at 16)) rfl E.g16 rfl) pa_nil))) (pa_cons (pe_callB (call_isP (K := K) (oe := p.2) rfl (by exact List.mem_cons_self) (E.isC hi) z f) (by rfl) T.n_isinstance (by decide +kernel) (pa_cons (pv 0) (pa_cons (pe_glob (v := .ref (E.at 17)) rfl E.g17 rfl) pa_nil))) (pa_cons (pe_callB (call_isP (K := K) (oe := p.2) rfl (by exact List.mem_cons_self) (E.isC hi) z f) (by rfl) T.n_isinstance (by decide +kernel) (pa_cons (pv 0) (pa_cons (pe_glob (v := .ref (E.at 18)) rfl E.g18 rfl) pa_nil))) pa_nil)))))) (pg_name (i := 1) sckinds.nd rfl (Or.inr rfl)))
    (pss_cons (ps_asg (pe_op op_cat (pv 1) (pe_lst (pa_cons (pe_callB (call_isP (K := K) (oe := p.2) rfl (by exact List.mem_cons_self) (E.isC hi) z f) (by rfl) T.n_isinstance (by decide +kernel) (pa_cons (pv 0) (pa_cons (pe_glob (v := .ref (E.at 19)) rfl E.g19 rfl) pa_nil))) (pa_cons (pe_callB (call_isP (K := K) (oe := p.2) rfl (by exact List.mem_cons_self) (E.isC hi) z f) (by rfl) T.n_isinstance (by decide +kernel) (pa_cons (pv 0) (pa_cons (pe_glob (v := .ref (E.at 20)) rfl E.g20 rfl) pa_nil))) (pa_cons (pe_callB (call_isP (K := K) (oe := p.2) rfl (by exact List.mem_cons_self) (E.isC hi) z f) (by rfl) T.n_isinstance (by decide +kernel) (pa_cons (pv 0) (pa_cons (pe_glob (v := .ref (E.at 21)) rfl E.g21 rfl) pa_nil))) (pa_cons (pe_callB (call_isP (K := K) (oe := p.2) rfl (by exact List.mem_cons_self) (E.isC hi) z f) (by rfl) T.n_isinstance (by decide +kernel) (pa_cons (pv 0) (pa_cons (pe_glob (v := .ref (E.at 22)) rfl E.g22 rfl) pa_nil))) pa_nil)))))) (pg_name (i := 1) sckinds.nd rfl (Or.inr rfl)))
    (pss_cons (ps_asg (pe_op op_cat (pv 1) (pe_lst (pa_cons (pe_callB (call_isP (K := K) (oe := p.2) rfl (by exact List.mem_cons_self) (E.isC hi) z f) (by rfl) T.n_isinstance (by decide +kernel) (pa_cons (pv 0) (pa_cons (pe_glob (v := .ref (E.at 23)) rfl E.g23 rfl) pa_nil))) (pa_cons pe_bl (pa_cons (pe_callB (call_isP (K := K) (oe := p.2) rfl (by exact List.mem_cons_self) (E.isC hi) z f) (by rfl) T.n_isinstance (by decide +kernel) (pa_cons (pv 0) (pa_cons (pe_glob (v := .ref (E.at 25)) rfl E.g25 rfl) pa_nil))) (pa_cons (pe_callB (call_isP (K := K) (oe := p.2) rfl (by exact List.mem_cons_self) (E.isC hi) z f) (by rfl) T.n_isinstance (by decide +kernel) (pa_cons (pv 0) (pa_cons (pe_glob (v := .ref (E.at 26)) rfl E.g26 rfl) pa_nil))) pa_nil)))))) (pg_name (i := 1) sckinds.nd rfl (Or.inr rfl)))
    (pss_cons (ps_asg (pe_op op_cat (pv 1) (pe_lst (pa_cons (pe_callB (call_isP (K := K) (oe := p.2) rfl (by exact List.mem_cons_self) (E.isC hi) z f) (by rfl) T.n_isinstance (by decide +kernel) (pa_cons (pv 0) (pa_cons (pe_glob (v := .ref (E.at 27)) rfl E.g27 rfl) pa_nil))) pa_nil))) (pg_name (i := 1) sckinds.nd rfl (Or.inr rfl)))
    (pss_one (ps_ret (pe_op op_cat (pe_lcH (own := [("_law_k", 2)]) (g := gName 2) ⟨p, hot, List.mem_cons_self⟩ sckinds.nd (L2H.pi_range1H (by rfl) T.n_range (pa_cons pe_int pa_nil)) (blkOk_by (N := Nkinds) (sc := defScope skinds) (by decide +kernel)) (fun _ _ _ _ _ => pg_name (i := 2) sckinds.nd rfl (Or.inl rfl)) (fun _ _ _ _ _ => pts_one (pt_val (pe_ix (r := rIxL K) ix_list (pv 1) (pv 2) (fun _ _ => rfl)))) (fun _ _ _ _ _ => (pv 2))) (pe_lst (pa_cons (pe_callB (call_isP (K := K) (oe := p.2) rfl (by exact List.mem_cons_self) (E.isC hi) z f) (by rfl) T.n_isinstance (by decide +kernel) (pa_cons (pv 0) (pa_cons (pe_glob (v := .ref (E.at 24)) rfl E.g24 rfl) pa_nil))) (pa_cons (pe_callB (call_isP (K := K) (oe := p.2) rfl (by exact List.mem_cons_self) (E.isC hi) z f) (by rfl) T.n_isinstance (by decide +kernel) (pa_cons (pv 0) (pa_cons (pe_bltn (v := .ty "ValueError") (by rfl) n_VE (by decide +kernel) rfl) pa_nil))) pa_nil)))))))))))))), ?_⟩
    have s0 : Same H H := Same.refl H
    refine ⟨.ref p.1, rfl, _, _, bK i 0, rfl, .own _, E.kit hi (by decide), .ref p.1, rfl, _, _, bK i 1, rfl, .own _, E.kit hi (by decide), .ref p.1, rfl, _, _, bK i 2, rfl, .own _, E.kit hi (by decide), .ref p.1, rfl, _, _, bK i 3, rfl, .own _, E.kit hi (by decide), (by show 4 ≤ sizeLine; decide), fun P1 np1 => ?_⟩
    have t1 := same_upd (o := .lst [.bl (bK i 0), .bl (bK i 1), .bl (bK i 2), .bl (bK i 3)]) np1
    have f1 : (upd H P1 (.lst [.bl (bK i 0), .bl (bK i 1), .bl (bK i 2), .bl (bK i 3)])) P1 = some (.lst [.bl (bK i 0), .bl (bK i 1), .bl (bK i 2), .bl (bK i 3)]) := upd_same
    have s2 := Same.trans s0 t1
    generalize upd H P1 (.lst [.bl (bK i 0), .bl (bK i 1), .bl (bK i 2), .bl (bK i 3)]) = G1 at t1 f1 s2 ⊢
    refine ⟨.ref P1, rfl, .ref p.1, rfl, _, _, bK i 4, rfl, .own _, E.kit hi (by decide), .ref p.1, rfl, _, _, bK i 5, rfl, .own _, E.kit hi (by decide), .ref p.1, rfl, _, _, bK i 6, rfl, .own _, E.kit hi (by decide), (by show 3 ≤ sizeLine; decide), fun R1 nr1 => ?_⟩
    have tr1 := same_upd (o := .lst [.bl (bK i 4), .bl (bK i 5), .bl (bK i 6)]) nr1
    have fr1 : (upd G1 R1 (.lst [.bl (bK i 4), .bl (bK i 5), .bl (bK i 6)])) R1 = some (.lst [.bl (bK i 4), .bl (bK i 5), .bl (bK i 6)]) := upd_same
    generalize upd G1 R1 (.lst [.bl (bK i 4), .bl (bK i 5), .bl (bK i 6)]) = J1 at tr1 fr1 ⊢
    refine ⟨P1, R1, _, _, rfl, rfl, tr1 _ _ f1, fr1, (by show 7 ≤ sizeLine; decide), fun P2 np2 => ?_⟩
    have t2 := same_upd (o := .lst ([.bl (bK i 0), .bl (bK i 1), .bl (bK i 2), .bl (bK i 3)] ++ [.bl (bK i 4), .bl (bK i 5), .bl (bK i 6)])) np2
    have f2 : (upd J1 P2 (.lst ([.bl (bK i 0), .bl (bK i 1), .bl (bK i 2), .bl (bK i 3)] ++ [.bl (bK i 4), .bl (bK i 5), .bl (bK i 6)]))) P2 = some (.lst [.bl (bK i 0), .bl (bK i 1), .bl (bK i 2), .bl (bK i 3), .bl (bK i 4), .bl (bK i 5), .bl (bK i 6)]) := upd_same
    have s4 := Same.trans s2 (Same.trans tr1 t2)
    generalize upd J1 P2 (.lst ([.bl (bK i 0), .bl (bK i 1), .bl (bK i 2), .bl (bK i 3)] ++ [.bl (bK i 4), .bl (bK i 5), .bl (bK i 6)])) = G2 at t2 f2 s4 ⊢
    refine ⟨.ref P2, rfl, .ref p.1, rfl, _, _, bK i 7, rfl, .own _, E.kit hi (by decide), .ref p.1, rfl, _, _, bK i 8, rfl, .own _, E.kit hi (by decide), .ref p.1, rfl, _, _, bK i 9, rfl, .own _, E.kit hi (by decide), .ref p.1, rfl, _, _, bK i 10, rfl, .own _, E.kit hi (by decide), (by show 4 ≤ sizeLine; decide), fun R2 nr2 => ?_⟩
    have tr2 := same_upd (o := .lst [.bl (bK i 7), .bl (bK i 8), .bl (bK i 9), .bl (bK i 10)]) nr2
    have fr2 : (upd G2 R2 (.lst [.bl (bK i 7), .bl (bK i 8), .bl (bK i 9), .bl (bK i 10)])) R2 = some (.lst [.bl (bK i 7), .bl (bK i 8), .bl (bK i 9), .bl (bK i 10)]) := upd_same
    generalize upd G2 R2 (.lst [.bl (bK i 7), .bl (bK i 8), .bl (bK i 9), .bl (bK i 10)]) = J2 at tr2 fr2 ⊢
    refine ⟨P2, R2, _, _, rfl, rfl, tr2 _ _ f2, fr2, (by show 11 ≤ sizeLine; decide), fun P3 np3 => ?_⟩
    have t3 := same_upd (o := .lst ([.bl (bK i 0), .bl (bK i 1), .bl (bK i 2), .bl (bK i 3), .bl (bK i 4), .bl (bK i 5), .bl (bK i 6)] ++ [.bl (bK i 7), .bl (bK i 8), .bl (bK i 9), .bl (bK i 10)])) np3
    have f3 : (upd J2 P3 (.lst ([.bl (bK i 0), .bl (bK i 1), .bl (bK i 2), .bl (bK i 3), .bl (bK i 4), .bl (bK i 5), .bl (bK i 6)] ++ [.bl (bK i 7), .bl (bK i 8), .bl (bK i 9), .bl (bK i 10)]))) P3 = some (.lst [.bl (bK i 0), .bl (bK i 1), .bl (bK i 2), .bl (bK i 3), .bl (bK i 4), .bl (bK i 5), .bl (bK i 6), .bl (bK i 7), .bl (bK i 8), .bl (bK i 9), .bl (bK i 10)]) := upd_same
    have s6 := Same.trans s4 (Same.trans tr2 t3)
    generalize upd J2 P3 (.lst ([.bl (bK i 0), .bl (bK i 1), .bl (bK i 2), .bl (bK i 3), .bl (bK i 4), .bl (bK i 5), .bl (bK i 6)] ++ [.bl (bK i 7), .bl (bK i 8), .bl (bK i 9), .bl (bK i 10)])) = G3 at t3 f3 s6 ⊢
    refine ⟨.ref P3, rfl, .ref p.1, rfl, _, _, bK i 11, rfl, .own _, E.kit hi (by decide), .ref p.1, rfl, _, _, bK i 12, rfl, .own _, E.kit hi (by decide), .ref p.1, rfl, _, _, bK i 13, rfl, .own _, E.kit hi (by decide), .ref p.1, rfl, _, _, bK i 14, rfl, .own _, E.kit hi (by decide), (by show 4 ≤ sizeLine; decide), fun R3 nr3 => ?_⟩
    have tr3 := same_upd (o := .lst [.bl (bK i 11), .bl (bK i 12), .bl (bK i 13), .bl (bK i 14)]) nr3
    have fr3 : (upd G3 R3 (.lst [.bl (bK i 11), .bl (bK i 12), .bl (bK i 13), .bl (bK i 14)])) R3 = some (.lst [.bl (bK i 11), .bl (bK i 12), .bl (bK i 13), .bl (bK i 14)]) := upd_same
    generalize upd G3 R3 (.lst [.bl (bK i 11), .bl (bK i 12), .bl (bK i 13), .bl (bK i 14)]) = J3 at tr3 fr3 ⊢
    refine ⟨P3, R3, _, _, rfl, rfl, tr3 _ _ f3, fr3, (by show 15 ≤ sizeLine; decide), fun P4 np4 => ?_⟩
    have t4 := same_upd (o := .lst ([.bl (bK i 0), .bl (bK i 1), .bl (bK i 2), .bl (bK i 3), .bl (bK i 4), .bl (bK i 5), .bl (bK i 6), .bl (bK i 7), .bl (bK i 8), .bl (bK i 9), .bl (bK i 10)] ++ [.bl (bK i 11), .bl (bK i 12), .bl (bK i 13), .bl (bK i 14)])) np4
    have f4 : (upd J3 P4 (.lst ([.bl (bK i 0), .bl (bK i 1), .bl (bK i 2), .bl (bK i 3), .bl (bK i 4), .bl (bK i 5), .bl (bK i 6), .bl (bK i 7), .bl (bK i 8), .bl (bK i 9), .bl (bK i 10)] ++ [.bl (bK i 11), .bl (bK i 12), .bl (bK i 13), .bl (bK i 14)]))) P4 = some (.lst [.bl (bK i 0), .bl (bK i 1), .bl (bK i 2), .bl (bK i 3), .bl (bK i 4), .bl (bK i 5), .bl (bK i 6), .bl (bK i 7), .bl (bK i 8), .bl (bK i 9), .bl (bK i 10), .bl (bK i 11), .bl (bK i 12), .bl (bK i 13), .bl (bK i 14)]) := upd_same
    have s8 := Same.trans s6 (Same.trans tr3 t4)
    generalize upd J3 P4 (.lst ([.bl (bK i 0), .bl (bK i 1), .bl (bK i 2), .bl (bK i 3), .bl (bK i 4), .bl (bK i 5), .bl (bK i 6), .bl (bK i 7), .bl (bK i 8), .bl (bK i 9), .bl (bK i 10)] ++ [.bl (bK i 11), .bl (bK i 12), .bl (bK i 13), .bl (bK i 14)])) = G4 at t4 f4 s8 ⊢
    refine ⟨.ref P4, rfl, .ref p.1, rfl, _, _, bK i 15, rfl, .own _, E.kit hi (by decide), .ref p.1, rfl, _, _, bK i 16, rfl, .own _, E.kit hi (by decide), .ref p.1, rfl, _, _, bK i 17, rfl, .own _, E.kit hi (by decide), .ref p.1, rfl, _, _, bK i 18, rfl, .own _, E.kit hi (by decide), (by show 4 ≤ sizeLine; decide), fun R4 nr4 => ?_⟩
    have tr4 := same_upd (o := .lst [.bl (bK i 15), .bl (bK i 16), .bl (bK i 17), .bl (bK i 18)]) nr4
    have fr4 : (upd G4 R4 (.lst [.bl (bK i 15), .bl (bK i 16), .bl (bK i 17), .bl (bK i 18)])) R4 = some (.lst [.bl (bK i 15), .bl (bK i 16), .bl (bK i 17), .bl (bK i 18)]) := upd_same
    generalize upd G4 R4 (.lst [.bl (bK i 15), .bl (bK i 16), .bl (bK i 17), .bl (bK i 18)]) = J4 at tr4 fr4 ⊢
    refine ⟨P4, R4, _, _, rfl, rfl, tr4 _ _ f4, fr4, (by show 19 ≤ sizeLine; decide), fun P5 np5 => ?_⟩
    have t5 := same_upd (o := .lst ([.bl (bK i 0), .bl (bK i 1), .bl (bK i 2), .bl (bK i 3), .bl (bK i 4), .bl (bK i 5), .bl (bK i 6), .bl (bK i 7), .bl (bK i 8), .bl (bK i 9), .bl (bK i 10), .bl (bK i 11), .bl (bK i 12), .bl (bK i 13), .bl (bK i 14)] ++ [.bl (bK i 15), .bl (bK i 16), .bl (bK i 17), .bl (bK i 18)])) np5
    have f5 : (upd J4 P5 (.lst ([.bl (bK i 0), .bl (bK i 1), .bl (bK i 2), .bl (bK i 3), .bl (bK i 4), .bl (bK i 5), .bl (bK i 6), .bl (bK i 7), .bl (bK i 8), .bl (bK i 9), .bl (bK i 10), .bl (bK i 11), .bl (bK i 12), .bl (bK i 13), .bl (bK i 14)] ++ [.bl (bK i 15), .bl (bK i 16), .bl (bK i 17), .bl (bK i 18)]))) P5 = some (.lst [.bl (bK i 0), .bl (bK i 1), .bl (bK i 2), .bl (bK i 3), .bl (bK i 4), .bl (bK i 5), .bl (bK i 6), .bl (bK i 7), .bl (bK i 8), .bl (bK i 9), .bl (bK i 10), .bl (bK i 11), .bl (bK i 12), .bl (bK i 13), .bl (bK i 14), .bl (bK i 15), .bl (bK i 16), .bl (bK i 17), .bl (bK i 18)]) := upd_same
    have s10 := Same.trans s8 (Same.trans tr4 t5)
    generalize upd J4 P5 (.lst ([.bl (bK i 0), .bl (bK i 1), .bl (bK i 2), .bl (bK i 3), .bl (bK i 4), .bl (bK i 5), .bl (bK i 6), .bl (bK i 7), .bl (bK i 8), .bl (bK i 9), .bl (bK i 10), .bl (bK i 11), .bl (bK i 12), .bl (bK i 13), .bl (bK i 14)] ++ [.bl (bK i 15), .bl (bK i 16), .bl (bK i 17), .bl (bK i 18)])) = G5 at t5 f5 s10 ⊢
    refine ⟨.ref P5, rfl, .ref p.1, rfl, _, _, bK i 19, rfl, .own _, E.kit hi (by decide), .ref p.1, rfl, _, _, bK i 20, rfl, .own _, E.kit hi (by decide), .ref p.1, rfl, _, _, bK i 21, rfl, .own _, E.kit hi (by decide), .ref p.1, rfl, _, _, bK i 22, rfl, .own _, E.kit hi (by decide), (by show 4 ≤ sizeLine; decide), fun R5 nr5 => ?_⟩
    have tr5 := same_upd (o := .lst [.bl (bK i 19), .bl (bK i 20), .bl (bK i 21), .bl (bK i 22)]) nr5
    have fr5 : (upd G5 R5 (.lst [.bl (bK i 19), .bl (bK i 20), .bl (bK i 21), .bl (bK i 22)])) R5 = some (.lst [.bl (bK i 19), .bl (bK i 20), .bl (bK i 21), .bl (bK i 22)]) := upd_same
    generalize upd G5 R5 (.lst [.bl (bK i 19), .bl (bK i 20), .bl (bK i 21), .bl (bK i 22)]) = J5 at tr5 fr5 ⊢
    refine ⟨P5, R5, _, _, rfl, rfl, tr5 _ _ f5, fr5, (by show 23 ≤ sizeLine; decide), fun P6 np6 => ?_⟩
    have t6 := same_upd (o := .lst ([.bl (bK i 0), .bl (bK i 1), .bl (bK i 2), .bl (bK i 3), .bl (bK i 4), .bl (bK i 5), .bl (bK i 6), .bl (bK i 7), .bl (bK i 8), .bl (bK i 9), .bl (bK i 10), .bl (bK i 11), .bl (bK i 12), .bl (bK i 13), .bl (bK i 14), .bl (bK i 15), .bl (bK i 16), .bl (bK i 17), .bl (bK i 18)] ++ [.bl (bK i 19), .bl (bK i 20), .bl (bK i 21), .bl (bK i 22)])) np6
    have f6 : (upd J5 P6 (.lst ([.bl (bK i 0), .bl (bK i 1), .bl (bK i 2), .bl (bK i 3), .bl (bK i 4), .bl (bK i 5), .bl (bK i 6), .bl (bK i 7), .bl (bK i 8), .bl (bK i 9), .bl (bK i 10), .bl (bK i 11), .bl (bK i 12), .bl (bK i 13), .bl (bK i 14), .bl (bK i 15), .bl (bK i 16), .bl (bK i 17), .bl (bK i 18)] ++ [.bl (bK i 19), .bl (bK i 20), .bl (bK i 21), .bl (bK i 22)]))) P6 = some (.lst [.bl (bK i 0), .bl (bK i 1), .bl (bK i 2), .bl (bK i 3), .bl (bK i 4), .bl (bK i 5), .bl (bK i 6), .bl (bK i 7), .bl (bK i 8), .bl (bK i 9), .bl (bK i 10), .bl (bK i 11), .bl (bK i 12), .bl (bK i 13), .bl (bK i 14), .bl (bK i 15), .bl (bK i 16), .bl (bK i 17), .bl (bK i 18), .bl (bK i 19), .bl (bK i 20), .bl (bK i 21), .bl (bK i 22)]) := upd_same
    have s12 := Same.trans s10 (Same.trans tr5 t6)
    generalize upd J5 P6 (.lst ([.bl (bK i 0), .bl (bK i 1), .bl (bK i 2), .bl (bK i 3), .bl (bK i 4), .bl (bK i 5), .bl (bK i 6), .bl (bK i 7), .bl (bK i 8), .bl (bK i 9), .bl (bK i 10), .bl (bK i 11), .bl (bK i 12), .bl (bK i 13), .bl (bK i 14), .bl (bK i 15), .bl (bK i 16), .bl (bK i 17), .bl (bK i 18)] ++ [.bl (bK i 19), .bl (bK i 20), .bl (bK i 21), .bl (bK i 22)])) = G6 at t6 f6 s12 ⊢
    refine ⟨.ref P6, rfl, .ref p.1, rfl, _, _, bK i 23, rfl, .own _, E.kit hi (by decide), .ref p.1, rfl, _, _, bK i 25, rfl, .own _, E.kit hi (by decide), .ref p.1, rfl, _, _, bK i 26, rfl, .own _, E.kit hi (by decide), (by show 4 ≤ sizeLine; decide), fun R6 nr6 => ?_⟩
    have tr6 := same_upd (o := .lst [.bl (bK i 23), .bl false, .bl (bK i 25), .bl (bK i 26)]) nr6
    have fr6 : (upd G6 R6 (.lst [.bl (bK i 23), .bl false, .bl (bK i 25), .bl (bK i 26)])) R6 = some (.lst [.bl (bK i 23), .bl false, .bl (bK i 25), .bl (bK i 26)]) := upd_same
    generalize upd G6 R6 (.lst [.bl (bK i 23), .bl false, .bl (bK i 25), .bl (bK i 26)]) = J6 at tr6 fr6 ⊢
    refine ⟨P6, R6, _, _, rfl, rfl, tr6 _ _ f6, fr6, (by show 27 ≤ sizeLine; decide), fun P7 np7 => ?_⟩
    have t7 := same_upd (o := .lst ([.bl (bK i 0), .bl (bK i 1), .bl (bK i 2), .bl (bK i 3), .bl (bK i 4), .bl (bK i 5), .bl (bK i 6), .bl (bK i 7), .bl (bK i 8), .bl (bK i 9), .bl (bK i 10), .bl (bK i 11), .bl (bK i 12), .bl (bK i 13), .bl (bK i 14), .bl (bK i 15), .bl (bK i 16), .bl (bK i 17), .bl (bK i 18), .bl (bK i 19), .bl (bK i 20), .bl (bK i 21), .bl (bK i 22)] ++ [.bl (bK i 23), .bl false, .bl (bK i 25), .bl (bK i 26)])) np7
    have f7 : (upd J6 P7 (.lst ([.bl (bK i 0), .bl (bK i 1), .bl (bK i 2), .bl (bK i 3), .bl (bK i 4), .bl (bK i 5), .bl (bK i 6), .bl (bK i 7), .bl (bK i 8), .bl (bK i 9), .bl (bK i 10), .bl (bK i 11), .bl (bK i 12), .bl (bK i 13), .bl (bK i 14), .bl (bK i 15), .bl (bK i 16), .bl (bK i 17), .bl (bK i 18), .bl (bK i 19), .bl (bK i 20), .bl (bK i 21), .bl (bK i 22)] ++ [.bl (bK i 23), .bl false, .bl (bK i 25), .bl (bK i 26)]))) P7 = some (.lst [.bl (bK i 0), .bl (bK i 1), .bl (bK i 2), .bl (bK i 3), .bl (bK i 4), .bl (bK i 5), .bl (bK i 6), .bl (bK i 7), .bl (bK i 8), .bl (bK i 9), .bl (bK i 10), .bl (bK i 11), .bl (bK i 12), .bl (bK i 13), .bl (bK i 14), .bl (bK i 15), .bl (bK i 16), .bl (bK i 17), .bl (bK i 18), .bl (bK i 19), .bl (bK i 20), .bl (bK i 21), .bl (bK i 22), .bl (bK i 23), .bl false, .bl (bK i 25), .bl (bK i 26)]) := upd_same
    have s14 := Same.trans s12 (Same.trans tr6 t7)
    generalize upd J6 P7 (.lst ([.bl (bK i 0), .bl (bK i 1), .bl (bK i 2), .bl (bK i 3), .bl (bK i 4), .bl (bK i 5), .bl (bK i 6), .bl (bK i 7), .bl (bK i 8), .bl (bK i 9), .bl (bK i 10), .bl (bK i 11), .bl (bK i 12), .bl (bK i 13), .bl (bK i 14), .bl (bK i 15), .bl (bK i 16), .bl (bK i 17), .bl (bK i 18), .bl (bK i 19), .bl (bK i 20), .bl (bK i 21), .bl (bK i 22)] ++ [.bl (bK i 23), .bl false, .bl (bK i 25), .bl (bK i 26)])) = G7 at t7 f7 s14 ⊢
    refine ⟨.ref P7, rfl, .ref p.1, rfl, _, _, bK i 27, rfl, .own _, E.kit hi (by decide), (by show 1 ≤ sizeLine; decide), fun R7 nr7 => ?_⟩
    have tr7 := same_upd (o := .lst [.bl (bK i 27)]) nr7
    have fr7 : (upd G7 R7 (.lst [.bl (bK i 27)])) R7 = some (.lst [.bl (bK i 27)]) := upd_same
    generalize upd G7 R7 (.lst [.bl (bK i 27)]) = J7 at tr7 fr7 ⊢
    refine ⟨P7, R7, _, _, rfl, rfl, tr7 _ _ f7, fr7, (by show 28 ≤ sizeLine; decide), fun P8 np8 => ?_⟩
    have t8 := same_upd (o := .lst ([.bl (bK i 0), .bl (bK i 1), .bl (bK i 2), .bl (bK i 3), .bl (bK i 4), .bl (bK i 5), .bl (bK i 6), .bl (bK i 7), .bl (bK i 8), .bl (bK i 9), .bl (bK i 10), .bl (bK i 11), .bl (bK i 12), .bl (bK i 13), .bl (bK i 14), .bl (bK i 15), .bl (bK i 16), .bl (bK i 17), .bl (bK i 18), .bl (bK i 19), .bl (bK i 20), .bl (bK i 21), .bl (bK i 22), .bl (bK i 23), .bl false, .bl (bK i 25), .bl (bK i 26)] ++ [.bl (bK i 27)])) np8
    have f8 : (upd J7 P8 (.lst ([.bl (bK i 0), .bl (bK i 1), .bl (bK i 2), .bl (bK i 3), .bl (bK i 4), .bl (bK i 5), .bl (bK i 6), .bl (bK i 7), .bl (bK i 8), .bl (bK i 9), .bl (bK i 10), .bl (bK i 11), .bl (bK i 12), .bl (bK i 13), .bl (bK i 14), .bl (bK i 15), .bl (bK i 16), .bl (bK i 17), .bl (bK i 18), .bl (bK i 19), .bl (bK i 20), .bl (bK i 21), .bl (bK i 22), .bl (bK i 23), .bl false, .bl (bK i 25), .bl (bK i 26)] ++ [.bl (bK i 27)]))) P8 = some (.lst [.bl (bK i 0), .bl (bK i 1), .bl (bK i 2), .bl (bK i 3), .bl (bK i 4), .bl (bK i 5), .bl (bK i 6), .bl (bK i 7), .bl (bK i 8), .bl (bK i 9), .bl (bK i 10), .bl (bK i 11), .bl (bK i 12), .bl (bK i 13), .bl (bK i 14), .bl (bK i 15), .bl (bK i 16), .bl (bK i 17), .bl (bK i 18), .bl (bK i 19), .bl (bK i 20), .bl (bK i 21), .bl (bK i 22), .bl (bK i 23), .bl false, .bl (bK i 25), .bl (bK i 26), .bl (bK i 27)]) := upd_same
    have s16 := Same.trans s14 (Same.trans tr7 t8)
    generalize upd J7 P8 (.lst ([.bl (bK i 0), .bl (bK i 1), .bl (bK i 2), .bl (bK i 3), .bl (bK i 4), .bl (bK i 5), .bl (bK i 6), .bl (bK i 7), .bl (bK i 8), .bl (bK i 9), .bl (bK i 10), .bl (bK i 11), .bl (bK i 12), .bl (bK i 13), .bl (bK i 14), .bl (bK i 15), .bl (bK i 16), .bl (bK i 17), .bl (bK i 18), .bl (bK i 19), .bl (bK i 20), .bl (bK i 21), .bl (bK i 22), .bl (bK i 23), .bl false, .bl (bK i 25), .bl (bK i 26)] ++ [.bl (bK i 27)])) = G8 at t8 f8 s16 ⊢
    have fk : ∀ j, j < 28 → ([.bl (bK i 0), .bl (bK i 1), .bl (bK i 2), .bl (bK i 3), .bl (bK i 4), .bl (bK i 5), .bl (bK i 6), .bl (bK i 7), .bl (bK i 8), .bl (bK i 9), .bl (bK i 10), .bl (bK i 11), .bl (bK i 12), .bl (bK i 13), .bl (bK i 14), .bl (bK i 15), .bl (bK i 16), .bl (bK i 17), .bl (bK i 18), .bl (bK i 19), .bl (bK i 20), .bl (bK i 21), .bl (bK i 22), .bl (bK i 23), .bl false, .bl (bK i 25), .bl (bK i 26), .bl (bK i 27)] : List V)[j]? = some (.bl (kB i j)) := fun j hj => by
      match j, hj with
      | 0, _ => rfl
      | 1, _ => rfl
      | 2, _ => rfl
      | 3, _ => rfl
      | 4, _ => rfl
      | 5, _ => rfl
      | 6, _ => rfl
      | 7, _ => rfl
      | 8, _ => rfl
      | 9, _ => rfl
      | 10, _ => rfl
      | 11, _ => rfl
      | 12, _ => rfl
      | 13, _ => rfl
      | 14, _ => rfl
      | 15, _ => rfl
      | 16, _ => rfl
      | 17, _ => rfl
      | 18, _ => rfl
      | 19, _ => rfl
      | 20, _ => rfl
      | 21, _ => rfl
      | 22, _ => rfl
      | 23, _ => rfl
      | 24, _ => rfl
      | 25, _ => rfl
      | 26, _ => rfl
      | 27, _ => rfl
      | n + 28, h => exact absurd h (by omega)
    refine ⟨28, rfl, by decide, by decide, fun D nD => ?_⟩
    have PD : P8 ≠ D := ne_of_none f8 nD
    refine lc_range (lo := 0) (n := 28) (fun j G => Same G8 G ∧ G D = some (.lst (kT i j))) ⟨same_upd nD, upd_same⟩ (fun j G hj h => ?_) (fun G h => ?_)
    · obtain ⟨sG, hD⟩ := h
      rw [Int.zero_add]
      refine ⟨rfl, .ref P8, rfl, .int (j : Int), rfl, P8, _, _, _, rfl, rfl, sql (sG _ _ f8), atI_nat (fk j hj), kB i j, rfl, ite2 (fun e => ?_) (fun e => ?_)⟩
      · obtain ⟨rfl, n24⟩ := (kB_of hi).mp e
        refine ⟨.int (i : Int), rfl, kT i i, hD, ?_, fun b u z => ?_, ?_⟩
        · unfold kT
          rw [if_neg (fun z => absurd z.1 (by omega)), sizeLine_eq]
          decide
        · rw [upd_ne (ne_of_none z nD)]
          exact sG b u z
        · rw [upd_same]
          unfold kT
          rw [if_neg (fun z => absurd z.1 (by omega)), if_pos ⟨by omega, n24⟩]
          rfl
      · refine ⟨sG, ?_⟩
        rw [hD]
        unfold kT
        have ne : ¬ (i = j ∧ i ≠ 24) := fun z => e ((kB_of hi).mpr z)
        by_cases h2 : i < j ∧ i ≠ 24
        · rw [if_pos h2, if_pos ⟨by omega, h2.2⟩]
        · rw [if_neg h2, if_neg (fun z => h2 ⟨by
            have := z.1
            have z2 := z.2
            by_cases w : i = j
            · exact absurd ⟨w, z2⟩ ne
            · omega, z.2⟩)]
    · obtain ⟨sG, hD⟩ := h
      rw [kT_end hi] at hD
      have sHG := Same.trans s16 sG
      refine ⟨.ref p.1, rfl, _, _, bK i 24, rfl, .own _, E.kit hi (by decide), .ref p.1, rfl, _, _, true, rfl, .ty _, E.va hi, (by show 2 ≤ sizeLine; decide), fun R nR => ?_⟩
      have sR := same_upd (o := .lst [.bl (bK i 24), .bl true]) nR
      have fR : (upd G R (.lst [.bl (bK i 24), .bl true])) R = some (.lst [.bl (bK i 24), .bl true]) := upd_same
      generalize upd G R (.lst [.bl (bK i 24), .bl true]) = G2 at sR fR ⊢
      refine ⟨D, R, _, _, rfl, rfl, sR _ _ hD, fR, ?_, fun l nl => q _ l (Same.trans sHG (Same.trans sR (same_upd nl))) ?_⟩
      · rw [sizeLine_eq]
        by_cases e : i = 24
        · rw [if_pos e]
          show 0 + 2 ≤ 16777216
          decide
        · rw [if_neg e]
          show 1 + 2 ≤ 16777216
          decide
      · rw [upd_same]
        unfold kindL
        rw [show bK i 24 = true by simp [bK]]
end
end Kb

namespace Kb
open PySem PySem.Spec PyProof.Rows L2 SrtZ SrtO
abbrev sfield : Stmt := topS 99
theorem scfield : FnScope ["_law_k", "_law_made_here"] ["_law_k", "_law_made_here"] (defScope sfield) := ⟨rfl, rfl, rfl, by decide +kernel, rfl, by decide +kernel, by decide +kernel⟩
abbrev Dnfield (K : PySem.W.Frag) (mg : Str → Option Value) := Dn K mg "_law_field" sfield ["_law_k", "_law_made_here"]
abbrev scall : Stmt := topS 100
theorem sccall : FnScope ["_law_k", "_law_odd"] ["_law_k", "_law_odd"] (defScope scall) := ⟨rfl, rfl, rfl, by decide +kernel, rfl, by decide +kernel, by decide +kernel⟩
abbrev Dncall (K : PySem.W.Frag) (mg : Str → Option Value) := Dn K mg "_law_call" scall ["_law_k", "_law_odd"]
abbrev srefused : Stmt := topS 101
theorem screfused : FnScope ["_law_k", "_law_odd", "_law_found", "_law_e"] ["_law_k", "_law_odd"] (defScope srefused) := ⟨rfl, rfl, rfl, by decide +kernel, rfl, by decide +kernel, by decide +kernel⟩
abbrev Dnrefused (K : PySem.W.Frag) (mg : Str → Option Value) := Dn K mg "_law_refused" srefused ["_law_k", "_law_odd"]
/-- what none of the judges takes -/
structure OddD (d : Dat) : Prop where
  tr : treeD d = false
  ro : isRB (intD d) = false
  sk : skD d = false
  nm : nameD d = false
  nu : isNB (intD d) = false
  sp : spD d = false
abbrev dueC (c : Nat) : Nat := [0, 1, 2, 3, 4, 2, 1, 0, 6, 7, 3, 6].getD c 0
section
variable {P : Program} {w : World} {K : PySem.W.Frag} {mg : Str → Option Value} {base : Heap}
def spField (E : ErT K mg) : Sp := fun vs H Q _ => ∃ (i : Nat) (a d : Addr) (v : V), vs = [.int (i : Int), .ref a] ∧ 25 ≤ i ∧ i < 28 ∧ H a = some (exo a (E.at i) (some d)) ∧ H d = some (exd d [(fldS i, v)]) ∧ Q v H
theorem ok_field (E : ErB K mg) (d : Dnfield K mg) : FnOk P w K mg base CX0 1 d.f d.fd ["_law_k", "_law_made_here"] (spField E.toErT) := by
  refine d.F.ok scfield (fun vs H Q E2 h => ?_) (fun cdv A outer s H vs Q E2 hr h => ?_)
  · obtain ⟨i, a, dd, v, rfl, _⟩ := h
    rfl
  · obtain ⟨i, a, dd, v, rfl, h1, h2, ha, hd, q⟩ := h
    refine ⟨_, (pss_cons (ps_if (pt_cmpR op_eq (pv 0) pe_int (nomark _))
      (pss_one (ps_ret (pe_fldE (pv 1) rfl)))
      pss_nil)
    (pss_cons (ps_if (pt_cmpR op_eq (pv 0) pe_int (nomark _))
      (pss_one (ps_ret (pe_fldE (pv 1) rfl)))
      pss_nil)
    (pss_one (ps_ret (pe_fldE (pv 1) rfl))))), ?_⟩
    refine ⟨.int (i : Int), rfl, rfl, _, rfl, ite2 (fun e => ?_) (fun e5 => ?_)⟩
    · obtain rfl := is_k (j := 25) e
      exact ⟨.ref a, rfl, a, _, dd, _, v, rfl, ha, hd, E.B25.xf, E.B25.noP, List.lookup_cons_self, q⟩
    refine ⟨.int (i : Int), rfl, rfl, _, rfl, ite2 (fun e => ?_) (fun e6 => ?_)⟩
    · obtain rfl := is_k (j := 26) e
      exact ⟨.ref a, rfl, a, _, dd, _, v, rfl, ha, hd, E.B26.xf, E.B26.noP, List.lookup_cons_self, q⟩
    have e5 := not_k (j := 25) e5
    have e6 := not_k (j := 26) e6
    obtain rfl : i = 27 := by omega
    exact ⟨.ref a, rfl, a, _, dd, _, v, rfl, ha, hd, E.B27.xf, E.B27.noP, List.lookup_cons_self, q⟩
/-! _law_call -/
def spCall (E : ErT K mg) : Sp := fun vs H Q X => ∃ (c : Nat) (v : V) (d : Dat), vs = [.int (c : Int), v] ∧ c < 12 ∧ DtAt K H v d ∧ DtA0 K H v d ∧ OddD d ∧ ∀ H', Same H H' → X (.ref (E.at (dueC c))) none H'
theorem dt_bare {H : Hp} {C : Addr} (NX : XcT K C) {t t0 : Addr} (h : Ptp H t [.int 1, .int 0, .int 0, .ref t0]) (h0 : Ptp H t0 []) : DtAt K H (.ref t) (.tup [.int 1, .int 0, .int 0, .tup []]) :=
  .of (F := fun _ => False) (n := 2) NX (.ltup h (by show 4 ≤ 60000; decide) (.cons (.lint (by decide)) (.cons (.lint (by decide)) (.cons (.lint (by decide)) (.cons (.ltup h0 (by show 0 ≤ 60000; decide) .nil) .nil)))))
theorem sk_bare : skD (.tup [.int 1, .int 0, .int 0, .tup []]) = true := by decide +kernel
theorem ok_call (T : Blt mg) (E : ErT K mg) (NX : XcT K (E.at 0)) (cM : Cst mg "MOST_ROOM" (.int 64)) (cL : Cst mg "LONGEST_NAME" (.int 8)) (cS' : Cst mg "MOST_STEPS" (.int 5000)) (cI : Cst mg "MOST_ITEMS" (.int 50000)) (cK : Cst mg "MOST_SKETCHES" (.int 100)) (dP_is_int : DnIsInt K mg) (dP_is_number : DnIsNumber K mg) (dP_is_room : DnIsRoom K mg) (dP_is_name : DnIsName K mg) (dP_is_stream : DnIsStream K mg) (dP_is_put : DnIsPut K mg) (dP_is_pour : DnIsPour K mg) (dP_is_tree : DnIsTree K mg) (dP_is_counted : DnIsCounted K mg) (dP_are_counts : DnAreCounts K mg) (dP_counts_of : DnCountsOf K mg) (dP_lost_of : DnLostOf K mg) (dP_is_sketch : DnIsSketch K mg) (dP_bare : DnBare K mg) (dP_fed : DnFed K mg) (dP_fed_many : DnFedMany K mg) (dP_need_two : DnNeedTwo K mg) (dP_poured : DnPoured K mg) (dP_sketch_of : DnSketchOf K mg) (dP_are_sketches : DnAreSketches K mg) (dP_sum_ends : DnSumEnds K mg) (dP_is_space_room : DnIsSpaceRoom K mg) (dP_is_space : DnIsSpace K mg) (dP_fed_space : DnFedSpace K mg) (dP_from_space : DnFromSpace K mg)
    (d : Dncall K mg) : FnOk P w K mg base (L2N.CX P w) 8 d.f d.fd ["_law_k", "_law_odd"] (spCall E) := by
  let xT : TxE K mg "NoTree" := E.tx 0 (by decide) E.g0
  let xR : TxE K mg "NoRoom" := E.tx 1 (by decide) E.g1
  let xS : TxE K mg "NoSketch" := E.tx 2 (by decide) E.g2
  let xN : TxE K mg "NoName" := E.tx 3 (by decide) E.g3
  let xU : TxE K mg "NoNumber" := E.tx 4 (by decide) E.g4
  let xP : TxE K mg "NoSpace" := E.tx 6 (by decide) E.g6
  let xM : TxE K mg "NoSketches" := E.tx 7 (by decide) E.g7
  have G0 : FnOk P w K mg base (L2N.CX P w) 5 dP_counts_of.f dP_counts_of.fd ["tree"] (spCountsOfR K (E.at 0)) := ok_counts_ofR T xT cL cS' cI dP_is_name dP_is_stream dP_is_put dP_is_pour dP_is_tree dP_counts_of
  have G1 : FnOk P w K mg base (L2N.CX P w) 3 dP_bare.f dP_bare.fd ["room"] (spBareR K (E.at 1)) := ok_bareR T xR cM dP_is_int dP_is_room dP_bare
  have G2 : FnOk P w K mg base (L2N.CX P w) 6 dP_fed.f dP_fed.fd ["sketch", "name"] (spFedR K (E.at 2) (E.at 3)) := ok_fedR T NX xS xN xU cM cL dP_is_int dP_is_number dP_is_room dP_is_name dP_is_counted dP_are_counts dP_lost_of dP_is_sketch dP_fed_many dP_fed
  have G4 : FnOk P w K mg base (L2N.CX P w) 5 dP_fed_many.f dP_fed_many.fd ["sketch", "name", "times"] (spFedManyR K (E.at 2) (E.at 3) (E.at 4)) := ok_fed_manyR T xS xN xU cM cL dP_is_int dP_is_number dP_is_room dP_is_name dP_is_counted dP_are_counts dP_lost_of dP_is_sketch dP_fed_many
  have G5 : FnOk P w K mg base (L2N.CX P w) 6 dP_poured.f dP_poured.fd ["one", "other"] (spPouredR K (E.at 2)) := ok_pouredR T xS cM cL dP_is_int dP_is_number dP_is_room dP_is_name dP_is_counted dP_are_counts dP_lost_of dP_is_sketch dP_need_two dP_poured
  have G6 : FnOk P w K mg base (L2N.CX P w) 5 dP_sketch_of.f dP_sketch_of.fd ["room", "tree"] (spSketchOfR K (E.at 1) (E.at 0)) := ok_sketch_ofR T xR xT cM cL cS' cI dP_is_int dP_is_room dP_is_name dP_is_stream dP_is_put dP_is_pour dP_is_tree dP_sketch_of
  have G8 := ok_fed_spaceR (P := P) (w := w) (base := base) T xP xN cM cL dP_is_int dP_is_name dP_is_counted dP_are_counts dP_is_space_room dP_is_space dP_fed_space
  have G9 : FnOk P w K mg base (L2N.CX P w) 7 dP_sum_ends.f dP_sum_ends.fd ["sketches", "name"] (spSumEndsR K (E.at 7) (E.at 3)) := ok_sum_endsR T cM cL dP_is_int dP_is_number dP_is_room dP_is_name dP_is_counted dP_are_counts dP_lost_of dP_is_sketch xM xN cK dP_are_sketches dP_sum_ends
  have G11 := ok_from_spaceR (P := P) (w := w) (base := base) T xP cM cL dP_is_int dP_is_name dP_is_counted dP_are_counts dP_is_space_room dP_is_space dP_from_space
  refine okN d.F sccall (fun vs H Q E2 h => ?_) (fun cdv A outer s H vs Q E2 hr h => ?_)
  · obtain ⟨c, v, x, rfl, _⟩ := h
    rfl
  · obtain ⟨c, v, x, rfl, hc, hx, hx0, od, e⟩ := h
    refine ⟨_, (pss_one (ps_if (pt_cmpR op_eq (pv 0) pe_int (nomark _))
      (pss_cons (ps_expr (pe_callS G0 (hr.mono (by omega)) (by rfl) dP_counts_of.g dP_counts_of.F.kp dP_counts_of.b (fun σ => L2N.passAt (L2N.takes_of rfl rfl rfl rfl) σ) (pa_cons (pv 1) pa_nil))) pss_never)
      (pss_one (ps_if (pt_cmpR op_eq (pv 0) pe_int (nomark _))
      (pss_cons (ps_expr (pe_callS G1 (hr.mono (by omega)) (by rfl) dP_bare.g dP_bare.F.kp dP_bare.b (fun σ => L2N.passAt (L2N.takes_of rfl rfl rfl rfl) σ) (pa_cons (pv 1) pa_nil))) pss_never)
      (pss_one (ps_if (pt_cmpR op_eq (pv 0) pe_int (nomark _))
      (pss_cons (ps_expr (pe_callS G2 (hr.mono (by omega)) (by rfl) dP_fed.g dP_fed.F.kp dP_fed.b (fun σ => L2N.passAt (L2N.takes_of rfl rfl rfl rfl) σ) (pa_cons (pv 1) (pa_cons (pv 1) pa_nil)))) pss_never)
      (pss_one (ps_if (pt_cmpR op_eq (pv 0) pe_int (nomark _))
      (pss_cons (ps_expr (pe_callS G2 (hr.mono (by omega)) (by rfl) dP_fed.g dP_fed.F.kp dP_fed.b (fun σ => L2N.passAt (L2N.takes_of rfl rfl rfl rfl) σ) (pa_cons (pe_tupF (pa_cons pe_int (pa_cons pe_int (pa_cons pe_int (pa_cons (pe_tupF pa_nil) pa_nil))))) (pa_cons (pv 1) pa_nil)))) pss_never)
      (pss_one (ps_if (pt_cmpR op_eq (pv 0) pe_int (nomark _))
      (pss_cons (ps_expr (pe_callS G4 (hr.mono (by omega)) (by rfl) dP_fed_many.g dP_fed_many.F.kp dP_fed_many.b (fun σ => L2N.passAt (L2N.takes_of rfl rfl rfl rfl) σ) (pa_cons (pe_tupF (pa_cons pe_int (pa_cons pe_int (pa_cons pe_int (pa_cons (pe_tupF pa_nil) pa_nil))))) (pa_cons pe_str (pa_cons (pv 1) pa_nil))))) pss_never)
      (pss_one (ps_if (pt_cmpR op_eq (pv 0) pe_int (nomark _))
      (pss_cons (ps_expr (pe_callS G5 (hr.mono (by omega)) (by rfl) dP_poured.g dP_poured.F.kp dP_poured.b (fun σ => L2N.passAt (L2N.takes_of rfl rfl rfl rfl) σ) (pa_cons (pe_tupF (pa_cons pe_int (pa_cons pe_int (pa_cons pe_int (pa_cons (pe_tupF pa_nil) pa_nil))))) (pa_cons (pv 1) pa_nil)))) pss_never)
      (pss_one (ps_if (pt_cmpR op_eq (pv 0) pe_int (nomark _))
      (pss_cons (ps_expr (pe_callS G6 (hr.mono (by omega)) (by rfl) dP_sketch_of.g dP_sketch_of.F.kp dP_sketch_of.b (fun σ => L2N.passAt (L2N.takes_of rfl rfl rfl rfl) σ) (pa_cons (pv 1) (pa_cons (pv 1) pa_nil)))) pss_never)
      (pss_one (ps_if (pt_cmpR op_eq (pv 0) pe_int (nomark _))
      (pss_cons (ps_expr (pe_callS G6 (hr.mono (by omega)) (by rfl) dP_sketch_of.g dP_sketch_of.F.kp dP_sketch_of.b (fun σ => L2N.passAt (L2N.takes_of rfl rfl rfl rfl) σ) (pa_cons pe_int (pa_cons (pv 1) pa_nil)))) pss_never)
      (pss_one (ps_if (pt_cmpR op_eq (pv 0) pe_int (nomark _))
      (pss_cons (ps_expr (pe_callS G8 (hr.mono (by omega)) (by rfl) dP_fed_space.g dP_fed_space.F.kp dP_fed_space.b (fun σ => L2N.passAt (L2N.takes_of rfl rfl rfl rfl) σ) (pa_cons (pv 1) (pa_cons (pv 1) pa_nil)))) pss_never)
      (pss_one (ps_if (pt_cmpR op_eq (pv 0) pe_int (nomark _))
      (pss_cons (ps_expr (pe_callS G9 (hr.mono (by omega)) (by rfl) dP_sum_ends.g dP_sum_ends.F.kp dP_sum_ends.b (fun σ => L2N.passAt (L2N.takes_of rfl rfl rfl rfl) σ) (pa_cons (pe_tupF (pa_cons (pv 1) pa_nil)) (pa_cons (pv 1) pa_nil)))) pss_never)
      (pss_one (ps_if (pt_cmpR op_eq (pv 0) pe_int (nomark _))
      (pss_cons (ps_expr (pe_callS G9 (hr.mono (by omega)) (by rfl) dP_sum_ends.g dP_sum_ends.F.kp dP_sum_ends.b (fun σ => L2N.passAt (L2N.takes_of rfl rfl rfl rfl) σ) (pa_cons (pe_tupF pa_nil) (pa_cons (pv 1) pa_nil)))) pss_never)
      (pss_cons (ps_expr (pe_callS G11 (hr.mono (by omega)) (by rfl) dP_from_space.g dP_from_space.F.kp dP_from_space.b (fun σ => L2N.passAt (L2N.takes_of rfl rfl rfl rfl) σ) (pa_cons (pv 1) pa_nil))) pss_never))))))))))))))))))))))), ?_⟩
    refine ⟨.int (c : Int), rfl, rfl, _, rfl, ite2 (fun ek => ?_) (fun k0 => ?_)⟩
    · obtain rfl := is_k (j := 0) ek
      exact ⟨v, rfl, v, x, rfl, hx, od.tr, e⟩
    have k0 := not_k (j := 0) k0
    refine ⟨.int (c : Int), rfl, rfl, _, rfl, ite2 (fun ek => ?_) (fun k1 => ?_)⟩
    · obtain rfl := is_k (j := 1) ek
      exact ⟨v, rfl, v, x, rfl, hx, od.ro, e H (Same.refl H)⟩
    have k1 := not_k (j := 1) k1
    refine ⟨.int (c : Int), rfl, rfl, _, rfl, ite2 (fun ek => ?_) (fun k2 => ?_)⟩
    · obtain rfl := is_k (j := 2) ek
      exact ⟨v, rfl, v, rfl, v, v, x, x, rfl, hx, hx, by rw [od.sk]; rfl, fun _ => e, fun z => absurd (od.sk.symm.trans z) Bool.noConfusion⟩
    have k2 := not_k (j := 2) k2
    refine ⟨.int (c : Int), rfl, rfl, _, rfl, ite2 (fun ek => ?_) (fun k3 => ?_)⟩
    · obtain rfl := is_k (j := 3) ek
      refine ⟨(by show 0 ≤ sizeLine; decide), fun t0 o0 n0 h0 => ⟨(by show 4 ≤ sizeLine; decide), fun t1 o1 n1 h1 => ?_⟩⟩
      have s1 := same_upd (o := .frz o0 (.tup [])) n0
      have f1 : Ptp (upd H t0 (.frz o0 (.tup []))) t0 [] := ⟨o0, upd_same, h0⟩
      generalize upd H t0 (.frz o0 (.tup [])) = H1 at s1 f1 n1 ⊢
      have s2 := same_upd (o := .frz o1 (.tup [.int 1, .int 0, .int 0, .ref t0])) n1
      have f2 : Ptp (upd H1 t1 (.frz o1 (.tup [.int 1, .int 0, .int 0, .ref t0]))) t1 [.int 1, .int 0, .int 0, .ref t0] := ⟨o1, upd_same, h1⟩
      generalize upd H1 t1 (.frz o1 (.tup [.int 1, .int 0, .int 0, .ref t0])) = H2 at s2 f2 ⊢
      have s12 := Same.trans s1 s2
      have hb := dt_bare NX f2 (f1.same s2)
      exact ⟨v, rfl, .ref t1, v, _, x, rfl, hb, hx.same s12, by rw [sk_bare, od.nm]; rfl, fun z => absurd (sk_bare.symm.trans z) Bool.noConfusion, fun _ _ H3 s3 => e H3 (Same.trans s12 s3)⟩
    have k3 := not_k (j := 3) k3
    refine ⟨.int (c : Int), rfl, rfl, _, rfl, ite2 (fun ek => ?_) (fun k4 => ?_)⟩
    · obtain rfl := is_k (j := 4) ek
      refine ⟨(by show 0 ≤ sizeLine; decide), fun t0 o0 n0 h0 => ⟨(by show 4 ≤ sizeLine; decide), fun t1 o1 n1 h1 => ?_⟩⟩
      have s1 := same_upd (o := .frz o0 (.tup [])) n0
      have f1 : Ptp (upd H t0 (.frz o0 (.tup []))) t0 [] := ⟨o0, upd_same, h0⟩
      generalize upd H t0 (.frz o0 (.tup [])) = H1 at s1 f1 n1 ⊢
      have s2 := same_upd (o := .frz o1 (.tup [.int 1, .int 0, .int 0, .ref t0])) n1
      have f2 : Ptp (upd H1 t1 (.frz o1 (.tup [.int 1, .int 0, .int 0, .ref t0]))) t1 [.int 1, .int 0, .int 0, .ref t0] := ⟨o1, upd_same, h1⟩
      generalize upd H1 t1 (.frz o1 (.tup [.int 1, .int 0, .int 0, .ref t0])) = H2 at s2 f2 ⊢
      have s12 := Same.trans s1 s2
      have hb := dt_bare NX f2 (f1.same s2)
      exact ⟨v, rfl, .ref t1, .str (Str.ofString "a"), v, _, .str (Str.ofString "a"), x, rfl, hb, .of (F := fun _ => False) (n := 0) NX (.lstr (by rw [show (Str.ofString "a").length = 1 by decide +kernel]; decide) (by decide +kernel)), hx.same s12, by rw [od.nu, Bool.and_false, Bool.and_false], fun z => absurd (sk_bare.symm.trans z) Bool.noConfusion, fun _ z => absurd z (by decide +kernel), fun _ _ H3 s3 => e H3 (Same.trans s12 s3)⟩
    have k4 := not_k (j := 4) k4
    refine ⟨.int (c : Int), rfl, rfl, _, rfl, ite2 (fun ek => ?_) (fun k5 => ?_)⟩
    · obtain rfl := is_k (j := 5) ek
      refine ⟨(by show 0 ≤ sizeLine; decide), fun t0 o0 n0 h0 => ⟨(by show 4 ≤ sizeLine; decide), fun t1 o1 n1 h1 => ?_⟩⟩
      have s1 := same_upd (o := .frz o0 (.tup [])) n0
      have f1 : Ptp (upd H t0 (.frz o0 (.tup []))) t0 [] := ⟨o0, upd_same, h0⟩
      generalize upd H t0 (.frz o0 (.tup [])) = H1 at s1 f1 n1 ⊢
      have s2 := same_upd (o := .frz o1 (.tup [.int 1, .int 0, .int 0, .ref t0])) n1
      have f2 : Ptp (upd H1 t1 (.frz o1 (.tup [.int 1, .int 0, .int 0, .ref t0]))) t1 [.int 1, .int 0, .int 0, .ref t0] := ⟨o1, upd_same, h1⟩
      generalize upd H1 t1 (.frz o1 (.tup [.int 1, .int 0, .int 0, .ref t0])) = H2 at s2 f2 ⊢
      have s12 := Same.trans s1 s2
      have hb := dt_bare NX f2 (f1.same s2)
      exact ⟨v, rfl, .ref t1, v, _, x, rfl, hb, hx.same s12, by rw [od.sk, Bool.and_false], fun H3 s3 => e H3 (Same.trans s12 s3)⟩
    have k5 := not_k (j := 5) k5
    refine ⟨.int (c : Int), rfl, rfl, _, rfl, ite2 (fun ek => ?_) (fun k6 => ?_)⟩
    · obtain rfl := is_k (j := 6) ek
      exact ⟨v, rfl, v, rfl, v, v, x, x, rfl, hx, hx, by rw [od.ro]; rfl, fun _ => e H (Same.refl H), fun z => absurd (od.ro.symm.trans z) Bool.noConfusion⟩
    have k6 := not_k (j := 6) k6
    refine ⟨.int (c : Int), rfl, rfl, _, rfl, ite2 (fun ek => ?_) (fun k7 => ?_)⟩
    · obtain rfl := is_k (j := 7) ek
      exact ⟨v, rfl, .int 1, v, .int 1, x, rfl, .of (F := fun _ => False) (n := 0) NX (.lint (by decide)), hx, by rw [od.tr, Bool.and_false], fun z => absurd z (by decide), fun _ => e⟩
    have k7 := not_k (j := 7) k7
    refine ⟨.int (c : Int), rfl, rfl, _, rfl, ite2 (fun ek => ?_) (fun k8 => ?_)⟩
    · obtain rfl := is_k (j := 8) ek
      exact ⟨v, rfl, v, rfl, v, v, x, x, rfl, hx, hx, by rw [od.sp]; rfl, fun _ => e, fun z => absurd (od.sp.symm.trans z) Bool.noConfusion⟩
    have k8 := not_k (j := 8) k8
    refine ⟨.int (c : Int), rfl, rfl, _, rfl, ite2 (fun ek => ?_) (fun k9 => ?_)⟩
    · obtain rfl := is_k (j := 9) ek
      refine ⟨v, rfl, (by show 1 ≤ sizeLine; decide), fun t o n h => ?_⟩
      have s1 := same_upd (o := .frz o (.tup [v])) n
      have f1 : Ptp (upd H t (.frz o (.tup [v]))) t [v] := ⟨o, upd_same, h⟩
      have ar : arB (.tup [x]) = false := by
        show (decide (1 ≤ 100) && (skD x && true)) = false
        rw [od.sk]
        rfl
      exact ⟨v, rfl, .ref t, v, .tup [x], x, rfl, .inr ⟨t, v, x, rfl, rfl, f1, hx0.same s1⟩, hx.same s1, by rw [ar]; rfl, fun _ H3 s3 => e H3 (Same.trans s1 s3), fun z => absurd (ar.symm.trans z) Bool.noConfusion⟩
    have k9 := not_k (j := 9) k9
    refine ⟨.int (c : Int), rfl, rfl, _, rfl, ite2 (fun ek => ?_) (fun k10 => ?_)⟩
    · obtain rfl := is_k (j := 10) ek
      refine ⟨(by show 0 ≤ sizeLine; decide), fun t o n h => ?_⟩
      have s1 := same_upd (o := .frz o (.tup [])) n
      have f1 : Ptp (upd H t (.frz o (.tup []))) t [] := ⟨o, upd_same, h⟩
      exact ⟨v, rfl, .ref t, v, .tup [], x, rfl, .of (F := fun _ => False) (n := 1) NX (.ltup f1 (by show 0 ≤ 60000; decide) .nil), hx.same s1, by rw [od.nm, Bool.and_false], fun z => absurd z (by decide +kernel), fun _ H3 s3 => e H3 (Same.trans s1 s3)⟩
    have k10 := not_k (j := 10) k10
    obtain rfl : c = 11 := by omega
    exact ⟨v, rfl, v, x, rfl, hx, od.sp, e⟩
end
end Kb

namespace Kb
open PySem PySem.Spec PyProof.Rows L2 SrtZ SrtO
theorem due_lt : ∀ c, c < 12 → dueC c < 28 := by decide
theorem takesN {X : Cx} : L2N.Takes X (fun _ _ _ _ => False) := fun _ _ x => by
  obtain ⟨_, _, _, _, _, _, _, _, _, _, _, _, _, _, _, _, z⟩ := x
  exact z.elim
section
variable {P : Program} {w : World} {K : PySem.W.Frag} {mg : Str → Option Value} {base : Heap}
def spRefused (E : ErT K mg) : Sp := fun vs H Q _ => ∃ (c : Nat) (v : V) (d : Dat), vs = [.int (c : Int), v] ∧ c < 12 ∧ DtAt K H v d ∧ DtA0 K H v d ∧ OddD d ∧ ∀ H' l, Same H H' → H' l = some (.lst (kindL (dueC c))) → Q (.ref l) H'
theorem ok_refused (T : Blt mg) (n_VE : mg "ValueError" = none) (E : ErT K mg) (NX : XcT K (E.at 0)) (cM : Cst mg "MOST_ROOM" (.int 64)) (cL : Cst mg "LONGEST_NAME" (.int 8)) (cS' : Cst mg "MOST_STEPS" (.int 5000)) (cI : Cst mg "MOST_ITEMS" (.int 50000)) (cK : Cst mg "MOST_SKETCHES" (.int 100)) (dP_is_int : DnIsInt K mg) (dP_is_number : DnIsNumber K mg) (dP_is_room : DnIsRoom K mg) (dP_is_name : DnIsName K mg) (dP_is_stream : DnIsStream K mg) (dP_is_put : DnIsPut K mg) (dP_is_pour : DnIsPour K mg) (dP_is_tree : DnIsTree K mg) (dP_is_counted : DnIsCounted K mg) (dP_are_counts : DnAreCounts K mg) (dP_counts_of : DnCountsOf K mg) (dP_lost_of : DnLostOf K mg) (dP_is_sketch : DnIsSketch K mg) (dP_bare : DnBare K mg) (dP_fed : DnFed K mg) (dP_fed_many : DnFedMany K mg) (dP_need_two : DnNeedTwo K mg) (dP_poured : DnPoured K mg) (dP_sketch_of : DnSketchOf K mg) (dP_are_sketches : DnAreSketches K mg) (dP_sum_ends : DnSumEnds K mg) (dP_is_space_room : DnIsSpaceRoom K mg) (dP_is_space : DnIsSpace K mg) (dP_fed_space : DnFedSpace K mg) (dP_from_space : DnFromSpace K mg)
    (dkinds : Dnkinds K mg) (dcall : Dncall K mg) (d : Dnrefused K mg) : FnOk P w K mg base CX0 9 d.f d.fd ["_law_k", "_law_odd"] (spRefused E) := by
  have Gcall : FnOk P w K mg base (L2N.CX P w) 8 dcall.f dcall.fd ["_law_k", "_law_odd"] (spCall E) := ok_call T E NX cM cL cS' cI cK dP_is_int dP_is_number dP_is_room dP_is_name dP_is_stream dP_is_put dP_is_pour dP_is_tree dP_is_counted dP_are_counts dP_counts_of dP_lost_of dP_is_sketch dP_bare dP_fed dP_fed_many dP_need_two dP_poured dP_sketch_of dP_are_sketches dP_sum_ends dP_is_space_room dP_is_space dP_fed_space dP_from_space dcall
  have Gkinds : FnE P w K mg base 1 dkinds.f dkinds.fd ["_law_e"] (spKindsE E) := ok_kindsE T n_VE E dkinds
  refine d.F.ok screfused (fun vs H Q E2 h => ?_) (fun cdv A outer s H vs Q E2 hr h => ?_)
  · obtain ⟨c, v, x, rfl, _⟩ := h
    rfl
  · obtain ⟨c, v, x, rfl, hc, hx, hx0, od, q⟩ := h
    have rm := (L2H.roomH_of hr).mono (j := 1) (by omega)
    refine ⟨_, (pss_cons (ps_set (i := 2) screfused.nd rfl (Or.inl rfl) (pe_lst pa_nil))
    (pss_cons (L2N.ps_try_as (i := 3) (tb := fun W => tDrop (tCallS (spCall E) (WE W) (tCons (tVar 0) (tCons (tVar 1) tNil)))) (ts := fun a cls d => fun D σ H => ∀ oe, L2N.Zn cls d oe → (∃ vs, oe.data = .fields vs) → tAsg (tGive a oe (spKindsE E) (tVar 3)) (gName 2) D σ H) (Wout := fun _ _ _ _ => False) rfl rfl screfused.nd rfl rfl ⟨rfl, by decide, Or.inl E.g24⟩ takesN
      (fun W pn way tk _ => pss_one (ps_expr (by exact (pe_callS Gcall (hr.mono (by omega)) rfl dcall.g dcall.F.kp dcall.b (fun σ => L2N.passAt tk σ) (by exact (pa_cons (pv 0) (pa_cons (pv 1) pa_nil)))))))
      (fun a oe cls d pn hz hf => ⟨fun pins s σ H D I h => (pss_one (ps_set (i := 2) screfused.nd rfl (Or.inl rfl) (by exact (pe_callE Gkinds (let ⟨vs, hd⟩ := hf; ⟨vs, hd, hz.2.2 vs hd⟩) ⟨rm.dp, rm.un⟩ rfl dkinds.g dkinds.F.kp dkinds.b (pv 3))))).run pins s σ H D I (h oe hz hf)⟩))
    (pss_one (ps_ret (pv 2))))), ?_⟩
    refine ⟨(by show 0 ≤ sizeLine; decide), fun D nD => ?_⟩
    have s1 : Same H (upd H D (.lst [])) := same_upd nD
    generalize upd H D (.lst []) = H1 at s1 ⊢
    refine ⟨.int (c : Int), rfl, v, rfl, c, v, x, rfl, hc, hx.same s1, hx0.same s1, od, fun H2 s2 => ⟨true, E.exm (due_lt c hc), fun _ a na oe hz hf => ?_, fun h => nomatch h⟩⟩
    exact ⟨.ref a, rfl, dueC c, rfl, due_lt c hc, hz.zc, hf, fun H3 l s3 hl2 => ⟨.ref l, rfl, q _ l (Same.trans s1 (Same.trans s2 s3)) hl2⟩⟩
end
end Kb

namespace Kb
open PySem PySem.Spec PyProof.Rows L2 SrtZ SrtO
abbrev slaw : Stmt := topS 102
abbrev Nlaw : List Str := ["_law_script", "_law_well_here", "_law_turn", "_law_k", "_law_call_here", "_law_odd", "_law_value", "_law_before", "_law_made_here", "_law_due"]
theorem sclaw : FnScope ["_law_script", "_law_well_here", "_law_turn", "_law_k", "_law_call_here", "_law_odd", "_law_value", "_law_before", "_law_made_here", "_law_due"] ["_law_script"] (defScope slaw) := ⟨rfl, rfl, rfl, by decide +kernel, rfl, by decide +kernel, by decide +kernel⟩
abbrev Dnlaw (K : PySem.W.Frag) (mg : Str → Option Value) := Dn K mg "law" slaw ["_law_script"]
def spLaw (K : PySem.W.Frag) : Sp := fun vs H Q _ => ∃ (a : Addr) (ns : List Int), vs = [.ref a] ∧ SqL K H a (ns.map V.int) ∧ ns.length ≤ 63 ∧ ∀ H', Q (.bl true) H'
/-- an odd thing, while the well is drawn from -/
def DtO (p C : Addr) (H : Hp) (v : V) (d : Dat) : Prop := DatAt (fun b => b = p) C (2 ^ 90) 60000 3 H v d ∨ (d = .dic [] ∧ ∃ a k, v = .ref a ∧ H a = some (.dK k))
theorem DtO.exw {p c C : Addr} {H H' : Hp} {v : V} {d : Dat} (h : DtO p C H v d) (x : Exw p H H') (w : Wl p c H) : DtO p C H' v d := by
  rcases h with h | ⟨e, a, k, ev, h⟩
  · exact .inl (h.keep (dk_exw (F := fun b => b = p) x w rfl))
  · exact .inr ⟨e, a, k, ev, x.at w h (by intro _ z; cases z)⟩
theorem DtO.same {p C : Addr} {H H' : Hp} {v : V} {d : Dat} (h : DtO p C H v d) (s : Same H H') : DtO p C H' v d := by
  rcases h with h | ⟨e, a, k, ev, h⟩
  · exact .inl (h.same s)
  · exact .inr ⟨e, a, k, ev, s _ _ h⟩
theorem DtO.a0 {K : PySem.W.Frag} {p C : Addr} {H : Hp} {v : V} {d : Dat} (NX : XcT K C) (h : DtO p C H v d) : DtA0 K H v d := by
  rcases h with h | h
  · exact .inl ⟨_, C, 3, NX, h⟩
  · exact .inr h
theorem same_v {K : PySem.W.Frag} {F : Addr → Prop} {C : Addr} {B L n : Nat} {H : Hp} {v : V} {d : Dat} (ne : PySem.ExNe K C) (h : DatAt F C B L n H v d) : SameV K H v := by
  rcases h.cases with h | ⟨m, a, xs, ds, rfl, rfl, rfl, h1, h2, h3⟩ | ⟨m, a, xs, ds, rfl, rfl, rfl, f, h1, h2, h3⟩ | ⟨m, a, l, xs, ds, rfl, rfl, rfl, h0, f, h1, h2, h3⟩
  · cases d with
    | non => exact .inl h
    | bl b => exact .inr (.inl ⟨b, h⟩)
    | int i => exact .inr (.inr (.inl ⟨i, h.1⟩))
    | str y => exact .inr (.inr (.inr (.inl ⟨y, h.1⟩)))
    | err =>
      obtain ⟨a, t0, rfl, h1, h2⟩ := h
      exact .inr (.inr (.inr (.inr ⟨a, rfl, .inr (.inr (.inr ⟨C, t0, h1, ne⟩))⟩)))
    | tup _ => exact h.elim
    | lst _ => exact h.elim
    | dic _ => exact h.elim
  · exact .inr (.inr (.inr (.inr ⟨a, rfl, .inr (.inl ⟨xs, h1⟩)⟩)))
  · exact .inr (.inr (.inr (.inr ⟨a, rfl, .inl ⟨xs, h1⟩⟩)))
  · exact .inr (.inr (.inr (.inr ⟨a, rfl, .inr (.inr (.inl ⟨_, h0, by simp⟩))⟩)))
abbrev kP (i : Nat) : PyData := .list ((if i = 24 then [] else [.int (i : Int)]) ++ [.bool true, .bool true])
theorem kP_ok (i : Nat) : PyData.eqv (kP i) (kP i) = true ∧ SeqAt.shaped (kP i) = true := by
  unfold kP
  by_cases e : i = 24
  · rw [if_pos e]
    exact ⟨by simp [PyData.eqv, PyData.eqvAll], by rfl⟩
  · rw [if_neg e]
    exact ⟨by simp [PyData.eqv, PyData.eqvAll], by rfl⟩
theorem dp_kind {K : PySem.W.Frag} {H : Hp} {l : Addr} {i : Nat} (h : H l = some (.lst (kindL i))) : Dp K H (.ref l) (kP i) := by
  refine .lst (sql h) ?_
  unfold kindL
  by_cases e : i = 24
  · rw [if_pos e]
    show DpAll K H _ (_ ++ _)
    rw [if_pos e]
    exact .cons (.bl true) (.cons (.bl true) .nil)
  · rw [if_neg e]
    show DpAll K H _ (_ ++ _)
    rw [if_neg e]
    exact .cons (.int _) (.cons (.bl true) (.cons (.bl true) .nil))
theorem due_at : ∀ c, c < 12 → ([V.int 0, .int 1, .int 2, .int 3, .int 4, .int 2, .int 1, .int 0, .int 6, .int 7, .int 3, .int 6] : List V)[c]? = some (.int ((dueC c : Nat) : Int))
  | 0, _ => rfl
  | 1, _ => rfl
  | 2, _ => rfl
  | 3, _ => rfl
  | 4, _ => rfl
  | 5, _ => rfl
  | 6, _ => rfl
  | 7, _ => rfl
  | 8, _ => rfl
  | 9, _ => rfl
  | 10, _ => rfl
  | 11, _ => rfl
  | n + 12, h => absurd h (by omega)
theorem due_ne : ∀ c, c < 12 → dueC c ≠ 24 := by decide
section
variable {P : Program} {w : World} {K : PySem.W.Frag} {mg : Str → Option Value}
theorem ok_law (T : Blt mg) (n_repr : mg "repr" = none) (n_VE : mg "ValueError" = none) (E : ErB K mg) (NX : XcT K (E.toErT.at 0)) (NE : PySem.ExNe K (E.toErT.at 0)) {nm : String} (NR : PySem.ExR K (E.toErT.at 0) nm) (hn : (PySem.exrText nm).length ≤ 200) (cM : Cst mg "MOST_ROOM" (.int 64)) (cL : Cst mg "LONGEST_NAME" (.int 8)) (cS' : Cst mg "MOST_STEPS" (.int 5000)) (cI : Cst mg "MOST_ITEMS" (.int 50000)) (cK : Cst mg "MOST_SKETCHES" (.int 100)) (dP_is_int : DnIsInt K mg) (dP_is_number : DnIsNumber K mg) (dP_is_room : DnIsRoom K mg) (dP_is_name : DnIsName K mg) (dP_is_stream : DnIsStream K mg) (dP_is_put : DnIsPut K mg) (dP_is_pour : DnIsPour K mg) (dP_is_tree : DnIsTree K mg) (dP_is_counted : DnIsCounted K mg) (dP_are_counts : DnAreCounts K mg) (dP_counts_of : DnCountsOf K mg) (dP_lost_of : DnLostOf K mg) (dP_is_sketch : DnIsSketch K mg) (dP_bare : DnBare K mg) (dP_fed : DnFed K mg) (dP_fed_many : DnFedMany K mg) (dP_need_two : DnNeedTwo K mg) (dP_poured : DnPoured K mg) (dP_sketch_of : DnSketchOf K mg) (dP_are_sketches : DnAreSketches K mg) (dP_sum_ends : DnSumEnds K mg) (dP_is_space_room : DnIsSpaceRoom K mg) (dP_is_space : DnIsSpace K mg) (dP_fed_space : DnFedSpace K mg) (dP_from_space : DnFromSpace K mg)
    (dmixed : Dnmixed K mg) (dwell : Dnwell K mg) (dfilled : Dnfilled K mg) (ddraw : Dndraw K mg) (dnumber : Dnnumber K mg) (dsigns : Dnsigns K mg) (dstring : Dnstring K mg) (dname : Dnname K mg) (dany : Dnany K mg) (dmade_first : Dnmade_first K mg) (dmade_more : Dnmade_more K mg) (dmade : Dnmade K mg) (dkinds : Dnkinds K mg) (dfield : Dnfield K mg) (dcall : Dncall K mg) (drefused : Dnrefused K mg)
    (d : Dnlaw K mg) : TopOk P w K mg d.f d.fd "_law_script" (spLaw K) := by
  refine top_of (k := 14) d.F sclaw ⟨rfl, by decide, by decide⟩ fun base cdv A s H v hg hr h => ?_
  have hg2 : (A.deeper (envOfC (Str.ofString "law") (defScope slaw) s.heap.objs.size d.f cdv)).guards = some [] := hg
  have Gwell : FnOk P w K mg base CX0 1 dwell.f dwell.fd ["_law_script"] (spWell K) := ok_well T dwell
  have Gdraw : FnOk P w K mg base CX0 3 ddraw.f ddraw.fd ["_law_well_here", "_law_many"] spDraw := ok_draw T dmixed dfilled ddraw
  have Gstring : FnOk P w K mg base CX0 4 dstring.f dstring.fd ["_law_well_here", "_law_many"] spString := ok_string T dmixed dfilled ddraw dsigns dstring
  have Gany : FnOk P w K mg base CX0 7 dany.f dany.fd ["_law_well_here", "_law_deep"] (spAny (E.toErT.at 0) 2) := ok_any T (E.toErT.tx 0 (by decide) E.g0) dmixed dfilled ddraw dnumber dsigns dstring dname dany 3
  have Gmade : FnOk P w K mg base CX0 3 dmade.f dmade.fd ["_law_k", "_law_value"] (spMade E.toErT) := ok_made E dmade_first dmade_more dmade
  have Gkinds : FnOk P w K mg base CX0 1 dkinds.f dkinds.fd ["_law_e"] (spKinds E.toErT) := ok_kinds T n_VE E.toErT dkinds
  have Gfield : FnOk P w K mg base CX0 1 dfield.f dfield.fd ["_law_k", "_law_made_here"] (spField E.toErT) := ok_field E dfield
  have Grefused : FnOk P w K mg base CX0 9 drefused.f drefused.fd ["_law_k", "_law_odd"] (spRefused E.toErT) := ok_refused T n_VE E.toErT NX cM cL cS' cI cK dP_is_int dP_is_number dP_is_room dP_is_name dP_is_stream dP_is_put dP_is_pour dP_is_tree dP_is_counted dP_are_counts dP_counts_of dP_lost_of dP_is_sketch dP_bare dP_fed dP_fed_many dP_need_two dP_poured dP_sketch_of dP_are_sketches dP_sum_ends dP_is_space_room dP_is_space dP_fed_space dP_from_space dkinds dcall drefused
  obtain ⟨a0, ns0, ev, ha, hl, q⟩ := h
  cases ev
  refine ⟨_, (pss_cons (ps_set (i := 1) sclaw.nd rfl (Or.inl rfl) (pe_call Gwell (hr.mono (by omega)) (by rfl) dwell.g dwell.F.kp dwell.b .nil pass0 (pa_cons (pv 0) pa_nil)))
    (pss_cons (ps_for PassesOwn.never rfl (pi_range1 (by rfl) T.n_range (pa_cons (pe_op op_add pe_int (pe_call Gdraw (hr.mono (by omega)) (by rfl) ddraw.g ddraw.F.kp ddraw.b .nil pass0 (pa_cons (pv 1) (pa_cons pe_int pa_nil)))) pa_nil)) (pg_name (i := 2) sclaw.nd rfl (Or.inl rfl))
      (pss_cons (ps_set (i := 3) sclaw.nd rfl (Or.inl rfl) (pe_call Gdraw (hr.mono (by omega)) (by rfl) ddraw.g ddraw.F.kp ddraw.b .nil pass0 (pa_cons (pv 1) (pa_cons pe_int pa_nil))))
      (pss_cons (ps_set (i := 4) sclaw.nd rfl (Or.inl rfl) (pe_call Gdraw (hr.mono (by omega)) (by rfl) ddraw.g ddraw.F.kp ddraw.b .nil pass0 (pa_cons (pv 1) (pa_cons pe_int pa_nil))))
      (C8.pss_cut (ps_set (i := 5) sclaw.nd rfl (Or.inl rfl) (pe_ix ix_list (pe_lst (pa_cons pe_bl (pa_cons pe_non (pa_cons (pe_tupF pa_nil) (pa_cons pe_str (pa_cons (pe_lst (pa_cons pe_int pa_nil)) (pa_cons (pe_tupF (pa_cons pe_non pa_nil)) (pa_cons (pe_disp (pps_cons pe_str (pe_tupF pa_nil) pps_nil) rfl rfl (by simp) (by decide)) (pa_cons (pe_un un_neg pe_int) (pa_cons (pe_tupF (pa_cons pe_int (pa_cons pe_bl pa_nil))) (pa_cons (pe_tupF (pa_cons pe_str pa_nil)) pa_nil))))))))))) (pe_call Gdraw (hr.mono (by omega)) (by rfl) ddraw.g ddraw.F.kp ddraw.b .nil pass0 (pa_cons (pv 1) (pa_cons pe_int pa_nil))) (fun _ _ => rfl)))
      (C8.pss_cut (ps_set (i := 6) sclaw.nd rfl (Or.inl rfl) (pe_ix ix_list (pe_lst (pa_cons (pe_call Gdraw (hr.mono (by omega)) (by rfl) ddraw.g ddraw.F.kp ddraw.b .nil pass0 (pa_cons (pv 1) (pa_cons pe_int pa_nil))) (pa_cons (pe_call Gstring (hr.mono (by omega)) (by rfl) dstring.g dstring.F.kp dstring.b .nil pass0 (pa_cons (pv 1) (pa_cons (pe_call Gdraw (hr.mono (by omega)) (by rfl) ddraw.g ddraw.F.kp ddraw.b .nil pass0 (pa_cons (pv 1) (pa_cons pe_int pa_nil))) pa_nil))) (pa_cons (pe_call Gany (hr.mono (by omega)) (by rfl) dany.g dany.F.kp dany.b .nil pass0 (pa_cons (pv 1) (pa_cons pe_int pa_nil))) pa_nil)))) (pe_call Gdraw (hr.mono (by omega)) (by rfl) ddraw.g ddraw.F.kp ddraw.b .nil pass0 (pa_cons (pv 1) (pa_cons pe_int pa_nil))) (fun _ _ => rfl)))
      (pss_cons (ps_set (i := 7) sclaw.nd rfl (Or.inl rfl) (pe_callB (call_reprA hg2 hr.units NR hn) (by rfl) n_repr (by decide +kernel) (pa_cons (pv 6) pa_nil)))
      (pss_cons (ps_set (i := 8) sclaw.nd rfl (Or.inl rfl) (pe_call Gmade (hr.mono (by omega)) (by rfl) dmade.g dmade.F.kp dmade.b .nil pass0 (pa_cons (pv 3) (pa_cons (pv 6) pa_nil))))
      (C8.pss_cut (ps_set (i := 9) sclaw.nd rfl (Or.inl rfl) (pe_op op_rep (pe_lst (pa_cons (pv 3) pa_nil)) (pe_callTy call_int1 (by rfl) T.n_int (by decide +kernel) (pa_cons (pe_cmpR op_ne (pv 3) pe_int (nomark _)) pa_nil))))
      (pss_cons (ps_if (pt_cmpR (op_neD hr.units) (pe_call Gkinds (hr.mono (by omega)) (by rfl) dkinds.g dkinds.F.kp dkinds.b .nil pass0 (pa_cons (pv 8) pa_nil)) (pe_op op_cat (pv 9) (pe_lst (pa_cons pe_bl (pa_cons pe_bl pa_nil)))) (nomark _))
        (pss_one (ps_ret pe_bl))
        pss_nil)
      (C8.pss_cut (ps_if (PW.pt (pw_and (pt_cmpR op_ge (pv 3) pe_int (nomark _)) (pw_and1 (PW.pt (pw_or (pt_cmpR op_ne (pe_callB (call_reprA hg2 hr.units NR hn) (by rfl) n_repr (by decide +kernel) (pa_cons (pe_call Gfield (hr.mono (by omega)) (by rfl) dfield.g dfield.F.kp dfield.b .nil pass0 (pa_cons (pv 3) (pa_cons (pv 8) pa_nil))) pa_nil)) (pv 7) (nomark _)) (pw_or1 (pt_cmpR (op_neSame (K := K) rfl hr.units) (pe_call Gfield (hr.mono (by omega)) (by rfl) dfield.g dfield.F.kp dfield.b .nil pass0 (pa_cons (pv 3) (pa_cons (pv 8) pa_nil))) (pv 6) (nomark _))))))))
        (pss_one (ps_ret pe_bl))
        pss_nil)
      (pss_cons (ps_set (i := 9) sclaw.nd rfl (Or.inl rfl) (pe_ix ix_list (pe_lst (pa_cons pe_int (pa_cons pe_int (pa_cons pe_int (pa_cons pe_int (pa_cons pe_int (pa_cons pe_int (pa_cons pe_int (pa_cons pe_int (pa_cons pe_int (pa_cons pe_int (pa_cons pe_int (pa_cons pe_int pa_nil))))))))))))) (pv 4) (fun _ _ => rfl)))
      (pss_one (ps_if (pt_cmpR (op_neD hr.units) (pe_call Grefused (hr.mono (by omega)) (by rfl) drefused.g drefused.F.kp drefused.b .nil pass0 (pa_cons (pv 4) (pa_cons (pv 5) pa_nil))) (pe_lst (pa_cons (pv 9) (pa_cons pe_bl (pa_cons pe_bl pa_nil)))) (nomark _))
        (pss_one (ps_ret pe_bl))
        pss_nil)))))))))))))
    (pss_one (ps_ret pe_bl)))), ?_⟩
  refine ⟨.ref a0, rfl, a0, ns0, rfl, ha, hl, fun H1 p c s1 np w1 => ?_⟩
  refine ⟨.ref p, rfl, p, c, 6, rfl, w1, (by decide), (by decide), fun H2 r x2 w2 r0 r1 => ⟨_, _, rfl, rfl, 1 + r, rfl, by omega, by omega, ?_⟩⟩
  refine for_range (lo := 0) (n := (1 + r).toNat) (fun i σ H4 => ∃ y2 y3 y4 y5 y6 y7 y8 y9, σ = [some (.ref a0), some (.ref p), y2, y3, y4, y5, y6, y7, y8, y9] ∧ Wl p c H4) ⟨none, none, none, none, none, none, none, none, rfl, w2⟩ ?_ ?_
  · rintro i σ H4 hi ⟨y2, y3, y4, y5, y6, y7, y8, y9, rfl, w4⟩
    refine ⟨.ref p, rfl, p, c, 28, rfl, w4, (by decide), (by decide), fun H5 k x5 w5 k0 k28 => ?_⟩
    obtain ⟨k, rfl⟩ := Int.eq_ofNat_of_zero_le k0
    have hk : k < 28 := by omega
    refine ⟨.ref p, rfl, p, c, 12, rfl, w5, (by decide), (by decide), fun H6 cc x6 w6 c0 c12 => ?_⟩
    obtain ⟨cc, rfl⟩ := Int.eq_ofNat_of_zero_le c0
    have hc : cc < 12 := by omega
    refine ⟨fun σ H9 => ∃ vo dro, σ = [some (.ref a0), some (.ref p), some (.int (0 + (i : Int))), some (.int (k : Int)), some (.int (cc : Int)), some vo, y6, y7, y8, y9] ∧ Wl p c H9 ∧ DtO p (E.toErT.at 0) H9 vo dro ∧ OddD dro, ?_, ?_⟩
    · refine ⟨(by show 0 ≤ sizeLine; decide), fun t0 o0 n0 h0 => ⟨(by show 1 ≤ sizeLine; decide), fun l0 nl0 => ⟨(by show 1 ≤ sizeLine; decide), fun t1 o1 n1 h1 => ?_⟩⟩⟩
      have e1 := same_upd (o := .frz o0 (.tup [])) n0
      have f1 : Ptp (upd H6 t0 (.frz o0 (.tup []))) t0 [] := ⟨o0, upd_same, h0⟩
      generalize upd H6 t0 (.frz o0 (.tup [])) = J1 at e1 f1 nl0 n1 ⊢
      have e2 := same_upd (o := .lst [.int 0]) nl0
      have f2 : (upd J1 l0 (.lst [.int 0])) l0 = some (.lst [.int 0]) := upd_same
      have lp := (w6.same e1).ne2 nl0
      generalize upd J1 l0 (.lst [.int 0]) = J2 at e2 f2 n1 ⊢
      have e3 := same_upd (o := .frz o1 (.tup [.non])) n1
      have f3 : Ptp (upd J2 t1 (.frz o1 (.tup [.non]))) t1 [.non] := ⟨o1, upd_same, h1⟩
      generalize upd J2 t1 (.frz o1 (.tup [.non])) = J3 at e3 f3 ⊢
      refine fun dd nd => ⟨(by show 0 ≤ sizeLine; decide), fun t2 o2 n2 h2 => ?_⟩
      have td : t2 ≠ dd := fun z => by
        rw [z, upd_same] at n2
        cases n2
      have n2' : J3 t2 = none := by rw [upd_ne td] at n2; exact n2
      refine ⟨by rw [upd_ne td.symm]; exact upd_same, [(.inr (Str.ofString "a"), .ref t2)], rfl, (by show 1 ≤ 15; decide), ?_⟩
      obtain ⟨KV, eKV⟩ : ∃ KV, mergeK [] [((.inr (Str.ofString "a") : Key), V.ref t2)] = KV := ⟨_, rfl⟩
      rw [eKV]
      have e4 : Same J3 (upd (upd (upd J3 dd (.dK [])) t2 (.frz o2 (.tup []))) dd (.dK KV)) := fun b u z => by
        rw [upd_ne (ne_of_none z nd), upd_ne (ne_of_none z n2'), upd_ne (ne_of_none z nd)]
        exact z
      have f4 : (upd (upd (upd J3 dd (.dK [])) t2 (.frz o2 (.tup []))) dd (.dK KV)) dd = some (.dK KV) := upd_same
      generalize upd (upd (upd J3 dd (.dK [])) t2 (.frz o2 (.tup []))) dd (.dK KV) = J4 at e4 f4 ⊢
      refine ⟨1, rfl, (by show 2 ≤ sizeLine; decide), fun t3 o3 n3 h3 => ⟨(by show 1 ≤ sizeLine; decide), fun t4 o4 n4 h4 => ⟨(by show 10 ≤ sizeLine; decide), fun l nl => ?_⟩⟩⟩
      have e5 := same_upd (o := .frz o3 (.tup [.int 0, .bl true])) n3
      have f5 : Ptp (upd J4 t3 (.frz o3 (.tup [.int 0, .bl true]))) t3 [.int 0, .bl true] := ⟨o3, upd_same, h3⟩
      generalize upd J4 t3 (.frz o3 (.tup [.int 0, .bl true])) = J5 at e5 f5 n4 nl ⊢
      have e6 := same_upd (o := .frz o4 (.tup [.str (Str.ofString "pour")])) n4
      have f6 : Ptp (upd J5 t4 (.frz o4 (.tup [.str (Str.ofString "pour")]))) t4 [.str (Str.ofString "pour")] := ⟨o4, upd_same, h4⟩
      generalize upd J5 t4 (.frz o4 (.tup [.str (Str.ofString "pour")])) = J6 at e6 f6 nl ⊢
      have e16 := Same.trans e1 (Same.trans e2 (Same.trans e3 (Same.trans e4 (Same.trans e5 e6))))
      have lw := (w6.same e16).ne2 nl
      have e7 := same_upd (o := .lst [.bl true, .non, .ref t0, .str (Str.ofString "\n"), .ref l0, .ref t1, .ref dd, .int (-1), .ref t3, .ref t4]) nl
      have f7 : (upd J6 l (.lst [.bl true, .non, .ref t0, .str (Str.ofString "\n"), .ref l0, .ref t1, .ref dd, .int (-1), .ref t3, .ref t4])) l = some (.lst [.bl true, .non, .ref t0, .str (Str.ofString "\n"), .ref l0, .ref t1, .ref dd, .int (-1), .ref t3, .ref t4]) := upd_same
      have w7 := w6.same (Same.trans e16 e7)
      generalize upd J6 l (.lst [.bl true, .non, .ref t0, .str (Str.ofString "\n"), .ref l0, .ref t1, .ref dd, .int (-1), .ref t3, .ref t4]) = J7 at e7 f7 w7 ⊢
      refine ⟨.ref p, rfl, p, c, 10, rfl, w7, (by decide), (by decide), fun H9 j x9 w9 j0 j10 => ?_⟩
      obtain ⟨j, rfl⟩ := Int.eq_ofNat_of_zero_le j0
      have hj : j < 10 := by omega
      have kk := dk_exw (F := fun b => b = p) (C := E.toErT.at 0) x9 w7 rfl
      have e47 := Same.trans e5 (Same.trans e6 e7)
      have at9 : ∀ vo dro, ([.bl true, .non, .ref t0, .str (Str.ofString "\n"), .ref l0, .ref t1, .ref dd, .int (-1), .ref t3, .ref t4] : List V)[j]? = some vo → DtO p (E.toErT.at 0) H9 vo dro → OddD dro → ∃ vo, ([.bl true, .non, .ref t0, .str (Str.ofString "\n"), .ref l0, .ref t1, .ref dd, .int (-1), .ref t3, .ref t4] : List V)[j]? = some vo ∧ ∃ dro, DtO p (E.toErT.at 0) H9 vo dro ∧ OddD dro := fun vo dro h h1 h2 => ⟨vo, h, dro, h1, h2⟩
      obtain ⟨vo, hvo, dro, hdo, od⟩ : ∃ vo, ([.bl true, .non, .ref t0, .str (Str.ofString "\n"), .ref l0, .ref t1, .ref dd, .int (-1), .ref t3, .ref t4] : List V)[j]? = some vo ∧ ∃ dro, DtO p (E.toErT.at 0) H9 vo dro ∧ OddD dro := by
        match j, hj, at9 with
        | 0, _, f => exact f _ (.bl true) rfl (.inl .lbl) ⟨by decide +kernel, by decide +kernel, by decide +kernel, by decide +kernel, by decide +kernel, by decide +kernel⟩
        | 1, _, f => exact f _ .non rfl (.inl .lnon) ⟨by decide +kernel, by decide +kernel, by decide +kernel, by decide +kernel, by decide +kernel, by decide +kernel⟩
        | 2, _, f => exact f _ (.tup []) rfl (.inl (.ltup (kk.t _ _ (f1.same (Same.trans e2 (Same.trans e3 (Same.trans e4 e47))))) (by show 0 ≤ 60000; decide) .nil)) ⟨by decide +kernel, by decide +kernel, by decide +kernel, by decide +kernel, by decide +kernel, by decide +kernel⟩
        | 3, _, f => exact f _ (.str (Str.ofString "\n")) rfl (.inl (.lstr (by rw [show (Str.ofString "\n").length = 1 by decide +kernel]; decide) (by decide +kernel))) ⟨by decide +kernel, by decide +kernel, by decide +kernel, by decide +kernel, by decide +kernel, by decide +kernel⟩
        | 4, _, f => exact f _ (.lst [.int 0]) rfl (.inl (.llst (fun z => lp.1 z) (x9 _ _ lp.1 ((Same.trans e3 (Same.trans e4 e47)) _ _ f2)) (by show 1 ≤ 60000; decide) (.cons (.lint (by decide)) .nil))) ⟨by decide +kernel, by decide +kernel, by decide +kernel, by decide +kernel, by decide +kernel, by decide +kernel⟩
        | 5, _, f => exact f _ (.tup [.non]) rfl (.inl (.ltup (kk.t _ _ (f3.same (Same.trans e4 e47))) (by show 1 ≤ 60000; decide) (.cons .lnon .nil))) ⟨by decide +kernel, by decide +kernel, by decide +kernel, by decide +kernel, by decide +kernel, by decide +kernel⟩
        | 6, _, f => exact f _ (.dic []) rfl (.inr ⟨rfl, dd, KV, rfl, x9.at w7 (e47 _ _ f4) (by intro _ z; cases z)⟩) ⟨by decide +kernel, by decide +kernel, by decide +kernel, by decide +kernel, by decide +kernel, by decide +kernel⟩
        | 7, _, f => exact f _ (.int (-1)) rfl (.inl (.lint (by decide))) ⟨by decide +kernel, by decide +kernel, by decide +kernel, by decide +kernel, by decide +kernel, by decide +kernel⟩
        | 8, _, f => exact f _ (.tup [.int 0, .bl true]) rfl (.inl (.ltup (kk.t _ _ (f5.same (Same.trans e6 e7))) (by show 2 ≤ 60000; decide) (.cons (.lint (by decide)) (.cons .lbl .nil)))) ⟨by decide +kernel, by decide +kernel, by decide +kernel, by decide +kernel, by decide +kernel, by decide +kernel⟩
        | 9, _, f => exact f _ (.tup [.str (Str.ofString "pour")]) rfl (.inl (.ltup (kk.t _ _ (f6.same e7)) (by show 1 ≤ 60000; decide) (.cons (.lstr (by rw [show (Str.ofString "pour").length = 4 by decide +kernel]; decide) (by decide +kernel)) .nil))) ⟨by decide +kernel, by decide +kernel, by decide +kernel, by decide +kernel, by decide +kernel, by decide +kernel⟩
        | n + 10, h, _ => exact absurd h (by omega)
      exact ⟨l, _, _, _, rfl, rfl, sql (x9 _ _ lw.1 f7), atI_nat hvo, vo, dro, rfl, w9, hdo, od⟩
    rintro σ H9 ⟨vo, dro, rfl, w9, hdo, od⟩
    refine ⟨fun σ H10 => ∃ v d, σ = [some (.ref a0), some (.ref p), some (.int (0 + (i : Int))), some (.int (k : Int)), some (.int (cc : Int)), some vo, some v, y7, y8, y9] ∧ Wl p c H10 ∧ DtO p (E.toErT.at 0) H10 vo dro ∧ DatAt (fun b => b = p) (E.toErT.at 0) (2 ^ 90) 60000 20 H10 v d ∧ wD d ≤ 10000, ?_, ?_⟩
    · refine ⟨.ref p, rfl, p, c, 100, rfl, w9, (by decide), (by decide), fun G1 r1 x1 u1 r10 r11 => ?_⟩
      refine ⟨.ref p, rfl, .ref p, rfl, p, c, 9, rfl, u1, (by decide), (by decide), fun G2 m x2 u2 m0 m9 => ?_⟩
      obtain ⟨m, rfl⟩ := Int.eq_ofNat_of_zero_le m0
      refine ⟨p, c, m, rfl, u2, by omega, fun G3 z x3 u3 hz az => ?_⟩
      refine ⟨.ref p, rfl, p, c, rfl, u3, fun G4 v d x4 u4 hd hwd => ⟨(by show 3 ≤ sizeLine; decide), fun l nl => ?_⟩⟩
      have lw := u4.ne2 nl
      have s5 := same_upd (o := .lst [.int r1, .str z, v]) nl
      have f5 : (upd G4 l (.lst [.int r1, .str z, v])) l = some (.lst [.int r1, .str z, v]) := upd_same
      have u5 := u4.same s5
      generalize upd G4 l (.lst [.int r1, .str z, v]) = G5 at s5 f5 u5 ⊢
      refine ⟨.ref p, rfl, p, c, 3, rfl, u5, (by decide), (by decide), fun G6 j x6 u6 j0 j3 => ?_⟩
      obtain ⟨j, rfl⟩ := Int.eq_ofNat_of_zero_le j0
      have hj : j < 3 := by omega
      have hdo6 : DtO p (E.toErT.at 0) G6 vo dro := ((hdo.exw (((x1.trans x2).trans x3).trans x4) w9).same s5).exw x6 u5
      have hd6 : DatAt (fun b => b = p) (E.toErT.at 0) (2 ^ 90) 60000 20 G6 v d := ((hd.wide (F' := fun b => b = p) (fun b e => by rw [e]; exact u3.dom) (by decide) (by decide) (by decide)).same s5).keep (dk_exw (F := fun b => b = p) x6 u5 rfl)
      have f6 := x6 _ _ lw.1 f5
      match j, hj with
      | 0, _ => exact ⟨l, _, _, _, rfl, rfl, sql f6, atI_nat (j := 0) rfl, .int r1, .int r1, rfl, u6, hdo6, .lint (by omega), (by show 60 ≤ 10000; decide)⟩
      | 1, _ => exact ⟨l, _, _, _, rfl, rfl, sql f6, atI_nat (j := 1) rfl, .str z, .str z, rfl, u6, hdo6, .lstr (by omega) az, (by show 15 * z.length + 20 ≤ 10000; omega)⟩
      | 2, _ => exact ⟨l, _, _, _, rfl, rfl, sql f6, atI_nat (j := 2) rfl, v, d, rfl, u6, hdo6, hd6, Nat.le_trans hwd (by decide)⟩
      | n + 3, h => exact absurd h (by omega)
    rintro σ H10 ⟨v, d, rfl, w10, hdo, hd, hwd⟩
    refine ⟨v, rfl, v, d, _, _, _, rfl, hd, by decide, by omega, ?_⟩
    refine ⟨.int (k : Int), rfl, v, rfl, k, v, rfl, hk, fun H11 e s11 hm => ?_⟩
    have w11 := w10.same s11
    refine ⟨fun σ H12 => ∃ q2, σ = [some (.ref a0), some (.ref p), some (.int (0 + (i : Int))), some (.int (k : Int)), some (.int (cc : Int)), some vo, some v, some (.str (sh nm d)), some e, some (.ref q2)] ∧ Same H11 H12 ∧ H12 q2 = some (.lst (if k = 24 then [] else [.int (k : Int)])), ?_, ?_⟩
    · refine ⟨.int (k : Int), rfl, (by show 1 ≤ sizeLine; decide), fun q1 nq1 => ?_⟩
      have t1 := same_upd (o := .lst [.int (k : Int)]) nq1
      have g1 : (upd H11 q1 (.lst [.int (k : Int)])) q1 = some (.lst [.int (k : Int)]) := upd_same
      generalize upd H11 q1 (.lst [.int (k : Int)]) = J1 at t1 g1 ⊢
      obtain ⟨nn, hnn, hn2⟩ : ∃ nn : Nat, (if (!decide (V.int (k : Int) = V.int 24)) = true then (1 : Int) else 0) = (nn : Int) ∧ nn = if k = 24 then 0 else 1 := by
        by_cases e : k = 24
        · rw [e]
          exact ⟨0, rfl, rfl⟩
        · have ne : ¬ V.int (k : Int) = V.int 24 := fun z => e (by
            injection z with t
            omega)
          rw [decide_eq_false ne, if_neg e]
          exact ⟨1, rfl, rfl⟩
      have nn1 : nn ≤ 1 := by
        rw [hn2]
        split <;> omega
      refine ⟨.int (k : Int), rfl, rfl, .inr ⟨_, rfl, q1, (nn : Int), [.int (k : Int)], rfl, congrArg V.int hnn, g1, by omega, by omega, by rw [Int.toNat_natCast, sizeLine_eq]; show 1 * nn ≤ 16777216; omega, fun q2 nq2 => ?_⟩⟩
      refine ⟨q2, rfl, Same.trans t1 (same_upd nq2), ?_⟩
      rw [upd_same, Int.toNat_natCast, hn2]
      by_cases e : k = 24
      · rw [if_pos e, if_pos e]
        rfl
      · rw [if_neg e, if_neg e]
        rfl
    rintro σ H12 ⟨q2, rfl, s12, hq2⟩
    have hm12 : MadeAt H12 e (E.toErT.at k) k v := ⟨hm.1.same s12, fun z => let ⟨a, dx, h1, h2, h3⟩ := hm.2 z; ⟨a, dx, h1, s12 _ _ h2, s12 _ _ h3⟩⟩
    refine ⟨e, rfl, e, k, rfl, hk, hm12.1, fun H13 l s13 _ hl => ⟨.ref q2, rfl, (by show 2 ≤ sizeLine; decide), fun R nR => ?_⟩⟩
    have t1 := same_upd (o := .lst [.bl true, .bl true]) nR
    have g1 : (upd H13 R (.lst [.bl true, .bl true])) R = some (.lst [.bl true, .bl true]) := upd_same
    generalize upd H13 R (.lst [.bl true, .bl true]) = J1 at t1 g1 ⊢
    refine ⟨q2, R, _, _, rfl, rfl, t1 _ _ (s13 _ _ hq2), g1, ?_, fun S nS => ?_⟩
    · rw [sizeLine_eq]
      by_cases e : k = 24
      · rw [if_pos e]
        show 0 + 2 ≤ 16777216
        decide
      · rw [if_neg e]
        show 1 + 2 ≤ 16777216
        decide
    have t2 := same_upd (o := .lst ((if k = 24 then [] else [.int (k : Int)]) ++ [.bl true, .bl true])) nS
    have g2 : (upd J1 S (.lst ((if k = 24 then [] else [.int (k : Int)]) ++ [.bl true, .bl true]))) S = some (.lst (kindL k)) := upd_same
    generalize upd J1 S (.lst ((if k = 24 then [] else [.int (k : Int)]) ++ [.bl true, .bl true])) = J2 at t2 g2 ⊢
    refine ⟨kP k, kP k, dp_kind (t2 _ _ (t1 _ _ hl)), dp_kind g2, (kP_ok k).2, (kP_ok k).2, false, congrArg V.bl (by rw [(kP_ok k).1]; rfl), iteF ?_⟩
    have s122 := Same.trans s13 (Same.trans t1 t2)
    have s10 := Same.trans s11 (Same.trans s12 s122)
    have hd2 := hd.same s10
    refine ⟨fun σ G => σ = [some (.ref a0), some (.ref p), some (.int (0 + (i : Int))), some (.int (k : Int)), some (.int (cc : Int)), some vo, some v, some (.str (sh nm d)), some e, some (.ref q2)] ∧ Same J2 G, ?_, ?_⟩
    · refine ⟨.int (k : Int), rfl, _, _, rfl, rfl, _, rfl, ite2 (fun hge => ?_) (fun _ => ⟨rfl, Same.refl _⟩)⟩
      have h25 : 25 ≤ k := by
        have : (k : Int) ≥ 25 := of_decide_eq_true hge
        omega
      obtain ⟨a, dx, rfl, hea, hed⟩ := hm12.2 h25
      have hea := s122 _ _ hea
      have hed := s122 _ _ hed
      refine ⟨.int (k : Int), rfl, .ref a, rfl, k, a, dx, v, rfl, h25, hk, hea, hed, ?_⟩
      refine ⟨v, d, _, _, _, rfl, hd2, by decide, by omega, _, rfl, rfl, false, ?_, iteF ?_⟩
      · rw [decide_eq_true rfl]
        rfl
      exact ⟨.int (k : Int), rfl, .ref a, rfl, k, a, dx, v, rfl, h25, hk, hea, hed, v, rfl, rfl, same_v NE hd2, false, rfl, iteF ⟨rfl, Same.refl _⟩⟩
    rintro σ G ⟨rfl, sG⟩
    refine ⟨(by show 12 ≤ sizeLine; decide), fun l2 nl2 => ?_⟩
    have t3 := same_upd (o := .lst [.int 0, .int 1, .int 2, .int 3, .int 4, .int 2, .int 1, .int 0, .int 6, .int 7, .int 3, .int 6]) nl2
    have g3 : (upd G l2 (.lst [.int 0, .int 1, .int 2, .int 3, .int 4, .int 2, .int 1, .int 0, .int 6, .int 7, .int 3, .int 6])) l2 = some (.lst [.int 0, .int 1, .int 2, .int 3, .int 4, .int 2, .int 1, .int 0, .int 6, .int 7, .int 3, .int 6]) := upd_same
    generalize upd G l2 (.lst [.int 0, .int 1, .int 2, .int 3, .int 4, .int 2, .int 1, .int 0, .int 6, .int 7, .int 3, .int 6]) = G2 at t3 g3 ⊢
    refine ⟨.int (cc : Int), rfl, l2, _, _, _, rfl, rfl, sql g3, atI_nat (due_at cc hc), ?_⟩
    have sA := Same.trans s10 (Same.trans sG t3)
    have ho := (hdo.same sA).a0 NX
    refine ⟨.int (cc : Int), rfl, vo, rfl, cc, vo, dro, rfl, hc, .inl ho, ho, od, fun G3 l3 s3 hl3 => ⟨.int ((dueC cc : Nat) : Int), rfl, (by show 3 ≤ sizeLine; decide), fun R2 nR2 => ?_⟩⟩
    have ek : kindL (dueC cc) = [.int ((dueC cc : Nat) : Int), .bl true, .bl true] := by
      unfold kindL
      rw [if_neg (due_ne cc hc)]
      rfl
    have t4 := same_upd (o := .lst [.int ((dueC cc : Nat) : Int), .bl true, .bl true]) nR2
    have g4 : (upd G3 R2 (.lst [.int ((dueC cc : Nat) : Int), .bl true, .bl true])) R2 = some (.lst (kindL (dueC cc))) := by rw [upd_same, ek]
    generalize upd G3 R2 (.lst [.int ((dueC cc : Nat) : Int), .bl true, .bl true]) = G4 at t4 g4 ⊢
    exact ⟨kP (dueC cc), kP (dueC cc), dp_kind (t4 _ _ hl3), dp_kind g4, (kP_ok _).2, (kP_ok _).2, false, congrArg V.bl (by rw [(kP_ok _).1]; rfl), iteF ⟨_, _, _, _, _, _, _, _, rfl, w10.same (Same.trans sA (Same.trans s3 t4))⟩⟩
  · rintro σ H4 ⟨y2, y3, y4, y5, y6, y7, y8, y9, rfl, w4⟩
    exact q H4
end
end Kb

namespace Kb
open PySem PySem.Spec PyProof.Rows L2
/-- a def as the top has left it -/
def dn_of {K : PySem.W.Frag} {h : Heap} {mg : Str → Option Value} {nm : Str} {st : Stmt} {ps : List Str} {f : Addr} {oc : Value} {od an : Option Addr} {osl : Array (Option Value)} {kV doc pm cdv ct : Value} (X : K.In h) (G : h.Ns mainGlobals mg)
    (fa : PySem.W.nsIn K mainGlobals nm = some (some (.ref f))) (fl : K.lookup f = some ⟨oc, od, .func (PySem.W.fnOf nm nm (defArgs st) (defBody st) (defScope st) .none kV doc pm an cdv ct), osl⟩) (fc : PySem.W.codeIn K cdv nm = true) (fk : PySem.W.keepIn K (.ref f) = true)
    (fb : ∀ (kV doc pm : Value) (an : Option Addr) (cdv ct : Value) (us : List Value), us.length = ps.length → bindArgs (PySem.W.fnOf nm nm (defArgs st) (defBody st) (defScope st) .none kV doc pm an cdv ct) ⟨us, []⟩ = pure (ps.zip us)) : Dn K mg nm st ps :=
  ⟨f, _, fun_mk fl fc fk, PySem.W.mg_of X G fa, (fun_mk fl fc fk).binds fb⟩
def cst_of {K : PySem.W.Frag} {h : Heap} {mg : Str → Option Value} {nm : Str} {i : Int} {t : Tok} (X : K.In h) (G : h.Ns mainGlobals mg) (fa : PySem.W.nsIn K mainGlobals nm = some (some (.int i t))) : Cst mg nm (.int i) := ⟨_, PySem.W.mg_of X G fa, ⟨_, rfl⟩⟩
def txb25 {K : PySem.W.Frag} {C f : Addr} {nm q : Str} {N : Addr} {bs bm : List Value} {sn : List Str} {sub : List Value} {ab : Bool} {col : Option Bool} {dd : Option Addr} {m0 m1 m2 m3 m5 : Option Value} {oc : Value} {od an : Option Addr} {osl : Array (Option Value)} {kV doc pm cdv ct : Value} (b1 : K.lookup C = some (excClassObj nm q C N bs bm true sn sub ab col dd m0 m1 m2 m3 m5 "ValueError.__new__")) (b2 : PySem.HandSPX.refsVE bm = true)
    (b3 : PySem.W.findIn K (.ref C) "__setattr__" = some (some (.builtin "object.__setattr__"))) (b4 : PySem.W.subIn K (.ref C) (.type "BaseException") = some true) (b5 : PySem.W.typeIn K (.ref C) = some (.type "type")) (b6 : PySem.W.keepIn K (.ref C) = true)
    (b7 : PySem.W.findIn K (.ref C) "__init__" = some (some (.ref f))) (b8 : PySem.W.typeIn K (.ref f) = some (.type "function"))
    (b9 : K.lookup f = some ⟨oc, od, .func (PySem.W.fnOf "__init__" "BadText.__init__" (defArgs sB25) (defBody sB25) (defScope sB25) .none kV doc pm an cdv ct), osl⟩) (b10 : PySem.W.codeIn K cdv "BadText.__init__" = true) (b11 : PySem.W.keepIn K (.ref f) = true)
    (b12 : PySem.W.findIn K (.ref C) "place" = some none) (b13 : PySem.W.findIn K (.ref C) "__getattribute__" = some (some (.builtin "BaseException.__getattribute__"))) (b14 : PySem.W.findIn K (.ref C) "__getattr__" = some none) (b15 : PySem.W.hasDictIn K C = true) : TxB K "BadText.__init__" "place" sB25 C :=
  { fI := f, fdI := _, oex := ⟨⟨nm, q, N, bs, bm, sn, sub, ab, col, dd, m0, m1, m2, m3, m5, b1, b2⟩, b3, b4, b5, b6⟩, iC := b7, tI := b8, F := ⟨⟨_, _, _, _, _, _, _, _, _, rfl, b9, b10⟩, b11⟩, b := Fun.binds (x := "__init__") (qual := "BadText.__init__") (st := sB25) ⟨⟨_, _, _, _, _, _, _, _, _, rfl, b9, b10⟩, b11⟩ (fun _ _ _ _ _ _ us hl => match us, hl with | [_, _], _ => rfl), noP := b12, xf := ⟨b13, b14, b4, b15⟩ }
def txb26 {K : PySem.W.Frag} {C f : Addr} {nm q : Str} {N : Addr} {bs bm : List Value} {sn : List Str} {sub : List Value} {ab : Bool} {col : Option Bool} {dd : Option Addr} {m0 m1 m2 m3 m5 : Option Value} {oc : Value} {od an : Option Addr} {osl : Array (Option Value)} {kV doc pm cdv ct : Value} (b1 : K.lookup C = some (excClassObj nm q C N bs bm true sn sub ab col dd m0 m1 m2 m3 m5 "ValueError.__new__")) (b2 : PySem.HandSPX.refsVE bm = true)
    (b3 : PySem.W.findIn K (.ref C) "__setattr__" = some (some (.builtin "object.__setattr__"))) (b4 : PySem.W.subIn K (.ref C) (.type "BaseException") = some true) (b5 : PySem.W.typeIn K (.ref C) = some (.type "type")) (b6 : PySem.W.keepIn K (.ref C) = true)
    (b7 : PySem.W.findIn K (.ref C) "__init__" = some (some (.ref f))) (b8 : PySem.W.typeIn K (.ref f) = some (.type "function"))
    (b9 : K.lookup f = some ⟨oc, od, .func (PySem.W.fnOf "__init__" "BadSheet.__init__" (defArgs sB26) (defBody sB26) (defScope sB26) .none kV doc pm an cdv ct), osl⟩) (b10 : PySem.W.codeIn K cdv "BadSheet.__init__" = true) (b11 : PySem.W.keepIn K (.ref f) = true)
    (b12 : PySem.W.findIn K (.ref C) "line" = some none) (b13 : PySem.W.findIn K (.ref C) "__getattribute__" = some (some (.builtin "BaseException.__getattribute__"))) (b14 : PySem.W.findIn K (.ref C) "__getattr__" = some none) (b15 : PySem.W.hasDictIn K C = true) : TxB K "BadSheet.__init__" "line" sB26 C :=
  { fI := f, fdI := _, oex := ⟨⟨nm, q, N, bs, bm, sn, sub, ab, col, dd, m0, m1, m2, m3, m5, b1, b2⟩, b3, b4, b5, b6⟩, iC := b7, tI := b8, F := ⟨⟨_, _, _, _, _, _, _, _, _, rfl, b9, b10⟩, b11⟩, b := Fun.binds (x := "__init__") (qual := "BadSheet.__init__") (st := sB26) ⟨⟨_, _, _, _, _, _, _, _, _, rfl, b9, b10⟩, b11⟩ (fun _ _ _ _ _ _ us hl => match us, hl with | [_, _], _ => rfl), noP := b12, xf := ⟨b13, b14, b4, b15⟩ }
def txb27 {K : PySem.W.Frag} {C f : Addr} {nm q : Str} {N : Addr} {bs bm : List Value} {sn : List Str} {sub : List Value} {ab : Bool} {col : Option Bool} {dd : Option Addr} {m0 m1 m2 m3 m5 : Option Value} {oc : Value} {od an : Option Addr} {osl : Array (Option Value)} {kV doc pm cdv ct : Value} (b1 : K.lookup C = some (excClassObj nm q C N bs bm true sn sub ab col dd m0 m1 m2 m3 m5 "ValueError.__new__")) (b2 : PySem.HandSPX.refsVE bm = true)
    (b3 : PySem.W.findIn K (.ref C) "__setattr__" = some (some (.builtin "object.__setattr__"))) (b4 : PySem.W.subIn K (.ref C) (.type "BaseException") = some true) (b5 : PySem.W.typeIn K (.ref C) = some (.type "type")) (b6 : PySem.W.keepIn K (.ref C) = true)
    (b7 : PySem.W.findIn K (.ref C) "__init__" = some (some (.ref f))) (b8 : PySem.W.typeIn K (.ref f) = some (.type "function"))
    (b9 : K.lookup f = some ⟨oc, od, .func (PySem.W.fnOf "__init__" "TooMany.__init__" (defArgs sB27) (defBody sB27) (defScope sB27) .none kV doc pm an cdv ct), osl⟩) (b10 : PySem.W.codeIn K cdv "TooMany.__init__" = true) (b11 : PySem.W.keepIn K (.ref f) = true)
    (b12 : PySem.W.findIn K (.ref C) "most" = some none) (b13 : PySem.W.findIn K (.ref C) "__getattribute__" = some (some (.builtin "BaseException.__getattribute__"))) (b14 : PySem.W.findIn K (.ref C) "__getattr__" = some none) (b15 : PySem.W.hasDictIn K C = true) : TxB K "TooMany.__init__" "most" sB27 C :=
  { fI := f, fdI := _, oex := ⟨⟨nm, q, N, bs, bm, sn, sub, ab, col, dd, m0, m1, m2, m3, m5, b1, b2⟩, b3, b4, b5, b6⟩, iC := b7, tI := b8, F := ⟨⟨_, _, _, _, _, _, _, _, _, rfl, b9, b10⟩, b11⟩, b := Fun.binds (x := "__init__") (qual := "TooMany.__init__") (st := sB27) ⟨⟨_, _, _, _, _, _, _, _, _, rfl, b9, b10⟩, b11⟩ (fun _ _ _ _ _ _ us hl => match us, hl with | [_, _], _ => rfl), noP := b12, xf := ⟨b13, b14, b4, b15⟩ }
/-- the classes of errors as the top has left them -/
def erx_of {K : PySem.W.Frag} {h : Heap} {mg : Str → Option Value} {C0 C1 C2 C3 C4 C5 C6 C7 C8 C9 C10 C11 C12 C13 C14 C15 C16 C17 C18 C19 C20 C21 C22 C23 C24 C25 C26 C27 : Addr} (X : K.In h) (G : h.Ns mainGlobals mg)
    (h0 : PySem.W.nsIn K mainGlobals "NoTree" = some (some (.ref C0))) (h1 : PySem.W.nsIn K mainGlobals "NoRoom" = some (some (.ref C1))) (h2 : PySem.W.nsIn K mainGlobals "NoSketch" = some (some (.ref C2))) (h3 : PySem.W.nsIn K mainGlobals "NoName" = some (some (.ref C3))) (h4 : PySem.W.nsIn K mainGlobals "NoNumber" = some (some (.ref C4))) (h5 : PySem.W.nsIn K mainGlobals "OtherRoom" = some (some (.ref C5))) (h6 : PySem.W.nsIn K mainGlobals "NoSpace" = some (some (.ref C6))) (h7 : PySem.W.nsIn K mainGlobals "NoSketches" = some (some (.ref C7))) (h8 : PySem.W.nsIn K mainGlobals "NoRanks" = some (some (.ref C8))) (h9 : PySem.W.nsIn K mainGlobals "NoPlace" = some (some (.ref C9))) (h10 : PySem.W.nsIn K mainGlobals "NoMarks" = some (some (.ref C10))) (h11 : PySem.W.nsIn K mainGlobals "NoNumbers" = some (some (.ref C11))) (h12 : PySem.W.nsIn K mainGlobals "NoSide" = some (some (.ref C12))) (h13 : PySem.W.nsIn K mainGlobals "NoBook" = some (some (.ref C13))) (h14 : PySem.W.nsIn K mainGlobals "NoEvent" = some (some (.ref C14))) (h15 : PySem.W.nsIn K mainGlobals "NoArea" = some (some (.ref C15))) (h16 : PySem.W.nsIn K mainGlobals "NoText" = some (some (.ref C16))) (h17 : PySem.W.nsIn K mainGlobals "NoStand" = some (some (.ref C17))) (h18 : PySem.W.nsIn K mainGlobals "NoThing" = some (some (.ref C18))) (h19 : PySem.W.nsIn K mainGlobals "NoItems" = some (some (.ref C19))) (h20 : PySem.W.nsIn K mainGlobals "NoQuestion" = some (some (.ref C20))) (h21 : PySem.W.nsIn K mainGlobals "NoDay" = some (some (.ref C21))) (h22 : PySem.W.nsIn K mainGlobals "NoTruth" = some (some (.ref C22))) (h23 : PySem.W.nsIn K mainGlobals "NoCounts" = some (some (.ref C23))) (h24 : PySem.W.nsIn K mainGlobals "KnownError" = some (some (.ref C24))) (h25 : PySem.W.nsIn K mainGlobals "BadText" = some (some (.ref C25))) (h26 : PySem.W.nsIn K mainGlobals "BadSheet" = some (some (.ref C26))) (h27 : PySem.W.nsIn K mainGlobals "TooMany" = some (some (.ref C27))) (aC : ([C0, C1, C2, C3, C4, C5, C6, C7, C8, C9, C10, C11, C12, C13, C14, C15, C16, C17, C18, C19, C20, C21, C22, C23, C24, C25, C26, C27] : List Addr).all (fitC K) = true) (aN : (([C0, C1, C2, C3, C4, C5, C6, C7, C8, C9, C10, C11, C12, C13, C14, C15, C16, C17, C18, C19, C20, C21, C22, C23, C24, C25, C26, C27] : List Addr).take 25).all (fitN K) = true) (aK : fitK K [C0, C1, C2, C3, C4, C5, C6, C7, C8, C9, C10, C11, C12, C13, C14, C15, C16, C17, C18, C19, C20, C21, C22, C23, C24, C25, C26, C27] = true) (aX : fitX K [C0, C1, C2, C3, C4, C5, C6, C7, C8, C9, C10, C11, C12, C13, C14, C15, C16, C17, C18, C19, C20, C21, C22, C23, C24, C25, C26, C27] = true) (yI : PySem.W.kitOne K (.ref C0) (.type "int") = some false) (yB : PySem.W.kitOne K (.ref C0) (.type "bool") = some false) (yS : PySem.W.kitOne K (.ref C0) (.type "str") = some false) (yT : PySem.W.kitOne K (.ref C0) (.type "tuple") = some false) (eQ1 : PySem.W.findIn K (.ref C0) "__eq__" = some (some (.builtin "object.__eq__"))) (eQ2 : PySem.W.subIn K (.ref C0) (.type "object") = some true) (eN : PySem.W.findIn K (.ref C0) "__ne__" = some (some (.builtin "object.__ne__"))) (rR : PySem.W.findIn K (.ref C0) "__repr__" = some (some (.builtin "BaseException.__repr__"))) (rC : (PySem.W.clsIn K C0).map (fun cd => cd.name.toString) = some "NoTree") (B25 : TxB K "BadText.__init__" "place" sB25 C25) (B26 : TxB K "BadSheet.__init__" "line" sB26 C26) (B27 : TxB K "TooMany.__init__" "most" sB27 C27) : Σ' (E : ErB K mg) (_ : XcT K (E.toErT.at 0)) (_ : PySem.ExNe K (E.toErT.at 0)), PySem.ExR K (E.toErT.at 0) "NoTree" :=
  let E0 : ErT K mg := { tb := [C0, C1, C2, C3, C4, C5, C6, C7, C8, C9, C10, C11, C12, C13, C14, C15, C16, C17, C18, C19, C20, C21, C22, C23, C24, C25, C26, C27], len := rfl, okC := aC, okN := aN, okK := aK, okX := aX, g0 := PySem.W.mg_of X G h0, g1 := PySem.W.mg_of X G h1, g2 := PySem.W.mg_of X G h2, g3 := PySem.W.mg_of X G h3, g4 := PySem.W.mg_of X G h4, g5 := PySem.W.mg_of X G h5, g6 := PySem.W.mg_of X G h6, g7 := PySem.W.mg_of X G h7, g8 := PySem.W.mg_of X G h8, g9 := PySem.W.mg_of X G h9, g10 := PySem.W.mg_of X G h10, g11 := PySem.W.mg_of X G h11, g12 := PySem.W.mg_of X G h12, g13 := PySem.W.mg_of X G h13, g14 := PySem.W.mg_of X G h14, g15 := PySem.W.mg_of X G h15, g16 := PySem.W.mg_of X G h16, g17 := PySem.W.mg_of X G h17, g18 := PySem.W.mg_of X G h18, g19 := PySem.W.mg_of X G h19, g20 := PySem.W.mg_of X G h20, g21 := PySem.W.mg_of X G h21, g22 := PySem.W.mg_of X G h22, g23 := PySem.W.mg_of X G h23, g24 := PySem.W.mg_of X G h24, g25 := PySem.W.mg_of X G h25, g26 := PySem.W.mg_of X G h26, g27 := PySem.W.mg_of X G h27 }
  ⟨{ toErT := E0, B25 := B25, B26 := B26, B27 := B27 }, ⟨E0.isC (i := 0) (by decide), ⟨eQ1, eQ2⟩, yI, yB, yS, yT⟩, ⟨⟨eQ1, eQ2⟩, eN⟩, ⟨rR, (E0.isC (i := 0) (by decide)).hs, Option.map_eq_some_iff.mp rC⟩⟩
theorem law_end {l : PySem.W.OpenLaw} {w : World} {K : PySem.W.Frag} {h : Heap} {mg : Str → Option Value} {fa f : Addr} (X : K.In h) (G : h.Ns mainGlobals mg) (hfa : mg "law" = some (.ref fa))
    {od an : Option Addr} {osl : Array (Option Value)} {oc kV doc pm cdv ct : Value}
    (a0 : PySem.W.nsIn K mainGlobals "law" = some (some (.ref f))) (l0 : K.lookup f = some ⟨oc, od, .func (PySem.W.fnOf "law" "law" (defArgs slaw) (defBody slaw) (defScope slaw) .none kV doc pm an cdv ct), osl⟩) (c0 : PySem.W.codeIn K cdv "law" = true) (k0 : PySem.W.keepIn K (.ref f) = true)
    (T : Blt mg) (EX : Σ' (E : ErB K mg) (_ : XcT K (E.toErT.at 0)) (_ : PySem.ExNe K (E.toErT.at 0)), PySem.ExR K (E.toErT.at 0) "NoTree") (n_repr : mg "repr" = none) (n_VE : mg "ValueError" = none) (cM : Cst mg "MOST_ROOM" (.int 64)) (cL : Cst mg "LONGEST_NAME" (.int 8)) (cS : Cst mg "MOST_STEPS" (.int 5000)) (cI : Cst mg "MOST_ITEMS" (.int 50000)) (cK : Cst mg "MOST_SKETCHES" (.int 100))  (dP_is_int : DnIsInt K mg) (dP_is_number : DnIsNumber K mg) (dP_is_room : DnIsRoom K mg) (dP_is_name : DnIsName K mg) (dP_is_stream : DnIsStream K mg) (dP_is_put : DnIsPut K mg) (dP_is_pour : DnIsPour K mg) (dP_is_tree : DnIsTree K mg) (dP_is_counted : DnIsCounted K mg) (dP_are_counts : DnAreCounts K mg) (dP_counts_of : DnCountsOf K mg) (dP_lost_of : DnLostOf K mg) (dP_is_sketch : DnIsSketch K mg) (dP_bare : DnBare K mg) (dP_fed : DnFed K mg) (dP_fed_many : DnFedMany K mg) (dP_need_two : DnNeedTwo K mg) (dP_poured : DnPoured K mg) (dP_sketch_of : DnSketchOf K mg) (dP_are_sketches : DnAreSketches K mg) (dP_sum_ends : DnSumEnds K mg) (dP_is_space_room : DnIsSpaceRoom K mg) (dP_is_space : DnIsSpace K mg) (dP_fed_space : DnFedSpace K mg) (dP_from_space : DnFromSpace K mg) (dmixed : Dnmixed K mg) (dwell : Dnwell K mg) (dfilled : Dnfilled K mg) (ddraw : Dndraw K mg) (dnumber : Dnnumber K mg) (dsigns : Dnsigns K mg) (dstring : Dnstring K mg) (dname : Dnname K mg) (dany : Dnany K mg) (dmade_first : Dnmade_first K mg) (dmade_more : Dnmade_more K mg) (dmade : Dnmade K mg) (dkinds : Dnkinds K mg) (dfield : Dnfield K mg) (dcall : Dncall K mg) (drefused : Dnrefused K mg) :
    ∃ fd : FuncData, (∀ (s : Shared) (v : Value), BindsTo s fd ⟨[v], []⟩ [("_law_script", v)]) ∧ TopOk l.prog w K mg fa fd "_law_script" (spLaw K) := by
  have e := hfa.symm.trans (PySem.W.mg_of X G a0)
  cases e
  exact ⟨PySem.W.fnOf "law" "law" (defArgs slaw) (defBody slaw) (defScope slaw) .none kV doc pm an cdv ct, fun s v => .of_eq rfl, ok_law T n_repr n_VE EX.1 EX.2.1 EX.2.2.1 EX.2.2.2 (by decide +kernel) cM cL cS cI cK dP_is_int dP_is_number dP_is_room dP_is_name dP_is_stream dP_is_put dP_is_pour dP_is_tree dP_is_counted dP_are_counts dP_counts_of dP_lost_of dP_is_sketch dP_bare dP_fed dP_fed_many dP_need_two dP_poured dP_sketch_of dP_are_sketches dP_sum_ends dP_is_space_room dP_is_space dP_fed_space dP_from_space dmixed dwell dfilled ddraw dnumber dsigns dstring dname dany dmade_first dmade_more dmade dkinds dfield dcall drefused
    ⟨_, _, fun_mk l0 c0 k0, PySem.W.mg_of X G a0, (fun_mk l0 c0 k0).binds fun _ _ _ _ _ _ us hl => match us, hl with | [_], _ => rfl⟩⟩
end Kb
open PySem PySem.W PyProof.Rows
theorem PySem.Challenge.cw_knownends_k00_errors_and_their_classes_holds : PySem.Challenge.rw_knownends_k00_errors_and_their_classes.Holds := by
  w_on; o_law; k_head; (case hw => w_witness2)
  k_fill
  refine L2.walk_top (l := PySem.Challenge.rw_knownends_k00_errors_and_their_classes) (n := 63) (x := "_law_script") (sp := fun w => Kb.spLaw _) rfl (by decide) rfl (fun w h Y => PySem.W.km_in_of Y) ?F (fun _ _ a ns hl hS => ⟨a, ns, rfl, hS, hl, fun _ => rfl⟩)
  case F =>
    intro w mg fa h KX G hmg
    refine' Kb.law_end KX G hmg ?a0 ?l0 ?c0 ?k0 ?T ?EX ?n_repr ?n_VE ?cM ?cL ?cS ?cI ?cK ?dP_is_int ?dP_is_number ?dP_is_room ?dP_is_name ?dP_is_stream ?dP_is_put ?dP_is_pour ?dP_is_tree ?dP_is_counted ?dP_are_counts ?dP_counts_of ?dP_lost_of ?dP_is_sketch ?dP_bare ?dP_fed ?dP_fed_many ?dP_need_two ?dP_poured ?dP_sketch_of ?dP_are_sketches ?dP_sum_ends ?dP_is_space_room ?dP_is_space ?dP_fed_space ?dP_from_space ?dmixed ?dwell ?dfilled ?ddraw ?dnumber ?dsigns ?dstring ?dname ?dany ?dmade_first ?dmade_more ?dmade ?dkinds ?dfield ?dcall ?drefused
    (case a0 => k_is); (case l0 => k_is); (case c0 => k_is); (case k0 => k_is)
    (case T => exact ⟨PySem.W.mg_none_of KX G (by k_is), PySem.W.mg_none_of KX G (by k_is), PySem.W.mg_none_of KX G (by k_is), PySem.W.mg_none_of KX G (by k_is), PySem.W.mg_none_of KX G (by k_is), PySem.W.mg_none_of KX G (by k_is), PySem.W.mg_none_of KX G (by k_is), PySem.W.mg_none_of KX G (by k_is), PySem.W.mg_none_of KX G (by k_is), PySem.W.mg_none_of KX G (by k_is), PySem.W.mg_none_of KX G (by k_is), PySem.W.mg_none_of KX G (by k_is), PySem.W.mg_none_of KX G (by k_is), PySem.W.mg_none_of KX G (by k_is)⟩)
    (case EX =>
      refine' Kb.erx_of KX G ?h0 ?h1 ?h2 ?h3 ?h4 ?h5 ?h6 ?h7 ?h8 ?h9 ?h10 ?h11 ?h12 ?h13 ?h14 ?h15 ?h16 ?h17 ?h18 ?h19 ?h20 ?h21 ?h22 ?h23 ?h24 ?h25 ?h26 ?h27 ?aC ?aN ?aK ?aX ?yI ?yB ?yS ?yT ?eQ1 ?eQ2 ?eN ?rR ?rC ?B25 ?B26 ?B27
      (case h0 => k_is)
      (case h1 => k_is)
      (case h2 => k_is)
      (case h3 => k_is)
      (case h4 => k_is)
      (case h5 => k_is)
      (case h6 => k_is)
      (case h7 => k_is)
      (case h8 => k_is)
      (case h9 => k_is)
      (case h10 => k_is)
      (case h11 => k_is)
      (case h12 => k_is)
      (case h13 => k_is)
      (case h14 => k_is)
      (case h15 => k_is)
      (case h16 => k_is)
      (case h17 => k_is)
      (case h18 => k_is)
      (case h19 => k_is)
      (case h20 => k_is)
      (case h21 => k_is)
      (case h22 => k_is)
      (case h23 => k_is)
      (case h24 => k_is)
      (case h25 => k_is)
      (case h26 => k_is)
      (case h27 => k_is)
      (case aC => first | kernel_rfl | decide +kernel | rfl)
      (case aN => first | kernel_rfl | decide +kernel | rfl)
      (case aK => first | kernel_rfl | decide +kernel | rfl)
      (case aX => first | kernel_rfl | decide +kernel | rfl)
      (case yI => first | rfl | k_is)
      (case yB => first | rfl | k_is)
      (case yS => first | rfl | k_is)
      (case yT => first | rfl | k_is)
      (case eQ1 => k_is)
      (case eQ2 => k_is)
      (case eN => k_is)
      (case rR => k_is)
      (case rC => first | kernel_rfl | rfl | decide +kernel)
      (case B25 => refine' Kb.txb25 ?b25_1 ?b25_2 ?b25_3 ?b25_4 ?b25_5 ?b25_6 ?b25_7 ?b25_8 ?b25_9 ?b25_10 ?b25_11 ?b25_12 ?b25_13 ?b25_14 ?b25_15; (case b25_1 => k_is); (case b25_2 => first | rfl | decide +kernel); (case b25_3 => k_is); (case b25_4 => k_is); (case b25_5 => k_is); (case b25_6 => k_is); (case b25_7 => k_is); (case b25_8 => k_is); (case b25_9 => k_is); (case b25_10 => k_is); (case b25_11 => k_is); (case b25_12 => k_is); (case b25_13 => k_is); (case b25_14 => k_is); (case b25_15 => k_is))
      (case B26 => refine' Kb.txb26 ?b26_1 ?b26_2 ?b26_3 ?b26_4 ?b26_5 ?b26_6 ?b26_7 ?b26_8 ?b26_9 ?b26_10 ?b26_11 ?b26_12 ?b26_13 ?b26_14 ?b26_15; (case b26_1 => k_is); (case b26_2 => first | rfl | decide +kernel); (case b26_3 => k_is); (case b26_4 => k_is); (case b26_5 => k_is); (case b26_6 => k_is); (case b26_7 => k_is); (case b26_8 => k_is); (case b26_9 => k_is); (case b26_10 => k_is); (case b26_11 => k_is); (case b26_12 => k_is); (case b26_13 => k_is); (case b26_14 => k_is); (case b26_15 => k_is))
      (case B27 => refine' Kb.txb27 ?b27_1 ?b27_2 ?b27_3 ?b27_4 ?b27_5 ?b27_6 ?b27_7 ?b27_8 ?b27_9 ?b27_10 ?b27_11 ?b27_12 ?b27_13 ?b27_14 ?b27_15; (case b27_1 => k_is); (case b27_2 => first | rfl | decide +kernel); (case b27_3 => k_is); (case b27_4 => k_is); (case b27_5 => k_is); (case b27_6 => k_is); (case b27_7 => k_is); (case b27_8 => k_is); (case b27_9 => k_is); (case b27_10 => k_is); (case b27_11 => k_is); (case b27_12 => k_is); (case b27_13 => k_is); (case b27_14 => k_is); (case b27_15 => k_is)))
    (case n_repr => exact PySem.W.mg_none_of KX G (by k_is))
    (case n_VE => exact PySem.W.mg_none_of KX G (by k_is))
    (case cM => refine' Kb.cst_of KX G ?a_cM; (case a_cM => k_is))
    (case cL => refine' Kb.cst_of KX G ?a_cL; (case a_cL => k_is))
    (case cS => refine' Kb.cst_of KX G ?a_cS; (case a_cS => k_is))
    (case cI => refine' Kb.cst_of KX G ?a_cI; (case a_cI => k_is))
    (case cK => refine' Kb.cst_of KX G ?a_cK; (case a_cK => k_is))
    (case dP_is_int => refine' Kb.dn_of KX G ?a_dP_is_int ?l_dP_is_int ?c_dP_is_int ?k_dP_is_int ?b_dP_is_int; (case a_dP_is_int => k_is); (case l_dP_is_int => k_is); (case c_dP_is_int => k_is); (case k_dP_is_int => k_is); (case b_dP_is_int => exact fun _ _ _ _ _ _ us hl => match us, hl with | [_], _ => rfl))
    (case dP_is_number => refine' Kb.dn_of KX G ?a_dP_is_number ?l_dP_is_number ?c_dP_is_number ?k_dP_is_number ?b_dP_is_number; (case a_dP_is_number => k_is); (case l_dP_is_number => k_is); (case c_dP_is_number => k_is); (case k_dP_is_number => k_is); (case b_dP_is_number => exact fun _ _ _ _ _ _ us hl => match us, hl with | [_], _ => rfl))
    (case dP_is_room => refine' Kb.dn_of KX G ?a_dP_is_room ?l_dP_is_room ?c_dP_is_room ?k_dP_is_room ?b_dP_is_room; (case a_dP_is_room => k_is); (case l_dP_is_room => k_is); (case c_dP_is_room => k_is); (case k_dP_is_room => k_is); (case b_dP_is_room => exact fun _ _ _ _ _ _ us hl => match us, hl with | [_], _ => rfl))
    (case dP_is_name => refine' Kb.dn_of KX G ?a_dP_is_name ?l_dP_is_name ?c_dP_is_name ?k_dP_is_name ?b_dP_is_name; (case a_dP_is_name => k_is); (case l_dP_is_name => k_is); (case c_dP_is_name => k_is); (case k_dP_is_name => k_is); (case b_dP_is_name => exact fun _ _ _ _ _ _ us hl => match us, hl with | [_], _ => rfl))
    (case dP_is_stream => refine' Kb.dn_of KX G ?a_dP_is_stream ?l_dP_is_stream ?c_dP_is_stream ?k_dP_is_stream ?b_dP_is_stream; (case a_dP_is_stream => k_is); (case l_dP_is_stream => k_is); (case c_dP_is_stream => k_is); (case k_dP_is_stream => k_is); (case b_dP_is_stream => exact fun _ _ _ _ _ _ us hl => match us, hl with | [_], _ => rfl))
    (case dP_is_put => refine' ⟨Kb.dn_of KX G ?a_pp ?l_pp ?c_pp ?k_pp ?b_pp, Kb.dn_of KX G ?a_po ?l_po ?c_po ?k_po ?b_po⟩; (case a_pp => k_is); (case l_pp => k_is); (case c_pp => k_is); (case k_pp => k_is); (case b_pp => exact fun _ _ _ _ _ _ us hl => match us, hl with | [_, _], _ => rfl); (case a_po => k_is); (case l_po => k_is); (case c_po => k_is); (case k_po => k_is); (case b_po => exact fun _ _ _ _ _ _ us hl => match us, hl with | [_, _, _], _ => rfl))
    (case dP_is_pour => refine' Kb.dn_of KX G ?a_dP_is_pour ?l_dP_is_pour ?c_dP_is_pour ?k_dP_is_pour ?b_dP_is_pour; (case a_dP_is_pour => k_is); (case l_dP_is_pour => k_is); (case c_dP_is_pour => k_is); (case k_dP_is_pour => k_is); (case b_dP_is_pour => exact fun _ _ _ _ _ _ us hl => match us, hl with | [_], _ => rfl))
    (case dP_is_tree => refine' Kb.dn_of KX G ?a_dP_is_tree ?l_dP_is_tree ?c_dP_is_tree ?k_dP_is_tree ?b_dP_is_tree; (case a_dP_is_tree => k_is); (case l_dP_is_tree => k_is); (case c_dP_is_tree => k_is); (case k_dP_is_tree => k_is); (case b_dP_is_tree => exact fun _ _ _ _ _ _ us hl => match us, hl with | [_], _ => rfl))
    (case dP_is_counted => refine' Kb.dn_of KX G ?a_dP_is_counted ?l_dP_is_counted ?c_dP_is_counted ?k_dP_is_counted ?b_dP_is_counted; (case a_dP_is_counted => k_is); (case l_dP_is_counted => k_is); (case c_dP_is_counted => k_is); (case k_dP_is_counted => k_is); (case b_dP_is_counted => exact fun _ _ _ _ _ _ us hl => match us, hl with | [_], _ => rfl))
    (case dP_are_counts => refine' Kb.dn_of KX G ?a_dP_are_counts ?l_dP_are_counts ?c_dP_are_counts ?k_dP_are_counts ?b_dP_are_counts; (case a_dP_are_counts => k_is); (case l_dP_are_counts => k_is); (case c_dP_are_counts => k_is); (case k_dP_are_counts => k_is); (case b_dP_are_counts => exact fun _ _ _ _ _ _ us hl => match us, hl with | [_], _ => rfl))
    (case dP_counts_of => refine' Kb.dn_of KX G ?a_dP_counts_of ?l_dP_counts_of ?c_dP_counts_of ?k_dP_counts_of ?b_dP_counts_of; (case a_dP_counts_of => k_is); (case l_dP_counts_of => k_is); (case c_dP_counts_of => k_is); (case k_dP_counts_of => k_is); (case b_dP_counts_of => exact fun _ _ _ _ _ _ us hl => match us, hl with | [_], _ => rfl))
    (case dP_lost_of => refine' Kb.dn_of KX G ?a_dP_lost_of ?l_dP_lost_of ?c_dP_lost_of ?k_dP_lost_of ?b_dP_lost_of; (case a_dP_lost_of => k_is); (case l_dP_lost_of => k_is); (case c_dP_lost_of => k_is); (case k_dP_lost_of => k_is); (case b_dP_lost_of => exact fun _ _ _ _ _ _ us hl => match us, hl with | [_], _ => rfl))
    (case dP_is_sketch => refine' Kb.dn_of KX G ?a_dP_is_sketch ?l_dP_is_sketch ?c_dP_is_sketch ?k_dP_is_sketch ?b_dP_is_sketch; (case a_dP_is_sketch => k_is); (case l_dP_is_sketch => k_is); (case c_dP_is_sketch => k_is); (case k_dP_is_sketch => k_is); (case b_dP_is_sketch => exact fun _ _ _ _ _ _ us hl => match us, hl with | [_], _ => rfl))
    (case dP_bare => refine' Kb.dn_of KX G ?a_dP_bare ?l_dP_bare ?c_dP_bare ?k_dP_bare ?b_dP_bare; (case a_dP_bare => k_is); (case l_dP_bare => k_is); (case c_dP_bare => k_is); (case k_dP_bare => k_is); (case b_dP_bare => exact fun _ _ _ _ _ _ us hl => match us, hl with | [_], _ => rfl))
    (case dP_fed => refine' Kb.dn_of KX G ?a_dP_fed ?l_dP_fed ?c_dP_fed ?k_dP_fed ?b_dP_fed; (case a_dP_fed => k_is); (case l_dP_fed => k_is); (case c_dP_fed => k_is); (case k_dP_fed => k_is); (case b_dP_fed => exact fun _ _ _ _ _ _ us hl => match us, hl with | [_, _], _ => rfl))
    (case dP_fed_many => refine' Kb.dn_of KX G ?a_dP_fed_many ?l_dP_fed_many ?c_dP_fed_many ?k_dP_fed_many ?b_dP_fed_many; (case a_dP_fed_many => k_is); (case l_dP_fed_many => k_is); (case c_dP_fed_many => k_is); (case k_dP_fed_many => k_is); (case b_dP_fed_many => exact fun _ _ _ _ _ _ us hl => match us, hl with | [_, _, _], _ => rfl))
    (case dP_need_two => refine' Kb.dn_of KX G ?a_dP_need_two ?l_dP_need_two ?c_dP_need_two ?k_dP_need_two ?b_dP_need_two; (case a_dP_need_two => k_is); (case l_dP_need_two => k_is); (case c_dP_need_two => k_is); (case k_dP_need_two => k_is); (case b_dP_need_two => exact fun _ _ _ _ _ _ us hl => match us, hl with | [_, _], _ => rfl))
    (case dP_poured => refine' Kb.dn_of KX G ?a_dP_poured ?l_dP_poured ?c_dP_poured ?k_dP_poured ?b_dP_poured; (case a_dP_poured => k_is); (case l_dP_poured => k_is); (case c_dP_poured => k_is); (case k_dP_poured => k_is); (case b_dP_poured => exact fun _ _ _ _ _ _ us hl => match us, hl with | [_, _], _ => rfl))
    (case dP_sketch_of => refine' Kb.dn_of KX G ?a_dP_sketch_of ?l_dP_sketch_of ?c_dP_sketch_of ?k_dP_sketch_of ?b_dP_sketch_of; (case a_dP_sketch_of => k_is); (case l_dP_sketch_of => k_is); (case c_dP_sketch_of => k_is); (case k_dP_sketch_of => k_is); (case b_dP_sketch_of => exact fun _ _ _ _ _ _ us hl => match us, hl with | [_, _], _ => rfl))
    (case dP_are_sketches => refine' Kb.dn_of KX G ?a_dP_are_sketches ?l_dP_are_sketches ?c_dP_are_sketches ?k_dP_are_sketches ?b_dP_are_sketches; (case a_dP_are_sketches => k_is); (case l_dP_are_sketches => k_is); (case c_dP_are_sketches => k_is); (case k_dP_are_sketches => k_is); (case b_dP_are_sketches => exact fun _ _ _ _ _ _ us hl => match us, hl with | [_], _ => rfl))
    (case dP_sum_ends => refine' Kb.dn_of KX G ?a_dP_sum_ends ?l_dP_sum_ends ?c_dP_sum_ends ?k_dP_sum_ends ?b_dP_sum_ends; (case a_dP_sum_ends => k_is); (case l_dP_sum_ends => k_is); (case c_dP_sum_ends => k_is); (case k_dP_sum_ends => k_is); (case b_dP_sum_ends => exact fun _ _ _ _ _ _ us hl => match us, hl with | [_, _], _ => rfl))
    (case dP_is_space_room => refine' Kb.dn_of KX G ?a_dP_is_space_room ?l_dP_is_space_room ?c_dP_is_space_room ?k_dP_is_space_room ?b_dP_is_space_room; (case a_dP_is_space_room => k_is); (case l_dP_is_space_room => k_is); (case c_dP_is_space_room => k_is); (case k_dP_is_space_room => k_is); (case b_dP_is_space_room => exact fun _ _ _ _ _ _ us hl => match us, hl with | [_], _ => rfl))
    (case dP_is_space => refine' Kb.dn_of KX G ?a_dP_is_space ?l_dP_is_space ?c_dP_is_space ?k_dP_is_space ?b_dP_is_space; (case a_dP_is_space => k_is); (case l_dP_is_space => k_is); (case c_dP_is_space => k_is); (case k_dP_is_space => k_is); (case b_dP_is_space => exact fun _ _ _ _ _ _ us hl => match us, hl with | [_], _ => rfl))
    (case dP_fed_space => refine' Kb.dn_of KX G ?a_dP_fed_space ?l_dP_fed_space ?c_dP_fed_space ?k_dP_fed_space ?b_dP_fed_space; (case a_dP_fed_space => k_is); (case l_dP_fed_space => k_is); (case c_dP_fed_space => k_is); (case k_dP_fed_space => k_is); (case b_dP_fed_space => exact fun _ _ _ _ _ _ us hl => match us, hl with | [_, _], _ => rfl))
    (case dP_from_space => refine' Kb.dn_of KX G ?a_dP_from_space ?l_dP_from_space ?c_dP_from_space ?k_dP_from_space ?b_dP_from_space; (case a_dP_from_space => k_is); (case l_dP_from_space => k_is); (case c_dP_from_space => k_is); (case k_dP_from_space => k_is); (case b_dP_from_space => exact fun _ _ _ _ _ _ us hl => match us, hl with | [_], _ => rfl))
    (case dmixed => refine' Kb.dn_of KX G ?a_dmixed ?l_dmixed ?c_dmixed ?k_dmixed ?b_dmixed; (case a_dmixed => k_is); (case l_dmixed => k_is); (case c_dmixed => k_is); (case k_dmixed => k_is); (case b_dmixed => exact fun _ _ _ _ _ _ us hl => match us, hl with | [_], _ => rfl))
    (case dwell => refine' Kb.dn_of KX G ?a_dwell ?l_dwell ?c_dwell ?k_dwell ?b_dwell; (case a_dwell => k_is); (case l_dwell => k_is); (case c_dwell => k_is); (case k_dwell => k_is); (case b_dwell => exact fun _ _ _ _ _ _ us hl => match us, hl with | [_], _ => rfl))
    (case dfilled => refine' Kb.dn_of KX G ?a_dfilled ?l_dfilled ?c_dfilled ?k_dfilled ?b_dfilled; (case a_dfilled => k_is); (case l_dfilled => k_is); (case c_dfilled => k_is); (case k_dfilled => k_is); (case b_dfilled => exact fun _ _ _ _ _ _ us hl => match us, hl with | [_], _ => rfl))
    (case ddraw => refine' Kb.dn_of KX G ?a_ddraw ?l_ddraw ?c_ddraw ?k_ddraw ?b_ddraw; (case a_ddraw => k_is); (case l_ddraw => k_is); (case c_ddraw => k_is); (case k_ddraw => k_is); (case b_ddraw => exact fun _ _ _ _ _ _ us hl => match us, hl with | [_, _], _ => rfl))
    (case dnumber => refine' Kb.dn_of KX G ?a_dnumber ?l_dnumber ?c_dnumber ?k_dnumber ?b_dnumber; (case a_dnumber => k_is); (case l_dnumber => k_is); (case c_dnumber => k_is); (case k_dnumber => k_is); (case b_dnumber => exact fun _ _ _ _ _ _ us hl => match us, hl with | [_], _ => rfl))
    (case dsigns => refine' Kb.dn_of KX G ?a_dsigns ?l_dsigns ?c_dsigns ?k_dsigns ?b_dsigns; (case a_dsigns => k_is); (case l_dsigns => k_is); (case c_dsigns => k_is); (case k_dsigns => k_is); (case b_dsigns => exact fun _ _ _ _ _ _ us hl => match us, hl with | [], _ => rfl))
    (case dstring => refine' Kb.dn_of KX G ?a_dstring ?l_dstring ?c_dstring ?k_dstring ?b_dstring; (case a_dstring => k_is); (case l_dstring => k_is); (case c_dstring => k_is); (case k_dstring => k_is); (case b_dstring => exact fun _ _ _ _ _ _ us hl => match us, hl with | [_, _], _ => rfl))
    (case dname => refine' Kb.dn_of KX G ?a_dname ?l_dname ?c_dname ?k_dname ?b_dname; (case a_dname => k_is); (case l_dname => k_is); (case c_dname => k_is); (case k_dname => k_is); (case b_dname => exact fun _ _ _ _ _ _ us hl => match us, hl with | [_], _ => rfl))
    (case dany => refine' Kb.dn_of KX G ?a_dany ?l_dany ?c_dany ?k_dany ?b_dany; (case a_dany => k_is); (case l_dany => k_is); (case c_dany => k_is); (case k_dany => k_is); (case b_dany => exact fun _ _ _ _ _ _ us hl => match us, hl with | [_, _], _ => rfl))
    (case dmade_first => refine' Kb.dn_of KX G ?a_dmade_first ?l_dmade_first ?c_dmade_first ?k_dmade_first ?b_dmade_first; (case a_dmade_first => k_is); (case l_dmade_first => k_is); (case c_dmade_first => k_is); (case k_dmade_first => k_is); (case b_dmade_first => exact fun _ _ _ _ _ _ us hl => match us, hl with | [_], _ => rfl))
    (case dmade_more => refine' Kb.dn_of KX G ?a_dmade_more ?l_dmade_more ?c_dmade_more ?k_dmade_more ?b_dmade_more; (case a_dmade_more => k_is); (case l_dmade_more => k_is); (case c_dmade_more => k_is); (case k_dmade_more => k_is); (case b_dmade_more => exact fun _ _ _ _ _ _ us hl => match us, hl with | [_], _ => rfl))
    (case dmade => refine' Kb.dn_of KX G ?a_dmade ?l_dmade ?c_dmade ?k_dmade ?b_dmade; (case a_dmade => k_is); (case l_dmade => k_is); (case c_dmade => k_is); (case k_dmade => k_is); (case b_dmade => exact fun _ _ _ _ _ _ us hl => match us, hl with | [_, _], _ => rfl))
    (case dkinds => refine' Kb.dn_of KX G ?a_dkinds ?l_dkinds ?c_dkinds ?k_dkinds ?b_dkinds; (case a_dkinds => k_is); (case l_dkinds => k_is); (case c_dkinds => k_is); (case k_dkinds => k_is); (case b_dkinds => exact fun _ _ _ _ _ _ us hl => match us, hl with | [_], _ => rfl))
    (case dfield => refine' Kb.dn_of KX G ?a_dfield ?l_dfield ?c_dfield ?k_dfield ?b_dfield; (case a_dfield => k_is); (case l_dfield => k_is); (case c_dfield => k_is); (case k_dfield => k_is); (case b_dfield => exact fun _ _ _ _ _ _ us hl => match us, hl with | [_, _], _ => rfl))
    (case dcall => refine' Kb.dn_of KX G ?a_dcall ?l_dcall ?c_dcall ?k_dcall ?b_dcall; (case a_dcall => k_is); (case l_dcall => k_is); (case c_dcall => k_is); (case k_dcall => k_is); (case b_dcall => exact fun _ _ _ _ _ _ us hl => match us, hl with | [_, _], _ => rfl))
    (case drefused => refine' Kb.dn_of KX G ?a_drefused ?l_drefused ?c_drefused ?k_drefused ?b_drefused; (case a_drefused => k_is); (case l_drefused => k_is); (case c_drefused => k_is); (case k_drefused => k_is); (case b_drefused => exact fun _ _ _ _ _ _ us hl => match us, hl with | [_, _], _ => rfl))

